import PyProof.Rows.All
import Wide.All
import OpenK.AllK
import Wide.FinOn
import HandS.ForMost
import HandS.TupAny
import HandS.IsInst
import HandS.Deep
import HandS.Zip
import HandS.Replace
import PySem.Challenge.RW_highestsky_k01_words_judged
set_option Elab.async false
set_option linter.all false
set_option maxRecDepth 100000
/-! Tr: values as trees over the hand layer: what is never changed again is a tree, what may still change is a numbered place. -/
namespace Tr
open PySem PySem.Spec PyProof.Rows L2

inductive D where
  | non
  | bl (b : Bool)
  | int (i : Int)
  | str (x : Str)
  | lst (xs : List D)
  | fz (xs : List D)
  | tup (xs : List D)
  | dT (ks : List (List Key)) (vs : List D)
  | dK (ks : List Key) (vs : List D)
  | ins (C : Addr) (ns : List Str) (vs : List D)
  | loc (n : Nat)
  | ref (a : Addr)
  | ty (n : String)
  deriving Inhabited

inductive Cell where
  | lst (xs : List D)
  | dT (ks : List (List Key)) (vs : List D)
  | dK (ks : List Key) (vs : List D)
  | ins (C : Addr) (ns : List Str) (vs : List D)
  deriving Inhabited

abbrev Mu := List (Option Cell)
abbrev Env := List (Option D)
structure Wo where
  am : List Addr
  mu : Mu
  hid : List Addr

def Live (w : Wo) (a : Addr) : Prop := (∃ (n : Nat) (c : Cell), w.am[n]? = some a ∧ w.mu[n]? = some (some c)) ∨ a ∈ w.hid

/-- a list, a tuple of the written part -/
def KT (K : PySem.W.Frag) (a : Addr) (xs : List V) : Prop :=
  ∃ (o : Obj) (its : Array Value) (n : Nat), K.lookup a = some o ∧ o.cls = .type "tuple" ∧ o.data = .seq its n ∧ its.size ≤ sizeLine ∧ Vals xs its.toList
def KL (K : PySem.W.Frag) (a : Addr) (xs : List V) : Prop :=
  ∃ (o : Obj) (its : Array Value) (n : Nat), K.lookup a = some o ∧ o.cls = .type "list" ∧ o.dict = none ∧ o.data = .seq its n ∧ its.size ≤ sizeLine ∧ Vals xs its.toList
/-- a locked list -/
def FzS (K : PySem.W.Frag) (w : Wo) (H : Hp) (a : Addr) (xs : List V) : Prop := (¬ Live w a ∧ ∃ o, H a = some (.frz o (.lst xs))) ∨ KL K a xs
theorem FzS.sq {K : PySem.W.Frag} {w : Wo} {H : Hp} {a : Addr} {xs : List V} (h : FzS K w H a xs) : SqL K H a xs := h.elim (fun x => .inl (.inr x.2)) .inr
def FzL (K : PySem.W.Frag) (w : Wo) (H : Hp) (a : Addr) (xs : List V) : Prop := ¬ Live w a ∧ H a = some (.lst xs)
def FzT (K : PySem.W.Frag) (w : Wo) (H : Hp) (a : Addr) (xs : List V) : Prop := (¬ Live w a ∧ H a = some (.tup xs)) ∨ KT K a xs
theorem FzL.sq {K : PySem.W.Frag} {w : Wo} {H : Hp} {a : Addr} {xs : List V} (h : FzL K w H a xs) : SqL K H a xs := .inl (.inl h.2)
theorem FzT.sq {K : PySem.W.Frag} {w : Wo} {H : Hp} {a : Addr} {xs : List V} (h : FzT K w H a xs) : SqT K H a xs := h.elim (fun x => .inl (.inl x.2)) .inr

mutual
def Rp (K : PySem.W.Frag) (w : Wo) (H : Hp) : D → V → Prop
  | .non, v => v = .non
  | .bl b, v => v = .bl b
  | .int i, v => v = .int i
  | .str x, v => v = .str x
  | .lst ds, v => ∃ a vs, v = .ref a ∧ FzL K w H a vs ∧ RpAll K w H ds vs
  | .fz ds, v => ∃ a vs, v = .ref a ∧ FzS K w H a vs ∧ RpAll K w H ds vs
  | .tup ds, v => ∃ a vs, v = .ref a ∧ FzT K w H a vs ∧ RpAll K w H ds vs
  | .dT ks ds, v => ∃ a kvs, v = .ref a ∧ ¬ Live w a ∧ Rd H a (.dT kvs) ∧ kvs.map (·.1) = ks ∧ RpAll K w H ds (kvs.map (·.2))
  | .dK ks ds, v => ∃ a kvs, v = .ref a ∧ ¬ Live w a ∧ Rd H a (.dK kvs) ∧ kvs.map (·.1) = ks ∧ RpAll K w H ds (kvs.map (·.2))
  | .ins C ns ds, v => ∃ a dx fs, v = .ref a ∧ ¬ Live w a ∧ H a = some (.ins C dx fs) ∧ fs.map (·.1) = ns ∧ RpAll K w H ds (fs.map (·.2))
  | .loc n, v => ∃ a, v = .ref a ∧ w.am[n]? = some a
  | .ref a, v => v = .ref a
  | .ty n, v => v = .ty n
def RpAll (K : PySem.W.Frag) (w : Wo) (H : Hp) : List D → List V → Prop
  | [], vs => vs = []
  | d :: ds, vs => ∃ v r, vs = v :: r ∧ Rp K w H d v ∧ RpAll K w H ds r
end

def CellR (K : PySem.W.Frag) (w : Wo) (H : Hp) (a : Addr) : Cell → Prop
  | .lst ds => ∃ vs, H a = some (.lst vs) ∧ RpAll K w H ds vs
  | .dT ks ds => ∃ kvs, H a = some (.dT kvs) ∧ kvs.map (·.1) = ks ∧ RpAll K w H ds (kvs.map (·.2))
  | .dK ks ds => ∃ kvs, H a = some (.dK kvs) ∧ kvs.map (·.1) = ks ∧ RpAll K w H ds (kvs.map (·.2))
  | .ins C ns ds => ∃ dx fs, H a = some (.ins C dx fs) ∧ fs.map (·.1) = ns ∧ RpAll K w H ds (fs.map (·.2))

/-- what stands for good still stands -/
structure Kp (w : Wo) (H : Hp) (w' : Wo) (H' : Hp) : Prop where
  pre : ∃ m, w'.am = w.am ++ m
  keep : ∀ a o, H a = some o → ¬ Live w a → H' a = some o ∧ ¬ Live w' a
/-- from w, H the run has come to w', H' -/
structure Ev (w : Wo) (H : Hp) (w' : Wo) (H' : Hp) : Prop extends Kp w H w' H' where
  hd : w'.hid = w.hid
  hk : ∀ a, a ∈ w.hid → H' a = H a

structure Gd (K : PySem.W.Frag) (w : Wo) (H : Hp) : Prop where
  len : w.am.length = w.mu.length
  nd : w.am.Nodup
  trk : ∀ a, a ∈ w.am ++ w.hid → H a ≠ none
  apart : ∀ a, a ∈ w.am → a ∉ w.hid
  cell : ∀ (n : Nat) (a : Addr) (c : Cell), w.am[n]? = some a → w.mu[n]? = some (some c) → CellR K w H a c

section
variable {K : PySem.W.Frag} {w w' w'' : Wo} {H H' H'' : Hp}
theorem Kp.refl : Kp w H w H := ⟨⟨[], by simp⟩, fun _ _ h l => ⟨h, l⟩⟩
theorem Kp.trans (e : Kp w H w' H') (f : Kp w' H' w'' H'') : Kp w H w'' H'' := by
  obtain ⟨m, hm⟩ := e.pre
  obtain ⟨n, hn⟩ := f.pre
  refine ⟨⟨m ++ n, by rw [hn, hm, List.append_assoc]⟩, fun a o h l => ?_⟩
  obtain ⟨h1, l1⟩ := e.keep a o h l
  exact f.keep a o h1 l1
theorem Ev.refl : Ev w H w H := ⟨Kp.refl, rfl, fun _ _ => rfl⟩
theorem Ev.trans (e : Ev w H w' H') (f : Ev w' H' w'' H'') : Ev w H w'' H'' :=
  ⟨e.toKp.trans f.toKp, f.hd.trans e.hd, fun a ha => (f.hk a (by rw [e.hd]; exact ha)).trans (e.hk a ha)⟩
theorem Kp.amk {n : Nat} {a : Addr} (e : Kp w H w' H') (h : w.am[n]? = some a) : w'.am[n]? = some a := by
  obtain ⟨m, hm⟩ := e.pre
  rw [hm, List.getElem?_append_left (List.getElem?_eq_some_iff.mp h).1]
  exact h
theorem Kp.rd {a : Addr} {u : HO} (e : Kp w H w' H') (l : ¬ Live w a) (h : Rd H a u) : ¬ Live w' a ∧ Rd H' a u := by
  rcases h with h | ⟨o, h⟩
  · exact ⟨(e.keep _ _ h l).2, .inl (e.keep _ _ h l).1⟩
  · exact ⟨(e.keep _ _ h l).2, .inr ⟨o, (e.keep _ _ h l).1⟩⟩
theorem Kp.fzL {a : Addr} {vs : List V} (e : Kp w H w' H') (h : FzL K w H a vs) : FzL K w' H' a vs := ⟨(e.keep _ _ h.2 h.1).2, (e.keep _ _ h.2 h.1).1⟩
theorem Kp.fzS {a : Addr} {vs : List V} (e : Kp w H w' H') (h : FzS K w H a vs) : FzS K w' H' a vs := h.elim (fun x => .inl (x.2.elim fun o h => ⟨(e.keep _ _ h x.1).2, o, (e.keep _ _ h x.1).1⟩)) .inr
theorem Kp.fzT {a : Addr} {vs : List V} (e : Kp w H w' H') (h : FzT K w H a vs) : FzT K w' H' a vs := h.elim (fun x => .inl ⟨(e.keep _ _ x.2 x.1).2, (e.keep _ _ x.2 x.1).1⟩) .inr
mutual
theorem Rp.mono (e : Kp w H w' H') : ∀ (d : D) (v : V), Rp K w H d v → Rp K w' H' d v
  | .non, _, h => h
  | .bl _, _, h => h
  | .int _, _, h => h
  | .str _, _, h => h
  | .lst ds, _, ⟨a, vs, h1, h2, h3⟩ => ⟨a, vs, h1, e.fzL h2, RpAll.mono e ds vs h3⟩
  | .fz ds, _, ⟨a, vs, h1, h2, h3⟩ => ⟨a, vs, h1, e.fzS h2, RpAll.mono e ds vs h3⟩
  | .tup ds, _, ⟨a, vs, h1, h2, h3⟩ => ⟨a, vs, h1, e.fzT h2, RpAll.mono e ds vs h3⟩
  | .dT ks ds, _, ⟨a, kvs, h1, h2, h3, h4, h5⟩ => ⟨a, kvs, h1, (e.rd h2 h3).1, (e.rd h2 h3).2, h4, RpAll.mono e ds _ h5⟩
  | .dK ks ds, _, ⟨a, kvs, h1, h2, h3, h4, h5⟩ => ⟨a, kvs, h1, (e.rd h2 h3).1, (e.rd h2 h3).2, h4, RpAll.mono e ds _ h5⟩
  | .ins C ns ds, _, ⟨a, dx, fs, h1, h2, h3, h4, h5⟩ => ⟨a, dx, fs, h1, (e.keep _ _ h3 h2).2, (e.keep _ _ h3 h2).1, h4, RpAll.mono e ds _ h5⟩
  | .loc n, _, ⟨a, h1, h2⟩ => ⟨a, h1, e.amk h2⟩
  | .ref _, _, h => h
  | .ty _, _, h => h
theorem RpAll.mono (e : Kp w H w' H') : ∀ (ds : List D) (vs : List V), RpAll K w H ds vs → RpAll K w' H' ds vs
  | [], _, h => h
  | d :: ds, _, ⟨v, r, h1, h2, h3⟩ => ⟨v, r, h1, Rp.mono e d v h2, RpAll.mono e ds r h3⟩
end
theorem RpAll.length : ∀ {ds : List D} {vs : List V}, RpAll K w H ds vs → vs.length = ds.length
  | [], _, h => by rw [show _ = [] from h]; rfl
  | d :: ds, _, ⟨v, r, h1, h2, h3⟩ => by rw [h1, List.length_cons, List.length_cons, RpAll.length h3]
theorem RpAll.get : ∀ {ds : List D} {vs : List V} {i : Nat} {v : V}, RpAll K w H ds vs → vs[i]? = some v → ∃ d, ds[i]? = some d ∧ Rp K w H d v
  | [], _, i, v, h, e => by rw [show _ = [] from h] at e; simp at e
  | d :: ds, _, 0, v, ⟨x, r, h1, h2, h3⟩, e => by subst h1; simp at e; subst e; exact ⟨d, rfl, h2⟩
  | d :: ds, _, i + 1, v, ⟨x, r, h1, h2, h3⟩, e => by
    subst h1
    obtain ⟨d', e1, e2⟩ := RpAll.get (i := i) h3 (by simpa using e)
    exact ⟨d', by simpa using e1, e2⟩
theorem RpAll.get' : ∀ {ds : List D} {vs : List V} {i : Nat} {d : D}, RpAll K w H ds vs → ds[i]? = some d → ∃ v, vs[i]? = some v ∧ Rp K w H d v
  | [], _, i, v, h, e => by simp at e
  | d :: ds, _, 0, v, ⟨x, r, h1, h2, h3⟩, e => by subst h1; simp at e; subst e; exact ⟨x, rfl, h2⟩
  | d :: ds, _, i + 1, v, ⟨x, r, h1, h2, h3⟩, e => by
    subst h1
    obtain ⟨d', e1, e2⟩ := RpAll.get' (i := i) h3 (by simpa using e)
    exact ⟨d', by simpa using e1, e2⟩
theorem RpAll.append : ∀ {ds es : List D} {vs us : List V}, RpAll K w H ds vs → RpAll K w H es us → RpAll K w H (ds ++ es) (vs ++ us)
  | [], _, _, _, h, g => by rw [show _ = [] from h]; exact g
  | d :: ds, _, _, _, ⟨v, r, h1, h2, h3⟩, g => by subst h1; exact ⟨v, r ++ _, rfl, h2, RpAll.append h3 g⟩
theorem RpAll.set : ∀ {ds : List D} {vs : List V} {d : D} {v : V} (i : Nat), RpAll K w H ds vs → Rp K w H d v → RpAll K w H (ds.set i d) (vs.set i v)
  | [], _, _, _, _, h, _ => by rw [show _ = [] from h]; exact rfl
  | e :: ds, _, _, _, 0, ⟨x, r, h1, h2, h3⟩, g => by subst h1; exact ⟨_, _, rfl, g, h3⟩
  | e :: ds, _, _, _, i + 1, ⟨x, r, h1, h2, h3⟩, g => by subst h1; exact ⟨_, _, rfl, h2, RpAll.set i h3 g⟩
theorem RpAll.drop : ∀ {ds : List D} {vs : List V} (n : Nat), RpAll K w H ds vs → RpAll K w H (ds.drop n) (vs.drop n)
  | _, _, 0, h => h
  | [], _, n + 1, h => by rw [show _ = [] from h]; exact rfl
  | e :: ds, _, n + 1, ⟨x, r, h1, h2, h3⟩ => by subst h1; exact RpAll.drop n h3
theorem RpAll.take : ∀ {ds : List D} {vs : List V} (n : Nat), RpAll K w H ds vs → RpAll K w H (ds.take n) (vs.take n)
  | [], _, 0, h => rfl
  | _ :: _, _, 0, h => rfl
  | [], _, n + 1, h => by rw [show _ = [] from h]; exact rfl
  | e :: ds, _, n + 1, ⟨x, r, h1, h2, h3⟩ => by subst h1; exact ⟨_, _, rfl, h2, RpAll.take n h3⟩
theorem RpAll.ofMem : ∀ {ds : List D} {vs : List V}, vs.length = ds.length → (∀ (i : Nat) (d : D) (v : V), ds[i]? = some d → vs[i]? = some v → Rp K w H d v) → RpAll K w H ds vs
  | [], [], _, _ => rfl
  | [], _ :: _, h, _ => by simp at h
  | _ :: _, [], h, _ => by simp at h
  | d :: ds, v :: vs, h, g => ⟨v, vs, rfl, g 0 d v rfl rfl, RpAll.ofMem (by simpa using h) fun i d' v' e1 e2 => g (i + 1) d' v' (by simpa using e1) (by simpa using e2)⟩

theorem Gd.no {a : Addr} (g : Gd K w H) (h : H a = none) : a ∉ w.am := fun z => g.trk a (List.mem_append_left _ z) h
theorem Gd.noh {a : Addr} (g : Gd K w H) (h : H a = none) : a ∉ w.hid := fun z => g.trk a (List.mem_append_right _ z) h
theorem Gd.dead {a : Addr} (g : Gd K w H) (h : H a = none) : ¬ Live w a := fun l => l.elim (fun ⟨_, _, e, _⟩ => g.no h (List.mem_of_getElem? e)) (g.noh h)
/-- a new thing that is not to change -/
theorem Ev.new {p : Addr} {o : HO} (g : Gd K w H) (h : H p = none) : Ev w H w (upd H p o) :=
  ⟨⟨⟨[], by simp⟩, fun a u e l => ⟨by rw [upd_ne (ne_of_none e h)]; exact e, l⟩⟩, rfl, fun a ha => upd_ne fun z => g.noh h (z ▸ ha)⟩
theorem CellR.mono {a : Addr} {c : Cell} (e : Kp w H w' H') (ha : H' a = H a) (h : CellR K w H a c) : CellR K w' H' a c := by
  cases c with
  | lst ds => obtain ⟨vs, h1, h2⟩ := h; exact ⟨vs, ha.trans h1, RpAll.mono e _ _ h2⟩
  | dT ks ds => obtain ⟨vs, h1, h0, h2⟩ := h; exact ⟨vs, ha.trans h1, h0, RpAll.mono e _ _ h2⟩
  | dK ks ds => obtain ⟨vs, h1, h0, h2⟩ := h; exact ⟨vs, ha.trans h1, h0, RpAll.mono e _ _ h2⟩
  | ins C ns ds => obtain ⟨dx, vs, h1, h0, h2⟩ := h; exact ⟨dx, vs, ha.trans h1, h0, RpAll.mono e _ _ h2⟩
theorem Gd.new {p : Addr} {o : HO} (g : Gd K w H) (h : H p = none) : Gd K w (upd H p o) := by
  refine ⟨g.len, g.nd, fun a ha => ?_, g.apart, fun n a c e1 e2 => ?_⟩
  · by_cases q : a = p
    · subst q; rw [upd_same]; simp
    · rw [upd_ne q]; exact g.trk a ha
  · have q : a ≠ p := fun z => g.no h (by rw [← z]; exact List.mem_of_getElem? e1)
    exact (g.cell n a c e1 e2).mono (Ev.new g h).toKp (upd_ne q)
/-- a new thing that may change -/
def Wo.add (w : Wo) (p : Addr) (c : Cell) : Wo := ⟨w.am ++ [p], w.mu ++ [some c], w.hid⟩
theorem add_get {l : List Addr} {p a : Addr} {n : Nat} (h : (l ++ [p])[n]? = some a) : (n < l.length ∧ l[n]? = some a) ∨ (n = l.length ∧ a = p) := by
  by_cases hn : n < l.length
  · rw [List.getElem?_append_left hn] at h; exact .inl ⟨hn, h⟩
  · rw [List.getElem?_append_right (by omega)] at h
    cases q : n - l.length with
    | zero => rw [q] at h; simp at h; exact .inr ⟨by omega, h.symm⟩
    | succ m => rw [q] at h; simp at h
theorem Ev.add {p : Addr} {o : HO} {c : Cell} (g : Gd K w H) (h : H p = none) : Ev w H (w.add p c) (upd H p o) := by
  refine ⟨⟨⟨[p], rfl⟩, fun a u e l => ⟨by rw [upd_ne (ne_of_none e h)]; exact e, ?_⟩⟩, rfl, fun a ha => upd_ne fun z => g.noh h (z ▸ ha)⟩
  rintro (⟨n, c', e1, e2⟩ | hh)
  · have e2 : (w.mu ++ [some c])[n]? = some (some c') := e2
    rcases add_get (l := w.am) e1 with ⟨hn, e1⟩ | ⟨_, e1⟩
    · rw [List.getElem?_append_left (by rw [← g.len]; exact hn)] at e2
      exact l (.inl ⟨n, c', e1, e2⟩)
    · exact ne_of_none e h e1
  · exact l (.inr hh)
theorem Gd.add {p : Addr} {o : HO} {c : Cell} (g : Gd K w H) (h : H p = none) (hc : CellR K (w.add p c) (upd H p o) p c) : Gd K (w.add p c) (upd H p o) := by
  refine ⟨by simp [Wo.add, g.len], ?_, fun a ha => ?_, fun a ha => ?_, fun n a c' e1 e2 => ?_⟩
  · show (w.am ++ [p]).Nodup
    rw [List.nodup_append]
    refine ⟨g.nd, by simp, fun a ha b hb => ?_⟩
    simp at hb; subst hb
    exact fun z => g.no h (z ▸ ha)
  · by_cases q : a = p
    · subst q; rw [upd_same]; simp
    · rw [upd_ne q]
      have : a ∈ (w.am ++ [p]) ++ w.hid := ha
      refine g.trk a ?_
      simp [q] at this
      simpa using this
  · have : a ∈ w.am ++ [p] := ha
    rcases List.mem_append.mp this with z | z
    · exact g.apart a z
    · simp at z; subst z; exact g.noh h
  · have e2 : (w.mu ++ [some c])[n]? = some (some c') := e2
    rcases add_get (l := w.am) e1 with ⟨hn, e1⟩ | ⟨hn, e1⟩
    · rw [List.getElem?_append_left (by rw [← g.len]; exact hn)] at e2
      have q : a ≠ p := fun z => g.no h (by rw [← z]; exact List.mem_of_getElem? e1)
      exact (g.cell n a c' e1 e2).mono (Ev.add g h).toKp (upd_ne q)
    · rw [List.getElem?_append_right (by rw [← g.len]; omega), ← g.len, hn] at e2
      simp at e2
      rw [← e2, e1]; exact hc
/-- a place that may change is changed -/
def Wo.put (w : Wo) (n : Nat) (c : Cell) : Wo := ⟨w.am, w.mu.set n (some c), w.hid⟩
theorem Kp.put {n : Nat} {a : Addr} {o : HO} {c c' : Cell} (e1 : w.am[n]? = some a) (e2 : w.mu[n]? = some (some c)) : Kp w H (w.put n c') (upd H a o) := by
  have la : Live w a := .inl ⟨n, c, e1, e2⟩
  refine ⟨⟨[], by simp [Wo.put]⟩, fun b u e l => ⟨?_, ?_⟩⟩
  · rw [upd_ne (fun z => l (by rw [z]; exact la))]; exact e
  · rintro (⟨m, d, f1, f2⟩ | hh)
    · have f2 : (w.mu.set n (some c'))[m]? = some (some d) := f2
      by_cases q : m = n
      · subst q
        cases Option.some.inj (e1.symm.trans f1)
        exact l la
      · rw [List.getElem?_set_ne (Ne.symm q)] at f2
        exact l (.inl ⟨m, d, f1, f2⟩)
    · exact l (.inr hh)
theorem Ev.put {n : Nat} {a : Addr} {o : HO} {c c' : Cell} (g : Gd K w H) (e1 : w.am[n]? = some a) (e2 : w.mu[n]? = some (some c)) : Ev w H (w.put n c') (upd H a o) :=
  ⟨Kp.put e1 e2, rfl, fun b hb => upd_ne fun z => g.apart a (List.mem_of_getElem? e1) (z ▸ hb)⟩
theorem nodup_get {α : Type} {l : List α} (h : l.Nodup) {i j : Nat} {x : α} (a : l[i]? = some x) (b : l[j]? = some x) : i = j := by
  obtain ⟨h1, e1⟩ := List.getElem?_eq_some_iff.mp a
  obtain ⟨h2, e2⟩ := List.getElem?_eq_some_iff.mp b
  exact (List.getElem_inj h).mp (e1.trans e2.symm)
theorem Gd.put {n : Nat} {a : Addr} {o : HO} {c c' : Cell} (g : Gd K w H) (e1 : w.am[n]? = some a) (e2 : w.mu[n]? = some (some c)) (hc : CellR K (w.put n c') (upd H a o) a c') : Gd K (w.put n c') (upd H a o) := by
  refine ⟨by simp [Wo.put, g.len], g.nd, fun b hb => ?_, g.apart, fun m b d f1 f2 => ?_⟩
  · by_cases q : b = a
    · subst q; rw [upd_same]; simp
    · rw [upd_ne q]; exact g.trk b hb
  · have f2 : (w.mu.set n (some c'))[m]? = some (some d) := f2
    by_cases q : m = n
    · subst q
      cases Option.some.inj (e1.symm.trans f1)
      rw [List.getElem?_set_self (List.getElem?_eq_some_iff.mp e2).1] at f2
      cases f2
      exact hc
    · rw [List.getElem?_set_ne (Ne.symm q)] at f2
      have nb : b ≠ a := fun z => q (nodup_get g.nd (show w.am[m]? = some a from z ▸ f1) e1)
      exact (g.cell m b d f1 f2).mono (Kp.put e1 e2) (upd_ne nb)
/-- a place that may change is let stand for good -/
def Wo.fix (w : Wo) (n : Nat) : Wo := ⟨w.am, w.mu.set n none, w.hid⟩
theorem fix_get {m n : Nat} {l : Mu} {d : Cell} (f2 : (l.set n none)[m]? = some (some d)) : m ≠ n ∧ l[m]? = some (some d) := by
  by_cases q : m = n
  · subst q
    rw [List.getElem?_set] at f2
    split at f2
    · split at f2 <;> cases f2
    · rename_i z; exact absurd rfl z
  · rw [List.getElem?_set_ne (Ne.symm q)] at f2
    exact ⟨q, f2⟩
theorem Live.fix {n : Nat} {b : Addr} (l : Live (w.fix n) b) : Live w b := l.elim (fun ⟨m, d, f1, f2⟩ => .inl ⟨m, d, f1, (fix_get (l := w.mu) f2).2⟩) .inr
theorem Ev.fix {n : Nat} : Ev w H (w.fix n) H := ⟨⟨⟨[], by simp [Wo.fix]⟩, fun _ _ e l => ⟨e, fun z => l z.fix⟩⟩, rfl, fun _ _ => rfl⟩
theorem Gd.fix {n : Nat} (g : Gd K w H) : Gd K (w.fix n) H :=
  ⟨by simp [Wo.fix, g.len], g.nd, g.trk, g.apart, fun m b d f1 f2 => (g.cell m b d f1 (fix_get (l := w.mu) f2).2).mono Ev.fix.toKp rfl⟩
theorem fix_dead {n : Nat} {a : Addr} (g : Gd K w H) (e1 : w.am[n]? = some a) : ¬ Live (w.fix n) a := by
  rintro (⟨m, d, f1, f2⟩ | hh)
  · exact (fix_get (l := w.mu) f2).1 (nodup_get g.nd f1 e1)
  · exact g.apart a (List.mem_of_getElem? e1) hh
/-- a new thing that is hidden for a while, and let stand for good behind it -/
def Wo.hide (w : Wo) (p : Addr) : Wo := ⟨w.am, w.mu, p :: w.hid⟩
theorem Kp.hide {p : Addr} {o : HO} (h : H p = none) : Kp w H (w.hide p) (upd H p o) := by
  refine ⟨⟨[], by simp [Wo.hide]⟩, fun a u e l => ⟨by rw [upd_ne (ne_of_none e h)]; exact e, ?_⟩⟩
  rintro (x | x)
  · exact l (.inl x)
  · rcases List.mem_cons.mp (show a ∈ p :: w.hid from x) with z | z
    · exact ne_of_none e h z
    · exact l (.inr z)
theorem Gd.hide {p : Addr} {o : HO} (g : Gd K w H) (h : H p = none) : Gd K (w.hide p) (upd H p o) := by
  refine ⟨g.len, g.nd, fun a ha => ?_, fun a ha hh => ?_, fun n a c e1 e2 => ?_⟩
  · by_cases q : a = p
    · subst q; rw [upd_same]; simp
    · rw [upd_ne q]
      have : a ∈ w.am ++ p :: w.hid := ha
      refine g.trk a ?_
      simp [q] at this
      simpa using this
  · rcases List.mem_cons.mp (show a ∈ p :: w.hid from hh) with z | z
    · exact g.no h (z ▸ ha)
    · exact g.apart a ha z
  · have q : a ≠ p := fun z => g.no h (by rw [← z]; exact List.mem_of_getElem? e1)
    exact (g.cell n a c e1 e2).mono (Kp.hide h) (upd_ne q)
end

/-! ### the slots -/
def EnvR (K : PySem.W.Frag) (w : Wo) (H : Hp) (ρ : Env) (σ : L2.St) : Prop := ρ.length = σ.length ∧ ∀ (i : Nat) (d : D), ρ[i]? = some (some d) → ∃ v, σ[i]? = some (some v) ∧ Rp K w H d v
section
variable {K : PySem.W.Frag} {w w' : Wo} {H H' : Hp} {ρ : Env} {σ : L2.St}
theorem EnvR.mono (r : EnvR K w H ρ σ) (e : Kp w H w' H') : EnvR K w' H' ρ σ := ⟨r.1, fun i d h => let ⟨v, a, b⟩ := r.2 i d h; ⟨v, a, Rp.mono e d v b⟩⟩
theorem EnvR.set {d : D} {v : V} (i : Nat) (r : EnvR K w H ρ σ) (h : Rp K w H d v) : EnvR K w H (ρ.set i (some d)) (σ.set i (some v)) := by
  refine ⟨by simp [r.1], fun j e hj => ?_⟩
  by_cases q : j = i
  · subst q
    by_cases hl : j < ρ.length
    · rw [List.getElem?_set_self hl] at hj
      cases hj
      exact ⟨v, by rw [List.getElem?_set_self (by rw [← r.1]; exact hl)], h⟩
    · rw [List.getElem?_eq_none (by simpa using hl)] at hj; cases hj
  · rw [List.getElem?_set_ne (Ne.symm q)] at hj
    obtain ⟨v', a, b⟩ := r.2 j e hj
    exact ⟨v', by rw [List.getElem?_set_ne (Ne.symm q)]; exact a, b⟩
def wipeD (ρ : Env) : List Nat → Env
  | [] => ρ
  | v :: vs => (wipeD ρ vs).set v none
theorem EnvR.wipe (r : EnvR K w H ρ σ) : ∀ vs : List Nat, EnvR K w H (wipeD ρ vs) (L2.wipe σ vs)
  | [] => r
  | v :: vs => by
    have ih := EnvR.wipe r vs
    refine ⟨by simp [wipeD, L2.wipe, ih.1], fun j e hj => ?_⟩
    have hj : ((wipeD ρ vs).set v none)[j]? = some (some e) := hj
    by_cases q : j = v
    · subst q
      rw [List.getElem?_set] at hj
      split at hj
      · split at hj <;> cases hj
      · rename_i z; exact absurd rfl z
    · rw [List.getElem?_set_ne (Ne.symm q)] at hj
      obtain ⟨v', a, b⟩ := ih.2 j e hj
      exact ⟨v', by show ((L2.wipe σ vs).set v none)[j]? = _; rw [List.getElem?_set_ne (Ne.symm q)]; exact a, b⟩
end
end Tr
set_option Elab.async false
set_option linter.all false
set_option maxRecDepth 100000
namespace Tr
open PySem PySem.Spec PyProof.Rows L2

/-! ### what is wanted behind an expression, over trees -/
abbrev KD := D → Mu → Prop
abbrev KB := Bool → Mu → Prop
abbrev KA := List D → Mu → Prop
abbrev ET := Env → Mu → KD → Prop
abbrev BT := Env → Mu → KB → Prop
abbrev AT := Env → Mu → KA → Prop
abbrev R1D := D → Mu → KD → Prop
abbrev R2D := D → D → Mu → KD → Prop
abbrev RAD := List D → Mu → KD → Prop

def Fin (K : PySem.W.Frag) (w : Wo) (H : Hp) (P : KD) (Q : VK) : Prop := ∀ d v w' H', Ev w H w' H' → Gd K w' H' → Rp K w' H' d v → P d w'.mu → Q v H'
def FinB (K : PySem.W.Frag) (w : Wo) (H : Hp) (P : KB) (Q : Bool → Hp → Prop) : Prop := ∀ b w' H', Ev w H w' H' → Gd K w' H' → P b w'.mu → Q b H'
def FinA (K : PySem.W.Frag) (w : Wo) (H : Hp) (P : KA) (Q : List V → Hp → Prop) : Prop := ∀ ds vs w' H', Ev w H w' H' → Gd K w' H' → RpAll K w' H' ds vs → P ds w'.mu → Q vs H'
section
variable {K : PySem.W.Frag} {w w' : Wo} {H H' : Hp}
theorem Fin.mono {P : KD} {Q : VK} (f : Fin K w H P Q) (e : Ev w H w' H') : Fin K w' H' P Q := fun d v w2 H2 e2 g r p => f d v w2 H2 (e.trans e2) g r p
theorem FinB.mono {P : KB} {Q : Bool → Hp → Prop} (f : FinB K w H P Q) (e : Ev w H w' H') : FinB K w' H' P Q := fun d w2 H2 e2 g p => f d w2 H2 (e.trans e2) g p
theorem FinA.mono {P : KA} {Q : List V → Hp → Prop} (f : FinA K w H P Q) (e : Ev w H w' H') : FinA K w' H' P Q := fun d v w2 H2 e2 g r p => f d v w2 H2 (e.trans e2) g r p
theorem Fin.now {P : KD} {Q : VK} {d : D} {v : V} (f : Fin K w H P Q) (g : Gd K w H) (r : Rp K w H d v) (p : P d w.mu) : Q v H := f d v w H Ev.refl g r p
theorem Fin.int {P : KD} {Q : VK} {i : Int} (f : Fin K w H P Q) (g : Gd K w H) (p : P (.int i) w.mu) : Q (.int i) H := f (.int i) _ w H Ev.refl g rfl p
theorem Fin.st {P : KD} {Q : VK} {i : Str} (f : Fin K w H P Q) (g : Gd K w H) (p : P (.str i) w.mu) : Q (.str i) H := f (.str i) _ w H Ev.refl g rfl p
theorem Fin.bl {P : KD} {Q : VK} {i : Bool} (f : Fin K w H P Q) (g : Gd K w H) (p : P (.bl i) w.mu) : Q (.bl i) H := f (.bl i) _ w H Ev.refl g rfl p
theorem Fin.non {P : KD} {Q : VK} (f : Fin K w H P Q) (g : Gd K w H) (p : P .non w.mu) : Q .non H := f .non _ w H Ev.refl g rfl p
/-- a new thing that stands for good -/
theorem Fin.fresh {P : KD} {Q : VK} {d : D} {p : Addr} {o : HO} (f : Fin K w H P Q) (g : Gd K w H) (h : H p = none) (r : Gd K w (upd H p o) → ¬ Live w p → Rp K w (upd H p o) d (.ref p)) (q : P d w.mu) : Q (.ref p) (upd H p o) :=
  f d _ w _ (Ev.new g h) (g.new h) (r (g.new h) (g.dead h)) q
theorem rp_lst {p : Addr} {ds : List D} {vs : List V} (l : ¬ Live w p) (g : Gd K w H) (h : H p = none) (r : RpAll K w H ds vs) : Rp K w (upd H p (.lst vs)) (.lst ds) (.ref p) :=
  ⟨p, vs, rfl, ⟨l, upd_same⟩, RpAll.mono (Ev.new g h).toKp _ _ r⟩
theorem rp_tup {p : Addr} {ds : List D} {vs : List V} (l : ¬ Live w p) (g : Gd K w H) (h : H p = none) (r : RpAll K w H ds vs) : Rp K w (upd H p (.tup vs)) (.tup ds) (.ref p) :=
  ⟨p, vs, rfl, .inl ⟨l, upd_same⟩, RpAll.mono (Ev.new g h).toKp _ _ r⟩
theorem Fin.lst {P : KD} {Q : VK} {ds : List D} {vs : List V} {p : Addr} (f : Fin K w H P Q) (g : Gd K w H) (h : H p = none) (r : RpAll K w H ds vs) (q : P (.lst ds) w.mu) : Q (.ref p) (upd H p (.lst vs)) :=
  f _ _ w _ (Ev.new g h) (g.new h) (rp_lst (g.dead h) g h r) q
theorem Fin.tup {P : KD} {Q : VK} {ds : List D} {vs : List V} {p : Addr} (f : Fin K w H P Q) (g : Gd K w H) (h : H p = none) (r : RpAll K w H ds vs) (q : P (.tup ds) w.mu) : Q (.ref p) (upd H p (.tup vs)) :=
  f _ _ w _ (Ev.new g h) (g.new h) (rp_tup (g.dead h) g h r) q
end

def LE (K : PySem.W.Frag) (t : ET) : TE := fun σ H Q => ∃ w ρ P, Gd K w H ∧ EnvR K w H ρ σ ∧ t ρ w.mu P ∧ Fin K w H P Q
def LB (K : PySem.W.Frag) (t : BT) : TT := fun σ H Q => ∃ w ρ P, Gd K w H ∧ EnvR K w H ρ σ ∧ t ρ w.mu P ∧ FinB K w H P Q
def LA (K : PySem.W.Frag) (t : AT) : TA := fun σ H Q => ∃ w ρ P, Gd K w H ∧ EnvR K w H ρ σ ∧ t ρ w.mu P ∧ FinA K w H P Q

section
variable {X : Cx} {a b c e o : Expr} {es : List Expr} {pos : Pos} {ta tb tc te : ET} {sa : AT} {qa qb : BT}
theorem te_of {t0 : TE} {t : ET} (h : PE X e t0) (i : ∀ σ H Q, LE X.K t σ H Q → t0 σ H Q) : PE X e (LE X.K t) := ⟨fun pins s σ H Q I q => h.run pins s σ H Q I (i σ H Q q)⟩
theorem tb_of {t0 : TT} {t : BT} (h : PT X e t0) (i : ∀ σ H Q, LB X.K t σ H Q → t0 σ H Q) : PT X e (LB X.K t) := ⟨fun pins s σ H Q I q => h.run pins s σ H Q I (i σ H Q q)⟩
theorem tw_of {t0 : TT} {t : BT} (h : PW X e t0) (i : ∀ σ H Q, LB X.K t σ H Q → t0 σ H Q) : PW X e (LB X.K t) := ⟨fun wh pins s σ H Q I q => h.run wh pins s σ H Q I (i σ H Q q)⟩
theorem ta_of {t0 : TA} {t : AT} (h : PA X es t0) (i : ∀ σ H Q, LA X.K t σ H Q → t0 σ H Q) : PA X es (LA X.K t) := ⟨fun p pins s σ H Q I q => h.run p pins s σ H Q I (i σ H Q q)⟩

/-! ### names, constants -/
def eVar (i : Nat) : ET := fun ρ μ P => match ρ[i]? with
  | some (some d) => P d μ
  | _ => False
theorem te_var {i : Nat} (h : PE X e (tVar i)) : PE X e (LE X.K (eVar i)) := te_of h fun σ H Q ⟨w, ρ, P, g, r, t, f⟩ => by
  unfold eVar at t
  split at t
  · rename_i d hd
    obtain ⟨v, h1, h2⟩ := r.2 i d hd
    exact ⟨v, h1, f.now g h2 t⟩
  · exact t.elim
def eC (d : D) : ET := fun _ μ P => P d μ
theorem te_int {i : Int} {j} : PE X (.Constant (.int i) j pos) (LE X.K (eC (.int i))) := te_of pe_int fun σ H Q ⟨w, ρ, P, g, r, t, f⟩ => f.now g (show Rp X.K w H (.int i) (.int i) from rfl) t
theorem te_bl {i : Bool} {j} : PE X (.Constant (.bool i) j pos) (LE X.K (eC (.bl i))) := te_of pe_bl fun σ H Q ⟨w, ρ, P, g, r, t, f⟩ => f.now g (show Rp X.K w H (.bl i) (.bl i) from rfl) t
theorem te_non {j} : PE X (.Constant .none j pos) (LE X.K (eC .non)) := te_of pe_non fun σ H Q ⟨w, ρ, P, g, r, t, f⟩ => f.now g (show Rp X.K w H .non .non from rfl) t
theorem te_str {i : Str} {j} : PE X (.Constant (.str i) j pos) (LE X.K (eC (.str i))) := te_of pe_str fun σ H Q ⟨w, ρ, P, g, r, t, f⟩ => f.now g (show Rp X.K w H (.str i) (.str i) from rfl) t
theorem te_c {v : V} {d : D} (h : PE X e (tC v)) (r : ∀ w H, Rp X.K w H d v) : PE X e (LE X.K (eC d)) := te_of h fun σ H Q ⟨w, ρ, P, g, _, t, f⟩ => f.now g (r w H) t

/-! ### two operands -/
def OpD (K : PySem.W.Frag) (r : R2) (rd : R2D) : Prop := ∀ w H x y dx dy P Q, Gd K w H → Rp K w H dx x → Rp K w H dy y → rd dx dy w.mu P → Fin K w H P Q → r x y H Q
def eOp (rd : R2D) (ta tb : ET) : ET := fun ρ μ P => ta ρ μ fun x μ1 => tb ρ μ1 fun y μ2 => rd x y μ2 P
theorem lift_op {K : PySem.W.Frag} {r : R2} {rd : R2D} (h : OpD K r rd) (σ : L2.St) (H : Hp) (Q : VK) (q : LE K (eOp rd ta tb) σ H Q) : tOp r (LE K ta) (LE K tb) σ H Q := by
  obtain ⟨w, ρ, P, g, er, t, f⟩ := q
  refine ⟨w, ρ, _, g, er, t, fun x v w1 H1 e1 g1 r1 t1 => ?_⟩
  refine ⟨w1, ρ, _, g1, er.mono e1.toKp, t1, fun y u w2 H2 e2 g2 r2 t2 => ?_⟩
  exact h w2 H2 v u x y P Q g2 (Rp.mono e2.toKp _ _ r1) r2 t2 (f.mono (e1.trans e2))
theorem te_op {op : Operator} {r : R2} {rd : R2D} (ho : OpR X (binaryOp op) r) (hd : OpD X.K r rd) (ha : PE X a (LE X.K ta)) (hb : PE X b (LE X.K tb)) : PE X (.BinOp a op b pos) (LE X.K (eOp rd ta tb)) :=
  te_of (pe_op ho ha hb) (lift_op hd)
theorem te_cmp {op : CmpOp} {r : R2} {rd : R2D} (ho : OpR X (compareOp op) r) (hd : OpD X.K r rd) (ha : PE X a (LE X.K ta)) (hb : PE X b (LE X.K tb)) (hm : behindInMarks op b = false) : PE X (.Compare a [op] [b] pos) (LE X.K (eOp rd ta tb)) :=
  te_of (pe_cmpR ho ha hb hm) (lift_op hd)
def onB (d : D) (f : Bool → Prop) : Prop := match d with
  | .bl b => f b
  | _ => False
/-- a value that is True or False, as a test -/
def bB (t : ET) : BT := fun ρ μ P => t ρ μ fun d μ1 => onB d fun b => P b μ1
theorem lift_bB {K : PySem.W.Frag} {t0 : TE} {t : ET} (h : ∀ σ H Q, LE K t σ H Q → t0 σ H Q) (σ : L2.St) (H : Hp) (Q : Bool → Hp → Prop) (q : LB K (bB t) σ H Q) : tTest t0 σ H Q := by
  obtain ⟨w, ρ, P, g, er, t, f⟩ := q
  refine h σ H _ ⟨w, ρ, _, g, er, t, fun x v w1 H1 e1 g1 r1 t1 => ?_⟩
  cases x with
  | bl b => exact ⟨b, r1, f b w1 H1 e1 g1 t1⟩
  | _ => exact t1.elim
theorem tb_cmp {op : CmpOp} {r : R2} {rd : R2D} (ho : OpR X (compareOp op) r) (hd : OpD X.K r rd) (ha : PE X a (LE X.K ta)) (hb : PE X b (LE X.K tb)) (hm : behindInMarks op b = false) : PT X (.Compare a [op] [b] pos) (LB X.K (bB (eOp rd ta tb))) :=
  tb_of (pt_cmpR ho ha hb hm) (lift_bB (lift_op hd))
def eChain (rd rd' : R2D) (ta tb tc : ET) : ET := fun ρ μ P => ta ρ μ fun x μ1 => tb ρ μ1 fun y μ2 => rd x y μ2 fun z μ3 => onB z fun k =>
  if k = true then tc ρ μ3 fun w μ4 => rd' y w μ4 P else P (.bl false) μ3
theorem lift_chain {K : PySem.W.Frag} {r r' : R2} {rd rd' : R2D} (h : OpD K r rd) (h' : OpD K r' rd') (σ : L2.St) (H : Hp) (Q : VK) (q : LE K (eChain rd rd' ta tb tc) σ H Q) : tChain r r' (LE K ta) (LE K tb) (LE K tc) σ H Q := by
  obtain ⟨w, ρ, P, g, er, t, f⟩ := q
  refine ⟨w, ρ, _, g, er, t, fun x v w1 H1 e1 g1 r1 t1 => ?_⟩
  refine ⟨w1, ρ, _, g1, er.mono e1.toKp, t1, fun y u w2 H2 e2 g2 r2 t2 => ?_⟩
  refine h w2 H2 v u x y _ _ g2 (Rp.mono e2.toKp _ _ r1) r2 t2 fun z k w3 H3 e3 g3 r3 t3 => ?_
  cases z with
  | bl b =>
    refine ⟨b, r3, ?_⟩
    have t3 : if b = true then _ else _ := t3
    cases b with
    | true =>
      rw [if_pos rfl] at t3 ⊢
      refine ⟨w3, ρ, _, g3, er.mono ((e1.trans e2).trans e3).toKp, t3, fun z' k' w4 H4 e4 g4 r4 t4 => ?_⟩
      exact h' w4 H4 u k' y z' P Q g4 (Rp.mono (e3.trans e4).toKp _ _ r2) r4 t4 (f.mono (((e1.trans e2).trans e3).trans e4))
    | false =>
      rw [if_neg Bool.false_ne_true] at t3 ⊢
      exact f.mono ((e1.trans e2).trans e3) (.bl false) _ w3 H3 Ev.refl g3 rfl t3
  | _ => exact t3.elim
theorem te_chain {op op' : CmpOp} {r r' : R2} {rd rd' : R2D} (ho : OpR X (compareOp op) r) (hd : OpD X.K r rd) (ho' : OpR X (compareOp op') r') (hd' : OpD X.K r' rd') (ha : PE X a (LE X.K ta)) (hb : PE X b (LE X.K tb)) (hc : PE X c (LE X.K tc))
    (hm : lastMarks [op, op'] [b, c] = false := by with_unfolding_all rfl) : PE X (.Compare a [op, op'] [b, c] pos) (LE X.K (eChain rd rd' ta tb tc)) :=
  te_of (pe_chain ho ho' ha hb hc hm) (lift_chain hd hd')
theorem tb_chain {op op' : CmpOp} {r r' : R2} {rd rd' : R2D} (ho : OpR X (compareOp op) r) (hd : OpD X.K r rd) (ho' : OpR X (compareOp op') r') (hd' : OpD X.K r' rd') (ha : PE X a (LE X.K ta)) (hb : PE X b (LE X.K tb)) (hc : PE X c (LE X.K tc))
    (hm : lastMarks [op, op'] [b, c] = false := by with_unfolding_all rfl) : PT X (.Compare a [op, op'] [b, c] pos) (LB X.K (bB (eChain rd rd' ta tb tc))) :=
  tb_of (pt_chain ho ho' ha hb hc hm) (lift_bB (lift_chain hd hd'))

/-! ### and, or, not, if else -/
def bAnd (s t : BT) : BT := fun ρ μ P => s ρ μ fun b μ1 => if b = true then t ρ μ1 P else P false μ1
def bOr (s t : BT) : BT := fun ρ μ P => s ρ μ fun b μ1 => if b = true then P true μ1 else t ρ μ1 P
def bNot (s : BT) : BT := fun ρ μ P => s ρ μ fun b μ1 => P (!b) μ1
theorem tw_and1 (ha : PT X a (LB X.K qa)) : PW X (.BoolOp .And [a] pos) (LB X.K qa) := pw_and1 ha
theorem tw_or1 (ha : PT X a (LB X.K qa)) : PW X (.BoolOp .Or [a] pos) (LB X.K qa) := pw_or1 ha
theorem tw_and {rest : List Expr} (ha : PT X a (LB X.K qa)) (hb : PW X (.BoolOp .And (b :: rest) pos) (LB X.K qb)) : PW X (.BoolOp .And (a :: b :: rest) pos) (LB X.K (bAnd qa qb)) :=
  tw_of (pw_and ha hb) fun σ H Q ⟨w, ρ, P, g, er, t, f⟩ => ⟨w, ρ, _, g, er, t, fun k w1 H1 e1 g1 t1 => by
    cases k with
    | true => rw [if_pos rfl] at t1 ⊢; exact ⟨w1, ρ, P, g1, er.mono e1.toKp, t1, f.mono e1⟩
    | false => rw [if_neg Bool.false_ne_true] at t1 ⊢; exact f false w1 H1 e1 g1 t1⟩
theorem tw_or {rest : List Expr} (ha : PT X a (LB X.K qa)) (hb : PW X (.BoolOp .Or (b :: rest) pos) (LB X.K qb)) : PW X (.BoolOp .Or (a :: b :: rest) pos) (LB X.K (bOr qa qb)) :=
  tw_of (pw_or ha hb) fun σ H Q ⟨w, ρ, P, g, er, t, f⟩ => ⟨w, ρ, _, g, er, t, fun k w1 H1 e1 g1 t1 => by
    cases k with
    | true => rw [if_pos rfl] at t1 ⊢; exact f true w1 H1 e1 g1 t1
    | false => rw [if_neg Bool.false_ne_true] at t1 ⊢; exact ⟨w1, ρ, P, g1, er.mono e1.toKp, t1, f.mono e1⟩⟩
theorem tb_not (ha : PT X a (LB X.K qa)) : PT X (.UnaryOp .Not a pos) (LB X.K (bNot qa)) :=
  tb_of (pt_not ha) fun σ H Q ⟨w, ρ, P, g, er, t, f⟩ => ⟨w, ρ, _, g, er, t, fun k w1 H1 e1 g1 t1 => f _ w1 H1 e1 g1 t1⟩
def eAnd (ta tb : ET) : ET := fun ρ μ P => ta ρ μ fun d μ1 => onB d fun k => if k = true then tb ρ μ1 P else P (.bl false) μ1
def eOr (ta tb : ET) : ET := fun ρ μ P => ta ρ μ fun d μ1 => onB d fun k => if k = true then P (.bl true) μ1 else tb ρ μ1 P
def eNot (ta : ET) : ET := fun ρ μ P => ta ρ μ fun d μ1 => onB d fun b => P (.bl (!b)) μ1
theorem te_one {op : BoolOp} (h : PE X a (LE X.K ta)) : PE X (.BoolOp op [a] pos) (LE X.K ta) := pe_one h
theorem te_and {rest : List Expr} (ha : PE X a (LE X.K ta)) (hb : PE X (.BoolOp .And (b :: rest) pos) (LE X.K tb)) : PE X (.BoolOp .And (a :: b :: rest) pos) (LE X.K (eAnd ta tb)) :=
  te_of (pe_and ha hb) fun σ H Q ⟨w, ρ, P, g, er, t, f⟩ => ⟨w, ρ, _, g, er, t, fun d v w1 H1 e1 g1 r1 t1 => by
    cases d with
    | bl k =>
      refine ⟨k, r1, ?_⟩
      have t1 : if k = true then _ else _ := t1
      cases k with
      | true => rw [if_pos rfl] at t1 ⊢; exact ⟨w1, ρ, P, g1, er.mono e1.toKp, t1, f.mono e1⟩
      | false => rw [if_neg Bool.false_ne_true] at t1 ⊢; exact f (.bl false) _ w1 H1 e1 g1 rfl t1
    | _ => exact t1.elim⟩
theorem te_or {rest : List Expr} (ha : PE X a (LE X.K ta)) (hb : PE X (.BoolOp .Or (b :: rest) pos) (LE X.K tb)) : PE X (.BoolOp .Or (a :: b :: rest) pos) (LE X.K (eOr ta tb)) :=
  te_of (pe_or ha hb) fun σ H Q ⟨w, ρ, P, g, er, t, f⟩ => ⟨w, ρ, _, g, er, t, fun d v w1 H1 e1 g1 r1 t1 => by
    cases d with
    | bl k =>
      refine ⟨k, r1, ?_⟩
      have t1 : if k = true then _ else _ := t1
      cases k with
      | true => rw [if_pos rfl] at t1 ⊢; exact f (.bl true) _ w1 H1 e1 g1 rfl t1
      | false => rw [if_neg Bool.false_ne_true] at t1 ⊢; exact ⟨w1, ρ, P, g1, er.mono e1.toKp, t1, f.mono e1⟩
    | _ => exact t1.elim⟩
theorem te_not (ha : PE X a (LE X.K ta)) : PE X (.UnaryOp .Not a pos) (LE X.K (eNot ta)) :=
  te_of (pe_not ha) fun σ H Q ⟨w, ρ, P, g, er, t, f⟩ => ⟨w, ρ, _, g, er, t, fun d v w1 H1 e1 g1 r1 t1 => by
    cases d with
    | bl k => exact ⟨k, r1, f (.bl (!k)) _ w1 H1 e1 g1 rfl t1⟩
    | _ => exact t1.elim⟩
def eIf (q : BT) (ta tb : ET) : ET := fun ρ μ P => q ρ μ fun b μ1 => if b = true then ta ρ μ1 P else tb ρ μ1 P
theorem te_if (hc : PT X c (LB X.K qa)) (ha : PE X a (LE X.K ta)) (hb : PE X b (LE X.K tb)) : PE X (.IfExp c a b pos) (LE X.K (eIf qa ta tb)) :=
  te_of (pe_ifExp hc ha hb) fun σ H Q ⟨w, ρ, P, g, er, t, f⟩ => ⟨w, ρ, _, g, er, t, fun k w1 H1 e1 g1 t1 => by
    cases k with
    | true => rw [if_pos rfl] at t1 ⊢; exact ⟨w1, ρ, P, g1, er.mono e1.toKp, t1, f.mono e1⟩
    | false => rw [if_neg Bool.false_ne_true] at t1 ⊢; exact ⟨w1, ρ, P, g1, er.mono e1.toKp, t1, f.mono e1⟩⟩

/-! ### argument lists, displays -/
def aNil : AT := fun _ μ P => P [] μ
def aCons (t : ET) (s : AT) : AT := fun ρ μ P => t ρ μ fun d μ1 => s ρ μ1 fun ds μ2 => P (d :: ds) μ2
theorem ta_nil : PA X [] (LA X.K aNil) := ta_of pa_nil fun σ H Q ⟨w, ρ, P, g, er, t, f⟩ => f [] [] w H Ev.refl g rfl t
theorem ta_cons (ha : PE X e (LE X.K te)) (hr : PA X es (LA X.K sa)) (hs : starEach (e :: es) X.env = (false, eval e X.env) :: starEach es X.env := by rfl) : PA X (e :: es) (LA X.K (aCons te sa)) :=
  ta_of (pa_cons ha hr hs) fun σ H Q ⟨w, ρ, P, g, er, t, f⟩ => ⟨w, ρ, _, g, er, t, fun d v w1 H1 e1 g1 r1 t1 =>
    ⟨w1, ρ, _, g1, er.mono e1.toKp, t1, fun ds vs w2 H2 e2 g2 r2 t2 => f (d :: ds) (v :: vs) w2 H2 (e1.trans e2) g2 ⟨v, vs, rfl, Rp.mono e2.toKp _ _ r1, r2⟩ t2⟩⟩
def eTup (s : AT) : ET := fun ρ μ P => s ρ μ fun ds μ1 => ds.length ≤ sizeLine ∧ P (.tup ds) μ1
def eLst (s : AT) : ET := fun ρ μ P => s ρ μ fun ds μ1 => ds.length ≤ sizeLine ∧ P (.lst ds) μ1
theorem te_tup {x1} (h : PA X es (LA X.K sa)) : PE X (.Tuple es x1 pos) (LE X.K (eTup sa)) :=
  te_of (pe_tup h) fun σ H Q ⟨w, ρ, P, g, er, t, f⟩ => ⟨w, ρ, _, g, er, t, fun ds vs w1 H1 e1 g1 r1 ⟨hl, t1⟩ => ⟨by rw [r1.length]; exact hl, fun p hp => (f.mono e1).tup g1 hp r1 t1⟩⟩
theorem te_lst (h : PA X es (LA X.K sa)) : PE X (.List es pos) (LE X.K (eLst sa)) :=
  te_of (pe_lst h) fun σ H Q ⟨w, ρ, P, g, er, t, f⟩ => ⟨w, ρ, _, g, er, t, fun ds vs w1 H1 e1 g1 r1 ⟨hl, t1⟩ => ⟨by rw [r1.length]; exact hl, fun p hp => (f.mono e1).lst g1 hp r1 t1⟩⟩
/-- .. a list that may change -/
def eLstL (s : AT) : ET := fun ρ μ P => s ρ μ fun ds μ1 => ds.length ≤ sizeLine ∧ P (.loc μ1.length) (μ1 ++ [some (.lst ds)])
theorem fin_add {K : PySem.W.Frag} {w : Wo} {H : Hp} {P : KD} {Q : VK} {p : Addr} {o : HO} {cl : Cell} (f : Fin K w H P Q) (g : Gd K w H) (h : H p = none) (hc : CellR K (w.add p cl) (upd H p o) p cl) (q : P (.loc w.mu.length) (w.mu ++ [some cl])) : Q (.ref p) (upd H p o) :=
  f (.loc w.mu.length) (.ref p) (w.add p cl) _ (Ev.add g h) (g.add h hc) ⟨p, rfl, by show (w.am ++ [p])[w.mu.length]? = some p; rw [← g.len]; simp⟩ q
theorem te_lstL (h : PA X es (LA X.K sa)) : PE X (.List es pos) (LE X.K (eLstL sa)) :=
  te_of (pe_lst h) fun σ H Q ⟨w, ρ, P, g, er, t, f⟩ => ⟨w, ρ, _, g, er, t, fun ds vs w1 H1 e1 g1 r1 ⟨hl, t1⟩ => ⟨by rw [r1.length]; exact hl, fun p hp =>
    fin_add (cl := .lst ds) (f.mono e1) g1 hp ⟨vs, upd_same, RpAll.mono (Ev.add g1 hp).toKp _ _ r1⟩ t1⟩⟩

/-! ### calls -/
def CallD (K : PySem.W.Frag) (r : List V → Hp → VK → Prop) (rd : RAD) : Prop := ∀ w H vs ds P Q, Gd K w H → RpAll K w H ds vs → rd ds w.mu P → Fin K w H P Q → r vs H Q
def eCall (rd : RAD) (s : AT) : ET := fun ρ μ P => s ρ μ fun ds μ1 => rd ds μ1 P
theorem lift_call {K : PySem.W.Frag} {r : List V → Hp → VK → Prop} {rd : RAD} (h : CallD K r rd) (σ : L2.St) (H : Hp) (Q : VK) (q : LE K (eCall rd sa) σ H Q) : tCB r (LA K sa) σ H Q := by
  obtain ⟨w, ρ, P, g, er, t, f⟩ := q
  exact ⟨w, ρ, _, g, er, t, fun ds vs w1 H1 e1 g1 r1 t1 => h w1 H1 vs ds P Q g1 r1 t1 (f.mono e1)⟩
theorem te_callB {x : Str} {p : Pos} {id : String} {r : List V → Hp → VK → Prop} {rd : RAD} (hc : CallR X (.builtin id) r) (hd : CallD X.K r rd) (hg : Gl X x) (hm : X.mg x = none) (hv : bootBuiltins x = some (.builtin id)) (ha : PA X (e :: es) (LA X.K sa))
    (hn : x ≠ "__name__" := by decide) (hdb : (x == ("__debug__" : Str)) = false := by decide) (he : starEach (e :: es) X.env = (false, eval e X.env) :: starEach es X.env := by rfl) (hpl : (backTo pos (starEach es X.env)).any (·.1) = false := by rfl) :
    PE X (.Call (.Name x p) (e :: es) [] pos) (LE X.K (eCall rd sa)) := te_of (pe_callB hc hg hm hv ha hn hdb he hpl) (lift_call hd)
theorem te_callTy {x : Str} {p : Pos} {T : String} {r : List V → Hp → VK → Prop} {rd : RAD} (hc : CallR X (.type T) r) (hd : CallD X.K r rd) (hg : Gl X x) (hm : X.mg x = none) (hv : bootBuiltins x = some (.type T)) (ha : PA X (e :: es) (LA X.K sa))
    (hn : x ≠ "__name__" := by decide) (hdb : (x == ("__debug__" : Str)) = false := by decide) (he : starEach (e :: es) X.env = (false, eval e X.env) :: starEach es X.env := by rfl) (hpl : (backTo pos (starEach es X.env)).any (·.1) = false := by rfl) :
    PE X (.Call (.Name x p) (e :: es) [] pos) (LE X.K (eCall rd sa)) := te_of (pe_callTy hc hg hm hv ha hn hdb he hpl) (lift_call hd)

/-! ### own defs that raise nothing -/
def SpOf (K : PySem.W.Frag) (sp : RAD) : Sp := fun vs H Q _ => ∃ w ds P, Gd K w H ∧ RpAll K w H ds vs ∧ sp ds w.mu P ∧ Fin K w H P Q
abbrev FnD (P : Program) (wd : World) (K : PySem.W.Frag) (mg : Str → Option Value) (base : Heap) (k : Nat) (f : Addr) (fd : FuncData) (ps : List Str) (sp : RAD) : Prop := FnOk P wd K mg base CX0 k f fd ps (SpOf K sp)
theorem te_call {x : Str} {p : Pos} {k : Nat} {f : Addr} {fd : FuncData} {ps : List Str} {sp : RAD} (F : FnD X.prog X.w X.K X.mg X.base k f fd ps sp) (hr : Room k X.A) (hg : Gl X x) (hm : X.mg x = some (.ref f)) (hk : PySem.W.keepIn X.K (.ref f) = true)
    (hb : Binds X.K fd ps []) (ha : PA X (e :: es) (LA X.K sa)) (hdb : (x == ("__debug__" : Str)) = false := by decide) (he : starEach (e :: es) X.env = (false, eval e X.env) :: starEach es X.env := by rfl)
    (hpl : (backTo pos (starEach es X.env)).any (·.1) = false := by rfl) : PE X (.Call (.Name x p) (e :: es) [] pos) (LE X.K (eCall sp sa)) :=
  te_of (pe_call F hr hg hm hk hb .nil pass0 ha hdb he hpl) fun σ H Q ⟨w, ρ, P, g, er, t, f⟩ => ⟨w, ρ, _, g, er, t, fun ds vs w1 H1 e1 g1 r1 t1 => by
    show SpOf X.K sp (vs ++ []) H1 Q E0
    rw [List.append_nil]
    exact ⟨w1, ds, P, g1, r1, t1, f.mono e1⟩⟩
theorem te_call0 {x : Str} {p : Pos} {k : Nat} {f : Addr} {fd : FuncData} {ps : List Str} {sp : RAD} (F : FnD X.prog X.w X.K X.mg X.base k f fd ps sp) (hr : Room k X.A) (hg : Gl X x) (hm : X.mg x = some (.ref f)) (hk : PySem.W.keepIn X.K (.ref f) = true)
    (hb : Binds X.K fd ps []) (hdb : (x == ("__debug__" : Str)) = false := by decide) : PE X (.Call (.Name x p) [] [] pos) (LE X.K (eCall sp aNil)) :=
  te_of (pe_call0 F hr hg hm hk hb .nil pass0 hdb) fun σ H Q ⟨w, ρ, P, g, er, t, f⟩ => ⟨w, [], P, g, rfl, t, f⟩
/-- keywords behind the positional ones, in any order: gD puts them into the parameters' order -/
def eCallK (sp : RAD) (gD : List D → List D → List D) (s s' : AT) : ET := fun ρ μ P => s ρ μ fun ds μ1 => s' ρ μ1 fun es μ2 => sp (gD ds es) μ2 P
theorem tk_nil : PK X [] (LA X.K aNil) := ⟨fun pos pins s σ H Q I ⟨w, ρ, P, g, er, t, f⟩ => pk_nil.run pos pins s σ H Q I (f [] [] w H Ev.refl g rfl t)⟩
theorem tk_cons {nm : Option Str} {kpos : Pos} {kws : List Keyword} (ha : PE X e (LE X.K te)) (hr : PK X kws (LA X.K sa)) : PK X (⟨nm, e, kpos⟩ :: kws) (LA X.K (aCons te sa)) :=
  ⟨fun pos pins s σ H Q I ⟨w, ρ, P, g, er, t, f⟩ => (pk_cons ha hr).run pos pins s σ H Q I ⟨w, ρ, _, g, er, t, fun d v w1 H1 e1 g1 r1 t1 =>
    ⟨w1, ρ, _, g1, er.mono e1.toKp, t1, fun ds vs w2 H2 e2 g2 r2 t2 => f (d :: ds) (v :: vs) w2 H2 (e1.trans e2) g2 ⟨v, vs, rfl, Rp.mono e2.toKp _ _ r1, r2⟩ t2⟩⟩⟩

/-! ### a value's truth -/
def dTru : D → Option Bool
  | .non => some false
  | .bl b => some b
  | .int i => some (i != 0)
  | .str x => some ((x.length : Int) != 0)
  | .lst xs => some (!xs.isEmpty)
  | .tup xs => some (!xs.isEmpty)
  | _ => none
def sized : D → Prop
  | .str x => x.length ≤ sizeLine
  | _ => True
theorem dTru_ok {K : PySem.W.Frag} {w : Wo} {H : Hp} {d : D} {v : V} {b : Bool} (r : Rp K w H d v) (h : dTru d = some b) (z : sized d) : TruV K v H b := by
  have em : ∀ {ds : List D} {vs : List V}, RpAll K w H ds vs → vs.isEmpty = ds.isEmpty := fun {ds vs} h => by
    cases ds with
    | nil => rw [show vs = [] from h]; rfl
    | cons d ds => obtain ⟨v, r, e, _⟩ := h; rw [e]; rfl
  cases d with
  | non => cases h; rw [show v = _ from r]; exact rfl
  | bl k => cases h; rw [show v = _ from r]; exact rfl
  | int k => cases h; rw [show v = _ from r]; exact rfl
  | str k => cases h; rw [show v = _ from r]; exact ⟨z, rfl⟩
  | lst xs => cases h; obtain ⟨a, vs, e, h1, h2⟩ := r; subst e; exact .inl ⟨vs, h1.sq, by rw [em h2]⟩
  | tup xs => cases h; obtain ⟨a, vs, e, h1, h2⟩ := r; subst e; exact .inr (.inl ⟨vs, h1.sq, by rw [em h2]⟩)
  | _ => cases h
def bT (t : ET) : BT := fun ρ μ P => t ρ μ fun d μ1 => sized d ∧ match dTru d with
  | some b => P b μ1
  | none => False
theorem tb_truth (ha : PE X a (LE X.K ta)) (he : ∀ whole, isTrue a X.env whole = (do let v ← whole; standAt a.pos; holding [v] (truthy v)) := by intro _; rfl) : PT X a (LB X.K (bT ta)) :=
  tb_of (pt_truth ha he) fun σ H Q ⟨w, ρ, P, g, er, t, f⟩ => ⟨w, ρ, _, g, er, t, fun d v w1 H1 e1 g1 r1 ⟨z, t1⟩ => by
    cases hb : dTru d with
    | some b => rw [hb] at t1; exact ⟨b, dTru_ok r1 hb z, f b w1 H1 e1 g1 t1⟩
    | none => rw [hb] at t1; exact t1.elim⟩
end
end Tr
set_option Elab.async false
set_option linter.all false
set_option maxRecDepth 100000
namespace Tr
open PySem PySem.Spec PyProof.Rows L2

/-! ### data -/
mutual
def toPy : D → Option PyData
  | .non => some .none
  | .bl b => some (.bool b)
  | .int i => some (.int i)
  | .str x => some (.str x)
  | .lst xs => match toPyA xs with
    | some ps => some (.list ps)
    | none => none
  | .tup xs => match toPyA xs with
    | some ps => some (.tuple ps)
    | none => none
  | _ => none
def toPyA : List D → Option (List PyData)
  | [] => some []
  | d :: ds => match toPy d, toPyA ds with
    | some p, some ps => some (p :: ps)
    | _, _ => none
end
section
variable {K : PySem.W.Frag} {w : Wo} {H : Hp}
mutual
theorem dp_of : ∀ (d : D) (v : V) (p : PyData), Rp K w H d v → toPy d = some p → Dp K H v p
  | .non, _, _, h, e => by cases e; rw [show _ = _ from h]; exact .non
  | .bl b, _, _, h, e => by cases e; rw [show _ = _ from h]; exact .bl b
  | .int i, _, _, h, e => by cases e; rw [show _ = _ from h]; exact .int i
  | .str x, _, _, h, e => by cases e; rw [show _ = _ from h]; exact .str x
  | .lst xs, _, _, ⟨a, vs, h1, h2, h3⟩, e => by
    subst h1
    unfold toPy at e
    cases q : toPyA xs with
    | none => rw [q] at e; cases e
    | some ps => rw [q] at e; cases e; exact .lst h2.sq (dpA_of xs vs ps h3 q)
  | .tup xs, _, _, ⟨a, vs, h1, h2, h3⟩, e => by
    subst h1
    unfold toPy at e
    cases q : toPyA xs with
    | none => rw [q] at e; cases e
    | some ps => rw [q] at e; cases e; exact .tup h2.sq (dpA_of xs vs ps h3 q)
  | .fz _, _, _, _, e => by unfold toPy at e; cases e
  | .dT _ _, _, _, _, e => by unfold toPy at e; cases e
  | .dK _ _, _, _, _, e => by unfold toPy at e; cases e
  | .ins _ _ _, _, _, _, e => by unfold toPy at e; cases e
  | .loc _, _, _, _, e => by unfold toPy at e; cases e
  | .ref _, _, _, _, e => by unfold toPy at e; cases e
  | .ty _, _, _, _, e => by unfold toPy at e; cases e
theorem dpA_of : ∀ (ds : List D) (vs : List V) (ps : List PyData), RpAll K w H ds vs → toPyA ds = some ps → DpAll K H vs ps
  | [], _, _, h, e => by rw [show _ = [] from h]; unfold toPyA at e; cases e; exact .nil
  | d :: ds, _, _, ⟨v, r, h1, h2, h3⟩, e => by
    subst h1
    unfold toPyA at e
    cases q1 : toPy d with
    | none => rw [q1] at e; cases e
    | some p =>
      cases q2 : toPyA ds with
      | none => rw [q1, q2] at e; cases e
      | some ps => rw [q1, q2] at e; cases e; exact .cons (dp_of d v p h2 q1) (dpA_of ds r ps h3 q2)
end
end

/-! ### operators by trees -/
def dAdd : R2D := fun x y μ P => match x, y with
  | .int i, .int j => P (.int (i + j)) μ
  | .str a, .str b => a.length + b.length ≤ sizeLine ∧ P (.str (a ++ b)) μ
  | .lst a, .lst b => a.length + b.length ≤ sizeLine ∧ P (.lst (a ++ b)) μ
  | .tup a, .tup b => a.length + b.length ≤ sizeLine ∧ P (.tup (a ++ b)) μ
  | _, _ => False
def dSub : R2D := fun x y μ P => match x, y with
  | .int i, .int j => P (.int (i - j)) μ
  | _, _ => False
def dMul : R2D := fun x y μ P => match x, y with
  | .int i, .int j => CMul i j ∧ P (.int (i * j)) μ
  | _, _ => False
def dMod : R2D := fun x y μ P => match x, y with
  | .int i, .int j => 0 < j ∧ P (.int (i % j)) μ
  | _, _ => False
def dFdiv : R2D := fun x y μ P => match x, y with
  | .int i, .int j => CDiv i j ∧ P (.int (i / j)) μ
  | _, _ => False
def dPow : R2D := fun x y μ P => match x, y with
  | .int i, .int j => CPow i j ∧ P (.int (i ^ j.toNat)) μ
  | _, _ => False
def dEq : R2D := fun x y μ P => match toPy x, toPy y with
  | some p, some q => (SeqAt.shaped p = true ∧ SeqAt.shaped q = true) ∧ P (.bl (PyData.eqv p q)) μ
  | _, _ => False
def dNe : R2D := fun x y μ P => match toPy x, toPy y with
  | some p, some q => (SeqAt.shaped p = true ∧ SeqAt.shaped q = true) ∧ P (.bl (!PyData.eqv p q)) μ
  | _, _ => False
def dLt : R2D := fun x y μ P => match x, y with
  | .int i, .int j => P (.bl (decide (i < j))) μ
  | .str i, .str j => P (.bl (decide (i.cps.toList < j.cps.toList))) μ
  | _, _ => False
def dLe : R2D := fun x y μ P => match x, y with
  | .int i, .int j => P (.bl (decide (i ≤ j))) μ
  | .str i, .str j => P (.bl (!decide (j.cps.toList < i.cps.toList))) μ
  | _, _ => False
def dGt : R2D := fun x y μ P => match x, y with
  | .int i, .int j => P (.bl (decide (j < i))) μ
  | .str i, .str j => P (.bl (decide (j.cps.toList < i.cps.toList))) μ
  | _, _ => False
def dGe : R2D := fun x y μ P => match x, y with
  | .int i, .int j => P (.bl (decide (j ≤ i))) μ
  | .str i, .str j => P (.bl (!decide (i.cps.toList < j.cps.toList))) μ
  | _, _ => False
def isNon : D → Bool
  | .non => true
  | _ => false
def dIs : R2D := fun x y μ P => match y with
  | .non => P (.bl (isNon x)) μ
  | _ => False
def dIsNot : R2D := fun x y μ P => match y with
  | .non => P (.bl (!isNon x)) μ
  | _ => False
def dIn : R2D := fun x y μ P => match x, y with
  | .str c, .str z => (∃ n, c = ⟨#[n]⟩) ∧ P (.bl (c.cps.toList.all fun n => decide (n ∈ z.cps.toList))) μ
  | x, .lst ys => match toPy x, toPyA ys with
    | some d, some ds => (SeqAt.shaped d = true ∧ SeqAt.shaped (.list ds) = true) ∧ P (.bl (ds.any fun z => PyData.eqv z d)) μ
    | _, _ => False
  | x, .tup ys => match toPy x, toPyA ys with
    | some d, some ds => (SeqAt.shaped d = true ∧ SeqAt.shaped (.tuple ds) = true) ∧ P (.bl (ds.any fun z => PyData.eqv z d)) μ
    | _, _ => False
  | _, _ => False
def dNotIn : R2D := fun x y μ P => dIn x y μ fun d μ' => onB d fun b => P (.bl (!b)) μ'

section
variable {X : Cx} {K : PySem.W.Frag}
theorem Rp.isNon {w : Wo} {H : Hp} {d : D} {v : V} (r : Rp K w H d v) : decide (v = .non) = Tr.isNon d := by
  have no : ∀ {P : Prop}, (∃ a, v = .ref a ∧ P) → decide (v = .non) = false := fun ⟨a, h, _⟩ => by rw [h]; exact decide_eq_false fun z => nomatch z
  cases d with
  | non => rw [show v = _ from r]; rfl
  | bl b => rw [show v = _ from r]; exact decide_eq_false fun z => nomatch z
  | int b => rw [show v = _ from r]; exact decide_eq_false fun z => nomatch z
  | str b => rw [show v = _ from r]; exact decide_eq_false fun z => nomatch z
  | ref b => rw [show v = _ from r]; exact decide_eq_false fun z => nomatch z
  | ty b => rw [show v = _ from r]; exact decide_eq_false fun z => nomatch z
  | lst xs => obtain ⟨a, _, h, _⟩ := r; rw [h]; exact decide_eq_false fun z => nomatch z
  | fz xs => obtain ⟨a, _, h, _⟩ := r; rw [h]; exact decide_eq_false fun z => nomatch z
  | tup xs => obtain ⟨a, _, h, _⟩ := r; rw [h]; exact decide_eq_false fun z => nomatch z
  | dT ks xs => obtain ⟨a, _, h, _⟩ := r; rw [h]; exact decide_eq_false fun z => nomatch z
  | dK ks xs => obtain ⟨a, _, h, _⟩ := r; rw [h]; exact decide_eq_false fun z => nomatch z
  | ins C ks xs => obtain ⟨a, _, _, h, _⟩ := r; rw [h]; exact decide_eq_false fun z => nomatch z
  | loc n => obtain ⟨a, h, _⟩ := r; rw [h]; exact decide_eq_false fun z => nomatch z
theorem OpD.int {g : Int → Int → V} {C : Int → Int → Prop} {rd : R2D} (h : ∀ x y μ P, rd x y μ P → ∃ i j d, x = .int i ∧ y = .int j ∧ C i j ∧ P d μ ∧ ∀ (w : Wo) (H : Hp), Rp K w H d (g i j)) : OpD K (rI C g) rd := by
  intro w H x y dx dy P Q gd rx ry t f
  obtain ⟨i, j, d, rfl, rfl, c, p, r⟩ := h _ _ _ _ t
  exact ⟨i, j, rx, ry, c, f.now gd (r w H) p⟩

/-! addition -/
def rAddA (K : PySem.W.Frag) : R2 := fun x y H Q => (∃ i j, x = .int i ∧ y = .int j ∧ Q (.int (i + j)) H) ∨ (∃ i j, x = .str i ∧ y = .str j ∧ i.length + j.length ≤ sizeLine ∧ Q (.str (i ++ j)) H) ∨ rCat x y H Q ∨ rCatA K x y H Q
theorem op_addA : OpR X (binaryOp .Add) (rAddA X.K) := OpR.or op_add (OpR.or op_add_str (OpR.or op_cat op_catA))
theorem RpAll.nil_iff {w : Wo} {H : Hp} {ds : List D} {vs : List V} (h : RpAll K w H ds vs) : vs = [] ↔ ds = [] := by
  cases ds with
  | nil => exact ⟨fun _ => rfl, fun _ => h⟩
  | cons d ds => obtain ⟨v, r, e, _⟩ := h; subst e; exact ⟨(nomatch ·), (nomatch ·)⟩
theorem od_add : OpD K (rAddA K) dAdd := by
  intro w H x y dx dy P Q g rx ry t f
  unfold dAdd at t
  split at t
  · exact .inl ⟨_, _, rx, ry, f.int g t⟩
  · exact .inr (.inl ⟨_, _, rx, ry, t.1, f.st g t.2⟩)
  · obtain ⟨a, vs, e1, h1, r1⟩ := rx
    obtain ⟨b, us, e2, h2, r2⟩ := ry
    refine .inr (.inr (.inl ⟨a, b, vs, us, e1, e2, h1.2, h2.2, by rw [r1.length, r2.length]; exact t.1, fun p hp => f.lst g hp (r1.append r2) t.2⟩))
  · obtain ⟨a, vs, e1, h1, r1⟩ := rx
    obtain ⟨b, us, e2, h2, r2⟩ := ry
    refine .inr (.inr (.inr ⟨a, b, vs, us, e1, e2, h1.sq, h2.sq, by rw [r1.length, r2.length]; exact t.1, fun e => ?_, fun _ e => ?_, fun _ _ p hp => f.tup g hp (r1.append r2) t.2⟩))
    · have q := r1.nil_iff.mp e
      subst q
      exact f.now g (d := .tup ([] ++ _)) ⟨b, us, rfl, h2, r2⟩ t.2
    · have q := r2.nil_iff.mp e
      subst q
      refine f.now g (d := .tup (_ ++ [])) ⟨a, vs, rfl, h1, ?_⟩ t.2
      rw [List.append_nil]
      exact r1
  · exact t.elim
theorem od_sub : OpD K (rI0 fun i j => .int (i - j)) dSub := by
  intro w H x y dx dy P Q g rx ry t f
  unfold dSub at t
  split at t
  · exact ⟨_, _, rx, ry, f.int g t⟩
  · exact t.elim
theorem od_mul : OpD K (rI CMul fun i j => .int (i * j)) dMul := by
  intro w H x y dx dy P Q g rx ry t f
  unfold dMul at t
  split at t
  · exact ⟨_, _, rx, ry, t.1, f.int g t.2⟩
  · exact t.elim
theorem od_mod : OpD K (rI (fun _ j => 0 < j) fun i j => .int (i % j)) dMod := by
  intro w H x y dx dy P Q g rx ry t f
  unfold dMod at t
  split at t
  · exact ⟨_, _, rx, ry, t.1, f.int g t.2⟩
  · exact t.elim
theorem od_fdiv : OpD K (rI CDiv fun i j => .int (i / j)) dFdiv := by
  intro w H x y dx dy P Q g rx ry t f
  unfold dFdiv at t
  split at t
  · exact ⟨_, _, rx, ry, t.1, f.int g t.2⟩
  · exact t.elim
theorem od_pow : OpD K (rI CPow fun i j => .int (i ^ j.toNat)) dPow := by
  intro w H x y dx dy P Q g rx ry t f
  unfold dPow at t
  split at t
  · exact ⟨_, _, rx, ry, t.1, f.int g t.2⟩
  · exact t.elim
theorem od_eq : OpD K (rEqD K) dEq := by
  intro w H x y dx dy P Q g rx ry t f
  unfold dEq at t
  split at t
  · rename_i p q hp hq
    exact ⟨p, q, dp_of _ _ _ rx hp, dp_of _ _ _ ry hq, t.1.1, t.1.2, f.bl g t.2⟩
  · exact t.elim
theorem od_ne : OpD K (rNeD K) dNe := by
  intro w H x y dx dy P Q g rx ry t f
  unfold dNe at t
  split at t
  · rename_i p q hp hq
    exact ⟨p, q, dp_of _ _ _ rx hp, dp_of _ _ _ ry hq, t.1.1, t.1.2, f.bl g t.2⟩
  · exact t.elim
def rOrd (g : Int → Int → V) (h : Str → Str → V) : R2 := fun x y H Q => rI0 g x y H Q ∨ ∃ i j, x = .str i ∧ y = .str j ∧ Q (h i j) H
theorem op_ltA : OpR X (compareOp .Lt) (rOrd (fun i j => .bl (decide (i < j))) fun i j => .bl (decide (i.cps.toList < j.cps.toList))) := OpR.or op_lt op_lt_str
theorem op_leA : OpR X (compareOp .LtE) (rOrd (fun i j => .bl (decide (i ≤ j))) fun i j => .bl (!decide (j.cps.toList < i.cps.toList))) := OpR.or op_le op_le_str
theorem op_gtA : OpR X (compareOp .Gt) (rOrd (fun i j => .bl (decide (j < i))) fun i j => .bl (decide (j.cps.toList < i.cps.toList))) := OpR.or op_gt op_gt_str
theorem op_geA : OpR X (compareOp .GtE) (rOrd (fun i j => .bl (decide (j ≤ i))) fun i j => .bl (!decide (i.cps.toList < j.cps.toList))) := OpR.or op_ge op_ge_str
theorem od_lt : OpD K (rOrd (fun i j => .bl (decide (i < j))) fun i j => .bl (decide (i.cps.toList < j.cps.toList))) dLt := by
  intro w H x y dx dy P Q g rx ry t f
  unfold dLt at t
  split at t
  · exact .inl ⟨_, _, rx, ry, f.bl g t⟩
  · exact .inr ⟨_, _, rx, ry, f.bl g t⟩
  · exact t.elim
theorem od_le : OpD K (rOrd (fun i j => .bl (decide (i ≤ j))) fun i j => .bl (!decide (j.cps.toList < i.cps.toList))) dLe := by
  intro w H x y dx dy P Q g rx ry t f
  unfold dLe at t
  split at t
  · exact .inl ⟨_, _, rx, ry, f.bl g t⟩
  · exact .inr ⟨_, _, rx, ry, f.bl g t⟩
  · exact t.elim
theorem od_gt : OpD K (rOrd (fun i j => .bl (decide (j < i))) fun i j => .bl (decide (j.cps.toList < i.cps.toList))) dGt := by
  intro w H x y dx dy P Q g rx ry t f
  unfold dGt at t
  split at t
  · exact .inl ⟨_, _, rx, ry, f.bl g t⟩
  · exact .inr ⟨_, _, rx, ry, f.bl g t⟩
  · exact t.elim
theorem od_ge : OpD K (rOrd (fun i j => .bl (decide (j ≤ i))) fun i j => .bl (!decide (i.cps.toList < j.cps.toList))) dGe := by
  intro w H x y dx dy P Q g rx ry t f
  unfold dGe at t
  split at t
  · exact .inl ⟨_, _, rx, ry, f.bl g t⟩
  · exact .inr ⟨_, _, rx, ry, f.bl g t⟩
  · exact t.elim
theorem od_is : OpD K (fun x y H Q => y = .non ∧ Q (.bl (decide (x = .non))) H) dIs := by
  intro w H x y dx dy P Q g rx ry t f
  unfold dIs at t
  split at t
  · exact ⟨ry, by rw [rx.isNon]; exact f.bl g t⟩
  · exact t.elim
theorem od_isnot : OpD K (fun x y H Q => y = .non ∧ Q (.bl (!decide (x = .non))) H) dIsNot := by
  intro w H x y dx dy P Q g rx ry t f
  unfold dIsNot at t
  split at t
  · exact ⟨ry, by rw [rx.isNon]; exact f.bl g t⟩
  · exact t.elim

/-! in -/
def rInA (K : PySem.W.Frag) (neg : Bool) : R2 := fun x y H Q => (∃ (c : Nat) (z : Str), x = .str ⟨#[c]⟩ ∧ y = .str z ∧ Q (.bl (neg ^^ decide (c ∈ z.cps.toList))) H) ∨
  ∃ d ds, Dp K H x d ∧ ((Dp K H y (.list ds) ∧ SeqAt.shaped (.list ds) = true) ∨ (Dp K H y (.tuple ds) ∧ SeqAt.shaped (.tuple ds) = true)) ∧ SeqAt.shaped d = true ∧ Q (.bl (neg ^^ ds.any fun z => PyData.eqv z d)) H
theorem op_inTup (hu : X.A.units + 65 < cLine) : OpR X (compareOp .In) (fun x y H Q => ∃ d ds, Dp X.K H x d ∧ Dp X.K H y (.tuple ds) ∧ SeqAt.shaped d = true ∧ SeqAt.shaped (.tuple ds) = true ∧ Q (.bl (ds.any fun z => PyData.eqv z d)) H) := by
  intro pins s σ H x y v u Q I rx ry h
  obtain ⟨d, ds, hd, he, sd, se, q⟩ := h
  obtain ⟨as, r1⟩ := Dp.reads I d x v hd rx
  obtain ⟨bs, r2⟩ := Dp.reads I (.tuple ds) y u he ry
  exact SeqAt.in_tuple_reads r2 r1 (SeqAt.canLay_of_shaped se) (SeqAt.canLay_of_shaped sd) (PyProof.Rows.room_in_shaped sd hu) ⟨.bl _, H, I, rfl, q⟩
theorem op_notInTup (hu : X.A.units + 65 < cLine) : OpR X (compareOp .NotIn) (fun x y H Q => ∃ d ds, Dp X.K H x d ∧ Dp X.K H y (.tuple ds) ∧ SeqAt.shaped d = true ∧ SeqAt.shaped (.tuple ds) = true ∧ Q (.bl (!ds.any fun z => PyData.eqv z d)) H) := by
  intro pins s σ H x y v u Q I rx ry h
  obtain ⟨d, ds, hd, he, sd, se, q⟩ := h
  obtain ⟨as, r1⟩ := Dp.reads I d x v hd rx
  obtain ⟨bs, r2⟩ := Dp.reads I (.tuple ds) y u he ry
  exact SeqAt.notIn_tuple_reads r2 r1 (SeqAt.canLay_of_shaped se) (SeqAt.canLay_of_shaped sd) (PyProof.Rows.room_in_shaped sd hu) ⟨.bl _, H, I, rfl, q⟩
theorem op_inA (hu : X.A.units + 65 < cLine) : OpR X (compareOp .In) (rInA X.K false) := by
  intro pins s σ H x y v u Q I rx ry h
  rcases h with ⟨c, z, h1, h2, q⟩ | ⟨d, ds, h1, h2 | h2, h3, q⟩
  · exact op_in_sign pins s σ H x y v u Q I rx ry ⟨c, z, h1, h2, by simpa using q⟩
  · exact op_inD hu pins s σ H x y v u Q I rx ry ⟨d, ds, h1, h2.1, h3, h2.2, by simpa using q⟩
  · exact op_inTup hu pins s σ H x y v u Q I rx ry ⟨d, ds, h1, h2.1, h3, h2.2, by simpa using q⟩
theorem op_notInA (hu : X.A.units + 65 < cLine) : OpR X (compareOp .NotIn) (rInA X.K true) := by
  intro pins s σ H x y v u Q I rx ry h
  rcases h with ⟨c, z, h1, h2, q⟩ | ⟨d, ds, h1, h2 | h2, h3, q⟩
  · exact op_notIn_sign pins s σ H x y v u Q I rx ry ⟨c, z, h1, h2, by simpa using q⟩
  · exact op_notInD hu pins s σ H x y v u Q I rx ry ⟨d, ds, h1, h2.1, h3, h2.2, by simpa using q⟩
  · exact op_notInTup hu pins s σ H x y v u Q I rx ry ⟨d, ds, h1, h2.1, h3, h2.2, by simpa using q⟩
theorem od_inA {neg : Bool} {w : Wo} {H : Hp} {x y : V} {dx dy : D} {P : KD} {Q : VK} (g : Gd K w H) (rx : Rp K w H dx x) (ry : Rp K w H dy y) (t : dIn dx dy w.mu P) (f : ∀ b, P (.bl b) w.mu → Q (.bl (neg ^^ b)) H) : rInA K neg x y H Q := by
  unfold dIn at t
  split at t
  · obtain ⟨⟨n, e⟩, t⟩ := t
    subst e
    refine .inl ⟨n, _, rx, ry, ?_⟩
    have := f _ t
    simpa using this
  · split at t
    · rename_i d ds h1 h2
      refine .inr ⟨d, ds, dp_of _ _ _ rx h1, .inl ⟨dp_of _ _ _ ry (by unfold toPy; rw [h2]), t.1.2⟩, t.1.1, f _ t.2⟩
    · exact t.elim
  · split at t
    · rename_i d ds h1 h2
      refine .inr ⟨d, ds, dp_of _ _ _ rx h1, .inr ⟨dp_of _ _ _ ry (by unfold toPy; rw [h2]), t.1.2⟩, t.1.1, f _ t.2⟩
    · exact t.elim
  · exact t.elim
theorem od_in : OpD K (rInA K false) dIn := fun w H x y dx dy P Q g rx ry t f => od_inA g rx ry t fun b p => by simpa using f.now g (show Rp K w H (.bl b) (.bl b) from rfl) p
theorem od_notin : OpD K (rInA K true) dNotIn := fun w H x y dx dy P Q g rx ry t f => od_inA g rx ry t fun b p => by simpa using f.now g (show Rp K w H (.bl (!b)) (.bl (!b)) from rfl) p
end
end Tr
set_option Elab.async false
set_option linter.all false
set_option maxRecDepth 100000
namespace Tr
open PySem PySem.Spec PyProof.Rows L2

/-! ### isinstance of data -/
def tyN : D → Option String
  | .non => some "NoneType"
  | .bl _ => some "bool"
  | .int _ => some "int"
  | .str _ => some "str"
  | .lst _ => some "list"
  | .tup _ => some "tuple"
  | _ => none
def kinds : List String := ["NoneType", "bool", "int", "str", "list", "tuple"]
def clss : List String := ["bool", "int", "str", "list", "tuple", "dict"]
def isTy (t n : String) : Bool := t == n || (t == "bool" && n == "int")
theorem kitB_isTy : ∀ t, t ∈ kinds → ∀ n, n ∈ clss → kitB t n = some (isTy t n) := by decide +kernel
theorem tyN_kind {d : D} {t : String} (h : tyN d = some t) : t ∈ kinds := by
  cases d <;> cases h <;> decide
theorem tyX_of {K : PySem.W.Frag} {w : Wo} {H : Hp} {d : D} {v : V} {t : String} (r : Rp K w H d v) (h : tyN d = some t) : TyX K H v (.type t) := by
  cases d <;> cases h
  case non => rw [show v = _ from r]; exact .base .non
  case bl b => rw [show v = _ from r]; exact .base (.bl b)
  case int b => rw [show v = _ from r]; exact .base (.int b)
  case str b => rw [show v = _ from r]; exact .base (.str b)
  case lst xs => obtain ⟨a, vs, e, h1, _⟩ := r; rw [e]; exact .base (.lst h1.2)
  case tup xs =>
    obtain ⟨a, vs, e, h1, _⟩ := r
    rw [e]
    rcases h1 with ⟨_, h1⟩ | ⟨o, its, n, hk, hc, _⟩
    · exact .base (.tup h1)
    · exact .kTuple hk hc
def tyNs : List D → Option (List String)
  | [] => some []
  | .ty n :: ds => match tyNs ds with
    | some ns => some (n :: ns)
    | none => none
  | _ :: _ => none
def dIsi : RAD := fun ds μ P => match ds with
  | [x, .ty n] => match tyN x with
    | some t => n ∈ clss ∧ P (.bl (isTy t n)) μ
    | none => False
  | [x, .tup cs] => match tyN x, tyNs cs with
    | some t, some ns => (∀ n, n ∈ ns → n ∈ clss) ∧ P (.bl (ns.any (isTy t))) μ
    | _, _ => False
  | _ => False
section
variable {X : Cx} {K : PySem.W.Frag}
theorem tyNs_cls {w : Wo} {H : Hp} : ∀ {cs : List D} {vs : List V} {ns : List String}, RpAll K w H cs vs → tyNs cs = some ns → Paired ClsV vs (ns.map Value.type)
  | [], _, _, h, e => by rw [show _ = [] from h]; cases e; exact .nil
  | .ty n :: ds, _, _, ⟨v, r, h1, h2, h3⟩, e => by
    subst h1
    unfold tyNs at e
    cases q : tyNs ds with
    | none => rw [q] at e; cases e
    | some ns => rw [q] at e; cases e; rw [show v = _ from h2]; exact .cons (.ty n) (tyNs_cls h3 q)
  | .non :: _, _, _, _, e => by cases e
  | .bl _ :: _, _, _, _, e => by cases e
  | .int _ :: _, _, _, _, e => by cases e
  | .str _ :: _, _, _, _, e => by cases e
  | .lst _ :: _, _, _, _, e => by cases e
  | .fz _ :: _, _, _, _, e => by cases e
  | .tup _ :: _, _, _, _, e => by cases e
  | .dT _ _ :: _, _, _, _, e => by cases e
  | .dK _ _ :: _, _, _, _, e => by cases e
  | .ins _ _ _ :: _, _, _, _, e => by cases e
  | .loc _ :: _, _, _, _, e => by cases e
  | .ref _ :: _, _, _, _, e => by cases e
theorem kitAny_isTy {t : String} (ht : t ∈ kinds) : ∀ {ns : List String}, (∀ n, n ∈ ns → n ∈ clss) → PySem.W.kitAny K (.type t) (ns.map Value.type) = some (ns.any (isTy t))
  | [], _ => by first | rfl | simp [PySem.W.kitAny]
  | n :: ns, h => by
    have h1 : PySem.W.kitOne K (.type t) (.type n) = some (isTy t n) := kit_ty (kitB_isTy t ht n (h n List.mem_cons_self))
    refine kitAny_cons h1 (fun hb => ?_) (fun hb => ?_)
    · rw [kitAny_isTy ht fun m hm => h m (List.mem_cons_of_mem _ hm)]
      simp [hb]
    · simp [hb]
theorem rpAll2 {w : Wo} {H : Hp} {a b : D} {vs : List V} (h : RpAll K w H [a, b] vs) : ∃ x y, vs = [x, y] ∧ Rp K w H a x ∧ Rp K w H b y := by
  obtain ⟨x, r, e, h1, y, r2, e2, h2, h3⟩ := h
  rw [show r2 = [] from h3] at e2
  exact ⟨x, y, by rw [e, e2], h1, h2⟩
theorem rpAll1 {w : Wo} {H : Hp} {a : D} {vs : List V} (h : RpAll K w H [a] vs) : ∃ x, vs = [x] ∧ Rp K w H a x := by
  obtain ⟨x, r, e, h1, h3⟩ := h
  rw [show r = [] from h3] at e
  exact ⟨x, e, h1⟩
def rIsiA (K : PySem.W.Frag) : List V → Hp → VK → Prop := fun xs H Q => rIsi K xs H Q ∨ rIsiT K xs H Q ∨ rIsiK K xs H Q
theorem call_isiA : CallR X (.builtin "isinstance") (rIsiA X.K) := CallR.or call_isi (CallR.or call_isiT call_isiK)
theorem cls_all {vs : List V} {ns : List String} {us : List Value} (h : Paired ClsV vs (ns.map Value.type)) (r : Vals vs us) : us = ns.map Value.type := ClsV.all h r
theorem cd_isi : CallD K (rIsiA K) dIsi := by
  intro w H vs ds P Q g r t f
  unfold dIsi at t
  split at t
  · obtain ⟨x, y, rfl, h1, h2⟩ := rpAll2 r
    split at t
    · rename_i tt ht
      rw [show y = _ from h2]
      exact .inl ⟨x, _, _, _, _, rfl, .ty _, tyX_of h1 ht, kit_ty (kitB_isTy _ (tyN_kind ht) _ t.1), f.bl g t.2⟩
    · exact t.elim
  · obtain ⟨x, y, rfl, h1, h2⟩ := rpAll2 r
    split at t
    · rename_i tt ns ht hn
      obtain ⟨a, us, e, h3, h4⟩ := h2
      subst e
      rcases h3 with ⟨_, h3⟩ | ⟨o, its, n, hk, hc, hd, hz, hv⟩
      · exact .inr (.inl ⟨x, a, us, _, _, _, rfl, h3, tyNs_cls h4 hn, tyX_of h1 ht, kitAny_isTy (tyN_kind ht) t.1, f.bl g t.2⟩)
      · refine .inr (.inr ⟨x, a, o.dict, ns.map Value.type, n, o.slots, _, _, rfl, ?_, tyX_of h1 ht, kitAny_isTy (tyN_kind ht) t.1, f.bl g t.2⟩)
        have e := cls_all (tyNs_cls h4 hn) hv
        obtain ⟨oc, od, dt, sl⟩ := o
        simp only at hc hd
        subst hc hd
        rw [hk, ← e]
    · exact t.elim
  · exact t.elim

/-! ### len, all, any, int, str, bool, tuple, list, abs, min, max -/
def dLen : RAD := fun ds μ P => match ds with
  | [.str x] => x.length ≤ sizeLine ∧ P (.int x.length) μ
  | [.lst xs] => P (.int xs.length) μ
  | [.fz xs] => P (.int xs.length) μ
  | [.tup xs] => P (.int xs.length) μ
  | [.loc n] => match μ[n]? with
    | some (some (.lst xs)) => P (.int xs.length) μ
    | _ => False
  | _ => False
theorem Gd.at {w : Wo} {H : Hp} {n : Nat} {v : V} {c : Cell} (g : Gd K w H) (r : Rp K w H (.loc n) v) (e : w.mu[n]? = some (some c)) : ∃ a, v = .ref a ∧ w.am[n]? = some a ∧ CellR K w H a c := by
  obtain ⟨a, e1, e2⟩ := r
  exact ⟨a, e1, e2, g.cell n a c e2 e⟩
theorem cd_len : CallD K (fun xs H Q => ∃ x n, xs = [x] ∧ LenV K x H n ∧ Q (.int n) H) dLen := by
  intro w H vs ds P Q g r t f
  unfold dLen at t
  split at t
  · obtain ⟨x, rfl, h⟩ := rpAll1 r
    rw [show x = _ from h]
    exact ⟨_, _, rfl, ⟨t.1, rfl⟩, f.int g t.2⟩
  · obtain ⟨x, rfl, a, us, e, h1, h2⟩ := rpAll1 r
    subst e
    exact ⟨_, _, rfl, .inl ⟨us, h1.sq, h2.length.symm⟩, f.int g t⟩
  · obtain ⟨x, rfl, a, us, e, h1, h3⟩ := rpAll1 r
    subst e
    exact ⟨_, _, rfl, .inl ⟨us, h1.sq, h3.length.symm⟩, f.int g t⟩
  · obtain ⟨x, rfl, a, us, e, h1, h2⟩ := rpAll1 r
    subst e
    exact ⟨_, _, rfl, .inr ⟨us, h1.sq, h2.length.symm⟩, f.int g t⟩
  · split at t
    · rename_i hm
      obtain ⟨x, rfl, h⟩ := rpAll1 r
      obtain ⟨a, e, _, us, h1, h2⟩ := g.at h hm
      subst e
      exact ⟨_, _, rfl, .inl ⟨us, SqL.of h1, h2.length.symm⟩, f.int g t⟩
    · exact t.elim
  · exact t.elim
def boolsOf : List D → Option (List Bool)
  | [] => some []
  | .bl b :: ds => match boolsOf ds with
    | some bs => some (b :: bs)
    | none => none
  | _ :: _ => none
theorem boolsOf_rp {w : Wo} {H : Hp} : ∀ {ds : List D} {vs : List V} {bs : List Bool}, RpAll K w H ds vs → boolsOf ds = some bs → vs = bs.map V.bl
  | [], _, _, h, e => by cases e; exact h
  | .bl n :: ds, _, _, ⟨v, r, h1, h2, h3⟩, e => by
    unfold boolsOf at e
    cases q : boolsOf ds with
    | none => rw [q] at e; cases e
    | some ns => rw [q] at e; cases e; rw [h1, show v = _ from h2, boolsOf_rp h3 q]; rfl
  | .non :: _, _, _, _, e => by cases e
  | .ty _ :: _, _, _, _, e => by cases e
  | .int _ :: _, _, _, _, e => by cases e
  | .str _ :: _, _, _, _, e => by cases e
  | .lst _ :: _, _, _, _, e => by cases e
  | .fz _ :: _, _, _, _, e => by cases e
  | .tup _ :: _, _, _, _, e => by cases e
  | .dT _ _ :: _, _, _, _, e => by cases e
  | .dK _ _ :: _, _, _, _, e => by cases e
  | .ins _ _ _ :: _, _, _, _, e => by cases e
  | .loc _ :: _, _, _, _, e => by cases e
  | .ref _ :: _, _, _, _, e => by cases e
def dAll : RAD := fun ds μ P => match ds with
  | [.lst xs] => match boolsOf xs with
    | some bs => P (.bl (bs.all id)) μ
    | none => False
  | _ => False
def dAny : RAD := fun ds μ P => match ds with
  | [.lst xs] => match boolsOf xs with
    | some bs => P (.bl (bs.any id)) μ
    | none => False
  | _ => False
theorem cd_all : CallD K (rAll K) dAll := by
  intro w H vs ds P Q g r t f
  unfold dAll at t
  split at t
  · split at t
    · rename_i hb
      obtain ⟨x, rfl, a, us, e, h1, h2⟩ := rpAll1 r
      subst e
      exact ⟨a, _, rfl, by rw [← boolsOf_rp h2 hb]; exact h1.sq, f.bl g t⟩
    · exact t.elim
  · exact t.elim
theorem cd_any : CallD K (rAny K) dAny := by
  intro w H vs ds P Q g r t f
  unfold dAny at t
  split at t
  · split at t
    · rename_i hb
      obtain ⟨x, rfl, a, us, e, h1, h2⟩ := rpAll1 r
      subst e
      exact ⟨a, _, rfl, by rw [← boolsOf_rp h2 hb]; exact h1.sq, f.bl g t⟩
    · exact t.elim
  · exact t.elim
def dIntOf : RAD := fun ds μ P => match ds with
  | [.int i] => P (.int i) μ
  | [.bl k] => P (.int (if k then 1 else 0)) μ
  | [.str a] => ∃ n, (PySem.intText? a = some n ∧ a.length ≤ 640) ∧ P (.int n) μ
  | _ => False
def rIntOf : List V → Hp → VK → Prop := fun xs H Q => ((∃ i, xs = [.int i] ∧ Q (.int i) H) ∨ ∃ k, xs = [.bl k] ∧ Q (.int (if k then 1 else 0)) H) ∨ ∃ a n, xs = [.str a] ∧ PySem.intText? a = some n ∧ a.length ≤ 640 ∧ Q (.int n) H
theorem call_intA : CallR X (.type "int") rIntOf := CallR.or call_int1 call_int_str
theorem cd_int : CallD K rIntOf dIntOf := by
  intro w H vs ds P Q g r t f
  unfold dIntOf at t
  split at t
  · obtain ⟨x, rfl, h⟩ := rpAll1 r
    rw [show x = _ from h]
    exact .inl (.inl ⟨_, rfl, f.int g t⟩)
  · obtain ⟨x, rfl, h⟩ := rpAll1 r
    rw [show x = _ from h]
    exact .inl (.inr ⟨_, rfl, f.int g t⟩)
  · obtain ⟨x, rfl, h⟩ := rpAll1 r
    rw [show x = _ from h]
    obtain ⟨n, ⟨h1, h2⟩, t⟩ := t
    exact .inr ⟨_, n, rfl, h1, h2, f.int g t⟩
  · exact t.elim
def dStrOf : RAD := fun ds μ P => match ds with
  | [.int i] => i.natAbs.log2 < 1920 ∧ P (.str (toString i)) μ
  | _ => False
theorem cd_str : CallD K (fun xs H Q => ∃ i : Int, xs = [.int i] ∧ i.natAbs.log2 < 1920 ∧ Q (.str (toString i)) H) dStrOf := by
  intro w H vs ds P Q g r t f
  unfold dStrOf at t
  split at t
  · obtain ⟨x, rfl, h⟩ := rpAll1 r
    rw [show x = _ from h]
    exact ⟨_, rfl, t.1, f.st g t.2⟩
  · exact t.elim
def dTupOf : RAD := fun ds μ P => match ds with
  | [.lst xs] => P (.tup xs) μ
  | [.fz xs] => P (.tup xs) μ
  | [.tup xs] => P (.tup xs) μ
  | [.loc n] => match μ[n]? with
    | some (some (.lst xs)) => P (.tup xs) μ
    | _ => False
  | _ => False
def dLstOf : RAD := fun ds μ P => match ds with
  | [.lst xs] => P (.lst xs) μ
  | [.fz xs] => P (.lst xs) μ
  | [.tup xs] => P (.lst xs) μ
  | [.loc n] => match μ[n]? with
    | some (some (.lst xs)) => P (.lst xs) μ
    | _ => False
  | _ => False
theorem cd_tup : CallD K (fun xs H Q => ∃ p ys, xs = [.ref p] ∧ ((SqL K H p ys ∧ ∀ l, H l = none → Q (.ref l) (upd H l (.tup ys))) ∨ (SqT K H p ys ∧ Q (.ref p) H))) dTupOf := by
  intro w H vs ds P Q g r t f
  unfold dTupOf at t
  split at t
  · obtain ⟨x, rfl, a, us, e, h1, h2⟩ := rpAll1 r
    subst e
    exact ⟨a, us, rfl, .inl ⟨h1.sq, fun l hl => f.tup g hl h2 t⟩⟩
  · obtain ⟨x, rfl, a, us, e, h1, h3⟩ := rpAll1 r
    subst e
    exact ⟨a, us, rfl, .inl ⟨h1.sq, fun l hl => f.tup g hl h3 t⟩⟩
  · obtain ⟨x, rfl, a, us, e, h1, h2⟩ := rpAll1 r
    subst e
    exact ⟨a, us, rfl, .inr ⟨h1.sq, f.now g (d := .tup _) ⟨a, us, rfl, h1, h2⟩ t⟩⟩
  · split at t
    · rename_i hm
      obtain ⟨x, rfl, h⟩ := rpAll1 r
      obtain ⟨a, e, _, us, h1, h2⟩ := g.at h hm
      subst e
      exact ⟨a, us, rfl, .inl ⟨SqL.of h1, fun l hl => f.tup g hl h2 t⟩⟩
    · exact t.elim
  · exact t.elim
theorem cd_lst : CallD K (fun xs H Q => ∃ p ys, xs = [.ref p] ∧ (SqL K H p ys ∨ SqT K H p ys) ∧ ∀ l, H l = none → Q (.ref l) (upd H l (.lst ys))) dLstOf := by
  intro w H vs ds P Q g r t f
  unfold dLstOf at t
  split at t
  · obtain ⟨x, rfl, a, us, e, h1, h2⟩ := rpAll1 r
    subst e
    exact ⟨a, us, rfl, .inl h1.sq, fun l hl => f.lst g hl h2 t⟩
  · obtain ⟨x, rfl, a, us, e, h1, h3⟩ := rpAll1 r
    subst e
    exact ⟨a, us, rfl, .inl h1.sq, fun l hl => f.lst g hl h3 t⟩
  · obtain ⟨x, rfl, a, us, e, h1, h2⟩ := rpAll1 r
    subst e
    exact ⟨a, us, rfl, .inr h1.sq, fun l hl => f.lst g hl h2 t⟩
  · split at t
    · rename_i hm
      obtain ⟨x, rfl, h⟩ := rpAll1 r
      obtain ⟨a, e, _, us, h1, h2⟩ := g.at h hm
      subst e
      exact ⟨a, us, rfl, .inl (SqL.of h1), fun l hl => f.lst g hl h2 t⟩
    · exact t.elim
  · exact t.elim

/-! ### items, slices -/
def dIx : R2D := fun x y μ P => match x, y with
  | .lst xs, .int i => match atI xs i with
    | some d => P d μ
    | none => False
  | .tup xs, .int i => match atI xs i with
    | some d => P d μ
    | none => False
  | .str z, .int i => match atI z.cps.toList i with
    | some c => z.length ≤ sizeLine ∧ P (.str ⟨#[c]⟩) μ
    | none => False
  | .loc n, .int i => match μ[n]? with
    | some (some (.lst xs)) => match atI xs i with
      | some d => P d μ
      | none => False
    | _ => False
  | _, _ => False
theorem atI_rp {w : Wo} {H : Hp} {ds : List D} {vs : List V} {i : Int} {d : D} (r : RpAll K w H ds vs) (h : atI ds i = some d) : ∃ v, atI vs i = some v ∧ Rp K w H d v := by
  unfold atI at h ⊢
  rw [r.length]
  cases q : ixN ds.length i with
  | none => rw [q] at h; cases h
  | some j =>
    rw [q] at h
    exact r.get' h
theorem od_ix : OpD K (rIx K) dIx := by
  intro w H x y dx dy P Q g rx ry t f
  unfold dIx at t
  split at t
  · split at t
    · rename_i hd
      obtain ⟨a, us, e, h1, h2⟩ := rx
      obtain ⟨v, h3, h4⟩ := atI_rp h2 hd
      exact .inl ⟨a, us, _, v, e, ry, h1.sq, h3, f.now g h4 t⟩
    · exact t.elim
  · split at t
    · rename_i hd
      obtain ⟨a, us, e, h1, h2⟩ := rx
      obtain ⟨v, h3, h4⟩ := atI_rp h2 hd
      exact .inr (.inl ⟨a, us, _, v, e, ry, h1.sq, h3, f.now g h4 t⟩)
    · exact t.elim
  · split at t
    · rename_i hd
      exact .inr (.inr ⟨_, _, _, rx, ry, t.1, hd, f.st g t.2⟩)
    · exact t.elim
  · split at t
    · rename_i hm
      split at t
      · rename_i hd
        obtain ⟨a, e, _, us, h1, h2⟩ := g.at rx hm
        obtain ⟨v, h3, h4⟩ := atI_rp h2 hd
        exact .inl ⟨a, us, _, v, e, ry, SqL.of h1, h3, f.now g h4 t⟩
      · exact t.elim
    · exact t.elim
  · exact t.elim
theorem te_ix {a b : Expr} {ta tb : ET} {pos : Pos} (ha : PE X a (LE X.K ta)) (hb : PE X b (LE X.K tb)) (hs : PlainIx b) : PE X (.Subscript a b pos) (LE X.K (eOp dIx ta tb)) := te_of (pe_ix ix_seq ha hb hs) (lift_op od_ix)
def cutD (xs : List D) (lo hi : Option Int) : List D := (xs.drop (HT.sIx xs.length 0 lo)).take (HT.sIx xs.length xs.length hi - HT.sIx xs.length 0 lo)
theorem cut_rp {w : Wo} {H : Hp} {ds : List D} {vs : List V} {lo hi : Option Int} (r : RpAll K w H ds vs) : RpAll K w H (cutD ds lo hi) (cutV vs lo hi) := by
  unfold cutD cutV
  rw [r.length]
  exact (r.drop _).take _
theorem cut_all {xs : List D} {lo hi : Option Int} (h : HT.sIx xs.length 0 lo = 0 ∧ HT.sIx xs.length xs.length hi = xs.length) : cutD xs lo hi = xs := by
  unfold cutD
  rw [h.1, h.2]
  simp
abbrev OT := Env → Mu → (Option Int → Mu → Prop) → Prop
def oNo : OT := fun _ μ P => P none μ
def oYes (t : ET) : OT := fun ρ μ P => t ρ μ fun d μ1 => match d with
  | .int i => P (some i) μ1
  | _ => False
def LO (K : PySem.W.Frag) (t : OT) : TO := fun σ H Q => ∃ w ρ P, Gd K w H ∧ EnvR K w H ρ σ ∧ t ρ w.mu P ∧ ∀ o w' H', Ev w H w' H' → Gd K w' H' → P o w'.mu → Q o H'
theorem to_no : PO X none (LO X.K oNo) := ⟨fun pins s σ H Q I ⟨w, ρ, P, g, er, t, f⟩ => po_none.run pins s σ H Q I (f none w H Ev.refl g t)⟩
theorem to_yes {e : Expr} {t : ET} (h : PE X e (LE X.K t)) : PO X (some e) (LO X.K (oYes t)) := ⟨fun pins s σ H Q I ⟨w, ρ, P, g, er, t, f⟩ => (po_some h).run pins s σ H Q I ⟨w, ρ, _, g, er, t, fun d v w1 H1 e1 g1 r1 t1 => by
  cases d with
  | int i => exact ⟨i, r1, f (some i) w1 H1 e1 g1 t1⟩
  | _ => exact t1.elim⟩⟩
def dSl (x : D) (lo hi : Option Int) : Mu → KD → Prop := fun μ P => match x with
  | .lst xs => P (.lst (cutD xs lo hi)) μ
  | .fz xs => P (.lst (cutD xs lo hi)) μ
  | .tup xs => P (.tup (cutD xs lo hi)) μ
  | .str z => z.length ≤ sizeLine ∧ P (.str (cutS z lo hi)) μ
  | .loc n => match μ[n]? with
    | some (some (.lst xs)) => P (.lst (cutD xs lo hi)) μ
    | _ => False
  | _ => False
def eSl (t : ET) (l u : OT) : ET := fun ρ μ P => t ρ μ fun d μ1 => l ρ μ1 fun lo μ2 => u ρ μ2 fun hi μ3 => dSl d lo hi μ3 P
def rSlAll (K : PySem.W.Frag) : V → Option Int → Option Int → Hp → VK → Prop := fun x lo hi H Q => rSlL K x lo hi H Q ∨ rSlA K x lo hi H Q ∨ rSlS x lo hi H Q
theorem sl_all : SlR X (rSlAll X.K) := SlR.or sl_list (SlR.or sl_tupA sl_str)
theorem te_sl {e : Expr} {t : ET} {l u : OT} {lo hi : Option Expr} {p2 pos : Pos} (he : PE X e (LE X.K t)) (hl : PO X lo (LO X.K l)) (hu : PO X hi (LO X.K u)) : PE X (.Subscript e (.Slice lo hi none p2) pos) (LE X.K (eSl t l u)) :=
  te_of (pe_slice sl_all he hl hu) fun σ H Q ⟨w, ρ, P, g, er, t, f⟩ => ⟨w, ρ, _, g, er, t, fun d v w1 H1 e1 g1 r1 t1 => ⟨w1, ρ, _, g1, er.mono e1.toKp, t1, fun lo w2 H2 e2 g2 t2 =>
    ⟨w2, ρ, _, g2, er.mono (e1.trans e2).toKp, t2, fun hi w3 H3 e3 g3 t3 => by
      have r3 := Rp.mono (e2.trans e3).toKp _ _ r1
      have f3 := f.mono ((e1.trans e2).trans e3)
      unfold dSl at t3
      split at t3
      · obtain ⟨a, us, e, h1, h2⟩ := r3
        exact .inl ⟨a, us, e, h1.sq, fun p hp => f3.lst g3 hp (cut_rp h2) t3⟩
      · obtain ⟨a, us, e, h1, h4⟩ := r3
        exact .inl ⟨a, us, e, h1.sq, fun p hp => f3.lst g3 hp (cut_rp h4) t3⟩
      · obtain ⟨a, us, e, h1, h2⟩ := r3
        refine .inr (.inl ⟨a, us, e, h1.sq, fun z => ?_, fun _ p hp => f3.tup g3 hp (cut_rp h2) t3⟩)
        rw [h2.length] at z
        rw [cut_all z] at t3
        exact f3.now g3 (d := .tup _) ⟨a, us, rfl, h1, h2⟩ t3
      · exact .inr (.inr ⟨_, r3, t3.1, f3.st g3 t3.2⟩)
      · split at t3
        · rename_i hm
          obtain ⟨a, e, _, us, h1, h2⟩ := g3.at r3 hm
          exact .inl ⟨a, us, e, SqL.of h1, fun p hp => f3.lst g3 hp (cut_rp h2) t3⟩
        · exact t3.elim
      · exact t3.elim⟩⟩⟩

/-! ### join -/
def strsOf : List D → Option (List Str)
  | [] => some []
  | .str b :: ds => match strsOf ds with
    | some bs => some (b :: bs)
    | none => none
  | _ :: _ => none
theorem strsOf_rp {w : Wo} {H : Hp} : ∀ {ds : List D} {vs : List V} {bs : List Str}, RpAll K w H ds vs → strsOf ds = some bs → vs = bs.map V.str
  | [], _, _, h, e => by cases e; exact h
  | .str n :: ds, _, _, ⟨v, r, h1, h2, h3⟩, e => by
    unfold strsOf at e
    cases q : strsOf ds with
    | none => rw [q] at e; cases e
    | some ns => rw [q] at e; cases e; rw [h1, show v = _ from h2, strsOf_rp h3 q]; rfl
  | .non :: _, _, _, _, e => by cases e
  | .ty _ :: _, _, _, _, e => by cases e
  | .int _ :: _, _, _, _, e => by cases e
  | .bl _ :: _, _, _, _, e => by cases e
  | .lst _ :: _, _, _, _, e => by cases e
  | .fz _ :: _, _, _, _, e => by cases e
  | .tup _ :: _, _, _, _, e => by cases e
  | .dT _ _ :: _, _, _, _, e => by cases e
  | .dK _ _ :: _, _, _, _, e => by cases e
  | .ins _ _ _ :: _, _, _, _, e => by cases e
  | .loc _ :: _, _, _, _, e => by cases e
  | .ref _ :: _, _, _, _, e => by cases e
def dJoin (a : Str) : R1D := fun y μ P => match y with
  | .lst xs => match strsOf xs with
    | some ys => (ys.map (·.length)).sum + ys.length * a.length ≤ 16777216 ∧ P (.str (Txt.join a ys)) μ
    | none => False
  | _ => False
/-- o.m(e), o a text -/
def eStr1 (rd : Str → R1D) (ta tb : ET) : ET := fun ρ μ P => ta ρ μ fun x μ1 => match x with
  | .str a => tb ρ μ1 fun y μ2 => rd a y μ2 P
  | _ => False
def Str1D (K : PySem.W.Frag) (r : V → List V → Hp → VK → Prop) (rd : Str → R1D) : Prop := ∀ w H a y dy P Q, Gd K w H → Rp K w H dy y → rd a dy w.mu P → Fin K w H P Q → r (.str a) [y] H Q
theorem lift_str1 {ta tb : ET} {r : V → List V → Hp → VK → Prop} {rd : Str → R1D} (h : Str1D K r rd) (σ : L2.St) (H : Hp) (Q : VK) (q : LE K (eStr1 rd ta tb) σ H Q) : tM1 r (LE K ta) (LE K tb) σ H Q := by
  obtain ⟨w, ρ, P, g, er, t, f⟩ := q
  refine ⟨w, ρ, _, g, er, t, fun x v w1 H1 e1 g1 r1 t1 => ?_⟩
  split at t1
  · rename_i a
    rw [show v = V.str a from r1]
    exact ⟨⟨a, rfl⟩, w1, ρ, _, g1, er.mono e1.toKp, t1, fun y u w2 H2 e2 g2 r2 t2 => h w2 H2 a u y P Q g2 r2 t2 (f.mono (e1.trans e2))⟩
  · exact t1.elim
def rJoin (K : PySem.W.Frag) : V → List V → Hp → VK → Prop := fun x xs H Q => ∃ a p, ∃ ys : List Str, x = .str a ∧ xs = [.ref p] ∧ (SqL K H p (ys.map V.str) ∨ SqT K H p (ys.map V.str)) ∧
      (ys.map (·.length)).sum + ys.length * a.length ≤ 16777216 ∧ Q (.str (Txt.join a ys)) H
theorem sd_join : Str1D K (rJoin K) dJoin := by
  intro w H a y dy P Q g r t f
  unfold dJoin at t
  split at t
  · split at t
    · rename_i hb
      obtain ⟨p, us, e, h1, h2⟩ := r
      subst e
      exact ⟨_, p, _, rfl, rfl, .inl (by rw [← strsOf_rp h2 hb]; exact h1.sq), t.1, f.st g t.2⟩
    · exact t.elim
  · exact t.elim
theorem te_join {o e : Expr} {ta tb : ET} {apos pos : Pos} (ho : PE X o (LE X.K ta)) (he : PE X e (LE X.K tb)) (hs : starEach [e] X.env = [(false, eval e X.env)] := by rfl) (hbase : attributeBase o "join" X.env (eval o X.env) = eval o X.env := by rfl)
    (hline : (apos.endLine == pos.line) = true := by rfl) : PE X (.Call (.Attribute o "join" apos) [e] [] pos) (LE X.K (eStr1 dJoin ta tb)) :=
  te_of (pe_join ho he hs hbase hline) (lift_str1 sd_join)
end
end Tr
set_option Elab.async false
set_option linter.all false
set_option maxRecDepth 100000
namespace Tr
open PySem PySem.Spec PyProof.Rows L2

/-! ### targets -/
abbrev GT := D → Env → Mu → (Env → Mu → Prop) → Prop
inductive Tgt where
  | nm (i : Nat)
  | tp (ts : List Tgt)
mutual
def gTgt (K : PySem.W.Frag) : Tgt → TG
  | .nm i => gName i
  | .tp ts => gTup K ts.length (gTgts K ts)
def gTgts (K : PySem.W.Frag) : List Tgt → TGs
  | [] => gNil
  | t :: ts => gCons (gTgt K t) (gTgts K ts)
end
mutual
def gD : Tgt → GT
  | .nm i => fun d ρ μ P => P (ρ.set i (some d)) μ
  | .tp ts => fun d ρ μ P => match d with
    | .tup xs => xs.length = ts.length ∧ gDs ts xs ρ μ P
    | _ => False
def gDs : List Tgt → List D → Env → Mu → (Env → Mu → Prop) → Prop
  | [], xs, ρ, μ, P => xs = [] ∧ P ρ μ
  | t :: ts, xs, ρ, μ, P => match xs with
    | x :: xs => gD t x ρ μ fun ρ1 μ1 => gDs ts xs ρ1 μ1 P
    | [] => False
end
mutual
def slots : Tgt → List Nat
  | .nm i => [i]
  | .tp ts => slotsA ts
def slotsA : List Tgt → List Nat
  | [] => []
  | t :: ts => slots t ++ slotsA ts
end
theorem wipe_get (σ : L2.St) : ∀ (vs : List Nat) (j : Nat), (L2.wipe σ vs)[j]? = if j ∈ vs then (if j < σ.length then some none else none) else σ[j]?
  | [], j => by simp [L2.wipe]
  | v :: vs, j => by
    show ((L2.wipe σ vs).set v none)[j]? = _
    rw [List.getElem?_set, wipe_get σ vs j, L2.wipe_length]
    by_cases h : v = j
    · subst h; simp
    · simp [h, Ne.symm h]
theorem wipe_set {σ : L2.St} {vs : List Nat} {i : Nat} {x : Option V} (h : i ∈ vs) : L2.wipe (σ.set i x) vs = L2.wipe σ vs := by
  apply List.ext_getElem?
  intro j
  rw [wipe_get, wipe_get, List.length_set]
  by_cases hj : j ∈ vs
  · simp [hj]
  · have : i ≠ j := fun e => hj (e ▸ h)
    simp [hj, List.getElem?_set_ne this]
section
variable {K : PySem.W.Frag} {vs : List Nat}
mutual
theorem tgt_run : ∀ (t : Tgt) (d : D) (v : V) (w : Wo) (H : Hp) (ρ : Env) (σ : L2.St) (P : Env → Mu → Prop) (Q : L2.St → Hp → Prop), EnvR K w H ρ σ → Rp K w H d v → gD t d ρ w.mu P →
    (∀ ρ' σ', EnvR K w H ρ' σ' → (slots t ⊆ vs → L2.wipe σ' vs = L2.wipe σ vs) → P ρ' w.mu → Q σ' H) → gTgt K t v σ H Q
  | .nm i, d, v, w, H, ρ, σ, P, Q, er, r, t, f => f _ _ (er.set i r) (fun h => wipe_set (h List.mem_cons_self)) t
  | .tp ts, d, v, w, H, ρ, σ, P, Q, er, r, t, f => by
    unfold gD at t
    split at t
    · rename_i xs
      obtain ⟨a, us, e, h1, h2⟩ := r
      show gTup K ts.length (gTgts K ts) v σ H Q
      exact ⟨a, us, e, h1.sq, by rw [h2.length]; exact t.1, tgts_run ts xs us w H ρ σ P Q er h2 t.2 f⟩
    · exact t.elim
theorem tgts_run : ∀ (ts : List Tgt) (ds : List D) (us : List V) (w : Wo) (H : Hp) (ρ : Env) (σ : L2.St) (P : Env → Mu → Prop) (Q : L2.St → Hp → Prop), EnvR K w H ρ σ → RpAll K w H ds us → gDs ts ds ρ w.mu P →
    (∀ ρ' σ', EnvR K w H ρ' σ' → (slotsA ts ⊆ vs → L2.wipe σ' vs = L2.wipe σ vs) → P ρ' w.mu → Q σ' H) → gTgts K ts us σ H Q
  | [], ds, us, w, H, ρ, σ, P, Q, er, r, t, f => by
    obtain ⟨e, t⟩ := t
    subst e
    exact ⟨r, f _ _ er (fun _ => rfl) t⟩
  | t0 :: ts, ds, us, w, H, ρ, σ, P, Q, er, r, t, f => by
    cases ds with
    | nil => exact (show False from t).elim
    | cons d ds =>
      obtain ⟨v, r0, e, h1, h2⟩ := r
      refine ⟨v, r0, e, tgt_run t0 d v w H ρ σ _ _ er h1 t fun ρ1 σ1 er1 z1 t1 => ?_⟩
      refine tgts_run ts ds r0 w H ρ1 σ1 P Q er1 h2 t1 fun ρ2 σ2 er2 z2 t2 => f ρ2 σ2 er2 (fun h => ?_) t2
      have h : slots t0 ++ slotsA ts ⊆ vs := h
      exact (z2 fun i hi => h (List.mem_append_right _ hi)).trans (z1 fun i hi => h (List.mem_append_left _ hi))
end
end
section
variable {X : Cx} {pos : Pos}
theorem tg_nm {i : Nat} {x : Str} (hN : X.N.Nodup) (hi : X.N[i]? = some x) (hx : Loc X.env.scope x) (hf : X.fn x = true ∨ X.env.scope.names.lookup x = some .local := by first | exact .inl rfl | exact .inr rfl | assumption) : PG X (.Name x pos) (gTgt X.K (.nm i)) := pg_name hN hi hx hf
theorem tg_tp {es : List Expr} {k : Nat} {ts : List Tgt} (hc : X.calm = true) (h : PGs X es (gTgts X.K ts))
    (hn : (assignEach es X.env).length = ts.length := by rfl) (hst : (assignEach es X.env).findIdx? (·.1) = none := by rfl) : PG X (.Tuple es k pos) (gTgt X.K (.tp ts)) := pg_tup hc h hn hst
theorem tgs_nil : PGs X [] (gTgts X.K []) := pgs_nil
theorem tgs_cons {e : Expr} {es : List Expr} {t : Tgt} {ts : List Tgt} (h1 : PG X e (gTgt X.K t)) (h2 : PGs X es (gTgts X.K ts))
    (hs : (assignEach (e :: es) X.env).map (·.2) = assign e X.env :: (assignEach es X.env).map (·.2) := by rfl) : PGs X (e :: es) (gTgts X.K (t :: ts)) := pgs_cons h1 h2 hs
end

/-! ### statements -/
structure EndsD where
  nx : Env → Mu → Prop
  rt : KD
  bk : Env → Mu → Prop := fun _ _ => False
  ct : Env → Mu → Prop := fun _ _ => False
abbrev ST := EndsD → Env → Mu → Prop
def FinS (K : PySem.W.Frag) (w : Wo) (H : Hp) (P : Env → Mu → Prop) (Q : L2.St → Hp → Prop) : Prop := ∀ ρ' σ' w' H', Ev w H w' H' → Gd K w' H' → EnvR K w' H' ρ' σ' → P ρ' w'.mu → Q σ' H'
structure FinD (K : PySem.W.Frag) (w : Wo) (H : Hp) (DD : EndsD) (E : L2.Ends) : Prop where
  nx : FinS K w H DD.nx E.nx
  rt : Fin K w H DD.rt E.rt
  bk : FinS K w H DD.bk E.bk
  ct : FinS K w H DD.ct E.ct
theorem FinS.mono {K : PySem.W.Frag} {w w' : Wo} {H H' : Hp} {P : Env → Mu → Prop} {Q : L2.St → Hp → Prop} (f : FinS K w H P Q) (e : Ev w H w' H') : FinS K w' H' P Q := fun d v w2 H2 e2 g r p => f d v w2 H2 (e.trans e2) g r p
theorem FinD.mono {K : PySem.W.Frag} {w w' : Wo} {H H' : Hp} {DD : EndsD} {E : L2.Ends} (f : FinD K w H DD E) (e : Ev w H w' H') : FinD K w' H' DD E := ⟨f.nx.mono e, f.rt.mono e, f.bk.mono e, f.ct.mono e⟩
def LS (K : PySem.W.Frag) (t : ST) : TS := fun E σ H => ∃ w ρ DD, Gd K w H ∧ EnvR K w H ρ σ ∧ t DD ρ w.mu ∧ FinD K w H DD E
section
variable {X : Cx} {a b c e o : Expr} {es : List Expr} {st : Stmt} {rest sa sb : List Stmt} {pos : Pos} {ta tb tc te : ET} {qa : BT} {t u : ST}
theorem ss_of {t0 : TS} {t : ST} (h : PS X st t0) (i : ∀ E σ H, LS X.K t E σ H → t0 E σ H) : PS X st (LS X.K t) := ⟨fun pins s σ H E I q => h.run pins s σ H E I (i E σ H q)⟩
theorem sss_of {t0 : TS} {t : ST} (h : PSs X rest t0) (i : ∀ E σ H, LS X.K t E σ H → t0 E σ H) : PSs X rest (LS X.K t) := ⟨fun pins s σ H E I q => h.run pins s σ H E I (i E σ H q)⟩
def sNext : ST := fun DD ρ μ => DD.nx ρ μ
def sSeq (t u : ST) : ST := fun DD ρ μ => t { DD with nx := u DD } ρ μ
theorem ss_nil : PSs X [] (LS X.K sNext) := sss_of pss_nil fun E σ H ⟨w, ρ, DD, g, er, t, f⟩ => f.nx ρ σ w H Ev.refl g er t
theorem ss_cons (h1 : PS X st (LS X.K t)) (h2 : PSs X rest (LS X.K u)) : PSs X (st :: rest) (LS X.K (sSeq t u)) :=
  sss_of (pss_cons h1 h2) fun E σ H ⟨w, ρ, DD, g, er, t, f⟩ => ⟨w, ρ, _, g, er, t, ⟨fun ρ' σ' w' H' e g' er' p => ⟨w', ρ', DD, g', er', p, f.mono e⟩, f.rt, f.bk, f.ct⟩⟩
theorem ss_one (h1 : PS X st (LS X.K t)) : PSs X [st] (LS X.K t) := pss_one h1
def sSet (i : Nat) (t : ET) : ST := fun DD ρ μ => t ρ μ fun d μ1 => DD.nx (ρ.set i (some d)) μ1
theorem ss_set {i : Nat} {x : Str} {pos' : Pos} (hN : X.N.Nodup) (hi : X.N[i]? = some x) (hx : Loc X.env.scope x) (he : PE X e (LE X.K te)) (hs : swapsWith e (some (.Name x pos')) pos.line X.env = pure false := by rfl)
    (hf : X.fn x = true ∨ X.env.scope.names.lookup x = some .local := by first | exact .inl rfl | exact .inr rfl | assumption) : PS X (.Assign [.Name x pos'] e pos) (LS X.K (sSet i te)) :=
  ss_of (ps_set hN hi hx he hs hf) fun E σ H ⟨w, ρ, DD, g, er, t, f⟩ => ⟨w, ρ, _, g, er, t, fun d v w1 H1 e1 g1 r1 t1 => f.nx _ _ w1 H1 e1 g1 ((er.mono e1.toKp).set i r1) t1⟩
def sAsg (tg : Tgt) (t : ET) : ST := fun DD ρ μ => t ρ μ fun d μ1 => gD tg d ρ μ1 DD.nx
theorem ss_asg {tgt : Expr} {tg : Tgt} (he : PE X e (LE X.K te)) (hg : PG X tgt (gTgt X.K tg)) (hs : swapsWithSole [tgt] e pos.line X.env = pure false := by rfl) (hw : swappedStores [tgt] e X.env = pure none := by rfl)
    (h1 : (assignEach [tgt] X.env).map (·.2) = [assign tgt X.env] := by rfl) : PS X (.Assign [tgt] e pos) (LS X.K (sAsg tg te)) :=
  ss_of (ps_asg he hg hs hw h1) fun E σ H ⟨w, ρ, DD, g, er, t, f⟩ => ⟨w, ρ, _, g, er, t, fun d v w1 H1 e1 g1 r1 t1 => tgt_run (vs := []) tg d v w1 H1 ρ σ _ _ (er.mono e1.toKp) r1 t1 fun ρ' σ' er' _ p => f.nx ρ' σ' w1 H1 e1 g1 er' p⟩
def sPar (i j : Nat) (s : AT) : ST := fun DD ρ μ => s ρ μ fun ds μ1 => match ds with
  | [x, y] => DD.nx ((ρ.set i (some x)).set j (some y)) μ1
  | _ => False
theorem ss_par {i j : Nat} {x y : Str} {px py pt : Pos} {kt k2 pt2} {sq : AT} (hc : X.calm = true) (hN : X.N.Nodup) (hi : X.N[i]? = some x) (hj : X.N[j]? = some y) (hij : i ≠ j)
    (hx : X.env.scope.names.lookup x = some .local) (hy : X.env.scope.names.lookup y = some .local) (ha : PA X [a, b] (LA X.K sq))
    (hw : swappedStores [.Tuple [.Name x px, .Name y py] kt pt] (.Tuple [a, b] k2 pt2) X.env = pure (some [x, y]))
    (hs : swapsWithSole [.Tuple [.Name x px, .Name y py] kt pt] (.Tuple [a, b] k2 pt2) pos.line X.env = pure false := by rfl) :
    PS X (.Assign [.Tuple [.Name x px, .Name y py] kt pt] (.Tuple [a, b] k2 pt2) pos) (LS X.K (sPar i j sq)) :=
  ss_of (ps_par hc hN hi hj hij hx hy ha hw hs) fun E σ H ⟨w, ρ, DD, g, er, t, f⟩ => ⟨w, ρ, _, g, er, t, fun ds vs w1 H1 e1 g1 r1 t1 => by
    split at t1
    · obtain ⟨v, u, rfl, h1, h2⟩ := rpAll2 r1
      exact ⟨v, u, rfl, f.nx _ _ w1 H1 e1 g1 (((er.mono e1.toKp).set i h1).set j h2) t1⟩
    · exact t1.elim⟩
def sExpr (t : ET) : ST := fun DD ρ μ => t ρ μ fun _ μ1 => DD.nx ρ μ1
theorem ss_expr (he : PE X e (LE X.K te)) (hs : swapsWith e none pos.line X.env = pure false := by rfl) : PS X (.Expr e pos) (LS X.K (sExpr te)) :=
  ss_of (ps_expr he hs) fun E σ H ⟨w, ρ, DD, g, er, t, f⟩ => ⟨w, ρ, _, g, er, t, fun d v w1 H1 e1 g1 r1 t1 => f.nx ρ σ w1 H1 e1 g1 (er.mono e1.toKp) t1⟩
def sRet (t : ET) : ST := fun DD ρ μ => t ρ μ DD.rt
theorem ss_ret (he : PE X e (LE X.K te)) : PS X (.Return (some e) pos) (LS X.K (sRet te)) :=
  ss_of (ps_ret he) fun E σ H ⟨w, ρ, DD, g, er, t, f⟩ => ⟨w, ρ, _, g, er, t, f.rt⟩
def sRetN : ST := fun DD _ μ => DD.rt .non μ
theorem ss_retN : PS X (.Return none pos) (LS X.K sRetN) := ss_of ps_retN fun E σ H ⟨w, ρ, DD, g, er, t, f⟩ => f.rt.non g t
theorem ss_pass : PS X (.Pass pos) (LS X.K sNext) := ss_of ps_pass fun E σ H ⟨w, ρ, DD, g, er, t, f⟩ => f.nx ρ σ w H Ev.refl g er t
def sIf (q : BT) (t u : ST) : ST := fun DD ρ μ => q ρ μ fun b μ1 => if b = true then t DD ρ μ1 else u DD ρ μ1
theorem ss_if (hc : PT X c (LB X.K qa)) (ha : PSs X sa (LS X.K t)) (hb : PSs X sb (LS X.K u)) : PS X (.If c sa sb pos) (LS X.K (sIf qa t u)) :=
  ss_of (ps_if hc ha hb) fun E σ H ⟨w, ρ, DD, g, er, t, f⟩ => ⟨w, ρ, _, g, er, t, fun k w1 H1 e1 g1 t1 => by
    cases k with
    | true => rw [if_pos rfl] at t1 ⊢; exact ⟨w1, ρ, DD, g1, er.mono e1.toKp, t1, f.mono e1⟩
    | false => rw [if_neg Bool.false_ne_true] at t1 ⊢; exact ⟨w1, ρ, DD, g1, er.mono e1.toKp, t1, f.mono e1⟩⟩
/-- xs[i] = e, xs a list that may change -/
def sPut (te tx ti : ET) : ST := fun DD ρ μ => te ρ μ fun d μ1 => tx ρ μ1 fun x μ2 => ti ρ μ2 fun i μ3 => match x, i with
  | .loc n, .int k => match μ3[n]? with
    | some (some (.lst xs)) => match ixN xs.length k with
      | some j => DD.nx ρ (μ3.set n (some (.lst (xs.set j d))))
      | none => False
    | _ => False
  | _, _ => False
theorem ss_put {x i : Expr} {tx ti : ET} {p2 : Pos} (he : PE X e (LE X.K te)) (hx : PE X x (LE X.K tx)) (hi : PE X i (LE X.K ti)) (hg : PG X (.Subscript x i p2) (gSub (LE X.K tx) (LE X.K ti) rSetL))
    (hs : swapsWithSole [.Subscript x i p2] e pos.line X.env = pure false := by rfl) (hw : swappedStores [.Subscript x i p2] e X.env = pure none := by rfl)
    (h1 : (assignEach [.Subscript x i p2] X.env).map (·.2) = [assign (.Subscript x i p2) X.env] := by rfl) : PS X (.Assign [.Subscript x i p2] e pos) (LS X.K (sPut te tx ti)) :=
  ss_of (ps_asg he hg hs hw h1) fun E σ H ⟨w, ρ, DD, g, er, t, f⟩ => ⟨w, ρ, _, g, er, t, fun d v w1 H1 e1 g1 r1 t1 =>
    ⟨w1, ρ, _, g1, er.mono e1.toKp, t1, fun dx vx w2 H2 e2 g2 r2 t2 => ⟨w2, ρ, _, g2, er.mono (e1.trans e2).toKp, t2, fun di vi w3 H3 e3 g3 r3 t3 => by
      split at t3
      · split at t3
        · split at t3
          · rename_i n k _ xs hm _ j hj
            obtain ⟨ad, e4, ea, us, h4, h5⟩ := g3.at (Rp.mono e3.toKp _ _ r2) hm
            have hd := Rp.mono (e2.trans e3).toKp _ _ r1
            refine ⟨ad, us, k, j, e4, r3, h4, by rw [h5.length]; exact hj, ?_⟩
            have kp := Kp.put (o := .lst (us.set j v)) (c' := .lst (xs.set j d)) (H := H3) ea hm
            have ev := Ev.put (o := .lst (us.set j v)) (c' := .lst (xs.set j d)) g3 ea hm
            refine f.nx ρ σ (w3.put n (.lst (xs.set j d))) _ (((e1.trans e2).trans e3).trans ev) (g3.put ea hm ⟨_, upd_same, RpAll.mono kp _ _ (h5.set j hd)⟩) (er.mono (((e1.trans e2).trans e3).trans ev).toKp) t3
          · exact t3.elim
        · exact t3.elim
      · exact t3.elim⟩⟩⟩
end

/-! ### what is walked -/
structure ItD (K : PySem.W.Frag) (w0 : Wo) (H0 : Hp) (J : It) (ds : List D) : Prop where
  go : ∀ i w H, Kp w0 H0 w H → Gd K w H → i < ds.length → J.go i H
  yld : ∀ i w H x H', Kp w0 H0 w H → Gd K w H → i < ds.length → J.yld i H x H' → ∃ d w', ds[i]? = some d ∧ w'.mu = w.mu ∧ Ev w H w' H' ∧ Gd K w' H' ∧ Rp K w' H' d x
  stop : ∀ i w H, Kp w0 H0 w H → Gd K w H → ds.length ≤ i → J.stop i H
abbrev IT := Env → Mu → KA → Prop
def LI (K : PySem.W.Frag) (t : IT) : TI := fun σ H R => ∃ w ρ P, Gd K w H ∧ EnvR K w H ρ σ ∧ t ρ w.mu P ∧ ∀ ds w' H' J, Ev w H w' H' → Gd K w' H' → ItD K w' H' J ds → P ds w'.mu → R J H'
def loopD (tg : Tgt) (tb : ST) (DD : EndsD) : List D → Env → Mu → Prop
  | [], ρ, μ => DD.nx ρ μ
  | d :: ds, ρ, μ => gD tg d ρ μ fun ρ1 μ1 => tb { DD with nx := loopD tg tb DD ds, ct := loopD tg tb DD ds, bk := DD.nx } ρ1 μ1
def sFor (it : IT) (tg : Tgt) (tb : ST) : ST := fun DD ρ μ => it ρ μ fun ds μ1 => loopD tg tb DD ds ρ μ1
section
variable {X : Cx} {iter tgt : Expr} {body : List Stmt} {pos : Pos} {ti : IT} {tg : Tgt} {tb : ST}
theorem ss_for (hp : PassesOwn (model X.prog X.w) X.A X.env X.xe) (hc : X.calm = true) (hi : PI X tgt iter (LI X.K ti)) (hg : PG X tgt (gTgt X.K tg)) (hb : PSs X body (LS X.K tb))
    (hs : ∀ x, foldedSetIterable iter X.env x = pure x := by intro _; rfl) : PS X (.For tgt iter body [] pos) (LS X.K (sFor ti tg tb)) :=
  ss_of (ps_for hp hc hi hg hb hs) fun E σ H ⟨w, ρ, DD, g, er, t, f⟩ => by
    refine ⟨w, ρ, _, g, er, t, fun ds w1 H1 J e1 g1 it t1 => ?_⟩
    refine ⟨fun i m σ' H' => i ≤ ds.length ∧ m = ds.length - i ∧ ∃ w2 ρ2, Ev w1 H1 w2 H' ∧ Gd X.K w2 H' ∧ EnvR X.K w2 H' ρ2 σ' ∧ loopD tg tb DD (ds.drop i) ρ2 w2.mu, ⟨_, Nat.zero_le _, rfl, w1, ρ, Ev.refl, g1, er.mono e1.toKp, t1⟩, ?_⟩
    rintro i m σ2 H2 ⟨hi, hm, w2, ρ2, e2, g2, er2, t2⟩
    by_cases hlt : i < ds.length
    · refine .inr ⟨it.go i w2 H2 e2.toKp g2 hlt, fun σ' H' => ∃ w2 ρ2, Ev w1 H1 w2 H' ∧ Gd X.K w2 H' ∧ EnvR X.K w2 H' ρ2 σ' ∧ loopD tg tb DD (ds.drop (i + 1)) ρ2 w2.mu, fun σ' H' h => ⟨_, by omega, hlt, rfl, h⟩, fun x H3 hy => ?_⟩
      obtain ⟨d, w3, hd, hmu, e3, g3, r3⟩ := it.yld i w2 H2 x H3 e2.toKp g2 hlt hy
      rw [List.drop_eq_getElem_cons hlt] at t2
      have hd' : ds[i] = d := by
        obtain ⟨_, q⟩ := List.getElem?_eq_some_iff.mp hd
        exact q
      rw [hd'] at t2
      unfold loopD at t2
      rw [← hmu] at t2
      have e13 := e1.trans (e2.trans e3)
      refine tgt_run (vs := []) tg d x w3 H3 ρ2 σ2 _ _ (er2.mono e3.toKp) r3 t2 fun ρ4 σ4 er4 _ t4 => ?_
      refine ⟨w3, ρ4, _, g3, er4, t4, ⟨fun ρ5 σ5 w5 H5 e5 g5 er5 t5 => ⟨w5, ρ5, (e2.trans e3).trans e5, g5, er5, t5⟩, (f.mono e13).rt, (f.mono e13).nx, fun ρ5 σ5 w5 H5 e5 g5 er5 t5 => ⟨w5, ρ5, (e2.trans e3).trans e5, g5, er5, t5⟩⟩⟩
    · have : i = ds.length := by omega
      subst this
      rw [List.drop_length] at t2
      exact .inl ⟨it.stop _ w2 H2 e2.toKp g2 (Nat.le_refl _), f.nx ρ2 σ2 w2 H2 (e1.trans e2) g2 er2 t2⟩
end

/-! ### list comprehensions -/
def compD (tg : Tgt) (tt : BT) (te : ET) (ρ : Env) : List D → List D → Mu → KA → Prop
  | [], acc, μ, P => P acc μ
  | d :: ds, acc, μ, P => gD tg d ρ μ fun ρ1 μ1 => tt ρ1 μ1 fun b μ2 =>
    if b = true then te ρ1 μ2 fun y μ3 => acc.length < sizeLine ∧ compD tg tt te ρ ds (acc ++ [y]) μ3 P else compD tg tt te ρ ds acc μ2 P
def bYes : BT := fun _ μ P => P true μ
def eComp (it : IT) (tg : Tgt) (tt : BT) (te : ET) (vs : List Nat) : ET := fun ρ μ P => it ρ μ fun ds μ1 => compD tg tt te (wipeD ρ vs) ds [] μ1 fun ys μ2 => P (.lst ys) μ2
theorem lift_comp {K : PySem.W.Frag} {ti : IT} {tg : Tgt} {tt : BT} {te : ET} {vs : List Nat} (hv : slots tg ⊆ vs) (σ : L2.St) (H : Hp) (Q : VK) (q : LE K (eComp ti tg tt te vs) σ H Q) : tLc (LI K ti) (gTgt K tg) (LB K tt) (LE K te) vs σ H Q := by
  obtain ⟨w, ρ, P, g, er, t, f⟩ := q
  refine ⟨w, ρ, _, g, er, t, fun ds w1 H1 J e1 g1 it t1 => ?_⟩
  intro Dn hD
  have er1 := (er.mono e1.toKp).wipe vs
  refine ⟨fun i m H' => i ≤ ds.length ∧ m = ds.length - i ∧ ∃ w2 acc us, Kp w1 H1 w2 H' ∧ w2.hid = Dn :: w1.hid ∧ (∀ a, a ∈ w1.hid → H' a = H1 a) ∧ Gd K w2 H' ∧ H' Dn = some (.lst us) ∧ RpAll K w2 H' acc us ∧
      compD tg tt te (wipeD ρ vs) (ds.drop i) acc w2.mu (fun ys μ2 => P (.lst ys) μ2), ⟨_, Nat.zero_le _, rfl, w1.hide Dn, [], [], Kp.hide hD, rfl, fun a ha => upd_ne fun z => g1.noh hD (z ▸ ha), g1.hide hD, upd_same, rfl, t1⟩, ?_⟩
  rintro i m H2 ⟨hi, hm, w2, acc, us, k2, hh2, hk2, g2, hD2, ra2, t2⟩
  by_cases hlt : i < ds.length
  · refine .inr ⟨it.go i w2 H2 k2 g2 hlt, fun H' => ∃ w2 acc us, Kp w1 H1 w2 H' ∧ w2.hid = Dn :: w1.hid ∧ (∀ a, a ∈ w1.hid → H' a = H1 a) ∧ Gd K w2 H' ∧ H' Dn = some (.lst us) ∧ RpAll K w2 H' acc us ∧
      compD tg tt te (wipeD ρ vs) (ds.drop (i + 1)) acc w2.mu (fun ys μ2 => P (.lst ys) μ2), fun H' h => ⟨_, by omega, hlt, rfl, h⟩, fun x H3 hy => ?_⟩
    obtain ⟨d, w3, hd, hmu, e3, g3, r3⟩ := it.yld i w2 H2 x H3 k2 g2 hlt hy
    rw [List.drop_eq_getElem_cons hlt] at t2
    have hd' : ds[i] = d := by
      obtain ⟨_, q⟩ := List.getElem?_eq_some_iff.mp hd
      exact q
    rw [hd'] at t2
    unfold compD at t2
    rw [← hmu] at t2
    have k3 := k2.trans e3.toKp
    refine tgt_run (vs := vs) tg d x w3 H3 (wipeD ρ vs) (L2.wipe σ vs) _ _ (er1.mono k3) r3 t2 fun ρ4 σ4 er4 hw4 t4 => ?_
    refine ⟨(hw4 hv).trans ?_, ?_⟩
    · apply List.ext_getElem?
      intro j
      rw [wipe_get, wipe_get, L2.wipe_length]
      by_cases hj : j ∈ vs <;> simp [hj]
    · -- the test, the element
      have mem2 : Dn ∈ w2.hid := by rw [hh2]; exact List.mem_cons_self
      refine ⟨w3, ρ4, _, g3, er4, t4, fun bb w5 H5 e5 g5 t5 => ?_⟩
      have hD5 : H5 Dn = some (.lst us) := by rw [e5.hk Dn (by rw [e3.hd]; exact mem2), e3.hk Dn mem2]; exact hD2
      have hk5 : ∀ a, a ∈ w1.hid → H5 a = H1 a := fun a ha => by
        have m2 : a ∈ w2.hid := by rw [hh2]; exact List.mem_cons_of_mem _ ha
        rw [e5.hk a (by rw [e3.hd]; exact m2), e3.hk a m2]
        exact hk2 a ha
      have hh5 : w5.hid = Dn :: w1.hid := by rw [e5.hd, e3.hd, hh2]
      cases bb with
      | false =>
        rw [if_neg Bool.false_ne_true] at t5
        refine iteF ?_
        exact ⟨w5, acc, us, k3.trans e5.toKp, hh5, hk5, g5, hD5, RpAll.mono (e3.trans e5).toKp _ _ ra2, t5⟩
      | true =>
        rw [if_pos rfl] at t5
        refine iteT ?_
        refine ⟨w5, ρ4, _, g5, er4.mono e5.toKp, t5, fun y v w6 H6 e6 g6 r6 t6 => ?_⟩
        obtain ⟨hl, t6⟩ := t6
        have mem5 : Dn ∈ w5.hid := by rw [hh5]; exact List.mem_cons_self
        have hD6 : H6 Dn = some (.lst us) := by rw [e6.hk Dn mem5]; exact hD5
        have ra6 := RpAll.mono ((e3.trans e5).trans e6).toKp _ _ ra2
        have hh6 : w6.hid = Dn :: w1.hid := by rw [e6.hd, hh5]
        have mem6 : Dn ∈ w6.hid := by rw [hh6]; exact List.mem_cons_self
        have k7 : Kp w6 H6 w6 (upd H6 Dn (.lst (us ++ [v]))) := ⟨⟨[], by simp⟩, fun a u ha l => ⟨by rw [upd_ne (fun z => l (.inr (by rw [z]; exact mem6)))]; exact ha, l⟩⟩
        refine ⟨us, hD6, by rw [ra6.length]; exact hl, w6, acc ++ [y], us ++ [v], ((k3.trans e5.toKp).trans e6.toKp).trans k7, hh6, fun a ha => ?_, ?_, upd_same, (RpAll.mono k7 _ _ ra6).append ⟨v, [], rfl, Rp.mono k7 _ _ r6, rfl⟩, t6⟩
        · have na : a ≠ Dn := fun z => g1.noh hD (z ▸ ha)
          rw [upd_ne na, e6.hk a (by rw [hh5]; exact List.mem_cons_of_mem _ ha)]
          exact hk5 a ha
        · refine ⟨g6.len, g6.nd, fun a ha => ?_, g6.apart, fun n a c h1 h2 => ?_⟩
          · by_cases q : a = Dn
            · subst q; rw [upd_same]; simp
            · rw [upd_ne q]; exact g6.trk a ha
          · have na : a ≠ Dn := fun z => g6.apart a (List.mem_of_getElem? h1) (z ▸ mem6)
            exact (g6.cell n a c h1 h2).mono k7 (upd_ne na)
  · have : i = ds.length := by omega
    subst this
    rw [List.drop_length] at t2
    refine .inl ⟨it.stop _ w2 H2 k2 g2 (Nat.le_refl _), ?_⟩
    have mem2 : Dn ∈ w2.hid := by rw [hh2]; exact List.mem_cons_self
    -- the new list is let stand
    have lv : ∀ {a : Addr}, Live ⟨w2.am, w2.mu, w1.hid⟩ a → Live w2 a := fun {a} l => l.elim .inl fun z => .inr (by rw [hh2]; exact List.mem_cons_of_mem _ z)
    have k9 : Kp w2 H2 ⟨w2.am, w2.mu, w1.hid⟩ H2 := ⟨⟨[], by simp⟩, fun a o h l => ⟨h, fun z => l (lv z)⟩⟩
    have e9 : Ev w1 H1 ⟨w2.am, w2.mu, w1.hid⟩ H2 := ⟨k2.trans k9, rfl, hk2⟩
    have g9 : Gd K ⟨w2.am, w2.mu, w1.hid⟩ H2 := ⟨g2.len, g2.nd, fun a ha => g2.trk a (by
      rcases List.mem_append.mp ha with z | z
      · exact List.mem_append_left _ z
      · exact List.mem_append_right _ (by rw [hh2]; exact List.mem_cons_of_mem _ z)), fun a ha hh => g2.apart a ha (by rw [hh2]; exact List.mem_cons_of_mem _ hh), fun n a c h1 h2 => (g2.cell n a c h1 h2).mono k9 rfl⟩
    refine f (.lst acc) (.ref Dn) ⟨w2.am, w2.mu, w1.hid⟩ H2 (e1.trans e9) g9 ⟨Dn, us, rfl, ⟨?_, hD2⟩, RpAll.mono k9 _ _ ra2⟩ t2
    rintro (⟨n, c, h1, h2⟩ | hh)
    · exact g2.apart Dn (List.mem_of_getElem? h1) mem2
    · exact g1.noh hD hh
section
variable {X : Cx} {elt tgt iter : Expr} {ifs : List Expr} {scope : Scope} {own : List (Str × Nat)} {vs : List Nat} {pos : Pos} {ti : IT} {tg : Tgt} {tt : BT} {te : ET}
theorem tts_nil : PTs X [] (LB X.K bYes) := ⟨fun pins s σ H Q I ⟨w, ρ, P, g, er, t, f⟩ => pts_nil.run pins s σ H Q I (f true w H Ev.refl g t)⟩
theorem te_comp (hc : X.calm = true) (hN : X.N.Nodup) (hi : PI X tgt iter (LI X.K ti)) (ok : BlkOk X.N X.env.scope scope own)
    (hg : ∀ (s : Shared) (H : Hp) (C : Addr) (cl : List (Str × Addr)) (fp : List Addr), PG (X.blk s H scope (compEnvC scope cl C X.env) fp) tgt (gTgt X.K tg)) (ht : ∀ (s : Shared) (H : Hp) (C : Addr) (cl : List (Str × Addr)) (fp : List Addr), PTs (X.blk s H scope (compEnvC scope cl C X.env) fp) ifs (LB X.K tt))
    (he : ∀ (s : Shared) (H : Hp) (C : Addr) (cl : List (Str × Addr)) (fp : List Addr), PE (X.blk s H scope (compEnvC scope cl C X.env) fp) elt (LE X.K te)) (hv : slots tg ⊆ vs) (ho : own.map (·.2) = vs := by rfl) (hs : ∀ x, foldedSetIterable iter X.env x = pure x := by intro _; rfl) :
    PE X (.ListComp elt [⟨tgt, iter, ifs, 0⟩] scope pos) (LE X.K (eComp ti tg tt te vs)) := by
  subst ho
  exact te_of (pe_lc hc hN hi ok hg ht he hs) (lift_comp hv)
def sComp (i : Nat) (it : IT) (tg : Tgt) (tt : BT) (te : ET) (vs : List Nat) : ST := sSet i (eComp it tg tt te vs)
theorem ss_comp {i : Nat} {y : Str} {py spos : Pos} (hc : X.calm = true) (hN : X.N.Nodup) (hy : X.N[i]? = some y) (hyl : X.env.scope.names.lookup y = some .local)
    (hsw : swapsWith (.ListComp elt [⟨tgt, iter, ifs, 0⟩] scope pos) (some (.Name y py)) spos.line X.env = pure true) (hi : PI X tgt iter (LI X.K ti)) (ok : BlkOk X.N X.env.scope scope own)
    (hg : ∀ (s : Shared) (H : Hp) (C : Addr) (cl : List (Str × Addr)) (fp : List Addr), PG (X.blk s H scope (compEnvC scope cl C X.env) fp) tgt (gTgt X.K tg)) (ht : ∀ (s : Shared) (H : Hp) (C : Addr) (cl : List (Str × Addr)) (fp : List Addr), PTs (X.blk s H scope (compEnvC scope cl C X.env) fp) ifs (LB X.K tt))
    (he : ∀ (s : Shared) (H : Hp) (C : Addr) (cl : List (Str × Addr)) (fp : List Addr), PE (X.blk s H scope (compEnvC scope cl C X.env) fp) elt (LE X.K te)) (hv : slots tg ⊆ vs) (ho : own.map (·.2) = vs := by rfl) (hs : ∀ x, foldedSetIterable iter X.env x = pure x := by intro _; rfl) :
    PS X (.Assign [.Name y py] (.ListComp elt [⟨tgt, iter, ifs, 0⟩] scope pos) spos) (LS X.K (sSet i (eComp ti tg tt te vs))) := by
  subst ho
  exact ss_of (ps_setLc hc hN hy hyl hsw hi ok hg ht he hs) fun E σ H ⟨w, ρ, DD, g, er, t, f⟩ => lift_comp hv σ H _ ⟨w, ρ, _, g, er, t, fun d v w1 H1 e1 g1 r1 t1 => f.nx _ _ w1 H1 e1 g1 ((er.mono e1.toKp).set i r1) t1⟩
end
end Tr
set_option Elab.async false
set_option linter.all false
set_option maxRecDepth 100000
namespace Tr
open PySem PySem.Spec PyProof.Rows L2 RZ

/-! ### what is walked: a list, a tuple, a text -/
def wAny (K : PySem.W.Frag) (tl : TE) : TI := fun σ H R => tl σ H fun x H1 =>
  (∃ q, x = .ref q ∧ (∃ ys, SqL K H1 q ys) ∧ R (Itl K q) H1) ∨ (∃ q, x = .ref q ∧ (∃ ys, SqT K H1 q ys) ∧ R (Itt K q) H1) ∨ ∃ z, x = .str z ∧ R (Its z) H1
section
variable {X : Cx} {tgt e : Expr}
theorem pi_wAny {tl : TE} (h : PE X e tl) : PI X tgt e (wAny X.K tl) := by
  refine ⟨fun pins s σ H R I hw => thn (h.run pins s σ H _ I hw) ?_⟩
  rintro v s1 ⟨x, H1, J, rx, (⟨q, rfl, ⟨ys, hq⟩, hR⟩ | ⟨q, rfl, ⟨ys, hq⟩, hR⟩ | ⟨z, rfl, hR⟩)⟩
  · cases rx
    obtain ⟨us, -, pl, -⟩ := J.list hq
    exact wpAny_pyIter_list pl.isList (pi_one (tk := s1.toks) J _ (turn_list q _) ⟨_, Heap.get?_push_size _ rfl, rfl, rfl⟩ hR)
  · cases rx
    obtain ⟨us, -, pl, -⟩ := J.tuple hq
    exact wpAny_pyIter_tuple (show s1.heap.IsTuple q us.toArray from pl) (pi_one (tk := s1.toks) J _ (turn_tuple q _) ⟨_, Heap.get?_push_size _ rfl, rfl, rfl⟩ hR)
  · obtain ⟨tk, rfl⟩ := rx
    by_cases ha : (z.cps.all (· < 128)) = true
    · refine wpAny_pyIter_ascii ha ?_
      exact pi_one (tk := s1.toks) J _ (turn_str _ z tk "str_ascii_iterator" (.inl rfl)) ⟨_, Heap.get?_push_size _ rfl, rfl, rfl⟩ hR
    · refine wpAny_pyIter_wide (by simpa using ha) ?_
      exact pi_one (tk := s1.toks) J _ (turn_str _ z tk "str_iterator" (.inr rfl)) ⟨_, Heap.get?_push_size _ rfl, rfl, rfl⟩ hR
def signs (z : Str) : List D := z.cps.toList.map fun c => D.str ⟨#[c]⟩
def itAny (t : ET) : IT := fun ρ μ P => t ρ μ fun d μ1 => match d with
  | .lst xs => P xs μ1
  | .fz xs => P xs μ1
  | .tup xs => P xs μ1
  | .str z => P (signs z) μ1
  | _ => False
variable {K : PySem.W.Frag} {w : Wo} {H : Hp}
theorem itd_list {a : Addr} {ds : List D} {vs : List V} (h : ∀ w' H', Kp w H w' H' → SqL K H' a vs) (r : RpAll K w H ds vs) : ItD K w H (Itl K a) ds where
  go := fun i w' H' k g hi => ⟨vs, vs[i]'(by rw [r.length]; exact hi), h w' H' k, by simp [r.length, hi]⟩
  yld := fun i w' H' x H2 k g hi hy => by
    obtain ⟨e, hy⟩ := hy
    subst e
    obtain ⟨d, h1, h2⟩ := (RpAll.mono k _ _ r).get (hy vs (h w' _ k))
    exact ⟨d, w', h1, rfl, Ev.refl, g, h2⟩
  stop := fun i w' H' k g hi => ⟨vs, h w' H' k, by rw [r.length]; exact hi⟩
theorem itd_tup {a : Addr} {ds : List D} {vs : List V} (h : ∀ w' H', Kp w H w' H' → SqT K H' a vs) (r : RpAll K w H ds vs) : ItD K w H (Itt K a) ds where
  go := fun i w' H' k g hi => ⟨vs, vs[i]'(by rw [r.length]; exact hi), h w' H' k, by simp [r.length, hi]⟩
  yld := fun i w' H' x H2 k g hi hy => by
    obtain ⟨e, hy⟩ := hy
    subst e
    obtain ⟨d, h1, h2⟩ := (RpAll.mono k _ _ r).get (hy vs (h w' _ k))
    exact ⟨d, w', h1, rfl, Ev.refl, g, h2⟩
  stop := fun i w' H' k g hi => ⟨vs, h w' H' k, by rw [r.length]; exact hi⟩
theorem itd_str {z : Str} : ItD K w H (Its z) (signs z) where
  go := fun i w' H' k g hi => by
    show i < z.cps.size
    simpa [signs] using hi
  yld := fun i w' H' x H2 k g hi hy => by
    obtain ⟨e, c, hc, rfl⟩ := hy
    subst e
    exact ⟨.str ⟨#[c]⟩, w', by simp [signs, hc], rfl, Ev.refl, g, rfl⟩
  stop := fun i w' H' k g hi => by
    show z.cps.size ≤ i
    simpa [signs] using hi
theorem ti_of {e tgt : Expr} {t0 : TI} {t : IT} (h : PI X tgt e t0) (i : ∀ σ H R, LI X.K t σ H R → t0 σ H R) : PI X tgt e (LI X.K t) := ⟨fun pins s σ H R I q => h.run pins s σ H R I (i σ H R q)⟩
theorem ti_any {t : ET} (h : PE X e (LE X.K t)) : PI X tgt e (LI X.K (itAny t)) :=
  ti_of (pi_wAny h) fun σ H R ⟨w, ρ, P, g, er, t, f⟩ => ⟨w, ρ, _, g, er, t, fun d v w1 H1 e1 g1 r1 t1 => by
    split at t1
    · obtain ⟨a, us, e, h1, h2⟩ := r1
      exact .inl ⟨a, e, ⟨us, h1.sq⟩, f _ w1 H1 _ e1 g1 (itd_list (fun w' H' k => (k.fzL h1).sq) h2) t1⟩
    · obtain ⟨a, us, e, h1, h2⟩ := r1
      exact .inl ⟨a, e, ⟨us, h1.sq⟩, f _ w1 H1 _ e1 g1 (itd_list (fun w' H' k => (k.fzS h1).sq) h2) t1⟩
    · obtain ⟨a, us, e, h1, h2⟩ := r1
      exact .inr (.inl ⟨a, e, ⟨us, h1.sq⟩, f _ w1 H1 _ e1 g1 (itd_tup (fun w' H' k => (k.fzT h1).sq) h2) t1⟩)
    · exact .inr (.inr ⟨_, r1, f _ w1 H1 _ e1 g1 itd_str t1⟩)
    · exact t1.elim⟩

/-! range -/
def rangeD (lo : Int) (n : Nat) : List D := (List.range n).map fun (i : Nat) => D.int (lo + (i : Int))
theorem itd_range {lo : Int} {n : Nat} : ItD K w H (Itr lo n) (rangeD lo n) where
  go := fun i w' H' k g hi => by
    have hi : i < (rangeD lo n).length := hi
    show i < n
    simpa [rangeD] using hi
  yld := fun i w' H' x H2 k g hi hy => by
    obtain ⟨e, rfl⟩ := hy
    subst e
    have hi : i < (rangeD lo n).length := hi
    have hn : i < n := by simpa [rangeD] using hi
    exact ⟨.int (lo + i), w', by simp [rangeD, hn], rfl, Ev.refl, g, rfl⟩
  stop := fun i w' H' k g hi => by
    have hi : (rangeD lo n).length ≤ i := hi
    show n ≤ i
    simpa [rangeD] using hi
def itRange1 (s : AT) : IT := fun ρ μ P => s ρ μ fun ds μ1 => match ds with
  | [.int j] => (-(2 ^ 62) ≤ j ∧ j < 2 ^ 62) ∧ P (rangeD 0 j.toNat) μ1
  | _ => False
theorem ti_range1 {a : Expr} {sa : AT} {p pos : Pos} (hg : Gl X "range") (hm : X.mg "range" = none) (ha : PA X [a] (LA X.K sa)) (hs : starEach [a] X.env = [(false, eval a X.env)] := by rfl) : PI X tgt (.Call (.Name "range" p) [a] [] pos) (LI X.K (itRange1 sa)) :=
  ti_of (pi_range1 hg hm ha hs) fun σ H R ⟨w, ρ, P, g, er, t, f⟩ => ⟨w, ρ, _, g, er, t, fun ds vs w1 H1 e1 g1 r1 t1 => by
    split at t1
    · obtain ⟨x, rfl, h⟩ := rpAll1 r1
      rw [show x = _ from h]
      exact ⟨_, rfl, t1.1.1, t1.1.2, f _ w1 H1 _ e1 g1 itd_range t1.2⟩
    · exact t1.elim⟩
def itRange2 (s : AT) : IT := fun ρ μ P => s ρ μ fun ds μ1 => match ds with
  | [.int i, .int j] => (-(2 ^ 62) ≤ i ∧ i < 2 ^ 62 ∧ -(2 ^ 62) ≤ j ∧ j < 2 ^ 62) ∧ P (rangeD i (j - i).toNat) μ1
  | _ => False
theorem ti_range2 {a b : Expr} {sa : AT} {p pos : Pos} (hg : Gl X "range") (hm : X.mg "range" = none) (ha : PA X [a, b] (LA X.K sa)) (hs : starEach [a, b] X.env = [(false, eval a X.env), (false, eval b X.env)] := by rfl) (hs2 : starEach [b] X.env = [(false, eval b X.env)] := by rfl) :
    PI X tgt (.Call (.Name "range" p) [a, b] [] pos) (LI X.K (itRange2 sa)) :=
  ti_of (pi_range2 hg hm ha hs hs2) fun σ H R ⟨w, ρ, P, g, er, t, f⟩ => ⟨w, ρ, _, g, er, t, fun ds vs w1 H1 e1 g1 r1 t1 => by
    split at t1
    · obtain ⟨x, y, rfl, h, h'⟩ := rpAll2 r1
      rw [show x = _ from h, show y = _ from h']
      exact ⟨_, _, rfl, t1.1, f _ w1 H1 _ e1 g1 itd_range t1.2⟩
    · exact t1.elim⟩

/-! zip of two lists, of two tuples; enumerate of a list -/
def zipD : List D → List D → List D
  | x :: xs, y :: ys => .tup [x, y] :: zipD xs ys
  | _, _ => []
theorem zipD_get : ∀ {xs ys : List D} {i : Nat} {x y : D}, xs[i]? = some x → ys[i]? = some y → (zipD xs ys)[i]? = some (.tup [x, y])
  | [], _, _, _, _, h, _ => by simp at h
  | _ :: _, [], _, _, _, _, h => by simp at h
  | x :: xs, y :: ys, 0, _, _, h1, h2 => by simp at h1 h2; subst h1; subst h2; rfl
  | x :: xs, y :: ys, i + 1, _, _, h1, h2 => by
    show (zipD xs ys)[i]? = _
    exact zipD_get (by simpa using h1) (by simpa using h2)
theorem zipD_len : ∀ {xs ys : List D}, (zipD xs ys).length = min xs.length ys.length
  | [], _ => by simp [zipD]
  | _ :: _, [] => by simp [zipD]
  | x :: xs, y :: ys => by
    show (zipD xs ys).length + 1 = _
    rw [zipD_len, List.length_cons, List.length_cons]
    omega
/-- a new pair at a turn -/
theorem turn_pair {w' : Wo} {H' H2 : Hp} {T : Addr} {d e : D} {x y : V} (g : Gd K w' H') (hT : H' T = none) (h2 : H2 = upd H' T (.tup [x, y])) (r1 : Rp K w' H' d x) (r2 : Rp K w' H' e y) : Ev w' H' w' H2 ∧ Gd K w' H2 ∧ Rp K w' H2 (.tup [d, e]) (.ref T) := by
  subst h2
  exact ⟨Ev.new g hT, g.new hT, rp_tup (g.dead hT) g hT ⟨x, [y], rfl, r1, y, [], rfl, r2, rfl⟩⟩
theorem itd_zipL {a b : Addr} {ds es : List D} {vs us : List V} (h : ∀ w' H', Kp w H w' H' → SqL K H' a vs ∧ SqL K H' b us) (r : RpAll K w H ds vs) (q : RpAll K w H es us) : ItD K w H (Itz K a b) (zipD ds es) where
  go := fun i w' H' k g hi => by
    rw [zipD_len, ← r.length, ← q.length] at hi
    exact ⟨vs, us, vs[i], us[i], (h w' H' k).1, (h w' H' k).2, by simp [show i < vs.length by omega], by simp [show i < us.length by omega]⟩
  yld := fun i w' H' z H2 k g hi hy => by
    obtain ⟨T, x, y, rfl, hT, hH, hx, hy⟩ := hy
    obtain ⟨d, h1, h2⟩ := (RpAll.mono k _ _ r).get (hx vs (h w' _ k).1)
    obtain ⟨e, h3, h4⟩ := (RpAll.mono k _ _ q).get (hy us (h w' _ k).2)
    obtain ⟨e1, e2, e3⟩ := turn_pair g hT hH h2 h4
    exact ⟨_, w', zipD_get h1 h3, rfl, e1, e2, e3⟩
  stop := fun i w' H' k g hi => by
    rw [zipD_len, ← r.length, ← q.length] at hi
    exact ⟨vs, us, (h w' H' k).1, (h w' H' k).2, by omega⟩
theorem itd_zipT {a b : Addr} {ds es : List D} {vs us : List V} (h : ∀ w' H', Kp w H w' H' → SqT K H' a vs ∧ SqT K H' b us) (r : RpAll K w H ds vs) (q : RpAll K w H es us) : ItD K w H (ItzT K a b) (zipD ds es) where
  go := fun i w' H' k g hi => by
    rw [zipD_len, ← r.length, ← q.length] at hi
    exact ⟨vs, us, vs[i], us[i], (h w' H' k).1, (h w' H' k).2, by simp [show i < vs.length by omega], by simp [show i < us.length by omega]⟩
  yld := fun i w' H' z H2 k g hi hy => by
    obtain ⟨T, x, y, rfl, hT, hH, hx, hy⟩ := hy
    obtain ⟨d, h1, h2⟩ := (RpAll.mono k _ _ r).get (hx vs (h w' _ k).1)
    obtain ⟨e, h3, h4⟩ := (RpAll.mono k _ _ q).get (hy us (h w' _ k).2)
    obtain ⟨e1, e2, e3⟩ := turn_pair g hT hH h2 h4
    exact ⟨_, w', zipD_get h1 h3, rfl, e1, e2, e3⟩
  stop := fun i w' H' k g hi => by
    rw [zipD_len, ← r.length, ← q.length] at hi
    exact ⟨vs, us, (h w' H' k).1, (h w' H' k).2, by omega⟩
def itZip (s : AT) : IT := fun ρ μ P => s ρ μ fun ds μ1 => match ds with
  | [.lst xs, .lst ys] => P (zipD xs ys) μ1
  | [.tup xs, .tup ys] => P (zipD xs ys) μ1
  | _ => False
theorem ti_zip {e e2 : Expr} {sa : AT} {p pos tpos : Pos} {elts : List Expr} {kk : Nat} (hg : Gl X "zip") (hm : X.mg "zip" = none) (ha : PA X [e, e2] (LA X.K sa))
    (hs : starEach [e, e2] X.env = (false, eval e X.env) :: starEach [e2] X.env := by rfl) (hpl : (backTo pos (starEach [e2] X.env)).any (·.1) = false := by rfl) :
    PI X (.Tuple elts kk tpos) (.Call (.Name "zip" p) [e, e2] [] pos) (LI X.K (itZip sa)) :=
  ti_of (pi_zipA hg hm ha hs hpl) fun σ H R ⟨w, ρ, P, g, er, t, f⟩ => ⟨w, ρ, _, g, er, t, fun ds vs w1 H1 e1 g1 r1 t1 => by
    split at t1
    · obtain ⟨x, y, rfl, ⟨a, us, rfl, h1, h2⟩, b, ws, rfl, h3, h4⟩ := rpAll2 r1
      exact ⟨a, b, us, ws, rfl, .inl ⟨h1.sq, h3.sq, f _ w1 H1 _ e1 g1 (itd_zipL (fun w' H' k => ⟨(k.fzL h1).sq, (k.fzL h3).sq⟩) h2 h4) t1⟩⟩
    · obtain ⟨x, y, rfl, ⟨a, us, rfl, h1, h2⟩, b, ws, rfl, h3, h4⟩ := rpAll2 r1
      exact ⟨a, b, us, ws, rfl, .inr ⟨h1.sq, h3.sq, f _ w1 H1 _ e1 g1 (itd_zipT (fun w' H' k => ⟨(k.fzT h1).sq, (k.fzT h3).sq⟩) h2 h4) t1⟩⟩
    · exact t1.elim⟩
def enumD (i : Nat) : List D → List D
  | [] => []
  | x :: xs => .tup [.int (i : Int), x] :: enumD (i + 1) xs
theorem enumD_get : ∀ {xs : List D} {k i : Nat} {x : D}, xs[i]? = some x → (enumD k xs)[i]? = some (.tup [.int ((k + i : Nat) : Int), x])
  | [], _, _, _, h => by simp at h
  | x :: xs, k, 0, _, h => by simp at h; subst h; rfl
  | x :: xs, k, i + 1, y, h => by
    show (enumD (k + 1) xs)[i]? = _
    rw [enumD_get (k := k + 1) (i := i) (x := y) (by simpa using h)]
    have : k + 1 + i = k + (i + 1) := by omega
    rw [this]
theorem enumD_len : ∀ {xs : List D} {k : Nat}, (enumD k xs).length = xs.length
  | [], _ => rfl
  | x :: xs, k => by
    show (enumD (k + 1) xs).length + 1 = _
    rw [enumD_len, List.length_cons]
theorem itd_enum {a : Addr} {ds : List D} {vs : List V} (h : ∀ w' H', Kp w H w' H' → SqL K H' a vs) (r : RpAll K w H ds vs) : ItD K w H (Ite K a) (enumD 0 ds) where
  go := fun i w' H' k g hi => by
    rw [enumD_len, ← r.length] at hi
    exact ⟨vs, vs[i], h w' H' k, by simp [hi]⟩
  yld := fun i w' H' z H2 k g hi hy => by
    obtain ⟨T, x, rfl, hT, hH, hx⟩ := hy
    obtain ⟨d, h1, h2⟩ := (RpAll.mono k _ _ r).get (hx vs (h w' _ k))
    obtain ⟨e1, e2, e3⟩ := turn_pair (d := .int (i : Int)) g hT hH rfl h2
    refine ⟨_, w', ?_, rfl, e1, e2, e3⟩
    rw [enumD_get h1, Nat.zero_add]
  stop := fun i w' H' k g hi => by
    rw [enumD_len, ← r.length] at hi
    exact ⟨vs, h w' H' k, hi⟩
def itEnum (s : AT) : IT := fun ρ μ P => s ρ μ fun ds μ1 => match ds with
  | [.lst xs] => P (enumD 0 xs) μ1
  | _ => False
theorem ti_enum {e : Expr} {sa : AT} {p pos tpos : Pos} {elts : List Expr} {kk : Nat} (hg : Gl X "enumerate") (hm : X.mg "enumerate" = none) (ha : PA X [e] (LA X.K sa)) (hs : starEach [e] X.env = [(false, eval e X.env)] := by rfl) :
    PI X (.Tuple elts kk tpos) (.Call (.Name "enumerate" p) [e] [] pos) (LI X.K (itEnum sa)) :=
  ti_of (pi_enum hg hm ha hs) fun σ H R ⟨w, ρ, P, g, er, t, f⟩ => ⟨w, ρ, _, g, er, t, fun ds vs w1 H1 e1 g1 r1 t1 => by
    split at t1
    · obtain ⟨x, rfl, a, us, rfl, h1, h2⟩ := rpAll1 r1
      exact ⟨a, us, rfl, h1.sq, f _ w1 H1 _ e1 g1 (itd_enum (fun w' H' k => (k.fzL h1).sq) h2) t1⟩
    · exact t1.elim⟩
end

/-! ### a def by its body -/
def startD (N : List Str) (ds : List D) : Env := ds.map some ++ List.replicate (N.length - ds.length) none
theorem envR_start {K : PySem.W.Frag} {w : Wo} {H : Hp} {N : List Str} {ds : List D} {vs : List V} (r : RpAll K w H ds vs) : EnvR K w H (startD N ds) (L2.start N vs) := by
  refine ⟨by simp [startD, L2.start, r.length], fun i d h => ?_⟩
  unfold startD at h
  by_cases hi : i < ds.length
  · rw [List.getElem?_append_left (by simpa using hi), List.getElem?_map] at h
    cases q : ds[i]? with
    | none => rw [q] at h; cases h
    | some e =>
      rw [q] at h
      cases h
      obtain ⟨v, h1, h2⟩ := r.get' q
      refine ⟨v, ?_, h2⟩
      unfold L2.start
      rw [List.getElem?_append_left (by simpa [r.length] using hi), List.getElem?_map, h1]
      rfl
  · rw [List.getElem?_append_right (by simpa using hi), List.getElem?_replicate] at h
    split at h <;> cases h
section
variable {P : Program} {wd : World} {K : PySem.W.Frag} {mg : Str → Option Value} {base : Heap}
theorem fn_ok {x qual : Str} {st : Stmt} {f : Addr} {fd : FuncData} {N ps : List Str} {k : Nat} {sp : RAD} {t : ST} (F : Fun K x qual st f fd) (S : FnScope N ps (defScope st))
    (hb : ∀ (cdv : Value) (A : Around) (outer : List PySem.Env) (s : Shared) (H : Hp) (E : XK), Room k (A.deeper (envOfC qual (defScope st) s.heap.objs.size f cdv)) →
      PSs (cxOf CX0 P wd K mg base N qual (defScope st) f cdv A outer s H E).nox (defBody st) (LS K t))
    (len : ∀ ds μ Pd, sp ds μ Pd → ds.length = ps.length) (hs : ∀ ds μ Pd, sp ds μ Pd → t { nx := fun _ μ' => Pd .non μ', rt := Pd } (startD N ds) μ) : FnD P wd K mg base (k + 1) f fd ps sp := by
  refine F.ok S (fun vs H Q E h => ?_) (fun cdv A outer s H vs Q E hr h => ?_)
  · obtain ⟨w, ds, Pd, g, r, q, f⟩ := h
    rw [r.length]
    exact len ds _ Pd q
  · obtain ⟨w, ds, Pd, g, r, q, f⟩ := h
    refine ⟨_, hb cdv A outer s H E hr, w, startD N ds, _, g, envR_start r, hs ds _ Pd q, ?_⟩
    exact ⟨fun ρ' σ' w' H' e g' er' p => f .non .non w' H' e g' rfl p, f, fun _ _ _ _ _ _ _ p => p.elim, fun _ _ _ _ _ _ _ p => p.elim⟩
end
end Tr
set_option Elab.async false
set_option linter.all false
set_option maxRecDepth 100000
namespace Tr
open PySem PySem.Spec PyProof.Rows L2 RZ

/-- a def of the text that stands under its name -/
structure FnI (P : Program) (wd : World) (K : PySem.W.Frag) (mg : Str → Option Value) (base : Heap) (x : Str) (st : Stmt) (k : Nat) (ps : List Str) (sp : RAD) : Prop where
  ex : ∃ (f : Addr) (fd : FuncData), FnD P wd K mg base k f fd ps sp ∧ mg x = some (.ref f) ∧ Fun K x x st f fd ∧ Binds K fd ps []
theorem FnI.mono {P : Program} {wd : World} {K : PySem.W.Frag} {mg : Str → Option Value} {base : Heap} {x : Str} {st : Stmt} {j k : Nat} {ps : List Str} {sp : RAD} (F : FnI P wd K mg base x st j ps sp) (h : j ≤ k) : FnI P wd K mg base x st k ps sp := by
  obtain ⟨f, fd, a, b, c, d⟩ := F.ex
  exact ⟨f, fd, a.mono h, b, c, d⟩
theorem SpOf.imp {K : PySem.W.Frag} {sp sp' : RAD} (h : ∀ ds μ P, sp' ds μ P → sp ds μ P) (vs : List V) (H : Hp) (Q : VK) (E : XK) (q : SpOf K sp' vs H Q E) : SpOf K sp vs H Q E := by
  obtain ⟨w, ds, P, g, r, t, f⟩ := q
  exact ⟨w, ds, P, g, r, h _ _ _ t, f⟩
theorem FnI.imp {P : Program} {wd : World} {K : PySem.W.Frag} {mg : Str → Option Value} {base : Heap} {x : Str} {st : Stmt} {k : Nat} {ps : List Str} {sp sp' : RAD} (F : FnI P wd K mg base x st k ps sp) (h : ∀ ds μ P, sp' ds μ P → sp ds μ P) : FnI P wd K mg base x st k ps sp' := by
  obtain ⟨f, fd, a, b, c, d⟩ := F.ex
  exact ⟨f, fd, FnOk.imp a (SpOf.imp h), b, c, d⟩
theorem fni_mk {P : Program} {wd : World} {K : PySem.W.Frag} {mg : Str → Option Value} {base : Heap} {x : Str} {st : Stmt} {f : Addr} {fd : FuncData} {k : Nat} {ps : List Str} {sp : RAD} (F : Fun K x x st f fd) (hm : mg x = some (.ref f)) (h : FnD P wd K mg base k f fd ps sp)
    (hb : Binds K fd ps []) : FnI P wd K mg base x st k ps sp := ⟨f, fd, h, hm, F, hb⟩
def pick (pm : List Nat) {α : Type} [Inhabited α] (l : List α) : List α := pm.map fun i => l.getD i default
theorem pick_rel {K : PySem.W.Frag} {w : Wo} {H : Hp} {ds : List D} {vs : List V} (r : RpAll K w H ds vs) {pm : List Nat} (h : ∀ i, i ∈ pm → i < ds.length) : RpAll K w H (pick pm ds) (pm.map fun i => vs.getD i .non) := by
  refine RpAll.ofMem (by simp [pick]) fun i d v h1 h2 => ?_
  unfold pick at h1
  rw [List.getElem?_map] at h1 h2
  cases q : pm[i]? with
  | none => rw [q] at h1; cases h1
  | some j =>
    rw [q] at h1 h2
    have hj := h j (List.mem_of_getElem? q)
    have hj' : j < vs.length := by rw [r.length]; exact hj
    obtain ⟨v', e1, e2⟩ := r.get' (i := j) (List.getElem?_eq_getElem hj)
    simp only [Option.map_some, Option.some.injEq, List.getD_eq_getElem?_getD] at h1 h2
    rw [List.getElem?_eq_getElem hj] at h1
    rw [e1] at h2
    simp only [Option.getD_some] at h1 h2
    rw [← h1, ← h2]
    exact e2
theorem vals_pick {vs : List V} {us : List Value} (r : Vals vs us) {pm : List Nat} : Vals (pm.map fun i => vs.getD i .non) (pm.map fun i => us.getD i .none) := by
  induction pm with
  | nil => exact .nil
  | cons i pm ih =>
    refine .cons ?_ ih
    show RelV (vs.getD i .non) (us.getD i .none)
    rw [List.getD_eq_getElem?_getD, List.getD_eq_getElem?_getD]
    cases q : vs[i]? with
    | some v =>
      obtain ⟨u, e, r'⟩ := r.get q
      rw [e]
      exact r'
    | none =>
      rw [r.none_of q]
      exact rfl
section
variable {X : Cx} {e : Expr} {es : List Expr} {pos p : Pos} {sa : AT} {x : Str} {st : Stmt} {k j : Nat} {ps : List Str} {sp : RAD}
theorem te_fn (F : FnI X.prog X.w X.K X.mg X.base x st k ps sp) (hr : Room j X.A) (hg : Gl X x) (ha : PA X (e :: es) (LA X.K sa)) (hk : k ≤ j := by first | decide | omega) (hdb : (x == ("__debug__" : Str)) = false := by decide) (he : starEach (e :: es) X.env = (false, eval e X.env) :: starEach es X.env := by rfl)
    (hpl : (backTo pos (starEach es X.env)).any (·.1) = false := by rfl) : PE X (.Call (.Name x p) (e :: es) [] pos) (LE X.K (eCall sp sa)) := by
  obtain ⟨f, fd, a, b, c, d⟩ := F.ex
  exact te_call a (hr.mono hk) hg b c.kp d ha hdb he hpl
theorem te_fn0 (F : FnI X.prog X.w X.K X.mg X.base x st k ps sp) (hr : Room j X.A) (hg : Gl X x) (hk : k ≤ j := by first | decide | omega) (hdb : (x == ("__debug__" : Str)) = false := by decide) : PE X (.Call (.Name x p) [] [] pos) (LE X.K (eCall sp aNil)) := by
  obtain ⟨f, fd, a, b, c, d⟩ := F.ex
  exact te_call0 a (hr.mono hk) hg b c.kp d hdb
/-- f(k = v, ..), all by keywords (names ks, as they are written); pm: which of them stands at each parameter -/
def eCallP (sp : RAD) (pm : List Nat) (n : Nat) (s : AT) : ET := fun ρ μ P => s ρ μ fun ds μ1 => ds.length = n ∧ sp (pick pm ds) μ1 P
theorem te_fnK {kws : List Keyword} {ks : List Str} (pm : List Nat) (F : FnI X.prog X.w X.K X.mg X.base x st k ps sp) (hr : Room j X.A) (hg : Gl X x) (hkw : PK X kws (LA X.K sa))
    (hb : ∀ (kV doc pmm : Value) (an : Option Addr) (cdv ct : Value) (ws : List Value), ws.length = ks.length → bindArgs (PySem.W.fnOf x x (defArgs st) (defBody st) (defScope st) .none kV doc pmm an cdv ct) ⟨[], ks.zip ws⟩ = pure (ps.zip (pm.map fun i => ws.getD i .none)))
    (hpm : ∀ i, i ∈ pm → i < ks.length := by decide) (hk : k ≤ j := by first | decide | omega) (hall : (backToKw pos (keywordEach kws X.env)).all (·.1.isSome) = true := by rfl) (hks : (backToKw pos (keywordEach kws X.env)).filterMap (·.1) = ks := by rfl)
    (hdb : (x == ("__debug__" : Str)) = false := by decide) (hpl : ((backTo pos (starEach [] X.env)).any (·.1) || (backToKw pos (keywordEach kws X.env)).any (·.1.isNone)) = false := by rfl) (hpp : ps.length = pm.length := by rfl) :
    PE X (.Call (.Name x p) [] kws pos) (LE X.K (eCallP sp pm ks.length sa)) := by
  obtain ⟨f, fd, a, b, c, d⟩ := F.ex
  refine ⟨fun pins s σ H Q I ⟨w, ρ, P, g, er, t, f'⟩ => ?_⟩
  refine wpAny_Call_Name_kw (ld_glob I hg b ?_ hdb)
  refine PySem.W.callWith_KW0 (h₀ := X.base) I.ok.mod.kin c.kp hall ?_ hpl
  refine thn (hkw.run pos pins s σ H (fun vs H1 => ∃ w1 ds, Gd X.K w1 H1 ∧ RpAll X.K w1 H1 ds vs ∧ ds.length = ks.length ∧ sp (pick pm ds) w1.mu P ∧ Fin X.K w1 H1 P Q) I ⟨w, ρ, _, g, er, t, fun ds vs w1 H1 e1 g1 r1 ⟨hl, t1⟩ => ⟨w1, ds, g1, r1, hl, t1, f'.mono e1⟩⟩) ?_
  rintro ws s2 ⟨zs, H2, I2, rz, w1, ds, g1, r1, hl, t1, f1⟩
  refine ⟨I2.kIn, ?_⟩
  rw [hks]
  have hz : ws.length = ks.length := by rw [← rz.length, r1.length, hl]
  have r2 := vals_pick rz (pm := pm)
  have r3 := pick_rel r1 (pm := pm) (fun i hi => by rw [hl]; exact hpm i hi)
  have hsp : SpOf X.K sp (pm.map fun i => zs.getD i .non) H2 Q (fun _ _ _ => False) := ⟨w1, _, P, g1, r3, t1, f1⟩
  obtain ⟨oc, od, kV, doc, pmv, an, cdv, ct, osl, rfl, lk, hcd⟩ := c.ex
  refine wpAny_call (codeAny_mono (a.run X.A X.stack s2 H2 ⟨[], ks.zip ws⟩ _ _ Q (fun _ _ _ => False) (hr.mono hk) I2.env0 (.of_eq (hb kV doc pmv an cdv ct ws hz)) r2 hsp) fun r s' hq => ?_)
  cases r with
  | error er' => exact False.elim hq
  | ok fl =>
    cases fl with
    | ret u => exact I2.after hq
    | next => exact False.elim hq
    | brk => exact False.elim hq
    | cont => exact False.elim hq
theorem hu64 {A : Around} {k : Nat} (hr : Room k A) : A.units + 64 < cLine := hr.units
theorem hu65 {A : Around} {k : Nat} (hr : Room k A) : A.units + 65 < cLine := by have := hr.un; omega
def dNeg : R1D := fun x μ P => match x with
  | .int i => P (.int (-i)) μ
  | _ => False
def eUn (rd : R1D) (t : ET) : ET := fun ρ μ P => t ρ μ fun x μ1 => rd x μ1 P
theorem te_neg {a : Expr} {ta : ET} (ha : PE X a (LE X.K ta)) : PE X (.UnaryOp .USub a pos) (LE X.K (eUn dNeg ta)) :=
  te_of (pe_un un_neg ha) fun σ H Q ⟨w, ρ, P, g, er, t, f⟩ => ⟨w, ρ, _, g, er, t, fun d v w1 H1 e1 g1 r1 t1 => by
    unfold dNeg at t1
    split at t1
    · exact ⟨_, r1, (f.mono e1).int g1 t1⟩
    · exact t1.elim⟩
/-- a name of the module that holds a def, a class -/
theorem te_ref {a : Addr} (hg : Gl X x) (hm : X.mg x = some (.ref a)) (hdb : (x == ("__debug__" : Str)) = false := by decide) : PE X (.Name x p) (LE X.K (eC (.ref a))) := te_c (pe_glob hg hm (v := .ref a) rfl hdb) fun _ _ => rfl
theorem te_gint {i : Int} (hg : Gl X x) (hm : ∃ t, X.mg x = some (.int i t)) (hdb : (x == ("__debug__" : Str)) = false := by decide) : PE X (.Name x p) (LE X.K (eC (.int i))) := by
  obtain ⟨t, hm⟩ := hm
  exact te_c (pe_glob hg hm (v := .int i) ⟨_, rfl⟩ hdb) fun _ _ => rfl
theorem te_gstr {i : Str} (hg : Gl X x) (hm : ∃ t, X.mg x = some (.str i t)) (hdb : (x == ("__debug__" : Str)) = false := by decide) : PE X (.Name x p) (LE X.K (eC (.str i))) := by
  obtain ⟨t, hm⟩ := hm
  exact te_c (pe_glob hg hm (v := .str i) ⟨_, rfl⟩ hdb) fun _ _ => rfl
theorem te_ty {n : String} (hg : Gl X x) (hm : X.mg x = none) (hv : bootBuiltins x = some (.type n)) (hn : x ≠ "__name__" := by decide) (hdb : (x == ("__debug__" : Str)) = false := by decide) : PE X (.Name x p) (LE X.K (eC (.ty n))) := te_c (pe_bltn hg hm hv (v := .ty n) rfl hn hdb) fun _ _ => rfl
theorem tts_one {c : Expr} {q : BT} (h : PT X c (LB X.K q)) : PTs X [c] (LB X.K q) := pts_one h
/-- 'abc'.index(c), found -/
def dIndexS (a : Str) : R1D := fun y μ P => match y with
  | .str b => match Builtin.Str.occurrences a b 0 a.length 1 with
    | i :: _ => P (.int (i : Nat)) μ
    | [] => False
  | _ => False
theorem sd_index {K : PySem.W.Frag} : Str1D K (fun x xs H Q => ∃ a b i rest, x = .str a ∧ xs = [.str b] ∧ Builtin.Str.occurrences a b 0 a.length 1 = i :: rest ∧ Q (.int (i : Nat)) H) dIndexS := by
  intro w H a y dy P Q g r t f
  unfold dIndexS at t
  split at t
  · split at t
    · rename_i i rest hb
      exact ⟨a, _, i, rest, rfl, by rw [show y = _ from r], hb, f.int g t⟩
    · exact t.elim
  · exact t.elim
theorem te_sindex {o : Expr} {ta tb : ET} {apos : Pos} (ho : PE X o (LE X.K ta)) (he : PE X e (LE X.K tb)) (hs : starEach [e] X.env = [(false, eval e X.env)] := by rfl) (hbase : attributeBase o "index" X.env (eval o X.env) = eval o X.env := by rfl)
    (hline : (apos.endLine == pos.line) = true := by rfl) : PE X (.Call (.Attribute o "index" apos) [e] [] pos) (LE X.K (eStr1 dIndexS ta tb)) :=
  te_of (pe_m1 F.slot_str_index F.type_str_index mt_sindex ho he hs hbase hline) (lift_str1 sd_index)
end
end Tr
set_option Elab.async false
set_option linter.all false
set_option maxRecDepth 100000
namespace Tr
open PySem PySem.Spec PyProof.Rows L2 RZ
/-! what simp may open -/
section
variable {ρ : Env} {μ : Mu} {P : KD} {PB : KB} {PA' : KA} {DD : EndsD}
@[simp] theorem s_seq {t u : ST} : sSeq t u DD ρ μ = t { DD with nx := u DD } ρ μ := rfl
@[simp] theorem s_next : sNext DD ρ μ = DD.nx ρ μ := rfl
@[simp] theorem s_set {i : Nat} {t : ET} : sSet i t DD ρ μ = t ρ μ fun d μ1 => DD.nx (ρ.set i (some d)) μ1 := rfl
@[simp] theorem s_ret {t : ET} : sRet t DD ρ μ = t ρ μ DD.rt := rfl
@[simp] theorem s_retN : sRetN DD ρ μ = DD.rt .non μ := rfl
@[simp] theorem s_expr {t : ET} : sExpr t DD ρ μ = t ρ μ fun _ μ1 => DD.nx ρ μ1 := rfl
@[simp] theorem s_if {q : BT} {t u : ST} : sIf q t u DD ρ μ = q ρ μ fun b μ1 => if b = true then t DD ρ μ1 else u DD ρ μ1 := rfl
@[simp] theorem s_for {it : IT} {tg : Tgt} {tb : ST} : sFor it tg tb DD ρ μ = it ρ μ fun ds μ1 => loopD tg tb DD ds ρ μ1 := rfl
@[simp] theorem s_asg {tg : Tgt} {t : ET} : sAsg tg t DD ρ μ = t ρ μ fun d μ1 => gD tg d ρ μ1 DD.nx := rfl
@[simp] theorem s_par {i j : Nat} {s : AT} : sPar i j s DD ρ μ = s ρ μ fun ds μ1 => match ds with | [x, y] => DD.nx ((ρ.set i (some x)).set j (some y)) μ1 | _ => False := rfl
@[simp] theorem e_c {d : D} : eC d ρ μ P = P d μ := rfl
theorem e_var {i : Nat} : eVar i ρ μ P = match ρ[i]? with | some (some d) => P d μ | _ => False := rfl
@[simp] theorem e_v0 {d : D} {r : Env} : eVar 0 (some d :: r) μ P = P d μ := rfl
@[simp] theorem e_vS {i : Nat} {o : Option D} {r : Env} : eVar (i + 1) (o :: r) μ P = eVar i r μ P := by simp [e_var]
@[simp] theorem e_v1 {a1 : Option D} {d : D} {r : Env} : eVar 1 (a1 :: some d :: r) μ P = P d μ := rfl
@[simp] theorem e_v2 {a1 a2 : Option D} {d : D} {r : Env} : eVar 2 (a1 :: a2 :: some d :: r) μ P = P d μ := rfl
@[simp] theorem e_v3 {a1 a2 a3 : Option D} {d : D} {r : Env} : eVar 3 (a1 :: a2 :: a3 :: some d :: r) μ P = P d μ := rfl
@[simp] theorem e_v4 {a1 a2 a3 a4 : Option D} {d : D} {r : Env} : eVar 4 (a1 :: a2 :: a3 :: a4 :: some d :: r) μ P = P d μ := rfl
@[simp] theorem e_v5 {a1 a2 a3 a4 a5 : Option D} {d : D} {r : Env} : eVar 5 (a1 :: a2 :: a3 :: a4 :: a5 :: some d :: r) μ P = P d μ := rfl
@[simp] theorem e_v6 {a1 a2 a3 a4 a5 a6 : Option D} {d : D} {r : Env} : eVar 6 (a1 :: a2 :: a3 :: a4 :: a5 :: a6 :: some d :: r) μ P = P d μ := rfl
@[simp] theorem e_v7 {a1 a2 a3 a4 a5 a6 a7 : Option D} {d : D} {r : Env} : eVar 7 (a1 :: a2 :: a3 :: a4 :: a5 :: a6 :: a7 :: some d :: r) μ P = P d μ := rfl
@[simp] theorem e_v8 {a1 a2 a3 a4 a5 a6 a7 a8 : Option D} {d : D} {r : Env} : eVar 8 (a1 :: a2 :: a3 :: a4 :: a5 :: a6 :: a7 :: a8 :: some d :: r) μ P = P d μ := rfl
@[simp] theorem e_v9 {a1 a2 a3 a4 a5 a6 a7 a8 a9 : Option D} {d : D} {r : Env} : eVar 9 (a1 :: a2 :: a3 :: a4 :: a5 :: a6 :: a7 :: a8 :: a9 :: some d :: r) μ P = P d μ := rfl
@[simp] theorem e_v10 {a1 a2 a3 a4 a5 a6 a7 a8 a9 a10 : Option D} {d : D} {r : Env} : eVar 10 (a1 :: a2 :: a3 :: a4 :: a5 :: a6 :: a7 :: a8 :: a9 :: a10 :: some d :: r) μ P = P d μ := rfl
@[simp] theorem e_v11 {a1 a2 a3 a4 a5 a6 a7 a8 a9 a10 a11 : Option D} {d : D} {r : Env} : eVar 11 (a1 :: a2 :: a3 :: a4 :: a5 :: a6 :: a7 :: a8 :: a9 :: a10 :: a11 :: some d :: r) μ P = P d μ := rfl
@[simp] theorem e_op {rd : R2D} {ta tb : ET} : eOp rd ta tb ρ μ P = ta ρ μ fun x μ1 => tb ρ μ1 fun y μ2 => rd x y μ2 P := rfl
@[simp] theorem e_un {rd : R1D} {ta : ET} : eUn rd ta ρ μ P = ta ρ μ fun x μ1 => rd x μ1 P := rfl
@[simp] theorem e_chain {rd rd' : R2D} {ta tb tc : ET} : eChain rd rd' ta tb tc ρ μ P = ta ρ μ fun x μ1 => tb ρ μ1 fun y μ2 => rd x y μ2 fun z μ3 => onB z fun k =>
  if k = true then tc ρ μ3 fun w μ4 => rd' y w μ4 P else P (.bl false) μ3 := rfl
@[simp] theorem onB_bl {b : Bool} {f : Bool → Prop} : onB (.bl b) f = f b := rfl
@[simp] theorem e_and {ta tb : ET} : eAnd ta tb ρ μ P = ta ρ μ fun d μ1 => onB d fun k => if k = true then tb ρ μ1 P else P (.bl false) μ1 := rfl
@[simp] theorem e_or {ta tb : ET} : eOr ta tb ρ μ P = ta ρ μ fun d μ1 => onB d fun k => if k = true then P (.bl true) μ1 else tb ρ μ1 P := rfl
@[simp] theorem e_not {ta : ET} : eNot ta ρ μ P = ta ρ μ fun d μ1 => onB d fun b => P (.bl (!b)) μ1 := rfl
@[simp] theorem e_if {q : BT} {ta tb : ET} : eIf q ta tb ρ μ P = q ρ μ fun b μ1 => if b = true then ta ρ μ1 P else tb ρ μ1 P := rfl
@[simp] theorem e_tup {s : AT} : eTup s ρ μ P = s ρ μ fun ds μ1 => ds.length ≤ sizeLine ∧ P (.tup ds) μ1 := rfl
@[simp] theorem e_lst {s : AT} : eLst s ρ μ P = s ρ μ fun ds μ1 => ds.length ≤ sizeLine ∧ P (.lst ds) μ1 := rfl
@[simp] theorem e_lstL {s : AT} : eLstL s ρ μ P = s ρ μ fun ds μ1 => ds.length ≤ sizeLine ∧ P (.loc μ1.length) (μ1 ++ [some (.lst ds)]) := rfl
@[simp] theorem e_call {rd : RAD} {s : AT} : eCall rd s ρ μ P = s ρ μ fun ds μ1 => rd ds μ1 P := rfl
@[simp] theorem e_callP {rd : RAD} {pm : List Nat} {n : Nat} {s : AT} : eCallP rd pm n s ρ μ P = s ρ μ fun ds μ1 => ds.length = n ∧ rd (pick pm ds) μ1 P := rfl
@[simp] theorem e_sl {t : ET} {l u : OT} : eSl t l u ρ μ P = t ρ μ fun d μ1 => l ρ μ1 fun lo μ2 => u ρ μ2 fun hi μ3 => dSl d lo hi μ3 P := rfl
@[simp] theorem o_no {Q : Option Int → Mu → Prop} : oNo ρ μ Q = Q none μ := rfl
@[simp] theorem o_yes {Q : Option Int → Mu → Prop} {t : ET} : oYes t ρ μ Q = t ρ μ fun d μ1 => match d with | .int i => Q (some i) μ1 | _ => False := rfl
@[simp] theorem e_str1 {rd : Str → R1D} {ta tb : ET} : eStr1 rd ta tb ρ μ P = ta ρ μ fun x μ1 => match x with | .str a => tb ρ μ1 fun y μ2 => rd a y μ2 P | _ => False := rfl
@[simp] theorem e_comp {it : IT} {tg : Tgt} {tt : BT} {te : ET} {vs : List Nat} : eComp it tg tt te vs ρ μ P = it ρ μ fun ds μ1 => compD tg tt te (wipeD ρ vs) ds [] μ1 fun ys μ2 => P (.lst ys) μ2 := rfl
@[simp] theorem a_nil : aNil ρ μ PA' = PA' [] μ := rfl
@[simp] theorem a_cons {t : ET} {s : AT} : aCons t s ρ μ PA' = t ρ μ fun d μ1 => s ρ μ1 fun ds μ2 => PA' (d :: ds) μ2 := rfl
@[simp] theorem b_b {t : ET} : bB t ρ μ PB = t ρ μ fun d μ1 => onB d fun b => PB b μ1 := rfl
@[simp] theorem b_t {t : ET} : bT t ρ μ PB = t ρ μ fun d μ1 => sized d ∧ match dTru d with | some b => PB b μ1 | none => False := rfl
@[simp] theorem b_and {s t : BT} : bAnd s t ρ μ PB = s ρ μ fun b μ1 => if b = true then t ρ μ1 PB else PB false μ1 := rfl
@[simp] theorem b_or {s t : BT} : bOr s t ρ μ PB = s ρ μ fun b μ1 => if b = true then PB true μ1 else t ρ μ1 PB := rfl
@[simp] theorem b_not {s : BT} : bNot s ρ μ PB = s ρ μ fun b μ1 => PB (!b) μ1 := rfl
@[simp] theorem b_yes : bYes ρ μ PB = PB true μ := rfl
@[simp] theorem it_any {t : ET} : itAny t ρ μ PA' = t ρ μ fun d μ1 => match d with | .lst xs => PA' xs μ1 | .fz xs => PA' xs μ1 | .tup xs => PA' xs μ1 | .str z => PA' (signs z) μ1 | _ => False := rfl
@[simp] theorem it_range1 {s : AT} : itRange1 s ρ μ PA' = s ρ μ fun ds μ1 => match ds with | [.int j] => (-(2 ^ 62) ≤ j ∧ j < 2 ^ 62) ∧ PA' (rangeD 0 j.toNat) μ1 | _ => False := rfl
@[simp] theorem it_zip {s : AT} : itZip s ρ μ PA' = s ρ μ fun ds μ1 => match ds with | [.lst xs, .lst ys] => PA' (zipD xs ys) μ1 | [.tup xs, .tup ys] => PA' (zipD xs ys) μ1 | _ => False := rfl
@[simp] theorem it_enum {s : AT} : itEnum s ρ μ PA' = s ρ μ fun ds μ1 => match ds with | [.lst xs] => PA' (enumD 0 xs) μ1 | _ => False := rfl
@[simp] theorem g_nm {i : Nat} {d : D} {Q : Env → Mu → Prop} : gD (.nm i) d ρ μ Q = Q (ρ.set i (some d)) μ := rfl
@[simp] theorem g_tp {ts : List Tgt} {xs : List D} {Q : Env → Mu → Prop} : gD (.tp ts) (.tup xs) ρ μ Q = (xs.length = ts.length ∧ gDs ts xs ρ μ Q) := rfl
@[simp] theorem gs_nil {xs : List D} {Q : Env → Mu → Prop} : gDs [] xs ρ μ Q = (xs = [] ∧ Q ρ μ) := rfl
@[simp] theorem gs_cons {t : Tgt} {ts : List Tgt} {x : D} {xs : List D} {Q : Env → Mu → Prop} : gDs (t :: ts) (x :: xs) ρ μ Q = gD t x ρ μ fun ρ1 μ1 => gDs ts xs ρ1 μ1 Q := rfl
@[simp] theorem l_nil {tg : Tgt} {tb : ST} : loopD tg tb DD [] ρ μ = DD.nx ρ μ := rfl
@[simp] theorem cp_nil {tg : Tgt} {tt : BT} {te : ET} {acc : List D} : compD tg tt te ρ [] acc μ PA' = PA' acc μ := rfl
theorem l_cons {tg : Tgt} {tb : ST} {d : D} {ds : List D} : loopD tg tb DD (d :: ds) ρ μ = gD tg d ρ μ fun ρ1 μ1 => tb { DD with nx := loopD tg tb DD ds, ct := loopD tg tb DD ds, bk := DD.nx } ρ1 μ1 := rfl
theorem cp_cons {tg : Tgt} {tt : BT} {te : ET} {acc ds : List D} {d : D} : compD tg tt te ρ (d :: ds) acc μ PA' = gD tg d ρ μ fun ρ1 μ1 => tt ρ1 μ1 fun b μ2 =>
    if b = true then te ρ1 μ2 fun y μ3 => acc.length < sizeLine ∧ compD tg tt te ρ ds (acc ++ [y]) μ3 PA' else compD tg tt te ρ ds acc μ2 PA' := rfl
@[simp] theorem wipe_nil : wipeD ρ [] = ρ := rfl
@[simp] theorem wipe_cons {v : Nat} {vs : List Nat} : wipeD ρ (v :: vs) = (wipeD ρ vs).set v none := rfl
theorem len_small {α : Type} {l : List α} (h : l.length ≤ 1000) : l.length ≤ sizeLine := Nat.le_trans h (by rw [sizeLine_eq]; decide)
@[simp] theorem sl_0 : 0 ≤ sizeLine := Nat.zero_le _
/-! isinstance -/
@[simp] theorem d_isi1 {x : D} {n : String} : dIsi [x, .ty n] μ P = match tyN x with | some t => n ∈ clss ∧ P (.bl (isTy t n)) μ | none => False := rfl
@[simp] theorem d_isi2 {x : D} {cs : List D} : dIsi [x, .tup cs] μ P = match tyN x, tyNs cs with | some t, some ns => (∀ n, n ∈ ns → n ∈ clss) ∧ P (.bl (ns.any (isTy t))) μ | _, _ => False := rfl
@[simp] theorem sized_non : sized .non := trivial
@[simp] theorem sized_bl {b : Bool} : sized (.bl b) := trivial
@[simp] theorem sized_int {b : Int} : sized (.int b) := trivial
@[simp] theorem sized_lst {b : List D} : sized (.lst b) := trivial
@[simp] theorem sized_tup {b : List D} : sized (.tup b) := trivial
@[simp] theorem sized_str {x : Str} : sized (.str x) = (x.length ≤ sizeLine) := rfl
@[simp] theorem tru_non : dTru .non = some false := rfl
@[simp] theorem tru_bl {b : Bool} : dTru (.bl b) = some b := rfl
@[simp] theorem tru_int {b : Int} : dTru (.int b) = some (b != 0) := rfl
@[simp] theorem tru_str {x : Str} : dTru (.str x) = some ((x.length : Int) != 0) := rfl
@[simp] theorem tru_lst {xs : List D} : dTru (.lst xs) = some (!xs.isEmpty) := rfl
@[simp] theorem tru_tup {xs : List D} : dTru (.tup xs) = some (!xs.isEmpty) := rfl
/-! operators on what is known -/
@[simp] theorem d_add_int {i j : Int} : dAdd (.int i) (.int j) μ P = P (.int (i + j)) μ := rfl
@[simp] theorem d_add_str {i j : Str} : dAdd (.str i) (.str j) μ P = (i.length + j.length ≤ sizeLine ∧ P (.str (i ++ j)) μ) := rfl
@[simp] theorem d_add_lst {i j : List D} : dAdd (.lst i) (.lst j) μ P = (i.length + j.length ≤ sizeLine ∧ P (.lst (i ++ j)) μ) := rfl
@[simp] theorem d_add_tup {i j : List D} : dAdd (.tup i) (.tup j) μ P = (i.length + j.length ≤ sizeLine ∧ P (.tup (i ++ j)) μ) := rfl
@[simp] theorem d_sub {i j : Int} : dSub (.int i) (.int j) μ P = P (.int (i - j)) μ := rfl
@[simp] theorem d_mul {i j : Int} : dMul (.int i) (.int j) μ P = (CMul i j ∧ P (.int (i * j)) μ) := rfl
@[simp] theorem d_mod {i j : Int} : dMod (.int i) (.int j) μ P = (0 < j ∧ P (.int (i % j)) μ) := rfl
@[simp] theorem d_fdiv {i j : Int} : dFdiv (.int i) (.int j) μ P = (CDiv i j ∧ P (.int (i / j)) μ) := rfl
@[simp] theorem d_pow {i j : Int} : dPow (.int i) (.int j) μ P = (CPow i j ∧ P (.int (i ^ j.toNat)) μ) := rfl
@[simp] theorem d_lt {i j : Int} : dLt (.int i) (.int j) μ P = P (.bl (decide (i < j))) μ := rfl
@[simp] theorem d_le {i j : Int} : dLe (.int i) (.int j) μ P = P (.bl (decide (i ≤ j))) μ := rfl
@[simp] theorem d_gt {i j : Int} : dGt (.int i) (.int j) μ P = P (.bl (decide (j < i))) μ := rfl
@[simp] theorem d_ge {i j : Int} : dGe (.int i) (.int j) μ P = P (.bl (decide (j ≤ i))) μ := rfl
@[simp] theorem d_neg {i : Int} : dNeg (.int i) μ P = P (.int (-i)) μ := rfl
@[simp] theorem d_is {x : D} : dIs x .non μ P = P (.bl (isNon x)) μ := rfl
@[simp] theorem d_isnot {x : D} : dIsNot x .non μ P = P (.bl (!isNon x)) μ := rfl
@[simp] theorem isNon_non : isNon .non = true := rfl
@[simp] theorem isNon_bl {b : Bool} : isNon (.bl b) = false := rfl
@[simp] theorem isNon_int {b : Int} : isNon (.int b) = false := rfl
@[simp] theorem isNon_str {b : Str} : isNon (.str b) = false := rfl
@[simp] theorem isNon_lst {b : List D} : isNon (.lst b) = false := rfl
@[simp] theorem isNon_tup {b : List D} : isNon (.tup b) = false := rfl
@[simp] theorem d_len_lst {xs : List D} : dLen [.lst xs] μ P = P (.int xs.length) μ := rfl
@[simp] theorem d_len_fz {xs : List D} : dLen [.fz xs] μ P = P (.int xs.length) μ := rfl
@[simp] theorem d_len_tup {xs : List D} : dLen [.tup xs] μ P = P (.int xs.length) μ := rfl
@[simp] theorem d_len_str {x : Str} : dLen [.str x] μ P = (x.length ≤ sizeLine ∧ P (.int x.length) μ) := rfl
@[simp] theorem d_int_int {i : Int} : dIntOf [.int i] μ P = P (.int i) μ := rfl
@[simp] theorem d_str_int {i : Int} : dStrOf [.int i] μ P = (i.natAbs.log2 < 1920 ∧ P (.str (toString i)) μ) := rfl
@[simp] theorem d_tup_lst {xs : List D} : dTupOf [.lst xs] μ P = P (.tup xs) μ := rfl
@[simp] theorem d_tup_tup {xs : List D} : dTupOf [.tup xs] μ P = P (.tup xs) μ := rfl
@[simp] theorem d_lst_lst {xs : List D} : dLstOf [.lst xs] μ P = P (.lst xs) μ := rfl
@[simp] theorem d_lst_tup {xs : List D} : dLstOf [.tup xs] μ P = P (.lst xs) μ := rfl
@[simp] theorem d_ix_lst {xs : List D} {i : Int} : dIx (.lst xs) (.int i) μ P = match atI xs i with | some d => P d μ | none => False := rfl
@[simp] theorem d_ix_tup {xs : List D} {i : Int} : dIx (.tup xs) (.int i) μ P = match atI xs i with | some d => P d μ | none => False := rfl
@[simp] theorem d_ix_str {z : Str} {i : Int} : dIx (.str z) (.int i) μ P = match atI z.cps.toList i with | some c => z.length ≤ sizeLine ∧ P (.str ⟨#[c]⟩) μ | none => False := rfl
@[simp] theorem d_ix_loc {n : Nat} {i : Int} : dIx (.loc n) (.int i) μ P = match μ[n]? with
    | some (some (.lst xs)) => match atI xs i with
      | some d => P d μ
      | none => False
    | _ => False := rfl
@[simp] theorem s_put {te tx ti : ET} : sPut te tx ti DD ρ μ = te ρ μ fun d μ1 => tx ρ μ1 fun x μ2 => ti ρ μ2 fun i μ3 => match x, i with
  | .loc n, .int k => match μ3[n]? with
    | some (some (.lst xs)) => match ixN xs.length k with
      | some j => DD.nx ρ (μ3.set n (some (.lst (xs.set j d))))
      | none => False
    | _ => False
  | _, _ => False := rfl
theorem cmul_r {i j : Int} (h : j.natAbs < 2 ^ 64) : CMul i j := .inr (by omega)
theorem cmul_l {i j : Int} (h : i.natAbs < 2 ^ 64) : CMul i j := .inl (by omega)
@[simp] theorem atI0 {α : Type} {a : α} {l : List α} : atI (a :: l) (0 : Int) = some a := by simp [atI, ixN]
@[simp] theorem atI1 {α : Type} {a b : α} {l : List α} : atI (a :: b :: l) (1 : Int) = some b := by
  have h : (1 : Int) < ((a :: b :: l).length : Int) := by simp only [List.length_cons]; omega
  simp only [atI, ixN]; rw [if_pos (by decide), if_pos h]; rfl
@[simp] theorem atI2 {α : Type} {a b c : α} {l : List α} : atI (a :: b :: c :: l) (2 : Int) = some c := by
  have h : (2 : Int) < ((a :: b :: c :: l).length : Int) := by simp only [List.length_cons]; omega
  simp only [atI, ixN]; rw [if_pos (by decide), if_pos h]; rfl
@[simp] theorem atI3 {α : Type} {a b c d : α} {l : List α} : atI (a :: b :: c :: d :: l) (3 : Int) = some d := by
  have h : (3 : Int) < ((a :: b :: c :: d :: l).length : Int) := by simp only [List.length_cons]; omega
  simp only [atI, ixN]; rw [if_pos (by decide), if_pos h]; rfl
theorem atI_nat' {α : Type} {l : List α} {i : Int} (h0 : 0 ≤ i) (h : i < (l.length : Int)) : ∃ x, l[i.toNat]? = some x ∧ atI l i = some x := by
  have hi : i.toNat < l.length := by omega
  refine ⟨l[i.toNat], List.getElem?_eq_getElem hi, ?_⟩
  simp only [atI, ixN]
  rw [if_pos h0, if_pos h]
  exact List.getElem?_eq_getElem hi
end
end Tr
set_option Elab.async false
set_option linter.all false
set_option maxRecDepth 100000
namespace Tr
open PySem PySem.Spec PyProof.Rows L2 RZ

/-! ### plain data -/
mutual
/-- plain data, n deep at most -/
def ok : Nat → D → Bool
  | _, .non => true
  | _, .bl _ => true
  | _, .int _ => true
  | _, .str x => PyData.strOk x && decide (x.length ≤ 1000)
  | n + 1, .lst xs => okA n xs && decide (xs.length ≤ 1000)
  | n + 1, .tup xs => okA n xs && decide (xs.length ≤ 1000)
  | _, _ => false
def okA : Nat → List D → Bool
  | _, [] => true
  | n, d :: ds => ok n d && okA n ds
end
/-! a comprehension whose element is a function of the item -/
theorem comp_map {tg : Tgt} {te : ET} {ρ : Tr.Env} {f : D → D} : ∀ (ds acc : List D) (μ : Mu) (P : KA), acc.length + ds.length ≤ 1000 →
    (∀ d, d ∈ ds → ∀ P : KD, P (f d) μ → gD tg d ρ μ fun ρ1 μ1 => te ρ1 μ1 P) → P (acc ++ ds.map f) μ → compD tg bYes te ρ ds acc μ P
  | [], acc, μ, P, _, _, h => by simpa using h
  | d :: ds, acc, μ, P, hl, he, h => by
    rw [cp_cons]
    have := he d List.mem_cons_self (fun y μ3 => acc.length < sizeLine ∧ compD tg bYes te ρ ds (acc ++ [y]) μ3 P) ?_
    · simpa using this
    · simp only [List.length_cons] at hl
      refine ⟨Nat.lt_of_lt_of_le (show acc.length < 1001 by omega) (by rw [sizeLine_eq]; decide), comp_map ds (acc ++ [f d]) μ P (by simp; omega) (fun d' hd' => he d' (List.mem_cons_of_mem _ hd')) (by simpa using h)⟩
theorem okA_mem {n : Nat} : ∀ {ds : List D} {d : D}, okA n ds = true → d ∈ ds → ok n d = true
  | [], _, _, h => by cases h
  | e :: ds, d, h, hm => by
    simp only [okA, Bool.and_eq_true] at h
    rcases List.mem_cons.mp hm with z | z
    · rw [z]; exact h.1
    · exact okA_mem h.2 z
theorem boolsOf_map {α : Type} (f : α → Bool) : ∀ l : List α, boolsOf (l.map fun x => D.bl (f x)) = some (l.map f)
  | [] => rfl
  | x :: l => by simp [boolsOf, boolsOf_map f l]
/-- a letter by the order of texts -/
theorem le_sign (a b : Nat) : (!decide ([b] < [a])) = decide (a ≤ b) := by
  have : ([b] < [a]) ↔ b < a := by
    constructor
    · intro h
      cases h with
      | rel h => exact h
      | cons h => cases h
    · exact fun h => List.Lex.rel h
  by_cases h : b < a
  · simp [this, h, Nat.not_le.mpr h]
  · simp [this, h, Nat.le_of_not_lt h]
theorem comp_mapG {α : Type} {tg : Tgt} {te : ET} {ρ : Tr.Env} (g f : α → D) : ∀ (l : List α) (acc : List D) (μ : Mu) (P : KA), acc.length + l.length ≤ 1000 →
    (∀ a, a ∈ l → ∀ P : KD, P (f a) μ → gD tg (g a) ρ μ fun ρ1 μ1 => te ρ1 μ1 P) → P (acc ++ l.map f) μ → compD tg bYes te ρ (l.map g) acc μ P
  | [], acc, μ, P, _, _, h => by simpa using h
  | a :: l, acc, μ, P, hl, he, h => by
    rw [List.map_cons, cp_cons]
    have := he a List.mem_cons_self (fun y μ3 => acc.length < sizeLine ∧ compD tg bYes te ρ (l.map g) (acc ++ [y]) μ3 P) ?_
    · simpa using this
    · simp only [List.length_cons] at hl
      refine ⟨Nat.lt_of_lt_of_le (show acc.length < 1001 by omega) (by rw [sizeLine_eq]; decide), comp_mapG g f l (acc ++ [f a]) μ P (by simp; omega) (fun d' hd' => he d' (List.mem_cons_of_mem _ hd')) (by simpa using h)⟩
theorem comp_signs {tg : Tgt} {te : ET} {ρ : Tr.Env} (x : Str) (f : Nat → D) (μ : Mu) (P : KA) (hl : x.length ≤ 1000) (he : ∀ c, c ∈ x.cps.toList → ∀ P : KD, P (f c) μ → gD tg (.str ⟨#[c]⟩) ρ μ fun ρ1 μ1 => te ρ1 μ1 P)
    (h : P (x.cps.toList.map f) μ) : compD tg bYes te ρ (Tr.signs x) [] μ P := comp_mapG (fun c => D.str ⟨#[c]⟩) f x.cps.toList [] μ P (by simpa [Str.length] using hl) he (by simpa using h)
theorem all_bl {α : Type} (l : List α) (f : α → Bool) (μ : Mu) (P : KD) (h : P (.bl (l.all f)) μ) : dAll [.lst (l.map fun a => .bl (f a))] μ P := by
  simp only [dAll, boolsOf_map]
  simpa [List.all_map, Function.comp_def] using h
theorem any_bl {α : Type} (l : List α) (f : α → Bool) (μ : Mu) (P : KD) (h : P (.bl (l.any f)) μ) : dAny [.lst (l.map fun a => .bl (f a))] μ P := by
  simp only [dAny, boolsOf_map]
  simpa [List.any_map, Function.comp_def] using h
mutual
theorem ok_up : ∀ {n : Nat} {d : D}, ok n d = true → ok (n + 1) d = true
  | n, .non, _ => by cases n <;> rfl
  | n, .bl _, _ => by cases n <;> rfl
  | n, .int _, _ => by cases n <;> rfl
  | n, .str _, h => by cases n <;> simpa [ok] using h
  | 0, .lst _, h => by cases h
  | 0, .tup _, h => by cases h
  | n + 1, .lst xs, h => by
    simp only [ok, Bool.and_eq_true] at h ⊢
    exact ⟨okA_mono h.1, h.2⟩
  | n + 1, .tup xs, h => by
    simp only [ok, Bool.and_eq_true] at h ⊢
    exact ⟨okA_mono h.1, h.2⟩
  | n, .fz _, h => by cases n <;> cases h
  | n, .dT _ _, h => by cases n <;> cases h
  | n, .dK _ _, h => by cases n <;> cases h
  | n, .ins _ _ _, h => by cases n <;> cases h
  | n, .loc _, h => by cases n <;> cases h
  | n, .ref _, h => by cases n <;> cases h
  | n, .ty _, h => by cases n <;> cases h
theorem okA_mono : ∀ {n : Nat} {ds : List D}, okA n ds = true → okA (n + 1) ds = true
  | _, [], _ => rfl
  | n, d :: ds, h => by
    simp only [okA, Bool.and_eq_true] at h ⊢
    exact ⟨ok_up h.1, okA_mono h.2⟩
end
end Tr
set_option Elab.async false
set_option linter.all false
set_option maxRecDepth 100000
namespace Tr
open PySem PySem.Spec PyProof.Rows L2 RZ

/-! ### the draws: the bag is a list that changes -/
def Bg (c : Cell) : Prop := ∃ (ns : List Int) (a b m : Int), c = .lst [.lst (ns.map D.int), .int a, .int b, .int m] ∧ ns.length ≤ 63 ∧ 0 ≤ a
def BagAt (μ : Mu) (n : Nat) : Prop := ∃ c, μ[n]? = some (some c) ∧ Bg c
/-- the bag at n may have turned -/
def Dr (n : Nat) (μ μ' : Mu) : Prop := ∃ c, Bg c ∧ μ' = μ.set n (some c)
def sp_bag : RAD := fun ds μ P => ∃ ns : List Int, ds = [.fz (ns.map D.int)] ∧ ns.length ≤ 63 ∧ ∀ c, Bg c → P (.loc μ.length) (μ ++ [some c])
def sp_draw : RAD := fun ds μ P => ∃ (n : Nat) (many : Int), ds = [.loc n, .int many] ∧ BagAt μ n ∧ 0 < many ∧ many < 1073741824 ∧ ∀ r μ', 0 ≤ r → r < many → Dr n μ μ' → P (.int r) μ'
/-- what may be picked from -/
def picks : D → List D
  | .lst xs => xs
  | .tup xs => xs
  | .str z => signs z
  | _ => []
def sp_pick : RAD := fun ds μ P => ∃ (n : Nat) (x : D), ds = [.loc n, x] ∧ BagAt μ n ∧ picks x ≠ [] ∧ (picks x).length < 1000 ∧ ∀ d μ', d ∈ picks x → Dr n μ μ' → P d μ'

def okS : Nat → D → Bool
  | 0, _ => false
  | n + 1, d => ok n d
@[simp] theorem okS_8 {d : D} : okS 8 d = ok 7 d := rfl
def sp_same (n : Nat) : RAD := fun ds μ P => ∃ x, ds = [x, x] ∧ okS n x = true ∧ P (.bl true) μ

def tr_bag : ST :=
  (sSeq (sSet 1 (eComp (itAny (eSl (eVar 0) oNo (oYes (eC (.int 63))))) (.nm 3) bYes (eCall dIntOf (aCons (eVar 3) aNil)) [3]))
  (sSeq (sSet 2 (eOp dAdd (eC (.int 120310)) (eOp dMul (eC (.int 61)) (eCall dLen (aCons (eVar 1) aNil)))))
  (sSeq (sFor (itAny (eVar 1)) (.nm 3)
  (sSet 2 (eOp dMod (eCall dIntOf (aCons (eOp dAdd (eOp dMul (eVar 2) (eC (.int 6947))) (eVar 3)) aNil)) (eC (.int 2147483423)))))
  (sRet (eLstL (aCons (eVar 1) (aCons (eC (.int 0)) (aCons (eC (.int 0)) (aCons (eVar 2) aNil)))))))))
def dr_end : ST :=
  (sSeq (sSet 5 (eOp dMod (eCall dIntOf (aCons (eOp dIx (eVar 0) (eC (.int 2))) aNil)) (eVar 1)))
  (sSeq (sPut (eOp dFdiv (eCall dIntOf (aCons (eOp dIx (eVar 0) (eC (.int 2))) aNil)) (eVar 1)) (eVar 0) (eC (.int 2)))
  (sRet (eVar 5))))
def dr_fresh : ST :=
  (sSeq (sSet 3 (eOp dMod (eCall dIntOf (aCons (eOp dAdd (eOp dAdd (eOp dMul (eVar 2) (eC (.int 43051))) (eOp dMul (eOp dIx (eVar 0) (eC (.int 1))) (eC (.int 39119)))) (eOp dIx (eVar 0) (eC (.int 3)))) aNil)) (eC (.int 2147483587))))
  (sSeq (sSet 4 (eOp dMod (eCall dIntOf (aCons (eOp dAdd (eOp dMul (eVar 3) (eVar 3)) (eOp dMul (eOp dIx (eVar 0) (eC (.int 1))) (eC (.int 60607)))) aNil)) (eC (.int 998244353))))
  (sRet (eOp dMod (eOp dFdiv (eOp dMod (eCall dIntOf (aCons (eOp dAdd (eOp dMul (eVar 4) (eC (.int 46819))) (eVar 3)) aNil)) (eC (.int 2147483549))) (eC (.int 23))) (eVar 1)))))
def dr_mid : ST :=
  (sSeq (sIf (bOr (bB (eOp dGt (eOp dIx (eVar 0) (eC (.int 1))) (eCall dLen (aCons (eOp dIx (eVar 0) (eC (.int 0))) aNil)))) (bB (eOp dLt (eVar 2) (eOp dPow (eC (.int 10)) (eC (.int 18)))))) dr_fresh sNext)
  (sPut (eVar 2) (eVar 0) (eC (.int 2))))
def tr_draw : ST :=
  (sSeq (sIf (bB (eOp dLt (eOp dIx (eVar 0) (eC (.int 2))) (eC (.int 2))))
  (sSeq (sPut (eOp dAdd (eOp dIx (eVar 0) (eC (.int 1))) (eC (.int 1))) (eVar 0) (eC (.int 1)))
  (sSeq (sSet 2 (eOp dAdd (eOp dIx (eVar 0) (eC (.int 3))) (eOp dMul (eOp dIx (eVar 0) (eC (.int 1))) (eC (.int 9241)))))
  (sSeq (sIf (bB (eOp dLe (eOp dIx (eVar 0) (eC (.int 1))) (eCall dLen (aCons (eOp dIx (eVar 0) (eC (.int 0))) aNil))))
  (sSet 2 (eOp dIx (eOp dIx (eVar 0) (eC (.int 0))) (eOp dSub (eOp dIx (eVar 0) (eC (.int 1))) (eC (.int 1))))) sNext)
  dr_mid))) sNext)
  dr_end)
def tr_pick : ST :=
  (sRet (eOp dIx (eVar 1) (eCall sp_draw (aCons (eVar 0) (aCons (eCall dLen (aCons (eVar 1) aNil)) aNil)))))
def tr_same (n : Nat) : ST :=
  (sSeq (sIf (bOr (bB (eOp dIs (eVar 1) (eC .non))) (bB (eOp dIs (eVar 0) (eC .non))))
  (sRet (eAnd (eOp dIs (eVar 1) (eC .non)) (eOp dIs (eVar 0) (eC .non)))) sNext)
  (sSeq (sIf (bOr (bT (eCall dIsi (aCons (eVar 1) (aCons (eTup (aCons (eC (.ty "list")) (aCons (eC (.ty "tuple")) aNil))) aNil)))) (bT (eCall dIsi (aCons (eVar 0) (aCons (eTup (aCons (eC (.ty "list")) (aCons (eC (.ty "tuple")) aNil))) aNil)))))
  (sSeq (sIf (bOr (bB (eOp dNe (eCall dIsi (aCons (eVar 1) (aCons (eC (.ty "list")) aNil))) (eCall dIsi (aCons (eVar 0) (aCons (eC (.ty "list")) aNil))))) (bB (eOp dNe (eCall dIsi (aCons (eVar 1) (aCons (eC (.ty "tuple")) aNil))) (eCall dIsi (aCons (eVar 0) (aCons (eC (.ty "tuple")) aNil))))))
  (sRet (eC (.bl false))) sNext)
  (sRet (eAnd (eOp dEq (eCall dLen (aCons (eVar 0) aNil)) (eCall dLen (aCons (eVar 1) aNil))) (eCall dAll (aCons (eComp (itZip (aCons (eVar 0) (aCons (eVar 1) aNil))) (.tp [(.nm 2), (.nm 3)]) bYes (eCall (sp_same n) (aCons (eVar 2) (aCons (eVar 3) aNil))) [2, 3]) aNil))))) sNext)
  (sSeq (sIf (bOr (bB (eOp dNe (eCall dIsi (aCons (eVar 1) (aCons (eC (.ty "bool")) aNil))) (eCall dIsi (aCons (eVar 0) (aCons (eC (.ty "bool")) aNil))))) (bB (eOp dNe (eCall dIsi (aCons (eVar 1) (aCons (eC (.ty "str")) aNil))) (eCall dIsi (aCons (eVar 0) (aCons (eC (.ty "str")) aNil))))))
  (sRet (eC (.bl false))) sNext)
  (sRet (eAnd (eOp dEq (eCall dIsi (aCons (eVar 1) (aCons (eC (.ty "int")) aNil))) (eCall dIsi (aCons (eVar 0) (aCons (eC (.ty "int")) aNil)))) (eOp dEq (eVar 0) (eVar 1)))))))
theorem BagAt.lt {μ : Mu} {n : Nat} (h : BagAt μ n) : n < μ.length := by
  obtain ⟨c, h, _⟩ := h
  exact (List.getElem?_eq_some_iff.mp h).1
theorem Dr.refl {μ : Mu} {n : Nat} (h : BagAt μ n) : Dr n μ μ := by
  obtain ⟨c, h, g⟩ := h
  obtain ⟨hl, e⟩ := List.getElem?_eq_some_iff.mp h
  exact ⟨c, g, by rw [← e, List.set_getElem_self]⟩
theorem Dr.at {μ μ' : Mu} {n : Nat} (h : BagAt μ n) (d : Dr n μ μ') : BagAt μ' n := by
  obtain ⟨c, g, rfl⟩ := d
  exact ⟨c, by rw [List.getElem?_set_self h.lt], g⟩
theorem Dr.trans {μ μ' μ'' : Mu} {n : Nat} (d : Dr n μ μ') (e : Dr n μ' μ'') : Dr n μ μ'' := by
  obtain ⟨c, g, rfl⟩ := d
  obtain ⟨c', g', rfl⟩ := e
  exact ⟨c', g', by rw [List.set_set]⟩
theorem Dr.len {μ μ' : Mu} {n : Nat} (d : Dr n μ μ') : μ'.length = μ.length := by
  obtain ⟨c, g, rfl⟩ := d
  simp
theorem Dr.other {μ μ' : Mu} {n m : Nat} (d : Dr n μ μ') (h : m ≠ n) : μ'[m]? = μ[m]? := by
  obtain ⟨c, g, rfl⟩ := d
  rw [List.getElem?_set_ne (Ne.symm h)]
/-- behind the first change of the bag -/
theorem draw_set {μ : Mu} {n : Nat} {c c' : Cell} (h : μ[n]? = some (some c)) : (μ.set n (some c'))[n]? = some (some c') := List.getElem?_set_self (List.getElem?_eq_some_iff.mp h).1
theorem hs_draw (n : Nat) (many : Int) (μ : Mu) (Pd : KD) (hb : BagAt μ n) (h0 : 0 < many) (h1 : many < 1073741824) (hP : ∀ r μ', 0 ≤ r → r < many → Dr n μ μ' → Pd (.int r) μ') :
    tr_draw { nx := fun _ μ' => Pd .non μ', rt := Pd } [some (.loc n), some (.int many), none, none, none, none] μ := by
  obtain ⟨c, hm, ns, a, b, m, rfl, hl, ha⟩ := hb
  unfold tr_draw
  have i1 : ∀ x y z w : D, ixN [x, y, z, w].length 1 = some 1 := fun _ _ _ _ => rfl
  have i2 : ∀ x y z w : D, ixN [x, y, z, w].length 2 = some 2 := fun _ _ _ _ => rfl
  have c1 : ∀ x : Int, CMul x 9241 := fun x => cmul_r (by decide)
  have c2 : ∀ x : Int, CMul x 43051 := fun x => cmul_r (by decide)
  have c3 : ∀ x : Int, CMul x 39119 := fun x => cmul_r (by decide)
  have c4 : ∀ x : Int, CMul x 60607 := fun x => cmul_r (by decide)
  have c5 : ∀ x : Int, CMul x 46819 := fun x => cmul_r (by decide)
  have cd : ∀ x : Int, CDiv x many := fun x => ⟨h0, h1⟩
  have cd23 : ∀ x : Int, CDiv x 23 := fun x => ⟨by decide, by decide⟩
  -- the end: a digit of the number at hand
  have fin : ∀ (μ1 : Mu) (e z : Int) (f : Option D) (f3 f4 : Option D), Dr n μ μ1 → 0 ≤ e → μ1[n]? = some (some (.lst [.lst (ns.map D.int), .int e, .int z, .int m])) →
      dr_end { nx := fun _ μ' => Pd .non μ', rt := Pd } [some (.loc n), some (.int many), f, f3, f4, none] μ1 := by
    intro μ1 e z f f3 f4 hd he h3
    simp only [dr_end, s_seq, s_set, e_op, e_call, a_cons, a_nil, e_v0, e_v1, e_v5, e_c, d_ix_loc, h3, atI2, d_int_int, d_mod, s_put, d_fdiv, i2, s_ret, List.set_cons_succ, List.set_cons_zero]
    refine ⟨h0, cd _, ?_⟩
    exact hP _ _ (Int.emod_nonneg _ (by omega)) (Int.emod_lt_of_pos _ h0) (hd.trans ⟨_, ⟨ns, e, _, m, rfl, hl, he⟩, rfl⟩)
  by_cases hb : b < 2
  · simp only [s_seq, s_if, b_b, e_op, e_v0, e_c, d_ix_loc, hm, atI2, d_lt, onB_bl, hb, decide_true, if_true, s_put, atI1, d_add_int, i1, List.set_cons_succ, List.set_cons_zero]
    have h3 := draw_set (c' := .lst [.lst (ns.map D.int), .int (a + 1), .int b, .int m]) hm
    have hd : Dr n μ (μ.set n (some (.lst [.lst (ns.map D.int), .int (a + 1), .int b, .int m]))) := ⟨_, ⟨ns, a + 1, b, m, rfl, hl, by omega⟩, rfl⟩
    generalize μ.set n (some (.lst [.lst (ns.map D.int), .int (a + 1), .int b, .int m])) = μ1 at h3 hd
    simp only [s_set, e_op, e_v0, e_c, d_ix_loc, h3, atI3, atI1, d_mul, c1, true_and, d_add_int, List.set_cons_succ, List.set_cons_zero, e_call, a_cons, a_nil, atI0, d_len_lst, d_le, onB_bl, List.length_map]
    have last : ∀ μ2, Dr n μ μ2 → ∀ x : Int, 0 < (23 : Int) → Pd (.int (x / 23 % many)) μ2 := fun μ2 h x _ => hP _ _ (Int.emod_nonneg _ (by omega)) (Int.emod_lt_of_pos _ h0) h
    have sm : ∀ x : Int, CMul (x % 2147483587) (x % 2147483587) := fun x => cmul_l (by omega)
    -- the number that is taken
    have mid : ∀ cz : Int, dr_mid { nx := dr_end { nx := fun _ μ' => Pd .non μ', rt := Pd }, rt := Pd } [some (.loc n), some (.int many), some (.int cz), none, none, none] μ1 := by
      intro cz
      have fresh : ∀ nx, dr_fresh { nx := nx, rt := Pd } [some (.loc n), some (.int many), some (.int cz), none, none, none] μ1 := by
        intro nx
        simp only [dr_fresh, s_seq, s_set, e_op, e_v0, e_v1, e_v2, e_v3, e_v4, e_c, d_ix_loc, h3, atI3, atI1, d_mul, c2, c3, c4, c5, sm, true_and, d_add_int, List.set_cons_succ, List.set_cons_zero, e_call, a_cons, a_nil, d_int_int, d_mod, s_ret, d_fdiv, cd23]
        exact ⟨by decide, by decide, by decide, h0, last _ hd _ (by decide)⟩
      simp only [dr_mid, s_seq, s_if, b_or, b_b, e_op, e_v0, e_c, d_ix_loc, h3, atI1, atI0, e_call, a_cons, a_nil, d_len_lst, d_gt, onB_bl, List.length_map, decide_eq_true_eq]
      by_cases hg : (ns.length : Int) < a + 1
      · simp only [hg, if_true]
        exact fresh _
      · simp only [hg, if_false, e_v2, d_pow, d_lt, onB_bl, decide_eq_true_eq]
        refine ⟨⟨by decide, by decide, by decide⟩, ?_⟩
        split
        · exact fresh _
        · simp only [s_next, s_put, e_v2, e_v0, e_c, h3, i2, List.set_cons_succ, List.set_cons_zero]
          exact fin _ (a + 1) cz _ _ _ (hd.trans ⟨_, ⟨ns, a + 1, cz, m, rfl, hl, by omega⟩, rfl⟩) (by omega) (draw_set h3)
    simp only [s_seq, s_if, b_b, e_op, e_v0, e_c, d_ix_loc, h3, atI1, atI0, e_call, a_cons, a_nil, d_len_lst, d_le, onB_bl, List.length_map]
    split
    · rename_i hle
      have hle : a + 1 ≤ (ns.length : Int) := by simpa using hle
      have hx : ∃ cz : Int, atI (ns.map D.int) (a + 1 - 1) = some (.int cz) := by
        obtain ⟨x, e1, e2⟩ := atI_nat' (l := ns.map D.int) (i := a + 1 - 1) (by omega) (by rw [List.length_map]; omega)
        rw [List.getElem?_map] at e1
        cases q : ns[(a + 1 - 1).toNat]? with
        | none => rw [q] at e1; cases e1
        | some cz => rw [q] at e1; cases e1; exact ⟨cz, e2⟩
      obtain ⟨cz, hx⟩ := hx
      simp only [s_set, e_op, e_v0, e_c, d_ix_loc, h3, atI0, atI1, d_sub, d_ix_lst, hx, List.set_cons_succ, List.set_cons_zero]
      exact mid cz
    · simp only [s_next]
      exact mid _
  · simp only [s_seq, s_if, b_b, e_op, e_v0, e_c, d_ix_loc, hm, atI2, d_lt, onB_bl, hb, decide_false, Bool.false_eq_true, if_false, s_next]
    exact fin μ a b _ _ _ (Dr.refl ⟨_, hm, ns, a, b, m, rfl, hl, ha⟩) ha hm

theorem hs_pick (n : Nat) (x : D) (μ : Mu) (Pd : KD) (hb : BagAt μ n) (h0 : picks x ≠ []) (h1 : (picks x).length < 1000) (hP : ∀ d μ', d ∈ picks x → Dr n μ μ' → Pd d μ') :
    tr_pick { nx := fun _ μ' => Pd .non μ', rt := Pd } [some (.loc n), some x] μ := by
  have l0 : 0 < (picks x).length := List.length_pos_iff.mpr h0
  unfold tr_pick
  have dr : ∀ (k : Nat) (Q : KD), 0 < k → k < 1000 → (∀ r μ', 0 ≤ r → r < (k : Int) → Dr n μ μ' → Q (.int r) μ') → sp_draw [.loc n, .int (k : Int)] μ Q := fun k Q h0 h1 h => ⟨n, k, rfl, hb, by omega, by omega, h⟩
  cases x with
  | lst xs =>
    simp only [s_ret, e_op, e_v1, e_v0, e_call, a_cons, a_nil, d_len_lst]
    refine dr _ _ l0 h1 fun r μ' r0 r1 hd => ?_
    obtain ⟨d, e1, e2⟩ := atI_nat' r0 r1
    simp only [d_ix_lst, e2]
    exact hP d μ' (List.mem_of_getElem? e1) hd
  | tup xs =>
    simp only [s_ret, e_op, e_v1, e_v0, e_call, a_cons, a_nil, d_len_tup]
    refine dr _ _ l0 h1 fun r μ' r0 r1 hd => ?_
    obtain ⟨d, e1, e2⟩ := atI_nat' r0 r1
    simp only [d_ix_tup, e2]
    exact hP d μ' (List.mem_of_getElem? e1) hd
  | str z =>
    have hz : z.length ≤ sizeLine := by
      have : z.length < 1000 := by simpa [picks, Tr.signs, Str.length] using h1
      rw [sizeLine_eq]
      omega
    simp only [s_ret, e_op, e_v1, e_v0, e_call, a_cons, a_nil, d_len_str]
    refine ⟨hz, dr z.length _ (by simpa [picks, Tr.signs, Str.length] using l0) (by simpa [picks, Tr.signs, Str.length] using h1) fun r μ' r0 r1 hd => ?_⟩
    obtain ⟨c, e1, e2⟩ := atI_nat' (l := z.cps.toList) r0 (by simpa [Str.length] using r1)
    simp only [d_ix_str, e2]
    exact ⟨hz, hP _ μ' (by simp only [picks, Tr.signs, List.mem_map]; exact ⟨c, List.mem_of_getElem? e1, rfl⟩) hd⟩
  | _ => exact absurd rfl h0

/-! ### loops, comprehensions with draws -/
theorem loop_inv {tg : Tgt} {tb : ST} {DD : EndsD} (I : List D → Tr.Env → Mu → Prop) : ∀ (ds : List D) (ρ : Tr.Env) (μ : Mu), I ds ρ μ →
    (∀ d ds ρ μ, ∀ nx : Tr.Env → Mu → Prop, I (d :: ds) ρ μ → (∀ ρ' μ', I ds ρ' μ' → nx ρ' μ') → gD tg d ρ μ fun ρ1 μ1 => tb { DD with nx := nx, ct := nx, bk := DD.nx } ρ1 μ1) →
    (∀ ρ' μ', I [] ρ' μ' → DD.nx ρ' μ') → loopD tg tb DD ds ρ μ
  | [], ρ, μ, h, _, e => e ρ μ h
  | d :: ds, ρ, μ, h, st, e => by
    rw [l_cons]
    exact st d ds ρ μ _ h fun ρ' μ' h' => loop_inv I ds ρ' μ' h' st e
theorem comp_draw {tg : Tgt} {te : ET} {ρ : Tr.Env} {n : Nat} {C : D → Prop} : ∀ (ds acc : List D) (μ : Mu) (P : KA), acc.length + ds.length ≤ 1000 → BagAt μ n →
    (∀ d, d ∈ ds → ∀ μ1 (Q : KD), BagAt μ1 n → (∀ y μ2, C y → Dr n μ1 μ2 → Q y μ2) → gD tg d ρ μ1 fun ρ1 μ2 => te ρ1 μ2 Q) →
    (∀ ys μ', ys.length = ds.length → (∀ y, y ∈ ys → C y) → Dr n μ μ' → P (acc ++ ys) μ') → compD tg bYes te ρ ds acc μ P
  | [], acc, μ, P, _, hb, _, h => by simpa using h [] μ rfl (by simp) (Dr.refl hb)
  | d :: ds, acc, μ, P, hl, hb, he, h => by
    rw [cp_cons]
    have := he d List.mem_cons_self μ (fun y μ3 => acc.length < sizeLine ∧ compD tg bYes te ρ ds (acc ++ [y]) μ3 P) hb ?_
    · simpa using this
    · intro y μ2 hy hd
      simp only [List.length_cons] at hl
      refine ⟨Nat.lt_of_lt_of_le (show acc.length < 1001 by omega) (by rw [sizeLine_eq]; decide), comp_draw ds (acc ++ [y]) μ2 P (by simp; omega) (hd.at hb) (fun d' hd' => he d' (List.mem_cons_of_mem _ hd')) fun ys μ' hlen hys hd' => ?_⟩
      have := h (y :: ys) μ' (by simp [hlen]) (by simp; exact ⟨hy, hys⟩) (hd.trans hd')
      simpa using this

/-! ### the bag is made -/
theorem hs_bag (ns : List Int) (μ : Mu) (Pd : KD) (hl : ns.length ≤ 63) (hP : ∀ c, Bg c → Pd (.loc μ.length) (μ ++ [some c])) : tr_bag { nx := fun _ μ' => Pd .non μ', rt := Pd } [some (.fz (ns.map D.int)), none, none, none] μ := by
  have cut : cutD (ns.map D.int) none (some 63) = ns.map D.int := by
    unfold cutD
    have e : HT.sIx (ns.map D.int).length (ns.map D.int).length (some (63 : Int)) = min 63 (ns.map D.int).length := HT.sIx_nat _ _ 63
    rw [e, HT.sIx_none, List.length_map, Nat.min_eq_right hl, Nat.sub_zero, List.drop_zero]
    exact List.take_of_length_le (by simp)
  unfold tr_bag
  simp only [s_seq, s_set, e_comp, it_any, e_sl, e_v0, o_no, o_yes, e_c, dSl, cut, wipe_cons, wipe_nil, List.set_cons_succ, List.set_cons_zero]
  refine comp_map (f := id) (ns.map D.int) [] μ _ (by simp; omega) (fun d hd P h => ?_) ?_
  · obtain ⟨i, _, rfl⟩ := List.mem_map.mp hd
    simpa using h
  · simp only [List.nil_append, List.map_id, e_op, e_c, e_call, a_cons, a_nil, e_v1, d_len_lst, d_mul, d_add_int, s_for, it_any, List.set_cons_succ, List.set_cons_zero]
    refine ⟨cmul_l (by decide), ?_⟩
    refine loop_inv (fun ds ρ μ' => (∀ d, d ∈ ds → ∃ i : Int, d = .int i) ∧ μ' = μ ∧ ∃ (m : Int) (f : Option D), ρ = [some (.fz (ns.map D.int)), some (.lst (ns.map D.int)), some (.int m), f]) _ _ _ ⟨fun d hd => ?_, rfl, _, _, rfl⟩ ?_ ?_
    · obtain ⟨i, _, rfl⟩ := List.mem_map.mp hd
      exact ⟨i, rfl⟩
    · rintro d ds ρ μ' nx ⟨hd, rfl, m, f, rfl⟩ hn
      obtain ⟨i, rfl⟩ := hd d List.mem_cons_self
      simp only [g_nm, s_set, e_op, e_call, a_cons, a_nil, e_v2, e_v3, e_c, d_mul, d_add_int, d_int_int, d_mod, List.set_cons_succ, List.set_cons_zero]
      exact ⟨cmul_r (by decide), by decide, hn _ _ ⟨fun d' hd' => hd d' (List.mem_cons_of_mem _ hd'), rfl, _, _, rfl⟩⟩
    · rintro ρ' μ' ⟨-, rfl, m, f, rfl⟩
      simp only [s_ret, e_lstL, a_cons, a_nil, e_v1, e_v2, e_c]
      exact ⟨len_small (by simp), hP _ ⟨ns, 0, 0, m, rfl, hl, by decide⟩⟩

/-! ### the same data -/
theorem ok_ty {n : Nat} {d : D} (h : ok n d = true) : ∃ t, tyN d = some t := by
  cases d <;> first | exact ⟨_, rfl⟩ | (cases n <;> simp [ok] at h)
theorem eqv_refl_s (x : D) (p : PyData) (hp : toPy x = some p) (hf : match x with | .bl _ | .int _ | .str _ => True | _ => False) : PyData.eqv p p = true := by
  cases x <;> simp at hf <;> simp [toPy] at hp <;> subst hp <;> simp [PyData.eqv]
theorem comp_zip_same {sp : RAD} {ρ : Tr.Env} {i j : Nat} (hij : i ≠ j) : ∀ (ds acc : List D) (μ : Mu) (P : KA), acc.length + ds.length ≤ 1000 → i < ρ.length → j < ρ.length →
    (∀ d, d ∈ ds → ∀ P : KD, P (.bl true) μ → sp [d, d] μ P) → P (acc ++ ds.map fun _ => .bl true) μ →
    compD (.tp [.nm i, .nm j]) bYes (eCall sp (aCons (eVar i) (aCons (eVar j) aNil))) ρ (zipD ds ds) acc μ P
  | [], acc, μ, P, _, _, _, _, h => by simpa [zipD] using h
  | d :: ds, acc, μ, P, hl, hi, hj, he, h => by
    show compD _ _ _ _ (.tup [d, d] :: zipD ds ds) acc μ P
    rw [cp_cons]
    have v1 : ∀ Q : KD, eVar i ((ρ.set i (some d)).set j (some d)) μ Q = Q d μ := fun Q => by
      rw [e_var, List.getElem?_set_ne (Ne.symm hij), List.getElem?_set_self hi]
    have v2 : ∀ Q : KD, eVar j ((ρ.set i (some d)).set j (some d)) μ Q = Q d μ := fun Q => by
      rw [e_var, List.getElem?_set_self (by simpa using hj)]
    simp only [g_tp, gs_cons, gs_nil, g_nm, List.length_cons, List.length_nil, true_and, b_yes, if_true, e_call, a_cons, a_nil, v1, v2]
    simp only [List.length_cons] at hl
    refine he d List.mem_cons_self _ ⟨Nat.lt_of_lt_of_le (show acc.length < 1001 by omega) (by rw [sizeLine_eq]; decide), ?_⟩
    exact comp_zip_same hij ds (acc ++ [.bl true]) μ P (by simp; omega) hi hj (fun d' hd' => he d' (List.mem_cons_of_mem _ hd')) (by simpa using h)
theorem hs_same (n : Nat) (x : D) (μ : Mu) (Pd : KD) (hx : okS (n + 1) x = true) (hP : Pd (.bl true) μ) :
    tr_same n { nx := fun _ μ' => Pd .non μ', rt := Pd } [some x, some x, none, none] μ := by
  have l2 : (2 : Nat) ≤ sizeLine := by rw [sizeLine_eq]; decide
  have shb : ∀ b : Bool, SeqAt.shaped (.bool b) = true := fun b => by cases b <;> decide +kernel
  have shi : ∀ b : Int, SeqAt.shaped (.int b) = true := fun b => by simp [SeqAt.shaped, PyData.canLay0, PyData.depth]
  have shs : ∀ b : Str, PyData.strOk b = true → SeqAt.shaped (.str b) = true := fun b h => by simp [SeqAt.shaped, PyData.canLay0, PyData.depth, h]
  have sq : ∀ k, n = k + 1 → ∀ ds : List D, okA k ds = true → ∀ d, d ∈ ds → ∀ P : KD, P (.bl true) μ → sp_same n [d, d] μ P := fun k e ds h d hd P hP => ⟨d, rfl, by rw [e]; exact okA_mem h hd, hP⟩
  replace hx : ok n x = true := hx
  unfold tr_same
  cases x with
  | non => simpa using hP
  | bl b => simp [tyN, tyNs, clss, isTy, dNe, dEq, toPy, PyData.eqv, shb, l2]; exact hP
  | int b => simp [tyN, tyNs, clss, isTy, dNe, dEq, toPy, PyData.eqv, shb, shi, l2]; exact hP
  | str b =>
    simp [ok] at hx
    simp [tyN, tyNs, clss, isTy, dNe, dEq, toPy, PyData.eqv, shb, shs b hx.1, l2]; exact hP
  | lst xs =>
    obtain ⟨k, rfl⟩ : ∃ k, n = k + 1 := by cases n; · cases hx
                                           · exact ⟨_, rfl⟩
    simp [ok] at hx
    simp [tyN, tyNs, clss, isTy, dNe, dEq, toPy, PyData.eqv, shb, shi, l2]
    refine comp_zip_same (by decide) xs [] μ _ (by simpa using hx.2) (by simp) (by simp) (sq k rfl xs hx.1) ?_
    simp only [dAll, List.nil_append, boolsOf_map (fun _ => true)]
    have e : (xs.map fun _ => true).all id = true := by simp [List.all_eq_true]
    rw [e]
    exact hP
  | tup xs =>
    obtain ⟨k, rfl⟩ : ∃ k, n = k + 1 := by cases n; · cases hx
                                           · exact ⟨_, rfl⟩
    simp [ok] at hx
    simp [tyN, tyNs, clss, isTy, dNe, dEq, toPy, PyData.eqv, shb, shi, l2]
    refine comp_zip_same (by decide) xs [] μ _ (by simpa using hx.2) (by simp) (by simp) (sq k rfl xs hx.1) ?_
    simp only [dAll, List.nil_append, boolsOf_map (fun _ => true)]
    have e : (xs.map fun _ => true).all id = true := by simp [List.all_eq_true]
    rw [e]
    exact hP
  | _ => simp [ok] at hx
end Tr
set_option Elab.async false
set_option linter.all false
set_option maxRecDepth 100000
namespace Tr
open PySem PySem.Spec PyProof.Rows L2 RZ TL

/-! ### texts by their signs -/
theorem len_codes (x : Str) : x.length = x.cps.toList.length := by simp [Str.length]
/-- signs that are signs, m at most -/
def Sg (x : Str) (m : Nat) : Prop := (∀ c, c ∈ x.cps.toList → c < 1114112) ∧ x.cps.toList.length ≤ m
theorem strOk_iff {x : Str} : PyData.strOk x = true ↔ ∀ c, c ∈ x.cps.toList → c < 1114112 := by
  unfold PyData.strOk
  rw [Array.all_eq_true_iff_forall_mem]
  simp
theorem Sg.ok {x : Str} {m n : Nat} (h : Sg x m) (hm : m ≤ 1000) : Tr.ok n (.str x) = true := by
  have a := strOk_iff.mpr h.1
  have b : x.length ≤ 1000 := by rw [len_codes]; exact Nat.le_trans h.2 hm
  cases n <;> simp [Tr.ok, a, b]
theorem ok_sg {x : Str} {n : Nat} (h : Tr.ok n (.str x) = true) : Sg x 1000 := by
  have h : PyData.strOk x = true ∧ x.length ≤ 1000 := by cases n <;> simpa [Tr.ok] using h
  exact ⟨strOk_iff.mp h.1, by rw [← len_codes]; exact h.2⟩
theorem Sg.mono {x : Str} {m k : Nat} (h : Sg x m) (hk : m ≤ k) : Sg x k := ⟨h.1, Nat.le_trans h.2 hk⟩
theorem codes_app (x y : Str) : (x ++ y).cps.toList = x.cps.toList ++ y.cps.toList := tl_append x y
theorem Sg.app {x y : Str} {m k : Nat} (h : Sg x m) (g : Sg y k) : Sg (x ++ y) (m + k) := by
  refine ⟨fun c hc => ?_, ?_⟩
  · rw [codes_app] at hc
    exact (List.mem_append.mp hc).elim (h.1 c) (g.1 c)
  · rw [codes_app, List.length_append]
    have := h.2; have := g.2
    omega
theorem codes_cut (z : Str) (lo hi : Option Int) : (cutS z lo hi).cps.toList = (z.cps.toList.drop (HT.sIx z.length 0 lo)).take (HT.sIx z.length z.length hi - HT.sIx z.length 0 lo) := by simp [cutS]
theorem Sg.cut {x : Str} {m : Nat} (h : Sg x m) (lo hi : Option Int) : Sg (cutS x lo hi) m := by
  refine ⟨fun c hc => ?_, ?_⟩
  · rw [codes_cut] at hc
    exact h.1 c (List.mem_of_mem_drop (List.mem_of_mem_take hc))
  · rw [codes_cut, List.length_take, List.length_drop]
    have := h.2
    omega
theorem Sg.line {x : Str} {m : Nat} (h : Sg x m) (hm : m ≤ 1000) : x.length ≤ sizeLine := by
  rw [len_codes, sizeLine_eq]
  have := h.2
  omega
theorem joinL_signs : ∀ cs : List Nat, joinL [] (cs.map fun c => [c]) = cs
  | [] => rfl
  | [c] => rfl
  | c :: d :: r => by
    show [c] ++ ([] ++ joinL [] ((d :: r).map fun c => [c])) = _
    rw [joinL_signs (d :: r)]
    rfl
theorem join_signs (cs : List Nat) : (Txt.join (Str.ofString "") (cs.map fun c => (⟨#[c]⟩ : Str))).cps.toList = cs := by
  show TL.tl _ = cs
  rw [join_eq, tl_join, List.map_map]
  exact joinL_signs cs
theorem strs_signs : ∀ (ys : List D), (∀ y, y ∈ ys → ∃ c : Nat, c < 128 ∧ y = .str ⟨#[c]⟩) → ∃ cs : List Nat, (∀ c, c ∈ cs → c < 128) ∧ cs.length = ys.length ∧ strsOf ys = some (cs.map fun c => (⟨#[c]⟩ : Str))
  | [], _ => ⟨[], by simp, rfl, rfl⟩
  | y :: ys, h => by
    obtain ⟨c, hc, rfl⟩ := h y List.mem_cons_self
    obtain ⟨cs, h1, h2, h3⟩ := strs_signs ys fun y' hy => h y' (List.mem_cons_of_mem _ hy)
    refine ⟨c :: cs, fun d hd => ?_, by simp [h2], by simp [strsOf, h3]⟩
    rcases List.mem_cons.mp hd with z | z
    · rw [z]; exact hc
    · exact h1 d z
/-- signs joined -/
theorem join_draw {ys : List D} {μ : Mu} {P : KD} (h : ∀ y, y ∈ ys → ∃ c : Nat, c < 128 ∧ y = .str ⟨#[c]⟩) (hl : ys.length ≤ 1000) (hP : ∀ x, Sg x ys.length → P (.str x) μ) : dJoin (Str.ofString "") (.lst ys) μ P := by
  obtain ⟨cs, h1, h2, h3⟩ := strs_signs ys h
  simp only [dJoin, h3]
  refine ⟨?_, hP _ ⟨fun c hc => ?_, ?_⟩⟩
  · have e1 : ((cs.map fun c => (⟨#[c]⟩ : Str)).map (·.length)).sum = cs.length := by
      rw [List.map_map]
      have : (List.map ((fun x => x.length) ∘ fun c => (⟨#[c]⟩ : Str)) cs) = List.replicate cs.length 1 := by
        rw [List.eq_replicate_iff]
        refine ⟨by simp, fun b hb => ?_⟩
        obtain ⟨c, _, rfl⟩ := List.mem_map.mp hb
        rfl
      rw [this]
      simp
    have e2 : (Str.ofString "").length = 0 := by decide
    rw [e1, e2, h2]
    omega
  · rw [join_signs] at hc
    exact Nat.lt_trans (h1 c hc) (by decide)
  · rw [join_signs, h2]
    exact Nat.le_refl _
/-- a written text of small signs -/
theorem sg_of {x : Str} {m : Nat} (h : (x.cps.toList.all (fun c => decide (c < 128)) && decide (x.cps.toList.length ≤ m)) = true) : Sg x m := by
  simp only [Bool.and_eq_true, List.all_eq_true, decide_eq_true_eq] at h
  exact ⟨fun c hc => Nat.lt_trans (h.1 c hc) (by decide), h.2⟩
theorem small_of {x : Str} (h : x.cps.toList.all (fun c => decide (c < 128)) = true) : ∀ y, y ∈ Tr.signs x → ∃ c : Nat, c < 128 ∧ y = .str ⟨#[c]⟩ := fun y hy => by
  obtain ⟨c, hc, rfl⟩ := List.mem_map.mp hy
  exact ⟨c, of_decide_eq_true (List.all_eq_true.mp h c hc), rfl⟩
/-- str of a number -/
theorem codes_num (n : Nat) : (Str.ofString (toString ((n : Nat) : Int))).cps.toList = numL n := tl_num n
theorem log_small {i : Int} (h : i.natAbs < 2 ^ 64) : i.natAbs.log2 < 1920 := by
  by_cases z : i.natAbs = 0
  · rw [z]; decide
  · exact Nat.lt_trans ((Nat.log2_lt z).mpr h) (by decide)
theorem eqv_str (x y : Str) : PyData.eqv (.str x) (.str y) = decide (x.cps.toList = y.cps.toList) := by
  simp only [PyData.eqv]
  by_cases h : x = y
  · subst h; simp
  · have h2 : ¬ x.cps.toList = y.cps.toList := fun e => h (by cases x; cases y; simp only [Str.mk.injEq]; exact Array.toList_inj.mp e)
    simp [h, h2]
theorem shaped_str {x : Str} (h : ∀ c, c ∈ x.cps.toList → c < 1114112) : SeqAt.shaped (.str x) = true := by simp [SeqAt.shaped, PyData.canLay0, PyData.depth, strOk_iff.mpr h]
theorem shaped_int (i : Int) : SeqAt.shaped (.int i) = true := by simp [SeqAt.shaped, PyData.canLay0, PyData.depth]
theorem shaped_bool (b : Bool) : SeqAt.shaped (.bool b) = true := by cases b <;> decide +kernel
end Tr
set_option Elab.async false
set_option linter.all false
set_option maxRecDepth 100000
namespace Tr
open PySem PySem.Spec PyProof.Rows L2 RZ TL
/-! ### numbers written out -/
theorem numL_fold (n : Nat) : (numL n).foldl (fun (a : Int) (c : Nat) => a * 10 + ((c : Int) - 48)) 0 = n := by
  induction n using Nat.strongRecOn with
  | _ n ih =>
    by_cases h : n < 10
    · rw [numL_lt h]; simp; omega
    · rw [numL_step (by omega), List.foldl_append, ih (n / 10) (by omega)]
      simp only [List.foldl_cons, List.foldl_nil]
      omega
theorem numL_head (n : Nat) : (numL n).head? = some 48 → n = 0 := by
  induction n using Nat.strongRecOn with
  | _ n ih =>
    by_cases h : n < 10
    · rw [numL_lt h]; simp
    · rw [numL_step (by omega)]
      intro q
      have e : (numL (n / 10) ++ [48 + n % 10]).head? = (numL (n / 10)).head? := by
        have := numL_ne (n / 10)
        cases hh : numL (n / 10) with
        | nil => exact absurd hh this
        | cons _ _ => rfl
      have := ih (n / 10) (by omega) (e ▸ q)
      omega
theorem numL_long : ∀ (k n : Nat), 10 ^ k ≤ n → k + 1 ≤ (numL n).length
  | 0, n, _ => by
    have := numL_ne n
    cases h : numL n with
    | nil => exact absurd h this
    | cons _ _ => simp
  | k + 1, n, h => by
    have h10 : 10 ≤ n := Nat.le_trans (by rw [Nat.pow_succ]; have := Nat.pow_pos (n := k) (show 0 < 10 by decide); omega) h
    rw [numL_step h10, List.length_append]
    have := numL_long k (n / 10) (by rw [Nat.pow_succ] at h; omega)
    simp; omega
theorem num_str (n : Nat) : (toString ((n : Nat) : Int) : String) = toString (n : Int) := rfl
theorem e_v12 {ρ : Env} {μ : Mu} {P : KD} {a1 a2 a3 a4 a5 a6 a7 a8 a9 a10 a11 a12 : Option D} {d : D} {r : Env} : eVar 12 (a1 :: a2 :: a3 :: a4 :: a5 :: a6 :: a7 :: a8 :: a9 :: a10 :: a11 :: a12 :: some d :: r) μ P = P d μ := rfl
theorem e_v13 {ρ : Env} {μ : Mu} {P : KD} {a0 a1 a2 a3 a4 a5 a6 a7 a8 a9 a10 a11 a12 : Option D} {d : D} {r : Env} : eVar 13 (a0 :: a1 :: a2 :: a3 :: a4 :: a5 :: a6 :: a7 :: a8 :: a9 :: a10 :: a11 :: a12 :: some d :: r) μ P = P d μ := rfl
theorem e_v14 {ρ : Env} {μ : Mu} {P : KD} {b0 a0 a1 a2 a3 a4 a5 a6 a7 a8 a9 a10 a11 a12 : Option D} {d : D} {r : Env} : eVar 14 (b0 :: a0 :: a1 :: a2 :: a3 :: a4 :: a5 :: a6 :: a7 :: a8 :: a9 :: a10 :: a11 :: a12 :: some d :: r) μ P = P d μ := rfl
theorem e_v15 {ρ : Env} {μ : Mu} {P : KD} {b1 b0 a0 a1 a2 a3 a4 a5 a6 a7 a8 a9 a10 a11 a12 : Option D} {d : D} {r : Env} : eVar 15 (b1 :: b0 :: a0 :: a1 :: a2 :: a3 :: a4 :: a5 :: a6 :: a7 :: a8 :: a9 :: a10 :: a11 :: a12 :: some d :: r) μ P = P d μ := rfl
@[simp] theorem pck_n {ds : List D} : pick [] ds = [] := rfl
@[simp] theorem pck_0 {l : List Nat} {d : D} {ds : List D} : pick (0 :: l) (d :: ds) = d :: pick l (d :: ds) := rfl
@[simp] theorem pck_1 {l : List Nat} {d e : D} {ds : List D} : pick (1 :: l) (d :: e :: ds) = e :: pick l (d :: e :: ds) := rfl
@[simp] theorem pck_2 {l : List Nat} {d e f : D} {ds : List D} : pick (2 :: l) (d :: e :: f :: ds) = f :: pick l (d :: e :: f :: ds) := rfl
@[simp] theorem pck_3 {l : List Nat} {d e f g : D} {ds : List D} : pick (3 :: l) (d :: e :: f :: g :: ds) = g :: pick l (d :: e :: f :: g :: ds) := rfl
/-! ### cut lists -/
theorem okA_iff {n : Nat} : ∀ {xs : List D}, okA n xs = true ↔ ∀ x, x ∈ xs → ok n x = true
  | [] => by simp [okA]
  | x :: xs => by simp [okA, okA_iff (xs := xs)]
theorem cut_mem {xs : List D} {lo hi : Option Int} {x : D} (h : x ∈ cutD xs lo hi) : x ∈ xs := List.mem_of_mem_drop (List.mem_of_mem_take h)
theorem cut_len {xs : List D} {lo hi : Option Int} : (cutD xs lo hi).length ≤ xs.length := by
  unfold cutD
  rw [List.length_take, List.length_drop]
  omega
theorem okA_cut {n : Nat} {xs : List D} {lo hi : Option Int} (h : okA n xs = true) : okA n (cutD xs lo hi) = true := okA_iff.mpr fun x hx => okA_mem h (cut_mem hx)
theorem okA_app {n : Nat} {xs ys : List D} (h : okA n xs = true) (g : okA n ys = true) : okA n (xs ++ ys) = true := okA_iff.mpr fun x hx => (List.mem_append.mp hx).elim (okA_mem h) (okA_mem g)
theorem ok_tup {n : Nat} {xs : List D} (h : okA n xs = true) (hl : xs.length ≤ 1000) : ok (n + 1) (.tup xs) = true := by simp [ok, h, hl]
theorem ok_lst {n : Nat} {xs : List D} (h : okA n xs = true) (hl : xs.length ≤ 1000) : ok (n + 1) (.lst xs) = true := by simp [ok, h, hl]
theorem ok_int {n : Nat} {i : Int} : ok n (.int i) = true := by cases n <;> rfl
theorem ok_non {n : Nat} : ok n .non = true := by cases n <;> rfl
theorem ok_bl {n : Nat} {i : Bool} : ok n (.bl i) = true := by cases n <;> rfl
theorem ok_le {n m : Nat} {d : D} (h : n ≤ m) (g : ok n d = true) : ok m d = true := by
  induction h with
  | refl => exact g
  | step _ ih => exact ok_up ih
end Tr
set_option Elab.async false
set_option linter.all false
set_option maxRecDepth 100000
namespace Tr
open PySem PySem.Spec PyProof.Rows L2 RZ
/-! ### what the top has written -/
def Sn (K : PySem.W.Frag) (mg : Str → Option Value) (x : Str) (st : Stmt) : Prop := ∃ f fd, mg x = some (.ref f) ∧ Fun K x x st f fd
theorem sn_mk {K : PySem.W.Frag} {h : Heap} {mg : Str → Option Value} {x : Str} {st : Stmt} {f : Addr} {oc : Value} {od an : Option Addr} {sl : Array (Option Value)} {kV dc pm cd ct : Value} (X : K.In h) (G : h.Ns mainGlobals mg)
    (a : PySem.W.nsIn K mainGlobals x = some (some (.ref f))) (l : K.lookup f = some ⟨oc, od, .func (PySem.W.fnOf x x (defArgs st) (defBody st) (defScope st) .none kV dc pm an cd ct), sl⟩) (c : PySem.W.codeIn K cd x = true) (k : PySem.W.keepIn K (.ref f) = true) : Sn K mg x st :=
  ⟨f, _, PySem.W.mg_of X G a, fun_mk l c k⟩
theorem Sn.fni {P : Program} {wd : World} {K : PySem.W.Frag} {mg : Str → Option Value} {base : Heap} {x : Str} {st : Stmt} {k : Nat} {ps : List Str} {sp : RAD} (S : Sn K mg x st) (h : ∀ f fd, Fun K x x st f fd → FnD P wd K mg base k f fd ps sp)
    (hb : ∀ (kV doc pm : Value) (an : Option Addr) (cdv ct : Value) (us : List Value), us.length = ps.length → bindArgs (PySem.W.fnOf x x (defArgs st) (defBody st) (defScope st) .none kV doc pm an cdv ct) ⟨us, []⟩ = pure (ps.zip us)) : FnI P wd K mg base x st k ps sp := by
  obtain ⟨f, fd, hm, F⟩ := S
  exact fni_mk F hm (h f fd F) (F.binds hb)
theorem Sn.none {P : Program} {wd : World} {K : PySem.W.Frag} {mg : Str → Option Value} {base : Heap} {x : Str} {st : Stmt} {k : Nat} {ps : List Str} {sp : RAD} (S : Sn K mg x st) (hsp : ∀ ds μ P, ¬ sp ds μ P)
    (hb : ∀ (kV doc pm : Value) (an : Option Addr) (cdv ct : Value) (us : List Value), us.length = ps.length → bindArgs (PySem.W.fnOf x x (defArgs st) (defBody st) (defScope st) .none kV doc pm an cdv ct) ⟨us, []⟩ = pure (ps.zip us)) : FnI P wd K mg base x st k ps sp :=
  S.fni (fun f fd F => ⟨fun vs H Q E ⟨w, ds, Pd, g, r, q, f⟩ => (hsp _ _ _ q).elim, fun A outer s H args us vs Q E hr he hb hv ⟨w, ds, Pd, g, r, q, f⟩ => (hsp _ _ _ q).elim⟩) hb
/-- the law is walked -/
theorem law_sp {K : PySem.W.Frag} {sp : RAD} {H : Hp} {a : Addr} {ns : List Int} (hsp : ∀ μ P, (∀ μ', P (.bl true) μ') → sp [.fz (ns.map D.int)] μ P) (ho : Only H) (hS : SqL K H a (ns.map V.int)) :
    SpOf K sp [.ref a] H (fun v _ => v = .bl true) fun _ _ _ => False := by
  refine ⟨⟨[], [], []⟩, [.fz (ns.map D.int)], fun d _ => d = .bl true, ⟨rfl, List.nodup_nil, by simp, by simp, by simp⟩, ⟨_, _, rfl, ⟨a, ns.map V.int, rfl, ?_, ?_⟩, rfl⟩, hsp _ _ fun _ => rfl, fun d v w' H' _ _ r e => ?_⟩
  · rcases hS with (h | ⟨o, h⟩) | h
    · rcases ho a with n | ⟨o, xs, z⟩
      · rw [n] at h; cases h
      · rw [z] at h; cases h
    · exact .inl ⟨by simp [Live], o, h⟩
    · exact .inr h
  · clear hS hsp
    induction ns with
    | nil => rfl
    | cons n ns ih => exact ⟨_, _, rfl, rfl, ih⟩
  · subst e
    exact r
end Tr
set_option Elab.async false
set_option linter.all false
set_option maxRecDepth 100000
namespace W01
open PySem PySem.Spec PyProof.Rows L2 RZ Tr
/-! ### words -/
def isNum (d : D) (lo hi : Int) : Bool := match d with
  | .int i => decide (lo ≤ i) && decide (i ≤ hi)
  | _ => false
def isName : D → Bool
  | .str x => decide (1 ≤ x.length) && decide (x.length ≤ 6) && x.cps.toList.all fun c => decide (97 ≤ c) && decide (c ≤ 122)
  | _ => false
def isNums (d : D) (his : List Int) : Bool := match d with
  | .tup xs => decide (xs.length = his.length) && (xs.zip his).all fun p => isNum p.1 0 p.2
  | _ => false
def digs (x : Str) : Bool := x.cps.toList.all fun c => decide (48 ≤ c) && decide (c ≤ 57)
def numOf (x : Str) : Int := x.cps.toList.foldl (fun (a : Int) (c : Nat) => a * 10 + ((c : Int) - 48)) 0
def numIn : D → D
  | .str x => if 1 ≤ x.length ∧ x.length ≤ 9 ∧ digs x = true ∧ ¬ (x.cps.toList.head? = some 48 ∧ x.length ≠ 1) then .int (numOf x) else .non
  | _ => .non
def sp_is_number : RAD := fun ds μ P => ∃ v lo hi, ds = [v, .int lo, .int hi] ∧ ok 3 v = true ∧ P (.bl (isNum v lo hi)) μ
def sp_is_name : RAD := fun ds μ P => ∃ v, ds = [v] ∧ ok 3 v = true ∧ P (.bl (isName v)) μ
def sp_is_cell : RAD := fun ds μ P => ∃ v, ds = [v] ∧ ok 3 v = true ∧ P (.bl (isNums v [5, 5])) μ
def sp_is_place : RAD := fun ds μ P => ∃ v, ds = [v] ∧ ok 3 v = true ∧ P (.bl (isNums v [8, 5, 5])) μ
def sp_number_in : RAD := fun ds μ P => ∃ v, ds = [v] ∧ ok 3 v = true ∧ P (numIn v) μ
def sp_is_count : RAD := sp_is_number
def sp_is_tuple : RAD := fun ds μ P => ∃ (v : D) (hs : List Int), ds = [v, .tup (hs.map D.int)] ∧ ok 3 v = true ∧ hs.length ≤ 9 ∧ P (.bl (isNums v hs)) μ
def sp_is_word : RAD := sp_is_name
def sp_number_of : RAD := sp_number_in
def sp_judged_so : RAD := fun ds μ P => ∃ v lo hi, ds = [v, .int lo, .int hi] ∧ ok 3 v = true ∧ P (.bl true) μ
/-- a draw of something with a property -/
def spDraws (C : D → Prop) : RAD := fun ds μ P => ∃ n, ds = [.loc n] ∧ BagAt μ n ∧ ∀ d μ', C d → Dr n μ μ' → P d μ'
def sp_odd : RAD := spDraws fun d => ok 2 d = true
def sp_count : RAD := spDraws fun d => ∃ i : Int, d = .int i
def sp_word : RAD := spDraws fun d => ∃ x : Str, d = .str x ∧ ok 0 (.str x) = true
def sp_figures : RAD := sp_word
def sp_law : RAD := fun ds μ P => ∃ ns : List Int, ds = [.fz (ns.map D.int)] ∧ ns.length ≤ 63 ∧ ∀ μ', P (.bl true) μ'
/-! ### the text by places -/
def topS (i : Nat) : Stmt := PySem.Challenge.pw_highestsky_k01_words_judged.main.body.getD i (.Pass ⟨0, 0, 0, 0⟩)
structure Txt (K : PySem.W.Frag) (mg : Str → Option Value) : Prop where
  n_all : mg "all" = none
  n_bool : mg "bool" = none
  n_int : mg "int" = none
  n_isinstance : mg "isinstance" = none
  n_len : mg "len" = none
  n_list : mg "list" = none
  n_range : mg "range" = none
  n_str : mg "str" = none
  n_tuple : mg "tuple" = none
  n_zip : mg "zip" = none
  c_MOST_DIGITS : ∃ t, mg "MOST_DIGITS" = some (.int 9 t)
  c_MOST_SIDE : ∃ t, mg "MOST_SIDE" = some (.int 6 t)
  c_MOST_WINDS : ∃ t, mg "MOST_WINDS" = some (.int 8 t)
section
variable {P : Program} {wd : World} {K : PySem.W.Frag} {mg : Str → Option Value} {base : Heap}

abbrev s_is_number : Stmt := topS 4
def n_is_number : List Str := ["value", "least", "most"]
theorem sc_is_number : FnScope ["value", "least", "most"] ["value", "least", "most"] (defScope s_is_number) := ⟨rfl, rfl, rfl, by decide +kernel, rfl, by decide +kernel, by decide +kernel⟩
def b_is_number  : ST :=
  (sRet (eAnd (eCall dIsi (aCons (eVar 0) (aCons (eC (.ty "int")) aNil))) (eAnd (eNot (eCall dIsi (aCons (eVar 0) (aCons (eC (.ty "bool")) aNil)))) (eChain dLe dLe (eVar 1) (eVar 0) (eVar 2)))))
theorem pb_is_number  {fa : Addr} (T : Txt K mg) 
    (cdv : Value) (A : Around) (outer : List PySem.Env) (s : Shared) (H : Hp) (E : XK) (hr : Room (0) (A.deeper (envOfC "is_number" (defScope s_is_number) s.heap.objs.size fa cdv))) :
    PSs (cxOf CX0 P wd K mg base ["value", "least", "most"] "is_number" (defScope s_is_number) fa cdv A outer s H E).nox (defBody s_is_number) (LS K (b_is_number )) :=
  (ss_one (ss_ret (te_and (te_callB call_isiA cd_isi (by rfl) T.n_isinstance (by decide +kernel) (ta_cons (te_var (pv 0)) (ta_cons (te_ty (by rfl) T.n_int (by decide +kernel)) ta_nil))) (te_and (te_not (te_callB call_isiA cd_isi (by rfl) T.n_isinstance (by decide +kernel) (ta_cons (te_var (pv 0)) (ta_cons (te_ty (by rfl) T.n_bool (by decide +kernel)) ta_nil)))) (te_one (te_chain op_leA od_le op_leA od_le (te_var (pv 1)) (te_var (pv 0)) (te_var (pv 2))))))))
abbrev s_is_name : Stmt := topS 5
def n_is_name : List Str := ["value", "letter"]
theorem sc_is_name : FnScope ["value", "letter"] ["value"] (defScope s_is_name) := ⟨rfl, rfl, rfl, by decide +kernel, rfl, by decide +kernel, by decide +kernel⟩
def b_is_name  : ST :=
  (sSeq (sIf (bOr (bNot (bT (eCall dIsi (aCons (eVar 0) (aCons (eC (.ty "str")) aNil))))) (bNot (bB (eChain dLe dLe (eC (.int 1)) (eCall dLen (aCons (eVar 0) aNil)) (eC (.int 6))))))
  (sRet (eC (.bl false))) sNext)
  (sRet (eCall dAll (aCons (eComp (itAny (eVar 0)) (.nm 1) bYes (eChain dLe dLe (eC (.str "a")) (eVar 1) (eC (.str "z"))) [1]) aNil))))
theorem pb_is_name  {fa : Addr} (T : Txt K mg) 
    (cdv : Value) (A : Around) (outer : List PySem.Env) (s : Shared) (H : Hp) (E : XK) (hr : Room (0) (A.deeper (envOfC "is_name" (defScope s_is_name) s.heap.objs.size fa cdv))) :
    PSs (cxOf CX0 P wd K mg base ["value", "letter"] "is_name" (defScope s_is_name) fa cdv A outer s H E).nox (defBody s_is_name) (LS K (b_is_name )) :=
  (ss_cons (ss_if (PW.pt (tw_or (tb_not (tb_truth (te_callB call_isiA cd_isi (by rfl) T.n_isinstance (by decide +kernel) (ta_cons (te_var (pv 0)) (ta_cons (te_ty (by rfl) T.n_str (by decide +kernel)) ta_nil))))) (tw_or1 (tb_not (tb_chain op_leA od_le op_leA od_le te_int (te_callB call_len cd_len (by rfl) T.n_len (by decide +kernel) (ta_cons (te_var (pv 0)) ta_nil)) te_int)))))
  (ss_one (ss_ret te_bl)) ss_nil)
  (ss_one (ss_ret (te_callB (cr_all rfl) cd_all (by rfl) T.n_all (by decide +kernel) (ta_cons (te_comp rfl sc_is_name.nd (ti_any (te_var (pv 0))) (blkOk_by (own := [("letter", 1)]) (N := n_is_name) (sc := defScope s_is_name) (by decide +kernel)) (fun _ _ _ _ _ => (tg_nm (i := 1) sc_is_name.nd rfl (Or.inl rfl))) (fun _ _ _ _ _ => tts_nil) (fun _ _ _ _ _ => (te_chain op_leA od_le op_leA od_le te_str (te_var (pv 1)) te_str)) (by decide)) ta_nil)))))
abbrev s_is_cell : Stmt := topS 6
def n_is_cell : List Str := ["value", "item"]
theorem sc_is_cell : FnScope ["value", "item"] ["value"] (defScope s_is_cell) := ⟨rfl, rfl, rfl, by decide +kernel, rfl, by decide +kernel, by decide +kernel⟩
def b_is_cell  : ST :=
  (sSeq (sIf (bOr (bNot (bT (eCall dIsi (aCons (eVar 0) (aCons (eC (.ty "tuple")) aNil))))) (bB (eOp dNe (eCall dLen (aCons (eVar 0) aNil)) (eC (.int 2)))))
  (sRet (eC (.bl false))) sNext)
  (sRet (eCall dAll (aCons (eComp (itAny (eVar 0)) (.nm 1) bYes (eCall sp_is_number (aCons (eVar 1) (aCons (eC (.int 0)) (aCons (eOp dSub (eC (.int 6)) (eC (.int 1))) aNil)))) [1]) aNil))))
theorem pb_is_cell  {fa : Addr} (T : Txt K mg) (G_is_number : FnI P wd K mg base "is_number" s_is_number 1 ["value", "least", "most"] sp_is_number)
    (cdv : Value) (A : Around) (outer : List PySem.Env) (s : Shared) (H : Hp) (E : XK) (hr : Room (1) (A.deeper (envOfC "is_cell" (defScope s_is_cell) s.heap.objs.size fa cdv))) :
    PSs (cxOf CX0 P wd K mg base ["value", "item"] "is_cell" (defScope s_is_cell) fa cdv A outer s H E).nox (defBody s_is_cell) (LS K (b_is_cell )) :=
  (ss_cons (ss_if (PW.pt (tw_or (tb_not (tb_truth (te_callB call_isiA cd_isi (by rfl) T.n_isinstance (by decide +kernel) (ta_cons (te_var (pv 0)) (ta_cons (te_ty (by rfl) T.n_tuple (by decide +kernel)) ta_nil))))) (tw_or1 (tb_cmp (op_neD (hu64 hr)) od_ne (te_callB call_len cd_len (by rfl) T.n_len (by decide +kernel) (ta_cons (te_var (pv 0)) ta_nil)) te_int (nomark _)))))
  (ss_one (ss_ret te_bl)) ss_nil)
  (ss_one (ss_ret (te_callB (cr_all rfl) cd_all (by rfl) T.n_all (by decide +kernel) (ta_cons (te_comp rfl sc_is_cell.nd (ti_any (te_var (pv 0))) (blkOk_by (own := [("item", 1)]) (N := n_is_cell) (sc := defScope s_is_cell) (by decide +kernel)) (fun _ _ _ _ _ => (tg_nm (i := 1) sc_is_cell.nd rfl (Or.inl rfl))) (fun _ _ _ _ _ => tts_nil) (fun _ _ _ _ _ => (te_fn G_is_number hr rfl (ta_cons (te_var (pv 1)) (ta_cons te_int (ta_cons (te_op op_sub od_sub (te_gint rfl T.c_MOST_SIDE) te_int) ta_nil))))) (by decide)) ta_nil)))))
abbrev s_is_place : Stmt := topS 7
def n_is_place : List Str := ["value"]
theorem sc_is_place : FnScope ["value"] ["value"] (defScope s_is_place) := ⟨rfl, rfl, rfl, by decide +kernel, rfl, by decide +kernel, by decide +kernel⟩
def b_is_place  : ST :=
  (sSeq (sIf (bOr (bNot (bT (eCall dIsi (aCons (eVar 0) (aCons (eC (.ty "tuple")) aNil))))) (bB (eOp dNe (eCall dLen (aCons (eVar 0) aNil)) (eC (.int 3)))))
  (sRet (eC (.bl false))) sNext)
  (sRet (eAnd (eCall sp_is_number (aCons (eOp dIx (eVar 0) (eC (.int 0))) (aCons (eC (.int 0)) (aCons (eC (.int 8)) aNil)))) (eCall sp_is_cell (aCons (eSl (eVar 0) (oYes (eC (.int 1))) oNo) aNil)))))
theorem pb_is_place  {fa : Addr} (T : Txt K mg) (G_is_number : FnI P wd K mg base "is_number" s_is_number 1 ["value", "least", "most"] sp_is_number) (G_is_cell : FnI P wd K mg base "is_cell" s_is_cell 2 ["value"] sp_is_cell)
    (cdv : Value) (A : Around) (outer : List PySem.Env) (s : Shared) (H : Hp) (E : XK) (hr : Room (2) (A.deeper (envOfC "is_place" (defScope s_is_place) s.heap.objs.size fa cdv))) :
    PSs (cxOf CX0 P wd K mg base ["value"] "is_place" (defScope s_is_place) fa cdv A outer s H E).nox (defBody s_is_place) (LS K (b_is_place )) :=
  (ss_cons (ss_if (PW.pt (tw_or (tb_not (tb_truth (te_callB call_isiA cd_isi (by rfl) T.n_isinstance (by decide +kernel) (ta_cons (te_var (pv 0)) (ta_cons (te_ty (by rfl) T.n_tuple (by decide +kernel)) ta_nil))))) (tw_or1 (tb_cmp (op_neD (hu64 hr)) od_ne (te_callB call_len cd_len (by rfl) T.n_len (by decide +kernel) (ta_cons (te_var (pv 0)) ta_nil)) te_int (nomark _)))))
  (ss_one (ss_ret te_bl)) ss_nil)
  (ss_one (ss_ret (te_and (te_fn G_is_number hr rfl (ta_cons (te_ix (te_var (pv 0)) te_int (fun _ _ => rfl)) (ta_cons te_int (ta_cons (te_gint rfl T.c_MOST_WINDS) ta_nil)))) (te_one (te_fn G_is_cell hr rfl (ta_cons (te_sl (te_var (pv 0)) (to_yes te_int) to_no) ta_nil)))))))
abbrev s_number_in : Stmt := topS 8
def n_number_in : List Str := ["text", "digit"]
theorem sc_number_in : FnScope ["text", "digit"] ["text"] (defScope s_number_in) := ⟨rfl, rfl, rfl, by decide +kernel, rfl, by decide +kernel, by decide +kernel⟩
def b_number_in  : ST :=
  (sSeq (sIf (bOr (bNot (bT (eCall dIsi (aCons (eVar 0) (aCons (eC (.ty "str")) aNil))))) (bNot (bB (eChain dLe dLe (eC (.int 1)) (eCall dLen (aCons (eVar 0) aNil)) (eC (.int 9))))))
  (sRet (eC .non)) sNext)
  (sSeq (sIf (bNot (bT (eCall dAll (aCons (eComp (itAny (eVar 0)) (.nm 1) bYes (eChain dLe dLe (eC (.str "0")) (eVar 1) (eC (.str "9"))) [1]) aNil))))
  (sRet (eC .non)) sNext)
  (sSeq (sIf (bAnd (bB (eOp dEq (eOp dIx (eVar 0) (eC (.int 0))) (eC (.str "0")))) (bB (eOp dNe (eVar 0) (eC (.str "0")))))
  (sRet (eC .non)) sNext)
  (sRet (eCall dIntOf (aCons (eVar 0) aNil))))))
theorem pb_number_in  {fa : Addr} (T : Txt K mg) 
    (cdv : Value) (A : Around) (outer : List PySem.Env) (s : Shared) (H : Hp) (E : XK) (hr : Room (0) (A.deeper (envOfC "number_in" (defScope s_number_in) s.heap.objs.size fa cdv))) :
    PSs (cxOf CX0 P wd K mg base ["text", "digit"] "number_in" (defScope s_number_in) fa cdv A outer s H E).nox (defBody s_number_in) (LS K (b_number_in )) :=
  (ss_cons (ss_if (PW.pt (tw_or (tb_not (tb_truth (te_callB call_isiA cd_isi (by rfl) T.n_isinstance (by decide +kernel) (ta_cons (te_var (pv 0)) (ta_cons (te_ty (by rfl) T.n_str (by decide +kernel)) ta_nil))))) (tw_or1 (tb_not (tb_chain op_leA od_le op_leA od_le te_int (te_callB call_len cd_len (by rfl) T.n_len (by decide +kernel) (ta_cons (te_var (pv 0)) ta_nil)) (te_gint rfl T.c_MOST_DIGITS))))))
  (ss_one (ss_ret te_non)) ss_nil)
  (ss_cons (ss_if (tb_not (tb_truth (te_callB (cr_all rfl) cd_all (by rfl) T.n_all (by decide +kernel) (ta_cons (te_comp rfl sc_number_in.nd (ti_any (te_var (pv 0))) (blkOk_by (own := [("digit", 1)]) (N := n_number_in) (sc := defScope s_number_in) (by decide +kernel)) (fun _ _ _ _ _ => (tg_nm (i := 1) sc_number_in.nd rfl (Or.inl rfl))) (fun _ _ _ _ _ => tts_nil) (fun _ _ _ _ _ => (te_chain op_leA od_le op_leA od_le te_str (te_var (pv 1)) te_str)) (by decide)) ta_nil))))
  (ss_one (ss_ret te_non)) ss_nil)
  (ss_cons (ss_if (PW.pt (tw_and (tb_cmp (op_eqD (hu64 hr)) od_eq (te_ix (te_var (pv 0)) te_int (fun _ _ => rfl)) te_str (nomark _)) (tw_and1 (tb_cmp (op_neD (hu64 hr)) od_ne (te_var (pv 0)) te_str (nomark _)))))
  (ss_one (ss_ret te_non)) ss_nil)
  (ss_one (ss_ret (te_callTy call_intA cd_int (by rfl) T.n_int (by decide +kernel) (ta_cons (te_var (pv 0)) ta_nil)))))))
abbrev s_bag : Stmt := topS 10
def n_bag : List Str := ["_law_script", "_law_cells_z", "_law_mark", "_law_cell_z"]
theorem sc_bag : FnScope ["_law_script", "_law_cells_z", "_law_mark", "_law_cell_z"] ["_law_script"] (defScope s_bag) := ⟨rfl, rfl, rfl, by decide +kernel, rfl, by decide +kernel, by decide +kernel⟩
def b_bag  : ST :=
  (sSeq (sSet 1 (eComp (itAny (eSl (eVar 0) oNo (oYes (eC (.int 63))))) (.nm 3) bYes (eCall dIntOf (aCons (eVar 3) aNil)) [3]))
  (sSeq (sSet 2 (eOp dAdd (eC (.int 120310)) (eOp dMul (eC (.int 61)) (eCall dLen (aCons (eVar 1) aNil)))))
  (sSeq (sFor (itAny (eVar 1)) (.nm 3)
  (sSet 2 (eOp dMod (eCall dIntOf (aCons (eOp dAdd (eOp dMul (eVar 2) (eC (.int 6947))) (eVar 3)) aNil)) (eC (.int 2147483423)))))
  (sRet (eLstL (aCons (eVar 1) (aCons (eC (.int 0)) (aCons (eC (.int 0)) (aCons (eVar 2) aNil)))))))))
theorem pb_bag  {fa : Addr} (T : Txt K mg) 
    (cdv : Value) (A : Around) (outer : List PySem.Env) (s : Shared) (H : Hp) (E : XK) (hr : Room (0) (A.deeper (envOfC "_law_bag" (defScope s_bag) s.heap.objs.size fa cdv))) :
    PSs (cxOf CX0 P wd K mg base ["_law_script", "_law_cells_z", "_law_mark", "_law_cell_z"] "_law_bag" (defScope s_bag) fa cdv A outer s H E).nox (defBody s_bag) (LS K (b_bag )) :=
  (ss_cons (ss_comp (i := 1) rfl sc_bag.nd rfl rfl (sw_true rfl rfl rfl (by decide +kernel)) (ti_any (te_sl (te_var (pv 0)) to_no (to_yes te_int))) (blkOk_by (own := [("_law_cell_z", 3)]) (N := n_bag) (sc := defScope s_bag) (by decide +kernel)) (fun _ _ _ _ _ => (tg_nm (i := 3) sc_bag.nd rfl (Or.inl rfl))) (fun _ _ _ _ _ => tts_nil) (fun _ _ _ _ _ => (te_callTy call_intA cd_int (by rfl) T.n_int (by decide +kernel) (ta_cons (te_var (pv 3)) ta_nil))) (by decide))
  (ss_cons (ss_set (i := 2) sc_bag.nd rfl (Or.inl rfl) (te_op op_addA od_add te_int (te_op op_mul od_mul te_int (te_callB call_len cd_len (by rfl) T.n_len (by decide +kernel) (ta_cons (te_var (pv 1)) ta_nil)))))
  (ss_cons (ss_for PassesOwn.never rfl (ti_any (te_var (pv 1))) (tg_nm (i := 3) sc_bag.nd rfl (Or.inl rfl))
  (ss_one (ss_set (i := 2) sc_bag.nd rfl (Or.inl rfl) (te_op op_mod od_mod (te_callTy call_intA cd_int (by rfl) T.n_int (by decide +kernel) (ta_cons (te_op op_addA od_add (te_op op_mul od_mul (te_var (pv 2)) te_int) (te_var (pv 3))) ta_nil)) te_int))))
  (ss_one (ss_ret (te_lstL (ta_cons (te_var (pv 1)) (ta_cons te_int (ta_cons te_int (ta_cons (te_var (pv 2)) ta_nil))))))))))
abbrev s_draw : Stmt := topS 11
def n_draw : List Str := ["_law_bag_here", "_law_many", "_law_cell_z", "_law_mixed", "_law_second", "_law_digit"]
theorem sc_draw : FnScope ["_law_bag_here", "_law_many", "_law_cell_z", "_law_mixed", "_law_second", "_law_digit"] ["_law_bag_here", "_law_many"] (defScope s_draw) := ⟨rfl, rfl, rfl, by decide +kernel, rfl, by decide +kernel, by decide +kernel⟩
def b_draw  : ST :=
  (sSeq (sIf (bB (eOp dLt (eOp dIx (eVar 0) (eC (.int 2))) (eC (.int 2))))
  (sSeq (sPut (eOp dAdd (eOp dIx (eVar 0) (eC (.int 1))) (eC (.int 1))) (eVar 0) (eC (.int 1)))
  (sSeq (sSet 2 (eOp dAdd (eOp dIx (eVar 0) (eC (.int 3))) (eOp dMul (eOp dIx (eVar 0) (eC (.int 1))) (eC (.int 9241)))))
  (sSeq (sIf (bB (eOp dLe (eOp dIx (eVar 0) (eC (.int 1))) (eCall dLen (aCons (eOp dIx (eVar 0) (eC (.int 0))) aNil))))
  (sSet 2 (eOp dIx (eOp dIx (eVar 0) (eC (.int 0))) (eOp dSub (eOp dIx (eVar 0) (eC (.int 1))) (eC (.int 1))))) sNext)
  (sSeq (sIf (bOr (bB (eOp dGt (eOp dIx (eVar 0) (eC (.int 1))) (eCall dLen (aCons (eOp dIx (eVar 0) (eC (.int 0))) aNil)))) (bB (eOp dLt (eVar 2) (eOp dPow (eC (.int 10)) (eC (.int 18))))))
  (sSeq (sSet 3 (eOp dMod (eCall dIntOf (aCons (eOp dAdd (eOp dAdd (eOp dMul (eVar 2) (eC (.int 43051))) (eOp dMul (eOp dIx (eVar 0) (eC (.int 1))) (eC (.int 39119)))) (eOp dIx (eVar 0) (eC (.int 3)))) aNil)) (eC (.int 2147483587))))
  (sSeq (sSet 4 (eOp dMod (eCall dIntOf (aCons (eOp dAdd (eOp dMul (eVar 3) (eVar 3)) (eOp dMul (eOp dIx (eVar 0) (eC (.int 1))) (eC (.int 60607)))) aNil)) (eC (.int 998244353))))
  (sRet (eOp dMod (eOp dFdiv (eOp dMod (eCall dIntOf (aCons (eOp dAdd (eOp dMul (eVar 4) (eC (.int 46819))) (eVar 3)) aNil)) (eC (.int 2147483549))) (eC (.int 23))) (eVar 1))))) sNext)
  (sPut (eVar 2) (eVar 0) (eC (.int 2))))))) sNext)
  (sSeq (sSet 5 (eOp dMod (eCall dIntOf (aCons (eOp dIx (eVar 0) (eC (.int 2))) aNil)) (eVar 1)))
  (sSeq (sPut (eOp dFdiv (eCall dIntOf (aCons (eOp dIx (eVar 0) (eC (.int 2))) aNil)) (eVar 1)) (eVar 0) (eC (.int 2)))
  (sRet (eVar 5)))))
theorem pb_draw  {fa : Addr} (T : Txt K mg) 
    (cdv : Value) (A : Around) (outer : List PySem.Env) (s : Shared) (H : Hp) (E : XK) (hr : Room (0) (A.deeper (envOfC "_law_draw" (defScope s_draw) s.heap.objs.size fa cdv))) :
    PSs (cxOf CX0 P wd K mg base ["_law_bag_here", "_law_many", "_law_cell_z", "_law_mixed", "_law_second", "_law_digit"] "_law_draw" (defScope s_draw) fa cdv A outer s H E).nox (defBody s_draw) (LS K (b_draw )) :=
  (ss_cons (ss_if (tb_cmp op_ltA od_lt (te_ix (te_var (pv 0)) te_int (fun _ _ => rfl)) te_int (nomark _))
  (ss_cons (ss_put (te_op op_addA od_add (te_ix (te_var (pv 0)) te_int (fun _ _ => rfl)) te_int) (te_var (pv 0)) te_int (pg_sub (te_var (pv 0)) te_int set_list))
  (ss_cons (ss_set (i := 2) sc_draw.nd rfl (Or.inl rfl) (te_op op_addA od_add (te_ix (te_var (pv 0)) te_int (fun _ _ => rfl)) (te_op op_mul od_mul (te_ix (te_var (pv 0)) te_int (fun _ _ => rfl)) te_int)))
  (ss_cons (ss_if (tb_cmp op_leA od_le (te_ix (te_var (pv 0)) te_int (fun _ _ => rfl)) (te_callB call_len cd_len (by rfl) T.n_len (by decide +kernel) (ta_cons (te_ix (te_var (pv 0)) te_int (fun _ _ => rfl)) ta_nil)) (nomark _))
  (ss_one (ss_set (i := 2) sc_draw.nd rfl (Or.inl rfl) (te_ix (te_ix (te_var (pv 0)) te_int (fun _ _ => rfl)) (te_op op_sub od_sub (te_ix (te_var (pv 0)) te_int (fun _ _ => rfl)) te_int) (fun _ _ => rfl)))) ss_nil)
  (ss_cons (ss_if (PW.pt (tw_or (tb_cmp op_gtA od_gt (te_ix (te_var (pv 0)) te_int (fun _ _ => rfl)) (te_callB call_len cd_len (by rfl) T.n_len (by decide +kernel) (ta_cons (te_ix (te_var (pv 0)) te_int (fun _ _ => rfl)) ta_nil)) (nomark _)) (tw_or1 (tb_cmp op_ltA od_lt (te_var (pv 2)) (te_op op_pow od_pow te_int te_int) (nomark _)))))
  (ss_cons (ss_set (i := 3) sc_draw.nd rfl (Or.inl rfl) (te_op op_mod od_mod (te_callTy call_intA cd_int (by rfl) T.n_int (by decide +kernel) (ta_cons (te_op op_addA od_add (te_op op_addA od_add (te_op op_mul od_mul (te_var (pv 2)) te_int) (te_op op_mul od_mul (te_ix (te_var (pv 0)) te_int (fun _ _ => rfl)) te_int)) (te_ix (te_var (pv 0)) te_int (fun _ _ => rfl))) ta_nil)) te_int))
  (ss_cons (ss_set (i := 4) sc_draw.nd rfl (Or.inl rfl) (te_op op_mod od_mod (te_callTy call_intA cd_int (by rfl) T.n_int (by decide +kernel) (ta_cons (te_op op_addA od_add (te_op op_mul od_mul (te_var (pv 3)) (te_var (pv 3))) (te_op op_mul od_mul (te_ix (te_var (pv 0)) te_int (fun _ _ => rfl)) te_int)) ta_nil)) te_int))
  (ss_one (ss_ret (te_op op_mod od_mod (te_op op_fdiv od_fdiv (te_op op_mod od_mod (te_callTy call_intA cd_int (by rfl) T.n_int (by decide +kernel) (ta_cons (te_op op_addA od_add (te_op op_mul od_mul (te_var (pv 4)) te_int) (te_var (pv 3))) ta_nil)) te_int) te_int) (te_var (pv 1))))))) ss_nil)
  (ss_one (ss_put (te_var (pv 2)) (te_var (pv 0)) te_int (pg_sub (te_var (pv 0)) te_int set_list))))))) ss_nil)
  (ss_cons (ss_set (i := 5) sc_draw.nd rfl (Or.inl rfl) (te_op op_mod od_mod (te_callTy call_intA cd_int (by rfl) T.n_int (by decide +kernel) (ta_cons (te_ix (te_var (pv 0)) te_int (fun _ _ => rfl)) ta_nil)) (te_var (pv 1))))
  (ss_cons (ss_put (te_op op_fdiv od_fdiv (te_callTy call_intA cd_int (by rfl) T.n_int (by decide +kernel) (ta_cons (te_ix (te_var (pv 0)) te_int (fun _ _ => rfl)) ta_nil)) (te_var (pv 1))) (te_var (pv 0)) te_int (pg_sub (te_var (pv 0)) te_int set_list))
  (ss_one (ss_ret (te_var (pv 5)))))))
abbrev s_pick : Stmt := topS 12
def n_pick : List Str := ["_law_bag_here", "_law_some"]
theorem sc_pick : FnScope ["_law_bag_here", "_law_some"] ["_law_bag_here", "_law_some"] (defScope s_pick) := ⟨rfl, rfl, rfl, by decide +kernel, rfl, by decide +kernel, by decide +kernel⟩
def b_pick  : ST :=
  (sRet (eOp dIx (eVar 1) (eCall sp_draw (aCons (eVar 0) (aCons (eCall dLen (aCons (eVar 1) aNil)) aNil)))))
theorem pb_pick  {fa : Addr} (T : Txt K mg) (G_draw : FnI P wd K mg base "_law_draw" s_draw 1 ["_law_bag_here", "_law_many"] sp_draw)
    (cdv : Value) (A : Around) (outer : List PySem.Env) (s : Shared) (H : Hp) (E : XK) (hr : Room (1) (A.deeper (envOfC "_law_pick" (defScope s_pick) s.heap.objs.size fa cdv))) :
    PSs (cxOf CX0 P wd K mg base ["_law_bag_here", "_law_some"] "_law_pick" (defScope s_pick) fa cdv A outer s H E).nox (defBody s_pick) (LS K (b_pick )) :=
  (ss_one (ss_ret (te_ix (te_var (pv 1)) (te_fn G_draw hr rfl (ta_cons (te_var (pv 0)) (ta_cons (te_callB call_len cd_len (by rfl) T.n_len (by decide +kernel) (ta_cons (te_var (pv 1)) ta_nil)) ta_nil))) (fun _ _ => rfl))))
abbrev s_same : Stmt := topS 13
def n_same : List Str := ["_law_found", "_law_due", "_law_one", "_law_two"]
theorem sc_same : FnScope ["_law_found", "_law_due", "_law_one", "_law_two"] ["_law_found", "_law_due"] (defScope s_same) := ⟨rfl, rfl, rfl, by decide +kernel, rfl, by decide +kernel, by decide +kernel⟩
def b_same (n : Nat) : ST :=
  (sSeq (sIf (bOr (bB (eOp dIs (eVar 1) (eC .non))) (bB (eOp dIs (eVar 0) (eC .non))))
  (sRet (eAnd (eOp dIs (eVar 1) (eC .non)) (eOp dIs (eVar 0) (eC .non)))) sNext)
  (sSeq (sIf (bOr (bT (eCall dIsi (aCons (eVar 1) (aCons (eTup (aCons (eC (.ty "list")) (aCons (eC (.ty "tuple")) aNil))) aNil)))) (bT (eCall dIsi (aCons (eVar 0) (aCons (eTup (aCons (eC (.ty "list")) (aCons (eC (.ty "tuple")) aNil))) aNil)))))
  (sSeq (sIf (bOr (bB (eOp dNe (eCall dIsi (aCons (eVar 1) (aCons (eC (.ty "list")) aNil))) (eCall dIsi (aCons (eVar 0) (aCons (eC (.ty "list")) aNil))))) (bB (eOp dNe (eCall dIsi (aCons (eVar 1) (aCons (eC (.ty "tuple")) aNil))) (eCall dIsi (aCons (eVar 0) (aCons (eC (.ty "tuple")) aNil))))))
  (sRet (eC (.bl false))) sNext)
  (sRet (eAnd (eOp dEq (eCall dLen (aCons (eVar 0) aNil)) (eCall dLen (aCons (eVar 1) aNil))) (eCall dAll (aCons (eComp (itZip (aCons (eVar 0) (aCons (eVar 1) aNil))) (.tp [(.nm 2), (.nm 3)]) bYes (eCall (sp_same n) (aCons (eVar 2) (aCons (eVar 3) aNil))) [2, 3]) aNil))))) sNext)
  (sSeq (sIf (bOr (bB (eOp dNe (eCall dIsi (aCons (eVar 1) (aCons (eC (.ty "bool")) aNil))) (eCall dIsi (aCons (eVar 0) (aCons (eC (.ty "bool")) aNil))))) (bB (eOp dNe (eCall dIsi (aCons (eVar 1) (aCons (eC (.ty "str")) aNil))) (eCall dIsi (aCons (eVar 0) (aCons (eC (.ty "str")) aNil))))))
  (sRet (eC (.bl false))) sNext)
  (sRet (eAnd (eOp dEq (eCall dIsi (aCons (eVar 1) (aCons (eC (.ty "int")) aNil))) (eCall dIsi (aCons (eVar 0) (aCons (eC (.ty "int")) aNil)))) (eOp dEq (eVar 0) (eVar 1)))))))
theorem pb_same (n : Nat) {fa : Addr} (T : Txt K mg) (G_same : FnI P wd K mg base "_law_same" s_same (n + 1) ["_law_found", "_law_due"] (sp_same n))
    (cdv : Value) (A : Around) (outer : List PySem.Env) (s : Shared) (H : Hp) (E : XK) (hr : Room (n + 1) (A.deeper (envOfC "_law_same" (defScope s_same) s.heap.objs.size fa cdv))) :
    PSs (cxOf CX0 P wd K mg base ["_law_found", "_law_due", "_law_one", "_law_two"] "_law_same" (defScope s_same) fa cdv A outer s H E).nox (defBody s_same) (LS K (b_same n)) :=
  (ss_cons (ss_if (PW.pt (tw_or (tb_cmp op_isN od_is (te_var (pv 1)) te_non (nomark _)) (tw_or1 (tb_cmp op_isN od_is (te_var (pv 0)) te_non (nomark _)))))
  (ss_one (ss_ret (te_and (te_cmp op_isN od_is (te_var (pv 1)) te_non (nomark _)) (te_one (te_cmp op_isN od_is (te_var (pv 0)) te_non (nomark _)))))) ss_nil)
  (ss_cons (ss_if (PW.pt (tw_or (tb_truth (te_callB call_isiA cd_isi (by rfl) T.n_isinstance (by decide +kernel) (ta_cons (te_var (pv 1)) (ta_cons (te_tup (ta_cons (te_ty (by rfl) T.n_list (by decide +kernel)) (ta_cons (te_ty (by rfl) T.n_tuple (by decide +kernel)) ta_nil))) ta_nil)))) (tw_or1 (tb_truth (te_callB call_isiA cd_isi (by rfl) T.n_isinstance (by decide +kernel) (ta_cons (te_var (pv 0)) (ta_cons (te_tup (ta_cons (te_ty (by rfl) T.n_list (by decide +kernel)) (ta_cons (te_ty (by rfl) T.n_tuple (by decide +kernel)) ta_nil))) ta_nil)))))))
  (ss_cons (ss_if (PW.pt (tw_or (tb_cmp (op_neD (hu64 hr)) od_ne (te_callB call_isiA cd_isi (by rfl) T.n_isinstance (by decide +kernel) (ta_cons (te_var (pv 1)) (ta_cons (te_ty (by rfl) T.n_list (by decide +kernel)) ta_nil))) (te_callB call_isiA cd_isi (by rfl) T.n_isinstance (by decide +kernel) (ta_cons (te_var (pv 0)) (ta_cons (te_ty (by rfl) T.n_list (by decide +kernel)) ta_nil))) (nomark _)) (tw_or1 (tb_cmp (op_neD (hu64 hr)) od_ne (te_callB call_isiA cd_isi (by rfl) T.n_isinstance (by decide +kernel) (ta_cons (te_var (pv 1)) (ta_cons (te_ty (by rfl) T.n_tuple (by decide +kernel)) ta_nil))) (te_callB call_isiA cd_isi (by rfl) T.n_isinstance (by decide +kernel) (ta_cons (te_var (pv 0)) (ta_cons (te_ty (by rfl) T.n_tuple (by decide +kernel)) ta_nil))) (nomark _)))))
  (ss_one (ss_ret te_bl)) ss_nil)
  (ss_one (ss_ret (te_and (te_cmp (op_eqD (hu64 hr)) od_eq (te_callB call_len cd_len (by rfl) T.n_len (by decide +kernel) (ta_cons (te_var (pv 0)) ta_nil)) (te_callB call_len cd_len (by rfl) T.n_len (by decide +kernel) (ta_cons (te_var (pv 1)) ta_nil)) (nomark _)) (te_one (te_callB (cr_all rfl) cd_all (by rfl) T.n_all (by decide +kernel) (ta_cons (te_comp rfl sc_same.nd (ti_zip rfl T.n_zip (ta_cons (te_var (pv 0)) (ta_cons (te_var (pv 1)) ta_nil))) (blkOk_by (own := [("_law_one", 2), ("_law_two", 3)]) (N := n_same) (sc := defScope s_same) (by decide +kernel)) (fun _ _ _ _ _ => (tg_tp rfl (tgs_cons (tg_nm (i := 2) sc_same.nd rfl (Or.inl rfl)) (tgs_cons (tg_nm (i := 3) sc_same.nd rfl (Or.inl rfl)) tgs_nil)))) (fun _ _ _ _ _ => tts_nil) (fun _ _ _ _ _ => (te_fn G_same hr rfl (ta_cons (te_var (pv 2)) (ta_cons (te_var (pv 3)) ta_nil)))) (by decide)) ta_nil))))))) ss_nil)
  (ss_cons (ss_if (PW.pt (tw_or (tb_cmp (op_neD (hu64 hr)) od_ne (te_callB call_isiA cd_isi (by rfl) T.n_isinstance (by decide +kernel) (ta_cons (te_var (pv 1)) (ta_cons (te_ty (by rfl) T.n_bool (by decide +kernel)) ta_nil))) (te_callB call_isiA cd_isi (by rfl) T.n_isinstance (by decide +kernel) (ta_cons (te_var (pv 0)) (ta_cons (te_ty (by rfl) T.n_bool (by decide +kernel)) ta_nil))) (nomark _)) (tw_or1 (tb_cmp (op_neD (hu64 hr)) od_ne (te_callB call_isiA cd_isi (by rfl) T.n_isinstance (by decide +kernel) (ta_cons (te_var (pv 1)) (ta_cons (te_ty (by rfl) T.n_str (by decide +kernel)) ta_nil))) (te_callB call_isiA cd_isi (by rfl) T.n_isinstance (by decide +kernel) (ta_cons (te_var (pv 0)) (ta_cons (te_ty (by rfl) T.n_str (by decide +kernel)) ta_nil))) (nomark _)))))
  (ss_one (ss_ret te_bl)) ss_nil)
  (ss_one (ss_ret (te_and (te_cmp (op_eqD (hu64 hr)) od_eq (te_callB call_isiA cd_isi (by rfl) T.n_isinstance (by decide +kernel) (ta_cons (te_var (pv 1)) (ta_cons (te_ty (by rfl) T.n_int (by decide +kernel)) ta_nil))) (te_callB call_isiA cd_isi (by rfl) T.n_isinstance (by decide +kernel) (ta_cons (te_var (pv 0)) (ta_cons (te_ty (by rfl) T.n_int (by decide +kernel)) ta_nil))) (nomark _)) (te_one (te_cmp (op_eqD (hu64 hr)) od_eq (te_var (pv 0)) (te_var (pv 1)) (nomark _)))))))))
abbrev s_odd : Stmt := topS 14
def n_odd : List Str := ["_law_bag_here"]
theorem sc_odd : FnScope ["_law_bag_here"] ["_law_bag_here"] (defScope s_odd) := ⟨rfl, rfl, rfl, by decide +kernel, rfl, by decide +kernel, by decide +kernel⟩
def b_odd  : ST :=
  (sRet (eCall sp_pick (aCons (eVar 0) (aCons (eLst (aCons (eC .non) (aCons (eC (.bl true)) (aCons (eC (.bl false)) (aCons (eTup aNil) (aCons (eLst aNil) (aCons (eC (.str "")) (aCons (eC (.str "3")) (aCons (eTup (aCons (eC (.bl true)) (aCons (eC (.int 0)) aNil))) (aCons (eLst (aCons (eC (.int 0)) (aCons (eC (.int 0)) aNil))) (aCons (eTup (aCons (eC (.int 0)) (aCons (eC (.int 0)) (aCons (eC (.bl false)) aNil)))) (aCons (eTup (aCons (eC (.str "0")) (aCons (eC (.int 0)) aNil))) (aCons (eTup (aCons (eTup (aCons (eC (.int 0)) (aCons (eC (.int 0)) aNil))) aNil)) (aCons (eTup (aCons (eC (.int 0)) (aCons (eC .non) aNil))) aNil)))))))))))))) aNil))))
theorem pb_odd  {fa : Addr} (T : Txt K mg) (G_pick : FnI P wd K mg base "_law_pick" s_pick 2 ["_law_bag_here", "_law_some"] sp_pick)
    (cdv : Value) (A : Around) (outer : List PySem.Env) (s : Shared) (H : Hp) (E : XK) (hr : Room (2) (A.deeper (envOfC "_law_odd" (defScope s_odd) s.heap.objs.size fa cdv))) :
    PSs (cxOf CX0 P wd K mg base ["_law_bag_here"] "_law_odd" (defScope s_odd) fa cdv A outer s H E).nox (defBody s_odd) (LS K (b_odd )) :=
  (ss_one (ss_ret (te_fn G_pick hr rfl (ta_cons (te_var (pv 0)) (ta_cons (te_lst (ta_cons te_non (ta_cons te_bl (ta_cons te_bl (ta_cons (te_tup ta_nil) (ta_cons (te_lst ta_nil) (ta_cons te_str (ta_cons te_str (ta_cons (te_tup (ta_cons te_bl (ta_cons te_int ta_nil))) (ta_cons (te_lst (ta_cons te_int (ta_cons te_int ta_nil))) (ta_cons (te_tup (ta_cons te_int (ta_cons te_int (ta_cons te_bl ta_nil)))) (ta_cons (te_tup (ta_cons te_str (ta_cons te_int ta_nil))) (ta_cons (te_tup (ta_cons (te_tup (ta_cons te_int (ta_cons te_int ta_nil))) ta_nil)) (ta_cons (te_tup (ta_cons te_int (ta_cons te_non ta_nil))) ta_nil)))))))))))))) ta_nil)))))
abbrev s_count : Stmt := topS 15
def n_count : List Str := ["_law_bag_here"]
theorem sc_count : FnScope ["_law_bag_here"] ["_law_bag_here"] (defScope s_count) := ⟨rfl, rfl, rfl, by decide +kernel, rfl, by decide +kernel, by decide +kernel⟩
def b_count  : ST :=
  (sRet (eCall sp_pick (aCons (eVar 0) (aCons (eLst (aCons (eUn dNeg (eC (.int 1))) (aCons (eC (.int 0)) (aCons (eC (.int 0)) (aCons (eC (.int 1)) (aCons (eC (.int 4)) (aCons (eC (.int 5)) (aCons (eC (.int 5)) (aCons (eC (.int 6)) (aCons (eC (.int 7)) (aCons (eC (.int 8)) (aCons (eC (.int 8)) (aCons (eC (.int 9)) (aCons (eC (.int 10)) (aCons (eC (.int 99)) (aCons (eC (.int 999999990)) (aCons (eCall sp_draw (aCons (eVar 0) (aCons (eC (.int 9)) aNil))) aNil))))))))))))))))) aNil))))
theorem pb_count  {fa : Addr} (T : Txt K mg) (G_pick : FnI P wd K mg base "_law_pick" s_pick 2 ["_law_bag_here", "_law_some"] sp_pick) (G_draw : FnI P wd K mg base "_law_draw" s_draw 1 ["_law_bag_here", "_law_many"] sp_draw)
    (cdv : Value) (A : Around) (outer : List PySem.Env) (s : Shared) (H : Hp) (E : XK) (hr : Room (2) (A.deeper (envOfC "_law_count" (defScope s_count) s.heap.objs.size fa cdv))) :
    PSs (cxOf CX0 P wd K mg base ["_law_bag_here"] "_law_count" (defScope s_count) fa cdv A outer s H E).nox (defBody s_count) (LS K (b_count )) :=
  (ss_one (ss_ret (te_fn G_pick hr rfl (ta_cons (te_var (pv 0)) (ta_cons (te_lst (ta_cons (te_neg te_int) (ta_cons te_int (ta_cons te_int (ta_cons te_int (ta_cons te_int (ta_cons te_int (ta_cons te_int (ta_cons te_int (ta_cons te_int (ta_cons te_int (ta_cons te_int (ta_cons te_int (ta_cons te_int (ta_cons te_int (ta_cons te_int (ta_cons (te_fn G_draw hr rfl (ta_cons (te_var (pv 0)) (ta_cons te_int ta_nil))) ta_nil))))))))))))))))) ta_nil)))))
abbrev s_word : Stmt := topS 16
def n_word : List Str := ["_law_bag_here", "_law_letters", "_law_found", "_law_spot", "_law_k"]
theorem sc_word : FnScope ["_law_bag_here", "_law_letters", "_law_found", "_law_spot", "_law_k"] ["_law_bag_here"] (defScope s_word) := ⟨rfl, rfl, rfl, by decide +kernel, rfl, by decide +kernel, by decide +kernel⟩
def b_word  : ST :=
  (sSeq (sSet 1 (eC (.str "abcdefghijklmnopqrstuvwxyz")))
  (sSeq (sSet 2 (eStr1 dJoin (eC (.str "")) (eComp (itRange1 (aCons (eCall sp_draw (aCons (eVar 0) (aCons (eC (.int 8)) aNil))) aNil)) (.nm 4) bYes (eCall sp_pick (aCons (eVar 0) (aCons (eVar 1) aNil))) [4])))
  (sSeq (sSet 3 (eCall sp_draw (aCons (eVar 0) (aCons (eOp dAdd (eCall dLen (aCons (eVar 2) aNil)) (eC (.int 1))) aNil))))
  (sRet (eOp dAdd (eOp dAdd (eSl (eVar 2) oNo (oYes (eVar 3))) (eCall sp_pick (aCons (eVar 0) (aCons (eLst (aCons (eC (.str "")) (aCons (eC (.str "")) (aCons (eC (.str "A")) (aCons (eC (.str "0")) (aCons (eC (.str " ")) (aCons (eC (.str "-")) (aCons (eC (.str "_")) (aCons (eC (.str "Z")) (aCons (eC (.str ".")) (aCons (eC (.str "\n")) aNil))))))))))) aNil)))) (eSl (eVar 2) (oYes (eVar 3)) oNo))))))
theorem pb_word  {fa : Addr} (T : Txt K mg) (G_draw : FnI P wd K mg base "_law_draw" s_draw 1 ["_law_bag_here", "_law_many"] sp_draw) (G_pick : FnI P wd K mg base "_law_pick" s_pick 2 ["_law_bag_here", "_law_some"] sp_pick)
    (cdv : Value) (A : Around) (outer : List PySem.Env) (s : Shared) (H : Hp) (E : XK) (hr : Room (2) (A.deeper (envOfC "_law_word" (defScope s_word) s.heap.objs.size fa cdv))) :
    PSs (cxOf CX0 P wd K mg base ["_law_bag_here", "_law_letters", "_law_found", "_law_spot", "_law_k"] "_law_word" (defScope s_word) fa cdv A outer s H E).nox (defBody s_word) (LS K (b_word )) :=
  (ss_cons (ss_set (i := 1) sc_word.nd rfl (Or.inr rfl) te_str)
  (ss_cons (ss_set (i := 2) sc_word.nd rfl (Or.inl rfl) (te_join te_str (te_comp rfl sc_word.nd (ti_range1 rfl T.n_range (ta_cons (te_fn G_draw hr rfl (ta_cons (te_var (pv 0)) (ta_cons te_int ta_nil))) ta_nil)) (blkOk_by (own := [("_law_k", 4)]) (N := n_word) (sc := defScope s_word) (by decide +kernel)) (fun _ _ _ _ _ => (tg_nm (i := 4) sc_word.nd rfl (Or.inl rfl))) (fun _ _ _ _ _ => tts_nil) (fun _ _ _ _ _ => (te_fn G_pick hr rfl (ta_cons (te_var (pv 0)) (ta_cons (te_var (pv 1)) ta_nil)))) (by decide))))
  (ss_cons (ss_set (i := 3) sc_word.nd rfl (Or.inl rfl) (te_fn G_draw hr rfl (ta_cons (te_var (pv 0)) (ta_cons (te_op op_addA od_add (te_callB call_len cd_len (by rfl) T.n_len (by decide +kernel) (ta_cons (te_var (pv 2)) ta_nil)) te_int) ta_nil))))
  (ss_one (ss_ret (te_op op_addA od_add (te_op op_addA od_add (te_sl (te_var (pv 2)) to_no (to_yes (te_var (pv 3)))) (te_fn G_pick hr rfl (ta_cons (te_var (pv 0)) (ta_cons (te_lst (ta_cons te_str (ta_cons te_str (ta_cons te_str (ta_cons te_str (ta_cons te_str (ta_cons te_str (ta_cons te_str (ta_cons te_str (ta_cons te_str (ta_cons te_str ta_nil))))))))))) ta_nil)))) (te_sl (te_var (pv 2)) (to_yes (te_var (pv 3))) to_no)))))))
abbrev s_figures : Stmt := topS 17
def n_figures : List Str := ["_law_bag_here", "_law_found", "_law_way", "_law_spot", "_law_k"]
theorem sc_figures : FnScope ["_law_bag_here", "_law_found", "_law_way", "_law_spot", "_law_k"] ["_law_bag_here"] (defScope s_figures) := ⟨rfl, rfl, rfl, by decide +kernel, rfl, by decide +kernel, by decide +kernel⟩
def b_figures  : ST :=
  (sSeq (sSet 1 (eStr1 dJoin (eC (.str "")) (eComp (itRange1 (aCons (eCall sp_draw (aCons (eVar 0) (aCons (eC (.int 11)) aNil))) aNil)) (.nm 4) bYes (eCall sp_pick (aCons (eVar 0) (aCons (eC (.str "0123456789")) aNil))) [4])))
  (sSeq (sSet 2 (eCall sp_draw (aCons (eVar 0) (aCons (eC (.int 8)) aNil))))
  (sSeq (sIf (bB (eOp dEq (eVar 2) (eC (.int 0))))
  (sSeq (sSet 3 (eCall sp_draw (aCons (eVar 0) (aCons (eOp dAdd (eCall dLen (aCons (eVar 1) aNil)) (eC (.int 1))) aNil))))
  (sRet (eOp dAdd (eOp dAdd (eSl (eVar 1) oNo (oYes (eVar 3))) (eCall sp_pick (aCons (eVar 0) (aCons (eLst (aCons (eC (.str "-")) (aCons (eC (.str "+")) (aCons (eC (.str " ")) (aCons (eC (.str "_")) (aCons (eC (.str "a")) (aCons (eC (.str ".")) (aCons (eC (.str "\n")) (aCons (eC (.str "00")) aNil))))))))) aNil)))) (eSl (eVar 1) (oYes (eVar 3)) oNo)))) sNext)
  (sRet (eIf (bB (eOp dLt (eVar 2) (eC (.int 3)))) (eCall dStrOf (aCons (eCall sp_draw (aCons (eVar 0) (aCons (eOp dPow (eC (.int 10)) (eC (.int 9))) aNil))) aNil)) (eVar 1))))))
theorem pb_figures  {fa : Addr} (T : Txt K mg) (G_draw : FnI P wd K mg base "_law_draw" s_draw 1 ["_law_bag_here", "_law_many"] sp_draw) (G_pick : FnI P wd K mg base "_law_pick" s_pick 2 ["_law_bag_here", "_law_some"] sp_pick)
    (cdv : Value) (A : Around) (outer : List PySem.Env) (s : Shared) (H : Hp) (E : XK) (hr : Room (2) (A.deeper (envOfC "_law_figures" (defScope s_figures) s.heap.objs.size fa cdv))) :
    PSs (cxOf CX0 P wd K mg base ["_law_bag_here", "_law_found", "_law_way", "_law_spot", "_law_k"] "_law_figures" (defScope s_figures) fa cdv A outer s H E).nox (defBody s_figures) (LS K (b_figures )) :=
  (ss_cons (ss_set (i := 1) sc_figures.nd rfl (Or.inl rfl) (te_join te_str (te_comp rfl sc_figures.nd (ti_range1 rfl T.n_range (ta_cons (te_fn G_draw hr rfl (ta_cons (te_var (pv 0)) (ta_cons te_int ta_nil))) ta_nil)) (blkOk_by (own := [("_law_k", 4)]) (N := n_figures) (sc := defScope s_figures) (by decide +kernel)) (fun _ _ _ _ _ => (tg_nm (i := 4) sc_figures.nd rfl (Or.inl rfl))) (fun _ _ _ _ _ => tts_nil) (fun _ _ _ _ _ => (te_fn G_pick hr rfl (ta_cons (te_var (pv 0)) (ta_cons te_str ta_nil)))) (by decide))))
  (ss_cons (ss_set (i := 2) sc_figures.nd rfl (Or.inl rfl) (te_fn G_draw hr rfl (ta_cons (te_var (pv 0)) (ta_cons te_int ta_nil))))
  (ss_cons (ss_if (tb_cmp (op_eqD (hu64 hr)) od_eq (te_var (pv 2)) te_int (nomark _))
  (ss_cons (ss_set (i := 3) sc_figures.nd rfl (Or.inl rfl) (te_fn G_draw hr rfl (ta_cons (te_var (pv 0)) (ta_cons (te_op op_addA od_add (te_callB call_len cd_len (by rfl) T.n_len (by decide +kernel) (ta_cons (te_var (pv 1)) ta_nil)) te_int) ta_nil))))
  (ss_one (ss_ret (te_op op_addA od_add (te_op op_addA od_add (te_sl (te_var (pv 1)) to_no (to_yes (te_var (pv 3)))) (te_fn G_pick hr rfl (ta_cons (te_var (pv 0)) (ta_cons (te_lst (ta_cons te_str (ta_cons te_str (ta_cons te_str (ta_cons te_str (ta_cons te_str (ta_cons te_str (ta_cons te_str (ta_cons te_str ta_nil))))))))) ta_nil)))) (te_sl (te_var (pv 1)) (to_yes (te_var (pv 3))) to_no))))) ss_nil)
  (ss_one (ss_ret (te_if (tb_cmp op_ltA od_lt (te_var (pv 2)) te_int (nomark _)) (te_callTy call_str_int cd_str (by rfl) T.n_str (by decide +kernel) (ta_cons (te_fn G_draw hr rfl (ta_cons (te_var (pv 0)) (ta_cons (te_op op_pow od_pow te_int te_int) ta_nil))) ta_nil)) (te_var (pv 1))))))))
abbrev s_is_count : Stmt := topS 18
def n_is_count : List Str := ["_law_thing", "_law_low", "_law_high"]
theorem sc_is_count : FnScope ["_law_thing", "_law_low", "_law_high"] ["_law_thing", "_law_low", "_law_high"] (defScope s_is_count) := ⟨rfl, rfl, rfl, by decide +kernel, rfl, by decide +kernel, by decide +kernel⟩
def b_is_count  : ST :=
  (sRet (eAnd (eCall dIsi (aCons (eVar 0) (aCons (eC (.ty "int")) aNil))) (eAnd (eNot (eCall dIsi (aCons (eVar 0) (aCons (eC (.ty "bool")) aNil)))) (eAnd (eOp dLe (eVar 1) (eVar 0)) (eOp dLe (eVar 0) (eVar 2))))))
theorem pb_is_count  {fa : Addr} (T : Txt K mg) 
    (cdv : Value) (A : Around) (outer : List PySem.Env) (s : Shared) (H : Hp) (E : XK) (hr : Room (0) (A.deeper (envOfC "_law_is_count" (defScope s_is_count) s.heap.objs.size fa cdv))) :
    PSs (cxOf CX0 P wd K mg base ["_law_thing", "_law_low", "_law_high"] "_law_is_count" (defScope s_is_count) fa cdv A outer s H E).nox (defBody s_is_count) (LS K (b_is_count )) :=
  (ss_one (ss_ret (te_and (te_callB call_isiA cd_isi (by rfl) T.n_isinstance (by decide +kernel) (ta_cons (te_var (pv 0)) (ta_cons (te_ty (by rfl) T.n_int (by decide +kernel)) ta_nil))) (te_and (te_not (te_callB call_isiA cd_isi (by rfl) T.n_isinstance (by decide +kernel) (ta_cons (te_var (pv 0)) (ta_cons (te_ty (by rfl) T.n_bool (by decide +kernel)) ta_nil)))) (te_and (te_cmp op_leA od_le (te_var (pv 1)) (te_var (pv 0)) (nomark _)) (te_one (te_cmp op_leA od_le (te_var (pv 0)) (te_var (pv 2)) (nomark _))))))))
abbrev s_is_tuple : Stmt := topS 19
def n_is_tuple : List Str := ["_law_thing", "_law_highs", "_law_one", "_law_high"]
theorem sc_is_tuple : FnScope ["_law_thing", "_law_highs", "_law_one", "_law_high"] ["_law_thing", "_law_highs"] (defScope s_is_tuple) := ⟨rfl, rfl, rfl, by decide +kernel, rfl, by decide +kernel, by decide +kernel⟩
def b_is_tuple  : ST :=
  (sSeq (sIf (bOr (bNot (bT (eCall dIsi (aCons (eVar 0) (aCons (eC (.ty "tuple")) aNil))))) (bB (eOp dNe (eCall dLen (aCons (eVar 0) aNil)) (eCall dLen (aCons (eVar 1) aNil)))))
  (sRet (eC (.bl false))) sNext)
  (sRet (eCall dAll (aCons (eComp (itZip (aCons (eVar 0) (aCons (eVar 1) aNil))) (.tp [(.nm 2), (.nm 3)]) bYes (eCall sp_is_count (aCons (eVar 2) (aCons (eC (.int 0)) (aCons (eVar 3) aNil)))) [2, 3]) aNil))))
theorem pb_is_tuple  {fa : Addr} (T : Txt K mg) (G_is_count : FnI P wd K mg base "_law_is_count" s_is_count 1 ["_law_thing", "_law_low", "_law_high"] sp_is_count)
    (cdv : Value) (A : Around) (outer : List PySem.Env) (s : Shared) (H : Hp) (E : XK) (hr : Room (1) (A.deeper (envOfC "_law_is_tuple" (defScope s_is_tuple) s.heap.objs.size fa cdv))) :
    PSs (cxOf CX0 P wd K mg base ["_law_thing", "_law_highs", "_law_one", "_law_high"] "_law_is_tuple" (defScope s_is_tuple) fa cdv A outer s H E).nox (defBody s_is_tuple) (LS K (b_is_tuple )) :=
  (ss_cons (ss_if (PW.pt (tw_or (tb_not (tb_truth (te_callB call_isiA cd_isi (by rfl) T.n_isinstance (by decide +kernel) (ta_cons (te_var (pv 0)) (ta_cons (te_ty (by rfl) T.n_tuple (by decide +kernel)) ta_nil))))) (tw_or1 (tb_cmp (op_neD (hu64 hr)) od_ne (te_callB call_len cd_len (by rfl) T.n_len (by decide +kernel) (ta_cons (te_var (pv 0)) ta_nil)) (te_callB call_len cd_len (by rfl) T.n_len (by decide +kernel) (ta_cons (te_var (pv 1)) ta_nil)) (nomark _)))))
  (ss_one (ss_ret te_bl)) ss_nil)
  (ss_one (ss_ret (te_callB (cr_all rfl) cd_all (by rfl) T.n_all (by decide +kernel) (ta_cons (te_comp rfl sc_is_tuple.nd (ti_zip rfl T.n_zip (ta_cons (te_var (pv 0)) (ta_cons (te_var (pv 1)) ta_nil))) (blkOk_by (own := [("_law_one", 2), ("_law_high", 3)]) (N := n_is_tuple) (sc := defScope s_is_tuple) (by decide +kernel)) (fun _ _ _ _ _ => (tg_tp rfl (tgs_cons (tg_nm (i := 2) sc_is_tuple.nd rfl (Or.inl rfl)) (tgs_cons (tg_nm (i := 3) sc_is_tuple.nd rfl (Or.inl rfl)) tgs_nil)))) (fun _ _ _ _ _ => tts_nil) (fun _ _ _ _ _ => (te_fn G_is_count hr rfl (ta_cons (te_var (pv 2)) (ta_cons te_int (ta_cons (te_var (pv 3)) ta_nil))))) (by decide)) ta_nil)))))
abbrev s_is_word : Stmt := topS 20
def n_is_word : List Str := ["_law_thing", "_law_sign"]
theorem sc_is_word : FnScope ["_law_thing", "_law_sign"] ["_law_thing"] (defScope s_is_word) := ⟨rfl, rfl, rfl, by decide +kernel, rfl, by decide +kernel, by decide +kernel⟩
def b_is_word  : ST :=
  (sSeq (sIf (bOr (bNot (bT (eCall dIsi (aCons (eVar 0) (aCons (eC (.ty "str")) aNil))))) (bOr (bB (eOp dLt (eCall dLen (aCons (eVar 0) aNil)) (eC (.int 1)))) (bB (eOp dGt (eCall dLen (aCons (eVar 0) aNil)) (eC (.int 6))))))
  (sRet (eC (.bl false))) sNext)
  (sRet (eCall dAll (aCons (eComp (itAny (eVar 0)) (.nm 1) bYes (eOp dIn (eVar 1) (eC (.str "abcdefghijklmnopqrstuvwxyz"))) [1]) aNil))))
theorem pb_is_word  {fa : Addr} (T : Txt K mg) 
    (cdv : Value) (A : Around) (outer : List PySem.Env) (s : Shared) (H : Hp) (E : XK) (hr : Room (0) (A.deeper (envOfC "_law_is_word" (defScope s_is_word) s.heap.objs.size fa cdv))) :
    PSs (cxOf CX0 P wd K mg base ["_law_thing", "_law_sign"] "_law_is_word" (defScope s_is_word) fa cdv A outer s H E).nox (defBody s_is_word) (LS K (b_is_word )) :=
  (ss_cons (ss_if (PW.pt (tw_or (tb_not (tb_truth (te_callB call_isiA cd_isi (by rfl) T.n_isinstance (by decide +kernel) (ta_cons (te_var (pv 0)) (ta_cons (te_ty (by rfl) T.n_str (by decide +kernel)) ta_nil))))) (tw_or (tb_cmp op_ltA od_lt (te_callB call_len cd_len (by rfl) T.n_len (by decide +kernel) (ta_cons (te_var (pv 0)) ta_nil)) te_int (nomark _)) (tw_or1 (tb_cmp op_gtA od_gt (te_callB call_len cd_len (by rfl) T.n_len (by decide +kernel) (ta_cons (te_var (pv 0)) ta_nil)) te_int (nomark _))))))
  (ss_one (ss_ret te_bl)) ss_nil)
  (ss_one (ss_ret (te_callB (cr_all rfl) cd_all (by rfl) T.n_all (by decide +kernel) (ta_cons (te_comp rfl sc_is_word.nd (ti_any (te_var (pv 0))) (blkOk_by (own := [("_law_sign", 1)]) (N := n_is_word) (sc := defScope s_is_word) (by decide +kernel)) (fun _ _ _ _ _ => (tg_nm (i := 1) sc_is_word.nd rfl (Or.inl rfl))) (fun _ _ _ _ _ => tts_nil) (fun _ _ _ _ _ => (te_cmp (op_inA (hu65 hr)) od_in (te_var (pv 1)) te_str (by rfl))) (by decide)) ta_nil)))))
abbrev s_number_of : Stmt := topS 21
def n_number_of : List Str := ["_law_thing", "_law_found", "_law_sign"]
theorem sc_number_of : FnScope ["_law_thing", "_law_found", "_law_sign"] ["_law_thing"] (defScope s_number_of) := ⟨rfl, rfl, rfl, by decide +kernel, rfl, by decide +kernel, by decide +kernel⟩
def b_number_of  : ST :=
  (sSeq (sIf (bOr (bNot (bT (eCall dIsi (aCons (eVar 0) (aCons (eC (.ty "str")) aNil))))) (bOr (bB (eOp dLt (eCall dLen (aCons (eVar 0) aNil)) (eC (.int 1)))) (bOr (bB (eOp dGt (eCall dLen (aCons (eVar 0) aNil)) (eC (.int 9)))) (bAnd (bB (eOp dEq (eOp dIx (eVar 0) (eC (.int 0))) (eC (.str "0")))) (bB (eOp dNe (eVar 0) (eC (.str "0"))))))))
  (sRet (eC .non)) sNext)
  (sSeq (sSet 1 (eC (.int 0)))
  (sSeq (sFor (itAny (eVar 0)) (.nm 2)
  (sSeq (sIf (bB (eOp dNotIn (eVar 2) (eC (.str "0123456789"))))
  (sRet (eC .non)) sNext)
  (sSet 1 (eOp dAdd (eOp dMul (eVar 1) (eC (.int 10))) (eStr1 dIndexS (eC (.str "0123456789")) (eVar 2))))))
  (sRet (eVar 1)))))
theorem pb_number_of  {fa : Addr} (T : Txt K mg) 
    (cdv : Value) (A : Around) (outer : List PySem.Env) (s : Shared) (H : Hp) (E : XK) (hr : Room (0) (A.deeper (envOfC "_law_number_of" (defScope s_number_of) s.heap.objs.size fa cdv))) :
    PSs (cxOf CX0 P wd K mg base ["_law_thing", "_law_found", "_law_sign"] "_law_number_of" (defScope s_number_of) fa cdv A outer s H E).nox (defBody s_number_of) (LS K (b_number_of )) :=
  (ss_cons (ss_if (PW.pt (tw_or (tb_not (tb_truth (te_callB call_isiA cd_isi (by rfl) T.n_isinstance (by decide +kernel) (ta_cons (te_var (pv 0)) (ta_cons (te_ty (by rfl) T.n_str (by decide +kernel)) ta_nil))))) (tw_or (tb_cmp op_ltA od_lt (te_callB call_len cd_len (by rfl) T.n_len (by decide +kernel) (ta_cons (te_var (pv 0)) ta_nil)) te_int (nomark _)) (tw_or (tb_cmp op_gtA od_gt (te_callB call_len cd_len (by rfl) T.n_len (by decide +kernel) (ta_cons (te_var (pv 0)) ta_nil)) te_int (nomark _)) (tw_or1 (PW.pt (tw_and (tb_cmp (op_eqD (hu64 hr)) od_eq (te_ix (te_var (pv 0)) te_int (fun _ _ => rfl)) te_str (nomark _)) (tw_and1 (tb_cmp (op_neD (hu64 hr)) od_ne (te_var (pv 0)) te_str (nomark _))))))))))
  (ss_one (ss_ret te_non)) ss_nil)
  (ss_cons (ss_set (i := 1) sc_number_of.nd rfl (Or.inl rfl) te_int)
  (ss_cons (ss_for PassesOwn.never rfl (ti_any (te_var (pv 0))) (tg_nm (i := 2) sc_number_of.nd rfl (Or.inl rfl))
  (ss_cons (ss_if (tb_cmp (op_notInA (hu65 hr)) od_notin (te_var (pv 2)) te_str (by rfl))
  (ss_one (ss_ret te_non)) ss_nil)
  (ss_one (ss_set (i := 1) sc_number_of.nd rfl (Or.inl rfl) (te_op op_addA od_add (te_op op_mul od_mul (te_var (pv 1)) te_int) (te_sindex te_str (te_var (pv 2))))))))
  (ss_one (ss_ret (te_var (pv 1)))))))
abbrev s_judged_so : Stmt := topS 22
def n_judged_so : List Str := ["_law_thing", "_law_low", "_law_high", "_law_found", "_law_due"]
theorem sc_judged_so : FnScope ["_law_thing", "_law_low", "_law_high", "_law_found", "_law_due"] ["_law_thing", "_law_low", "_law_high"] (defScope s_judged_so) := ⟨rfl, rfl, rfl, by decide +kernel, rfl, by decide +kernel, by decide +kernel⟩
def b_judged_so  : ST :=
  (sSeq (sSet 3 (eLst (aCons (eCall sp_is_name (aCons (eVar 0) aNil)) (aCons (eCall sp_is_cell (aCons (eVar 0) aNil)) (aCons (eCall sp_is_place (aCons (eVar 0) aNil)) (aCons (eCall sp_is_number (aCons (eVar 0) (aCons (eVar 1) (aCons (eVar 2) aNil)))) (aCons (eCall sp_number_in (aCons (eVar 0) aNil)) aNil)))))))
  (sSeq (sSet 4 (eLst (aCons (eCall sp_is_word (aCons (eVar 0) aNil)) (aCons (eCall sp_is_tuple (aCons (eVar 0) (aCons (eTup (aCons (eC (.int 5)) (aCons (eC (.int 5)) aNil))) aNil))) (aCons (eCall sp_is_tuple (aCons (eVar 0) (aCons (eTup (aCons (eC (.int 8)) (aCons (eC (.int 5)) (aCons (eC (.int 5)) aNil)))) aNil))) aNil)))))
  (sRet (eCall (sp_same 8) (aCons (eVar 3) (aCons (eOp dAdd (eVar 4) (eLst (aCons (eCall sp_is_count (aCons (eVar 0) (aCons (eVar 1) (aCons (eVar 2) aNil)))) (aCons (eCall sp_number_of (aCons (eVar 0) aNil)) aNil)))) aNil))))))
theorem pb_judged_so  {fa : Addr} (T : Txt K mg) (G_number_in : FnI P wd K mg base "number_in" s_number_in 1 ["text"] sp_number_in) (G_is_number : FnI P wd K mg base "is_number" s_is_number 1 ["value", "least", "most"] sp_is_number) (G_is_place : FnI P wd K mg base "is_place" s_is_place 3 ["value"] sp_is_place) (G_is_cell : FnI P wd K mg base "is_cell" s_is_cell 2 ["value"] sp_is_cell) (G_is_name : FnI P wd K mg base "is_name" s_is_name 1 ["value"] sp_is_name) (G_is_tuple : FnI P wd K mg base "_law_is_tuple" s_is_tuple 2 ["_law_thing", "_law_highs"] sp_is_tuple) (G_is_word : FnI P wd K mg base "_law_is_word" s_is_word 1 ["_law_thing"] sp_is_word) (G_same : FnI P wd K mg base "_law_same" s_same 9 ["_law_found", "_law_due"] (sp_same 8)) (G_number_of : FnI P wd K mg base "_law_number_of" s_number_of 1 ["_law_thing"] sp_number_of) (G_is_count : FnI P wd K mg base "_law_is_count" s_is_count 1 ["_law_thing", "_law_low", "_law_high"] sp_is_count)
    (cdv : Value) (A : Around) (outer : List PySem.Env) (s : Shared) (H : Hp) (E : XK) (hr : Room (10) (A.deeper (envOfC "_law_judged_so" (defScope s_judged_so) s.heap.objs.size fa cdv))) :
    PSs (cxOf CX0 P wd K mg base ["_law_thing", "_law_low", "_law_high", "_law_found", "_law_due"] "_law_judged_so" (defScope s_judged_so) fa cdv A outer s H E).nox (defBody s_judged_so) (LS K (b_judged_so )) :=
  (ss_cons (ss_set (i := 3) sc_judged_so.nd rfl (Or.inl rfl) (te_lst (ta_cons (te_fn G_is_name hr rfl (ta_cons (te_var (pv 0)) ta_nil)) (ta_cons (te_fn G_is_cell hr rfl (ta_cons (te_var (pv 0)) ta_nil)) (ta_cons (te_fn G_is_place hr rfl (ta_cons (te_var (pv 0)) ta_nil)) (ta_cons (te_fn G_is_number hr rfl (ta_cons (te_var (pv 0)) (ta_cons (te_var (pv 1)) (ta_cons (te_var (pv 2)) ta_nil)))) (ta_cons (te_fn G_number_in hr rfl (ta_cons (te_var (pv 0)) ta_nil)) ta_nil)))))))
  (ss_cons (ss_set (i := 4) sc_judged_so.nd rfl (Or.inl rfl) (te_lst (ta_cons (te_fn G_is_word hr rfl (ta_cons (te_var (pv 0)) ta_nil)) (ta_cons (te_fn G_is_tuple hr rfl (ta_cons (te_var (pv 0)) (ta_cons (te_tup (ta_cons te_int (ta_cons te_int ta_nil))) ta_nil))) (ta_cons (te_fn G_is_tuple hr rfl (ta_cons (te_var (pv 0)) (ta_cons (te_tup (ta_cons te_int (ta_cons te_int (ta_cons te_int ta_nil)))) ta_nil))) ta_nil)))))
  (ss_one (ss_ret (te_fn G_same hr rfl (ta_cons (te_var (pv 3)) (ta_cons (te_op op_addA od_add (te_var (pv 4)) (te_lst (ta_cons (te_fn G_is_count hr rfl (ta_cons (te_var (pv 0)) (ta_cons (te_var (pv 1)) (ta_cons (te_var (pv 2)) ta_nil)))) (ta_cons (te_fn G_number_of hr rfl (ta_cons (te_var (pv 0)) ta_nil)) ta_nil)))) ta_nil)))))))
abbrev s_law : Stmt := topS 23
def n_law : List Str := ["_law_script", "_law_bag_here", "_law_turn", "_law_low", "_law_high", "_law_some", "_law_items", "_law_spot", "_law_bent", "_law_row_z", "_law_thing", "_law_number", "_law_found", "_law_k"]
theorem sc_law : FnScope ["_law_script", "_law_bag_here", "_law_turn", "_law_low", "_law_high", "_law_some", "_law_items", "_law_spot", "_law_bent", "_law_row_z", "_law_thing", "_law_number", "_law_found", "_law_k"] ["_law_script"] (defScope s_law) := ⟨rfl, rfl, rfl, by decide +kernel, rfl, by decide +kernel, by decide +kernel⟩
def b_law  : ST :=
  (sSeq (sSet 1 (eCall sp_bag (aCons (eVar 0) aNil)))
  (sSeq (sFor (itRange1 (aCons (eC (.int 5)) aNil)) (.nm 2)
  (sSeq (sSet 3 (eCall sp_count (aCons (eVar 1) aNil)))
  (sSeq (sSet 4 (eOp dSub (eOp dAdd (eVar 3) (eCall sp_draw (aCons (eVar 1) (aCons (eC (.int 4)) aNil)))) (eC (.int 1))))
  (sSeq (sSet 5 (eLst (aCons (eCall sp_word (aCons (eVar 1) aNil)) (aCons (eCall sp_figures (aCons (eVar 1) aNil)) (aCons (eCall sp_odd (aCons (eVar 1) aNil)) (aCons (eOp dSub (eVar 3) (eC (.int 1))) (aCons (eVar 3) (aCons (eVar 4) (aCons (eOp dAdd (eVar 4) (eC (.int 1))) aNil)))))))))
  (sSeq (sSet 6 (eComp (itRange1 (aCons (eC (.int 4)) aNil)) (.nm 13) bYes (eCall sp_count (aCons (eVar 1) aNil)) [13]))
  (sSeq (sSet 7 (eCall sp_draw (aCons (eVar 1) (aCons (eC (.int 4)) aNil))))
  (sSeq (sSet 8 (eOp dAdd (eOp dAdd (eSl (eVar 6) oNo (oYes (eVar 7))) (eLst (aCons (eCall sp_odd (aCons (eVar 1) aNil)) aNil))) (eSl (eVar 6) (oYes (eOp dAdd (eVar 7) (eC (.int 1)))) oNo)))
  (sSeq (sFor (itAny (eLst (aCons (eVar 6) (aCons (eOp dAdd (eLst (aCons (eCall sp_draw (aCons (eVar 1) (aCons (eC (.int 9)) aNil))) aNil)) (eComp (itRange1 (aCons (eC (.int 3)) aNil)) (.nm 13) bYes (eCall sp_draw (aCons (eVar 1) (aCons (eC (.int 6)) aNil))) [13])) (aCons (eVar 8) aNil))))) (.nm 9)
  (sSet 5 (eOp dAdd (eVar 5) (eLst (aCons (eCall dTupOf (aCons (eSl (eVar 9) oNo (oYes (eC (.int 2)))) aNil)) (aCons (eCall dTupOf (aCons (eSl (eVar 9) oNo (oYes (eC (.int 3)))) aNil)) (aCons (eCall dTupOf (aCons (eVar 9) aNil)) (aCons (eSl (eVar 9) oNo (oYes (eC (.int 2)))) (aCons (eSl (eVar 9) oNo (oYes (eC (.int 3)))) (aCons (eCall dTupOf (aCons (eSl (eVar 9) (oYes (eC (.int 1))) (oYes (eC (.int 3)))) aNil)) aNil))))))))))
  (sSeq (sFor (itAny (eVar 5)) (.nm 10)
  (sIf (bNot (bT (eCall sp_judged_so (aCons (eVar 10) (aCons (eVar 3) (aCons (eVar 4) aNil))))))
  (sRet (eC (.bl false))) sNext))
  (sSeq (sSet 11 (eCall sp_draw (aCons (eVar 1) (aCons (eOp dPow (eC (.int 10)) (eC (.int 9))) aNil))))
  (sSeq (sIf (bNot (bT (eCall (sp_same 8) (aCons (eLst (aCons (eCall sp_number_in (aCons (eCall dStrOf (aCons (eVar 11) aNil)) aNil)) (aCons (eCall sp_number_in (aCons (eOp dAdd (eC (.str "0")) (eCall dStrOf (aCons (eVar 11) aNil))) aNil)) (aCons (eCall sp_number_in (aCons (eCall dStrOf (aCons (eOp dAdd (eOp dPow (eC (.int 10)) (eC (.int 9))) (eVar 11)) aNil)) aNil)) aNil)))) (aCons (eLst (aCons (eVar 11) (aCons (eC .non) (aCons (eC .non) aNil)))) aNil)))))
  (sRet (eC (.bl false))) sNext)
  (sIf (bB (eOp dNe (eCallP sp_is_number [2, 0, 1] 3 (aCons (eVar 3) (aCons (eVar 4) (aCons (eVar 11) aNil)))) (eCall sp_is_count (aCons (eVar 11) (aCons (eVar 3) (aCons (eVar 4) aNil))))))
  (sRet (eC (.bl false))) sNext))))))))))))
  (sSeq (sSet 12 (eLst (aCons (eCallP sp_is_name [0] 1 (aCons (eC (.str "a")) aNil)) (aCons (eCallP sp_is_cell [0] 1 (aCons (eTup (aCons (eC (.int 0)) (aCons (eC (.int 5)) aNil))) aNil)) (aCons (eCallP sp_is_place [0] 1 (aCons (eTup (aCons (eC (.int 8)) (aCons (eC (.int 5)) (aCons (eC (.int 5)) aNil)))) aNil)) (aCons (eCallP sp_number_in [0] 1 (aCons (eC (.str "0")) aNil)) (aCons (eCall sp_number_in (aCons (eC (.str "999999999")) aNil)) aNil)))))))
  (sRet (eAnd (eCall (sp_same 8) (aCons (eVar 12) (aCons (eLst (aCons (eC (.bl true)) (aCons (eC (.bl true)) (aCons (eC (.bl true)) (aCons (eC (.int 0)) (aCons (eC (.int 999999999)) aNil)))))) aNil))) (eAnd (eOp dIs (eCall sp_number_in (aCons (eC (.str "-0")) aNil)) (eC .non)) (eOp dIs (eCall sp_number_in (aCons (eC (.str "00")) aNil)) (eC .non))))))))
theorem pb_law  {fa : Addr} (T : Txt K mg) (G_bag : FnI P wd K mg base "_law_bag" s_bag 1 ["_law_script"] sp_bag) (G_count : FnI P wd K mg base "_law_count" s_count 3 ["_law_bag_here"] sp_count) (G_draw : FnI P wd K mg base "_law_draw" s_draw 1 ["_law_bag_here", "_law_many"] sp_draw) (G_odd : FnI P wd K mg base "_law_odd" s_odd 3 ["_law_bag_here"] sp_odd) (G_figures : FnI P wd K mg base "_law_figures" s_figures 3 ["_law_bag_here"] sp_figures) (G_word : FnI P wd K mg base "_law_word" s_word 3 ["_law_bag_here"] sp_word) (G_judged_so : FnI P wd K mg base "_law_judged_so" s_judged_so 11 ["_law_thing", "_law_low", "_law_high"] sp_judged_so) (G_same : FnI P wd K mg base "_law_same" s_same 9 ["_law_found", "_law_due"] (sp_same 8)) (G_number_in : FnI P wd K mg base "number_in" s_number_in 1 ["text"] sp_number_in) (G_is_number : FnI P wd K mg base "is_number" s_is_number 1 ["value", "least", "most"] sp_is_number) (G_is_count : FnI P wd K mg base "_law_is_count" s_is_count 1 ["_law_thing", "_law_low", "_law_high"] sp_is_count) (G_is_place : FnI P wd K mg base "is_place" s_is_place 3 ["value"] sp_is_place) (G_is_cell : FnI P wd K mg base "is_cell" s_is_cell 2 ["value"] sp_is_cell) (G_is_name : FnI P wd K mg base "is_name" s_is_name 1 ["value"] sp_is_name)
    (cdv : Value) (A : Around) (outer : List PySem.Env) (s : Shared) (H : Hp) (E : XK) (hr : Room (11) (A.deeper (envOfC "law" (defScope s_law) s.heap.objs.size fa cdv))) :
    PSs (cxOf CX0 P wd K mg base ["_law_script", "_law_bag_here", "_law_turn", "_law_low", "_law_high", "_law_some", "_law_items", "_law_spot", "_law_bent", "_law_row_z", "_law_thing", "_law_number", "_law_found", "_law_k"] "law" (defScope s_law) fa cdv A outer s H E).nox (defBody s_law) (LS K (b_law )) :=
  (ss_cons (ss_set (i := 1) sc_law.nd rfl (Or.inr rfl) (te_fn G_bag hr rfl (ta_cons (te_var (pv 0)) ta_nil)))
  (ss_cons (ss_for PassesOwn.never rfl (ti_range1 rfl T.n_range (ta_cons te_int ta_nil)) (tg_nm (i := 2) sc_law.nd rfl (Or.inl rfl))
  (ss_cons (ss_set (i := 3) sc_law.nd rfl (Or.inl rfl) (te_fn G_count hr rfl (ta_cons (te_var (pv 1)) ta_nil)))
  (ss_cons (ss_set (i := 4) sc_law.nd rfl (Or.inl rfl) (te_op op_sub od_sub (te_op op_addA od_add (te_var (pv 3)) (te_fn G_draw hr rfl (ta_cons (te_var (pv 1)) (ta_cons te_int ta_nil)))) te_int))
  (ss_cons (ss_set (i := 5) sc_law.nd rfl (Or.inl rfl) (te_lst (ta_cons (te_fn G_word hr rfl (ta_cons (te_var (pv 1)) ta_nil)) (ta_cons (te_fn G_figures hr rfl (ta_cons (te_var (pv 1)) ta_nil)) (ta_cons (te_fn G_odd hr rfl (ta_cons (te_var (pv 1)) ta_nil)) (ta_cons (te_op op_sub od_sub (te_var (pv 3)) te_int) (ta_cons (te_var (pv 3)) (ta_cons (te_var (pv 4)) (ta_cons (te_op op_addA od_add (te_var (pv 4)) te_int) ta_nil)))))))))
  (ss_cons (ss_comp (i := 6) rfl sc_law.nd rfl rfl (sw_true rfl rfl rfl (by decide +kernel)) (ti_range1 rfl T.n_range (ta_cons te_int ta_nil)) (blkOk_by (own := [("_law_k", 13)]) (N := n_law) (sc := defScope s_law) (by decide +kernel)) (fun _ _ _ _ _ => (tg_nm (i := 13) sc_law.nd rfl (Or.inl rfl))) (fun _ _ _ _ _ => tts_nil) (fun _ _ _ _ _ => (te_fn G_count hr rfl (ta_cons (te_var (pv 1)) ta_nil))) (by decide))
  (ss_cons (ss_set (i := 7) sc_law.nd rfl (Or.inl rfl) (te_fn G_draw hr rfl (ta_cons (te_var (pv 1)) (ta_cons te_int ta_nil))))
  (ss_cons (ss_set (i := 8) sc_law.nd rfl (Or.inl rfl) (te_op op_addA od_add (te_op op_addA od_add (te_sl (te_var (pv 6)) to_no (to_yes (te_var (pv 7)))) (te_lst (ta_cons (te_fn G_odd hr rfl (ta_cons (te_var (pv 1)) ta_nil)) ta_nil))) (te_sl (te_var (pv 6)) (to_yes (te_op op_addA od_add (te_var (pv 7)) te_int)) to_no)))
  (ss_cons (ss_for PassesOwn.never rfl (ti_any (te_lst (ta_cons (te_var (pv 6)) (ta_cons (te_op op_addA od_add (te_lst (ta_cons (te_fn G_draw hr rfl (ta_cons (te_var (pv 1)) (ta_cons te_int ta_nil))) ta_nil)) (te_comp rfl sc_law.nd (ti_range1 rfl T.n_range (ta_cons te_int ta_nil)) (blkOk_by (own := [("_law_k", 13)]) (N := n_law) (sc := defScope s_law) (by decide +kernel)) (fun _ _ _ _ _ => (tg_nm (i := 13) sc_law.nd rfl (Or.inl rfl))) (fun _ _ _ _ _ => tts_nil) (fun _ _ _ _ _ => (te_fn G_draw hr rfl (ta_cons (te_var (pv 1)) (ta_cons te_int ta_nil)))) (by decide))) (ta_cons (te_var (pv 8)) ta_nil))))) (tg_nm (i := 9) sc_law.nd rfl (Or.inl rfl))
  (ss_one (ss_set (i := 5) sc_law.nd rfl (Or.inl rfl) (te_op op_addA od_add (te_var (pv 5)) (te_lst (ta_cons (te_callTy call_tuple_of cd_tup (by rfl) T.n_tuple (by decide +kernel) (ta_cons (te_sl (te_var (pv 9)) to_no (to_yes te_int)) ta_nil)) (ta_cons (te_callTy call_tuple_of cd_tup (by rfl) T.n_tuple (by decide +kernel) (ta_cons (te_sl (te_var (pv 9)) to_no (to_yes te_int)) ta_nil)) (ta_cons (te_callTy call_tuple_of cd_tup (by rfl) T.n_tuple (by decide +kernel) (ta_cons (te_var (pv 9)) ta_nil)) (ta_cons (te_sl (te_var (pv 9)) to_no (to_yes te_int)) (ta_cons (te_sl (te_var (pv 9)) to_no (to_yes te_int)) (ta_cons (te_callTy call_tuple_of cd_tup (by rfl) T.n_tuple (by decide +kernel) (ta_cons (te_sl (te_var (pv 9)) (to_yes te_int) (to_yes te_int)) ta_nil)) ta_nil)))))))))))
  (ss_cons (ss_for PassesOwn.never rfl (ti_any (te_var (pv 5))) (tg_nm (i := 10) sc_law.nd rfl (Or.inl rfl))
  (ss_one (ss_if (tb_not (tb_truth (te_fn G_judged_so hr rfl (ta_cons (te_var (pv 10)) (ta_cons (te_var (pv 3)) (ta_cons (te_var (pv 4)) ta_nil))))))
  (ss_one (ss_ret te_bl)) ss_nil)))
  (ss_cons (ss_set (i := 11) sc_law.nd rfl (Or.inl rfl) (te_fn G_draw hr rfl (ta_cons (te_var (pv 1)) (ta_cons (te_op op_pow od_pow te_int te_int) ta_nil))))
  (ss_cons (ss_if (tb_not (tb_truth (te_fn G_same hr rfl (ta_cons (te_lst (ta_cons (te_fn G_number_in hr rfl (ta_cons (te_callTy call_str_int cd_str (by rfl) T.n_str (by decide +kernel) (ta_cons (te_var (pv 11)) ta_nil)) ta_nil)) (ta_cons (te_fn G_number_in hr rfl (ta_cons (te_op op_addA od_add te_str (te_callTy call_str_int cd_str (by rfl) T.n_str (by decide +kernel) (ta_cons (te_var (pv 11)) ta_nil))) ta_nil)) (ta_cons (te_fn G_number_in hr rfl (ta_cons (te_callTy call_str_int cd_str (by rfl) T.n_str (by decide +kernel) (ta_cons (te_op op_addA od_add (te_op op_pow od_pow te_int te_int) (te_var (pv 11))) ta_nil)) ta_nil)) ta_nil)))) (ta_cons (te_lst (ta_cons (te_var (pv 11)) (ta_cons te_non (ta_cons te_non ta_nil)))) ta_nil)))))
  (ss_one (ss_ret te_bl)) ss_nil)
  (ss_one (ss_if (tb_cmp (op_neD (hu64 hr)) od_ne (te_fnK (ks := ["least", "most", "value"]) [2, 0, 1] G_is_number hr rfl (tk_cons (te_var (pv 3)) (tk_cons (te_var (pv 4)) (tk_cons (te_var (pv 11)) tk_nil))) (fun _ _ _ _ _ _ ws hl => match ws, hl with | [_, _, _], _ => rfl)) (te_fn G_is_count hr rfl (ta_cons (te_var (pv 11)) (ta_cons (te_var (pv 3)) (ta_cons (te_var (pv 4)) ta_nil)))) (nomark _))
  (ss_one (ss_ret te_bl)) ss_nil)))))))))))))
  (ss_cons (ss_set (i := 12) sc_law.nd rfl (Or.inl rfl) (te_lst (ta_cons (te_fnK (ks := ["value"]) [0] G_is_name hr rfl (tk_cons te_str tk_nil) (fun _ _ _ _ _ _ ws hl => match ws, hl with | [_], _ => rfl)) (ta_cons (te_fnK (ks := ["value"]) [0] G_is_cell hr rfl (tk_cons (te_tup (ta_cons te_int (ta_cons te_int ta_nil))) tk_nil) (fun _ _ _ _ _ _ ws hl => match ws, hl with | [_], _ => rfl)) (ta_cons (te_fnK (ks := ["value"]) [0] G_is_place hr rfl (tk_cons (te_tup (ta_cons te_int (ta_cons te_int (ta_cons te_int ta_nil)))) tk_nil) (fun _ _ _ _ _ _ ws hl => match ws, hl with | [_], _ => rfl)) (ta_cons (te_fnK (ks := ["text"]) [0] G_number_in hr rfl (tk_cons te_str tk_nil) (fun _ _ _ _ _ _ ws hl => match ws, hl with | [_], _ => rfl)) (ta_cons (te_fn G_number_in hr rfl (ta_cons te_str ta_nil)) ta_nil)))))))
  (ss_one (ss_ret (te_and (te_fn G_same hr rfl (ta_cons (te_var (pv 12)) (ta_cons (te_lst (ta_cons te_bl (ta_cons te_bl (ta_cons te_bl (ta_cons te_int (ta_cons te_int ta_nil)))))) ta_nil))) (te_and (te_cmp op_isN od_is (te_fn G_number_in hr rfl (ta_cons te_str ta_nil)) te_non (nomark _)) (te_one (te_cmp op_isN od_is (te_fn G_number_in hr rfl (ta_cons te_str ta_nil)) te_non (nomark _))))))))))
end
end W01
set_option Elab.async false
set_option linter.all false
set_option maxRecDepth 100000
namespace W01
open PySem PySem.Spec PyProof.Rows L2 RZ TL Tr

theorem hs_is_number : ∀ ds μ Pd, sp_is_number ds μ Pd → b_is_number { nx := fun _ μ' => Pd .non μ', rt := Pd } (startD n_is_number ds) μ := by
  rintro ds μ Pd ⟨v, lo, hi, rfl, hv, hP⟩
  change b_is_number _ [some v, some (.int lo), some (.int hi)] μ
  unfold b_is_number
  cases v <;> simp [ok] at hv <;> simp [tyN, isTy, clss, isNum, dLe] at hP ⊢ <;> try exact hP
  split
  · rename_i h; simpa [h] using hP
  · rename_i h; simpa [h] using hP
theorem hs_is_count : ∀ ds μ Pd, sp_is_count ds μ Pd → b_is_count { nx := fun _ μ' => Pd .non μ', rt := Pd } (startD n_is_count ds) μ := by
  rintro ds μ Pd ⟨v, lo, hi, rfl, hv, hP⟩
  change b_is_count _ [some v, some (.int lo), some (.int hi)] μ
  unfold b_is_count
  cases v <;> simp [ok] at hv <;> simp [tyN, isTy, clss, isNum, dLe] at hP ⊢ <;> try exact hP
  split
  · rename_i h; simpa [h] using hP
  · rename_i h; simpa [h] using hP

theorem hs_bag : ∀ ds μ Pd, sp_bag ds μ Pd → b_bag { nx := fun _ μ' => Pd .non μ', rt := Pd } (startD n_bag ds) μ := by
  rintro ds μ Pd ⟨ns, rfl, hl, hP⟩
  exact Tr.hs_bag ns μ Pd hl hP
theorem hs_draw : ∀ ds μ Pd, sp_draw ds μ Pd → b_draw { nx := fun _ μ' => Pd .non μ', rt := Pd } (startD n_draw ds) μ := by
  rintro ds μ Pd ⟨n, many, rfl, hb, h0, h1, hP⟩
  exact Tr.hs_draw n many μ Pd hb h0 h1 hP
theorem hs_pick : ∀ ds μ Pd, sp_pick ds μ Pd → b_pick { nx := fun _ μ' => Pd .non μ', rt := Pd } (startD n_pick ds) μ := by
  rintro ds μ Pd ⟨n, x, rfl, hb, h0, h1, hP⟩
  exact Tr.hs_pick n x μ Pd hb h0 h1 hP
theorem hs_same (n : Nat) : ∀ ds μ Pd, sp_same (n + 1) ds μ Pd → b_same n { nx := fun _ μ' => Pd .non μ', rt := Pd } (startD n_same ds) μ := by
  rintro ds μ Pd ⟨x, rfl, hx, hP⟩
  exact Tr.hs_same n x μ Pd hx hP
theorem hs_is_name : ∀ ds μ Pd, sp_is_name ds μ Pd → b_is_name { nx := fun _ μ' => Pd .non μ', rt := Pd } (startD n_is_name ds) μ := by
  rintro ds μ Pd ⟨v, rfl, hv, hP⟩
  change b_is_name _ [some v, none] μ
  unfold b_is_name
  cases v <;> simp [ok] at hv <;> simp [tyN, isTy, clss, isName, dLe, List.set] at hP ⊢ <;> try exact hP
  case str x =>
    refine ⟨by rw [sizeLine_eq]; omega, ?_⟩
    split
    · rename_i h1
      split
      · rename_i h2
        refine comp_signs x (fun c => .bl (decide (97 ≤ c) && decide (c ≤ 122))) μ _ hv.2 (fun c hc P h => ?_) (all_bl _ _ _ _ ?_)
        · have ea : (Str.ofString "a").cps.toList = [97] := by decide +kernel
          have ez : (Str.ofString "z").cps.toList = [122] := by decide +kernel
          simp only [g_nm, List.set, e_chain, e_c, e_v1, dLe, ea, ez, le_sign, onB_bl]
          by_cases h5 : 97 ≤ c
          · simpa [h5] using h
          · simpa [h5] using h
        · have h1 : 1 ≤ x.length := by omega
          have h2 : x.length ≤ 6 := by omega
          simpa [h1, h2] using hP
      · rename_i h2
        have h2 : ¬ x.length ≤ 6 := by omega
        simpa [h2] using hP
    · rename_i h1
      have h1 : ¬ 1 ≤ x.length := by omega
      simpa [h1] using hP

theorem hs_is_word : ∀ ds μ Pd, sp_is_word ds μ Pd → b_is_word { nx := fun _ μ' => Pd .non μ', rt := Pd } (startD n_is_word ds) μ := by
  rintro ds μ Pd ⟨v, rfl, hv, hP⟩
  change b_is_word _ [some v, none] μ
  unfold b_is_word
  cases v <;> simp [ok] at hv <;> simp [tyN, isTy, clss, isName, List.set] at hP ⊢ <;> try exact hP
  case str x =>
    have hz : x.length ≤ sizeLine := by rw [sizeLine_eq]; omega
    refine ⟨hz, ?_⟩
    split
    · rename_i h1
      have h1 : ¬ 1 ≤ x.length := by omega
      simpa [h1] using hP
    · rename_i h1
      refine ⟨hz, ?_⟩
      split
      · rename_i h2
        have h2 : ¬ x.length ≤ 6 := by omega
        simpa [h2] using hP
      · rename_i h2
        refine comp_signs x (fun c => .bl (decide (97 ≤ c) && decide (c ≤ 122))) μ _ hv.2 (fun c hc P h => ?_) (all_bl _ _ _ _ ?_)
        · have ea : (Str.ofString "abcdefghijklmnopqrstuvwxyz").cps.toList = (List.range 26).map (97 + ·) := by decide +kernel
          have em : decide (c ∈ (List.range 26).map (97 + ·)) = (decide (97 ≤ c) && decide (c ≤ 122)) := by
            rw [Bool.eq_iff_iff]
            simp only [decide_eq_true_eq, List.mem_map, List.mem_range, Bool.and_eq_true]
            exact ⟨fun ⟨a, h1, h2⟩ => by omega, fun h => ⟨c - 97, by omega, by omega⟩⟩
          simp only [g_nm, List.set, e_op, e_c, e_v1, dIn, ea]
          refine ⟨⟨c, rfl⟩, ?_⟩
          simp only [List.all_cons, List.all_nil, Bool.and_true, em]
          exact h
        · have h1 : 1 ≤ x.length := by omega
          have h2 : x.length ≤ 6 := by omega
          simpa [h1, h2] using hP

/-! ### tuples -/
theorem zip_counts {a b : Option D} {μ : Mu} : ∀ (xs : List D) (hs : List Int) (acc : List D) (P : KA), okA 2 xs = true → xs.length = hs.length → acc.length + xs.length ≤ 1000 → P (acc ++ (xs.zip hs).map fun p => .bl (isNum p.1 0 p.2)) μ →
    compD (.tp [.nm 2, .nm 3]) bYes (eCall sp_is_count (aCons (eVar 2) (aCons (eC (.int 0)) (aCons (eVar 3) aNil)))) [a, b, none, none] (zipD xs (hs.map D.int)) acc μ P
  | [], [], acc, P, _, _, _, h => by simpa [zipD] using h
  | [], _ :: _, _, _, _, h, _, _ => by cases h
  | _ :: _, [], _, _, _, h, _, _ => by cases h
  | x :: xs, k :: hs, acc, P, ho, hq, hl, h => by
    simp only [okA, Bool.and_eq_true] at ho
    simp only [List.length_cons] at hl hq
    show compD _ _ _ _ (.tup [x, .int k] :: zipD xs (hs.map D.int)) acc μ P
    rw [cp_cons]
    simp only [g_tp, gs_cons, gs_nil, g_nm, List.length_cons, List.length_nil, true_and, b_yes, if_true, e_call, a_cons, a_nil, List.set_cons_succ, List.set_cons_zero, e_v2, e_v3, e_c]
    have ho1 : ok 3 x = true := ok_up ho.1
    refine ⟨x, 0, k, rfl, ho1, Nat.lt_of_lt_of_le (show acc.length < 1001 by omega) (by rw [sizeLine_eq]; decide), zip_counts xs hs _ P ho.2 (by omega) (by simp; omega) (by simpa using h)⟩
theorem hs_is_tuple : ∀ ds μ Pd, sp_is_tuple ds μ Pd → b_is_tuple { nx := fun _ μ' => Pd .non μ', rt := Pd } (startD n_is_tuple ds) μ := by
  rintro ds μ Pd ⟨v, hs, rfl, hv, hl, hP⟩
  change b_is_tuple _ [some v, some (.tup (hs.map D.int)), none, none] μ
  unfold b_is_tuple
  cases v <;> simp [ok] at hv <;> simp [tyN, isTy, clss, isNums, dNe, toPy, PyData.eqv, shaped_int] at hP ⊢ <;> try exact hP
  case tup xs =>
    by_cases hq : xs.length = hs.length
    · simp [hq] at hP ⊢
      exact zip_counts xs hs [] _ hv.1 hq (by simp; omega) (all_bl _ _ _ _ hP)
    · have hq' : ¬ ((xs.length : Int) = (hs.length : Int)) := by omega
      simp [hq] at hP
      simpa [hq'] using hP
theorem hs_is_cell : ∀ ds μ Pd, sp_is_cell ds μ Pd → b_is_cell { nx := fun _ μ' => Pd .non μ', rt := Pd } (startD n_is_cell ds) μ := by
  rintro ds μ Pd ⟨v, rfl, hv, hP⟩
  change b_is_cell _ [some v, none] μ
  unfold b_is_cell
  cases v <;> simp [ok] at hv <;> simp [tyN, isTy, clss, isNums, dNe, toPy, PyData.eqv, shaped_int, List.set] at hP ⊢ <;> try exact hP
  case tup xs =>
    by_cases hq : xs.length = 2
    · simp [hq] at hP ⊢
      have hx : (xs.zip [5, 5]).all (fun p => isNum p.1 0 p.2) = xs.all fun x => isNum x 0 5 := by
        match xs, hq with
        | [a, b], _ => simp
      rw [hx] at hP
      refine comp_map (f := fun x => .bl (isNum x 0 5)) xs [] μ _ (by simp; omega) (fun d hd P h => ?_) (all_bl _ _ _ _ hP)
      simp only [g_nm, List.set, e_call, a_cons, a_nil, e_v1, e_c, e_op, d_sub]
      exact ⟨d, 0, 5, rfl, ok_up (okA_mem hv.1 hd), h⟩
    · have hq' : ¬ ((xs.length : Int) = 2) := by omega
      simp [hq] at hP
      simpa [hq'] using hP
theorem hs_is_place : ∀ ds μ Pd, sp_is_place ds μ Pd → b_is_place { nx := fun _ μ' => Pd .non μ', rt := Pd } (startD n_is_place ds) μ := by
  rintro ds μ Pd ⟨v, rfl, hv, hP⟩
  change b_is_place _ [some v] μ
  unfold b_is_place
  cases v <;> simp [ok] at hv <;> simp [tyN, isTy, clss, isNums, dNe, toPy, PyData.eqv, shaped_int, List.set] at hP ⊢ <;> try exact hP
  case tup xs =>
    by_cases hq : xs.length = 3
    · match xs, hq with
      | [a, b, c], _ =>
        simp [okA] at hv
        simp at hP ⊢
        refine ⟨a, 0, 8, rfl, ok_up hv.1, ?_⟩
        have cut : cutD [a, b, c] (some 1) none = [b, c] := rfl
        simp only [onB_bl, dSl, cut]
        cases h : isNum a 0 8 with
        | false => simpa [h] using hP
        | true =>
          simp only [if_true]
          refine ⟨_, rfl, by simp [ok, okA, hv.2.1, hv.2.2], ?_⟩
          simpa [isNums, h] using hP
    · have hq' : ¬ ((xs.length : Int) = 3) := by omega
      simp [hq] at hP
      simpa [hq'] using hP

/-! ### numbers in texts -/
theorem dig_sign (c : Nat) : c ∈ (Str.ofString "0123456789").cps.toList ↔ 48 ≤ c ∧ c ≤ 57 := by
  have e : (Str.ofString "0123456789").cps.toList = (List.range 10).map (48 + ·) := by decide +kernel
  rw [e]
  simp only [List.mem_map, List.mem_range]
  exact ⟨fun ⟨a, h1, h2⟩ => by omega, fun h => ⟨c - 48, by omega, by omega⟩⟩
theorem dig_index {c : Nat} (h : 48 ≤ c ∧ c ≤ 57) : ∃ r, Builtin.Str.occurrences (Str.ofString "0123456789") ⟨#[c]⟩ 0 (Str.ofString "0123456789").length 1 = (c - 48) :: r := by
  have : ∀ k, k < 10 → (Builtin.Str.occurrences (Str.ofString "0123456789") ⟨#[48 + k]⟩ 0 (Str.ofString "0123456789").length 1).head? = some k := by decide +kernel
  have q := this (c - 48) (by omega)
  rw [show 48 + (c - 48) = c by omega] at q
  cases e : Builtin.Str.occurrences (Str.ofString "0123456789") ⟨#[c]⟩ 0 (Str.ofString "0123456789").length 1 with
  | nil => rw [e] at q; cases q
  | cons a r => rw [e] at q; cases q; exact ⟨r, rfl⟩
theorem c48 : (Str.ofString "0").cps.toList = [48] := by decide +kernel
theorem c57 : (Str.ofString "9").cps.toList = [57] := by decide +kernel
/-- the text that begins by 0 and is not 0 -/
theorem lead_eq {x : Str} {c : Nat} {r : List Nat} (e : x.cps.toList = c :: r) : (x.cps.toList.head? = some 48 ∧ x.length ≠ 1) ↔ (c = 48 ∧ ¬ x.cps.toList = [48]) := by
  rw [len_codes, e]
  simp only [List.head?_cons, Option.some.injEq, List.length_cons, List.cons.injEq]
  constructor
  · rintro ⟨rfl, h⟩
    refine ⟨rfl, fun q => h ?_⟩
    rw [q.2]; rfl
  · rintro ⟨rfl, h⟩
    refine ⟨rfl, fun q => h ⟨rfl, ?_⟩⟩
    cases r with
    | nil => rfl
    | cons _ _ => simp at q
theorem numIn_val {x : Str} (hd : digs x = true) (hne : x.cps.toList ≠ []) (hl : x.length ≤ 9) : PySem.intText? x = some (numOf x) := by
  have h1 : NumText.AllDigits x.cps.toList := fun c hc => by
    have := List.all_eq_true.mp hd c hc
    simpa using this
  have e := intText_digits h1 hne (show x.length ≤ 4300 by omega)
  rw [e]
  have := fold_digits x.cps.toList 0 h1
  unfold numOf
  rw [show (0 : Int) = ((0 : Nat) : Int) from rfl, this]
  rfl
theorem hs_number_in : ∀ ds μ Pd, sp_number_in ds μ Pd → b_number_in { nx := fun _ μ' => Pd .non μ', rt := Pd } (startD n_number_in ds) μ := by
  rintro ds μ Pd ⟨v, rfl, hv, hP⟩
  change b_number_in _ [some v, none] μ
  unfold b_number_in
  cases v <;> simp [ok] at hv <;> simp [tyN, isTy, clss, numIn] at hP ⊢ <;> try exact hP
  case str x =>
    have sg : Sg x 1000 := ⟨strOk_iff.mp hv.1, by rw [← len_codes]; exact hv.2⟩
    have hz : x.length ≤ sizeLine := sg.line (by decide)
    refine ⟨hz, ?_⟩
    by_cases h1 : 1 ≤ x.length
    · by_cases h9 : x.length ≤ 9
      · have h1' : (1 : Int) ≤ (x.length : Int) := by omega
        have h9' : (x.length : Int) ≤ 9 := by omega
        simp [h1, h9] at hP
        simp [h1', h9', List.set]
        refine comp_signs x (fun c => .bl (decide (48 ≤ c) && decide (c ≤ 57))) μ _ hv.2 (fun c hc P h => ?_) (all_bl _ _ _ _ ?_)
        · simp only [g_nm, List.set, e_chain, e_c, e_v1, dLe, c48, c57, le_sign, onB_bl]
          by_cases h5 : 48 ≤ c
          · simpa [h5] using h
          · simpa [h5] using h
        · simp only [sized_bl, tru_bl, true_and]
          change if digs x = true then _ else _
          cases hd : digs x with
          | false => simpa [hd] using hP
          | true =>
            obtain ⟨c, r, e⟩ : ∃ c r, x.cps.toList = c :: r := by
              cases e : x.cps.toList with
              | nil => rw [len_codes, e] at h1; simp at h1
              | cons c r => exact ⟨c, r, rfl⟩
            have hc : c < 1114112 := sg.1 c (by rw [e]; exact List.mem_cons_self)
            have s1 : SeqAt.shaped (.str ⟨#[c]⟩) = true := shaped_str (by simp; exact hc)
            have s0 : SeqAt.shaped (.str (Str.ofString "0")) = true := by decide +kernel
            have sx : SeqAt.shaped (.str x) = true := shaped_str sg.1
            have lead := lead_eq e
            simp only [hd, true_and] at hP
            have hv2 := numIn_val hd (by rw [e]; simp) h9
            have at0 : atI x.cps.toList 0 = some c := by rw [e]; exact atI0
            have fin : ¬ (x.cps.toList.head? = some 48 ∧ x.length ≠ 1) → dIntOf [.str x] μ Pd := fun hn => ⟨_, ⟨hv2, by omega⟩, by
              have : x.cps.toList.head? = some 48 → x.length = 1 := fun a => Classical.byContradiction fun b => hn ⟨a, b⟩
              rw [if_pos this] at hP
              exact hP⟩
            simp only [if_true, at0, hz, true_and, dEq, dNe, toPy, s1, s0, sx, and_self, eqv_str, c48, onB_bl]
            by_cases hc0 : c = 48
            · by_cases hx0 : x.cps.toList = [48]
              · simp only [hc0, hx0, decide_true, if_true, Bool.not_true, Bool.false_eq_true, if_false]
                exact fin fun q => (lead.mp q).2 hx0
              · have hh : x.cps.toList.head? = some 48 ∧ ¬ x.length = 1 := lead.mpr ⟨hc0, hx0⟩
                simp only [hc0, hx0, decide_true, decide_false, if_true, Bool.not_false]
                simpa [hh] using hP
            · have : ¬ ([c] = [48]) := fun q => hc0 (by simpa using q)
              simp only [this, decide_false, Bool.false_eq_true, if_false]
              exact fin fun q => hc0 (lead.mp q).1
      · have h9' : ¬ (x.length : Int) ≤ 9 := by omega
        simp [h9] at hP
        simp [h9']
        by_cases h1' : (1 : Int) ≤ (x.length : Int) <;> simpa [h1'] using hP
    · have h1' : ¬ (1 : Int) ≤ (x.length : Int) := by omega
      simp [h1] at hP
      simpa [h1'] using hP

theorem hs_number_of : ∀ ds μ Pd, sp_number_of ds μ Pd → b_number_of { nx := fun _ μ' => Pd .non μ', rt := Pd } (startD n_number_of ds) μ := by
  rintro ds μ Pd ⟨v, rfl, hv, hP⟩
  change b_number_of _ [some v, none, none] μ
  unfold b_number_of
  cases v <;> simp [ok] at hv <;> simp [tyN, isTy, clss, numIn] at hP ⊢ <;> try exact hP
  case str x =>
    have sg : Sg x 1000 := ⟨strOk_iff.mp hv.1, by rw [← len_codes]; exact hv.2⟩
    have hz : x.length ≤ sizeLine := sg.line (by decide)
    refine ⟨hz, ?_⟩
    by_cases h1 : 1 ≤ x.length
    · have h1' : ¬ (x.length : Int) < 1 := by omega
      simp only [h1', if_false, hz, true_and]
      by_cases h9 : x.length ≤ 9
      · have h9' : ¬ (9 : Int) < (x.length : Int) := by omega
        simp [h1, h9] at hP
        obtain ⟨c, r, e⟩ : ∃ c r, x.cps.toList = c :: r := by
          cases e : x.cps.toList with
          | nil => rw [len_codes, e] at h1; simp at h1
          | cons c r => exact ⟨c, r, rfl⟩
        have hc : c < 1114112 := sg.1 c (by rw [e]; exact List.mem_cons_self)
        have s1 : SeqAt.shaped (.str ⟨#[c]⟩) = true := shaped_str (by simp; exact hc)
        have s0 : SeqAt.shaped (.str (Str.ofString "0")) = true := by decide +kernel
        have sx : SeqAt.shaped (.str x) = true := shaped_str sg.1
        have lead := lead_eq e
        have at0 : atI x.cps.toList 0 = some c := by rw [e]; exact atI0
        simp only [h9', if_false, at0, hz, true_and, dEq, dNe, toPy, s1, s0, sx, and_self, eqv_str, c48, onB_bl]
        -- the loop over the signs
        have loop : ¬ (x.cps.toList.head? = some 48 ∧ ¬ x.length = 1) → loopD (.nm 2) (sSeq (sIf (bB (eOp dNotIn (eVar 2) (eC (.str "0123456789")))) (sRet (eC .non)) sNext)
            (sSet 1 (eOp dAdd (eOp dMul (eVar 1) (eC (.int 10))) (eStr1 dIndexS (eC (.str "0123456789")) (eVar 2)))))
            { nx := sRet (eVar 1) { nx := fun _ μ' => Pd .non μ', rt := Pd }, rt := Pd } (Tr.signs x) [some (.str x), some (.int 0), none] μ := by
          intro hn
          have h' : x.cps.toList.head? = some 48 → x.length = 1 := fun a => Classical.byContradiction fun b => hn ⟨a, b⟩
          have hP : Pd (if digs x = true then .int (numOf x) else .non) μ := by
            cases hd : digs x with
            | true => simp only [hd, true_and] at hP; rw [if_pos h'] at hP; simpa using hP
            | false => simpa [hd] using hP
          have key : ∀ (l : List Nat) (a : Nat) (f : Option D), l.length ≤ 9 → (∀ c, c ∈ l → c < 1114112) → ((if (l.all fun c => decide (48 ≤ c) && decide (c ≤ 57)) = true then D.int (l.foldl (fun (a : Int) (c : Nat) => a * 10 + ((c : Int) - 48)) (a : Int)) else .non) = (if digs x = true then .int (numOf x) else .non)) →
              loopD (.nm 2) (sSeq (sIf (bB (eOp dNotIn (eVar 2) (eC (.str "0123456789")))) (sRet (eC .non)) sNext)
            (sSet 1 (eOp dAdd (eOp dMul (eVar 1) (eC (.int 10))) (eStr1 dIndexS (eC (.str "0123456789")) (eVar 2)))))
            { nx := sRet (eVar 1) { nx := fun _ μ' => Pd .non μ', rt := Pd }, rt := Pd } (l.map fun c => D.str ⟨#[c]⟩) [some (.str x), some (.int a), f] μ := by
            intro l
            induction l with
            | nil =>
              intro a f _ _ h
              simp only [List.all_nil, if_true, List.foldl_nil] at h
              simp only [List.map_nil, l_nil, s_ret, e_v1]
              rw [h]
              exact hP
            | cons c l ih =>
              intro a f hl hs h
              rw [List.map_cons, l_cons]
              simp only [g_nm, s_seq, s_if, b_b, e_op, List.set_cons_succ, List.set_cons_zero, e_v2, e_c, dNotIn, dIn]
              refine ⟨⟨c, rfl⟩, ?_⟩
              simp only [onB_bl, List.all_cons, List.all_nil, Bool.and_true]
              by_cases hc : 48 ≤ c ∧ c ≤ 57
              · have hm := (dig_sign c).mpr hc
                obtain ⟨r, hr⟩ := dig_index hc
                simp only [hm, decide_true, Bool.not_true, Bool.false_eq_true, if_false, s_next, s_set, e_op, e_v1, e_c, d_mul, e_str1, e_v2, dIndexS, hr, d_add_int, List.set_cons_succ, List.set_cons_zero]
                refine ⟨cmul_r (by decide), ?_⟩
                have e1 : (a : Int) * 10 + ((c - 48 : Nat) : Int) = ((a * 10 + (c - 48) : Nat) : Int) := by omega
                have e2 : (a : Int) * 10 + ((c : Int) - 48) = ((a * 10 + (c - 48) : Nat) : Int) := by omega
                rw [e1]
                refine ih (a * 10 + (c - 48)) _ (by simp only [List.length_cons] at hl; omega) (fun d hd => hs d (List.mem_cons_of_mem _ hd)) ?_
                have : (decide (48 ≤ c) && decide (c ≤ 57)) = true := by simpa using hc
                simp only [List.all_cons, this, Bool.true_and, List.foldl_cons, e2] at h
                exact h
              · have hm : ¬ c ∈ (Str.ofString "0123456789").cps.toList := fun q => hc ((dig_sign c).mp q)
                have : ¬ ((decide (48 ≤ c) && decide (c ≤ 57)) = true) := by simpa using hc
                simp only [List.all_cons, this, Bool.false_and, Bool.false_eq_true, if_false] at h
                simp only [hm, decide_false, Bool.not_false, if_true, s_ret, e_c]
                rw [h]
                exact hP
          exact key x.cps.toList 0 none (by rw [← len_codes]; exact h9) sg.1 rfl
        by_cases hc0 : c = 48
        · by_cases hx0 : x.cps.toList = [48]
          · simp only [hc0, hx0, decide_true, if_true, Bool.not_true, Bool.false_eq_true, if_false, List.set_cons_succ, List.set_cons_zero]
            exact loop fun q => (lead.mp q).2 hx0
          · have hh : x.cps.toList.head? = some 48 ∧ ¬ x.length = 1 := lead.mpr ⟨hc0, hx0⟩
            simp only [hc0, hx0, decide_true, decide_false, if_true, Bool.not_false]
            simpa [hh] using hP
        · have : ¬ ([c] = [48]) := fun q => hc0 (by simpa using q)
          simp only [this, decide_false, Bool.false_eq_true, if_false, List.set_cons_succ, List.set_cons_zero]
          exact loop fun q => hc0 (lead.mp q).1
      · have h9' : (9 : Int) < (x.length : Int) := by omega
        simp [h9] at hP
        simpa [h9'] using hP
    · have h1' : (x.length : Int) < 1 := by omega
      simp [h1] at hP
      simpa [h1'] using hP

/-! ### what is drawn -/
theorem bags {n : Nat} {c : Cell} {μ : Mu} (h : μ[n]? = some (some c)) (g : Bg c) : BagAt μ n := ⟨c, h, g⟩
theorem hs_odd : ∀ ds μ Pd, sp_odd ds μ Pd → b_odd { nx := fun _ μ' => Pd .non μ', rt := Pd } (startD n_odd ds) μ := by
  rintro ds μ Pd ⟨n, rfl, hb, hP⟩
  change b_odd _ [some (.loc n)] μ
  unfold b_odd
  have small : ∀ k, k ≤ 1000 → k ≤ sizeLine := fun k hk => by rw [sizeLine_eq]; omega
  simp only [s_ret, e_call, a_cons, a_nil, e_v0, e_lst, e_tup, e_c, List.length_cons, List.length_nil]
  repeat (refine ⟨small _ (by decide), ?_⟩)
  refine ⟨n, _, rfl, hb, by simp [picks], by simp [picks], fun d μ' hd hr => hP d μ' ?_ hr⟩
  have : ∀ d, d ∈ [D.non, .bl true, .bl false, .tup [], .lst [], .str (Str.ofString ""), .str (Str.ofString "3"), .tup [.bl true, .int 0], .lst [.int 0, .int 0], .tup [.int 0, .int 0, .bl false], .tup [.str (Str.ofString "0"), .int 0], .tup [.tup [.int 0, .int 0]], .tup [.int 0, .non]] → ok 2 d = true := by
    have e : ([D.non, .bl true, .bl false, .tup [], .lst [], .str (Str.ofString ""), .str (Str.ofString "3"), .tup [.bl true, .int 0], .lst [.int 0, .int 0], .tup [.int 0, .int 0, .bl false], .tup [.str (Str.ofString "0"), .int 0], .tup [.tup [.int 0, .int 0]], .tup [.int 0, .non]] : List D).all (ok 2) = true := by decide +kernel
    exact fun d hd => List.all_eq_true.mp e d hd
  exact this d hd
theorem hs_count : ∀ ds μ Pd, sp_count ds μ Pd → b_count { nx := fun _ μ' => Pd .non μ', rt := Pd } (startD n_count ds) μ := by
  rintro ds μ Pd ⟨n, rfl, hb, hP⟩
  change b_count _ [some (.loc n)] μ
  unfold b_count
  have small : ∀ k, k ≤ 1000 → k ≤ sizeLine := fun k hk => by rw [sizeLine_eq]; omega
  simp only [s_ret, e_call, a_cons, a_nil, e_v0, e_lst, e_un, d_neg, e_c, List.length_cons, List.length_nil]
  refine ⟨n, 9, rfl, hb, by decide, by decide, fun r μ1 h0 h1 hd => ?_⟩
  refine ⟨small _ (by decide), n, _, rfl, hd.at hb, by simp [picks], by simp [picks], fun d μ' hm hr => hP d μ' ?_ (hd.trans hr)⟩
  simp only [picks, List.mem_cons, List.not_mem_nil, or_false] at hm
  rcases hm with h | h | h | h | h | h | h | h | h | h | h | h | h | h | h | h <;> exact ⟨_, h⟩
/-- signs drawn from a text and joined -/
theorem draw_join {n : Nat} {t : Str} {ρ : Tr.Env} {te : ET} {μ : Mu} {r : Int} {P : KD} (hb : BagAt μ n) (h0 : 0 ≤ r) (h1 : r < 100) (ht : t.cps.toList.all (fun c => decide (c < 128)) = true) (hn : Tr.signs t ≠ []) (hs : (Tr.signs t).length < 1000)
    (hte : ∀ i μ1 (Q : KD), (∀ y μ2, y ∈ Tr.signs t → Dr n μ1 μ2 → Q y μ2) → BagAt μ1 n → te (ρ.set 4 (some (.int i))) μ1 Q) (hP : ∀ x μ', Sg x 100 → Dr n μ μ' → P (.str x) μ') :
    compD (.nm 4) bYes te ρ (rangeD 0 r.toNat) [] μ fun ys μ2 => dJoin (Str.ofString "") (.lst ys) μ2 P := by
  refine comp_draw (n := n) (C := fun d => d ∈ Tr.signs t) (rangeD 0 r.toNat) [] μ _ (by simp [rangeD]; omega) hb (fun d hd μ1 Q hb1 hQ => ?_) fun ys μ' hl hc hd => ?_
  · obtain ⟨i, _, rfl⟩ := List.mem_map.mp hd
    simp only [g_nm]
    exact hte _ μ1 Q hQ hb1
  · simp only [List.nil_append]
    have hl' : ys.length ≤ 100 := by rw [hl]; simp [rangeD]; omega
    exact join_draw (fun y hy => small_of ht y (hc y hy)) (by omega) fun x hx => hP x μ' (hx.mono hl') hd
/-- x[:k] + y + x[k:] -/
theorem hs_word : ∀ ds μ Pd, sp_word ds μ Pd → b_word { nx := fun _ μ' => Pd .non μ', rt := Pd } (startD n_word ds) μ := by
  rintro ds μ Pd ⟨n, rfl, hb, hP⟩
  change b_word _ [some (.loc n), none, none, none, none] μ
  unfold b_word
  have small : ∀ k, k ≤ 1000 → k ≤ sizeLine := fun k hk => by rw [sizeLine_eq]; omega
  simp only [s_seq, s_set, e_c, e_str1, e_comp, it_range1, e_call, a_cons, a_nil, e_v0, List.set_cons_succ, List.set_cons_zero, wipe_cons, wipe_nil]
  refine ⟨n, 8, rfl, hb, by decide, by decide, fun r μ1 h0 h1 hd => ⟨⟨by omega, by omega⟩, ?_⟩⟩
  refine draw_join (t := Str.ofString "abcdefghijklmnopqrstuvwxyz") (hd.at hb) h0 (by omega) (by decide +kernel) (by decide +kernel) (by decide +kernel) (fun i μ2 Q hQ hb2 => ?_) fun x μ2 hx hd2 => ?_
  · simp only [List.set_cons_succ, List.set_cons_zero, e_call, a_cons, a_nil, e_v0, e_v1]
    exact ⟨n, _, rfl, hb2, by decide +kernel, by decide +kernel, hQ⟩
  · have hb2 := hd2.at (hd.at hb)
    simp only [e_op, e_call, a_cons, a_nil, e_v0, e_v2, e_c, d_len_str, d_add_int]
    refine ⟨hx.line (by decide), n, _, rfl, hb2, by omega, by have := hx.2; rw [← len_codes] at this; omega, fun r2 μ3 h2 h3 hd3 => ?_⟩
    simp only [s_ret, e_op, e_sl, e_v2, e_v3, o_no, o_yes, dSl, e_lst, e_call, a_cons, a_nil, e_v0, e_c, List.length_cons, List.length_nil, List.set_cons_succ, List.set_cons_zero]
    have hxl := hx.line (by decide : 100 ≤ 1000)
    refine ⟨hxl, small _ (by decide), n, _, rfl, hd3.at hb2, by simp [picks], by simp [picks], fun d μ4 hm hd4 => ?_⟩
    have hdr := ((hd.trans hd2).trans hd3).trans hd4
    obtain ⟨y, rfl, hy⟩ : ∃ y, d = .str y ∧ Sg y 2 := by
      simp only [picks, List.mem_cons, List.not_mem_nil, or_false] at hm
      rcases hm with h | h | h | h | h | h | h | h | h | h <;> exact ⟨_, h, sg_of (by decide +kernel)⟩
    have g1 := (hx.cut none (some r2)).app hy
    have g2 := g1.app (hx.cut (some r2) none)
    simp only [d_add_str, hxl, true_and]
    have l1 := g1.2
    have l2 := g2.2
    rw [← len_codes] at l1 l2
    have e1 : ∀ a b : Str, (a ++ b).length = a.length + b.length := fun a b => by rw [len_codes, len_codes, len_codes, codes_app, List.length_append]
    rw [e1] at l1 l2
    exact ⟨by rw [sizeLine_eq]; omega, by rw [sizeLine_eq]; omega, hP _ μ4 ⟨_, rfl, g2.ok (by decide)⟩ hdr⟩
theorem hs_figures : ∀ ds μ Pd, sp_figures ds μ Pd → b_figures { nx := fun _ μ' => Pd .non μ', rt := Pd } (startD n_figures ds) μ := by
  rintro ds μ Pd ⟨n, rfl, hb, hP⟩
  change b_figures _ [some (.loc n), none, none, none, none] μ
  unfold b_figures
  have small : ∀ k, k ≤ 1000 → k ≤ sizeLine := fun k hk => by rw [sizeLine_eq]; omega
  simp only [s_seq, s_set, e_c, e_str1, e_comp, it_range1, e_call, a_cons, a_nil, e_v0, List.set_cons_succ, List.set_cons_zero, wipe_cons, wipe_nil]
  refine ⟨n, 11, rfl, hb, by decide, by decide, fun r μ1 h0 h1 hd => ⟨⟨by omega, by omega⟩, ?_⟩⟩
  refine draw_join (t := Str.ofString "0123456789") (hd.at hb) h0 (by omega) (by decide +kernel) (by decide +kernel) (by decide +kernel) (fun i μ2 Q hQ hb2 => ?_) fun x μ2 hx hd2 => ?_
  · simp only [List.set_cons_succ, List.set_cons_zero, e_call, a_cons, a_nil, e_v0, e_c]
    exact ⟨n, _, rfl, hb2, by decide +kernel, by decide +kernel, hQ⟩
  · have hb2 := hd2.at (hd.at hb)
    refine ⟨n, 8, rfl, hb2, by decide, by decide, fun way μ3 h2 h3 hd3 => ?_⟩
    have hb3 := hd3.at hb2
    have hxl := hx.line (by decide : 100 ≤ 1000)
    simp only [s_seq, s_if, b_b, e_op, e_v2, e_c, dEq, toPy, shaped_int, and_self, PyData.eqv, onB_bl, true_and, beq_iff_eq]
    split
    · simp only [s_seq, s_set, e_op, e_call, a_cons, a_nil, e_v0, e_v1, e_c, d_len_str, d_add_int]
      refine ⟨hxl, n, _, rfl, hb3, by omega, by have := hx.2; rw [← len_codes] at this; omega, fun r2 μ4 h4 h5 hd4 => ?_⟩
      simp only [s_ret, e_op, e_sl, e_v1, e_v3, o_no, o_yes, dSl, e_lst, e_call, a_cons, a_nil, e_v0, e_c, List.length_cons, List.length_nil, List.set_cons_succ, List.set_cons_zero]
      refine ⟨hxl, small _ (by decide), n, _, rfl, hd4.at hb3, by simp [picks], by simp [picks], fun d μ5 hm hd5 => ?_⟩
      have hdr := (((hd.trans hd2).trans hd3).trans hd4).trans hd5
      obtain ⟨y, rfl, hy⟩ : ∃ y, d = .str y ∧ Sg y 2 := by
        simp only [picks, List.mem_cons, List.not_mem_nil, or_false] at hm
        rcases hm with h | h | h | h | h | h | h | h <;> exact ⟨_, h, sg_of (by decide +kernel)⟩
      have g1 := (hx.cut none (some r2)).app hy
      have g2 := g1.app (hx.cut (some r2) none)
      simp only [d_add_str, hxl, true_and]
      have l1 := g1.2
      have l2 := g2.2
      rw [← len_codes] at l1 l2
      have e1 : ∀ a b : Str, (a ++ b).length = a.length + b.length := fun a b => by rw [len_codes, len_codes, len_codes, codes_app, List.length_append]
      rw [e1] at l1 l2
      exact ⟨by rw [sizeLine_eq]; omega, by rw [sizeLine_eq]; omega, hP _ μ5 ⟨_, rfl, g2.ok (by decide)⟩ hdr⟩
    · simp only [s_next, s_ret, e_if, b_b, e_op, e_v2, e_c, d_lt, onB_bl, decide_eq_true_eq]
      split
      · simp only [e_call, a_cons, a_nil, e_v0, e_op, e_c, d_pow]
        refine ⟨⟨by decide, by decide, by decide⟩, n, 1000000000, rfl, hb3, by decide, by decide, fun k μ4 h4 h5 hd4 => ?_⟩
        simp only [d_str_int]
        obtain ⟨m, rfl⟩ := Int.eq_ofNat_of_zero_le h4
        refine ⟨log_small (by omega), hP _ μ4 ⟨_, rfl, Sg.ok (m := 9) ⟨fun c hc => ?_, ?_⟩ (by decide)⟩ (((hd.trans hd2).trans hd3).trans hd4)⟩
        · rw [codes_num] at hc
          have := numL_digits m c hc
          omega
        · rw [codes_num]
          exact numL_len (by decide) (by omega)
      · simp only [e_v1]
        exact hP _ μ3 ⟨_, rfl, hx.ok (by decide)⟩ ((hd.trans hd2).trans hd3)

theorem numIn_ok (d : D) : ok 0 (numIn d) = true := by
  unfold numIn
  split
  · split <;> rfl
  · rfl
theorem hs_judged_so : ∀ ds μ Pd, sp_judged_so ds μ Pd → b_judged_so { nx := fun _ μ' => Pd .non μ', rt := Pd } (startD n_judged_so ds) μ := by
  rintro ds μ Pd ⟨v, lo, hi, rfl, hv, hP⟩
  change b_judged_so _ [some v, some (.int lo), some (.int hi), none, none] μ
  unfold b_judged_so
  have small : ∀ k, k ≤ 1000 → k ≤ sizeLine := fun k hk => by rw [sizeLine_eq]; omega
  simp only [s_seq, s_set, s_ret, e_lst, e_tup, e_op, e_call, a_cons, a_nil, e_v0, e_v1, e_v2, e_v3, e_v4, e_c, List.set_cons_succ, List.set_cons_zero]
  refine ⟨v, rfl, hv, v, rfl, hv, v, rfl, hv, v, lo, hi, rfl, hv, v, rfl, hv, len_small (by simp), ?_⟩
  refine ⟨v, rfl, hv, len_small (by simp), v, [5, 5], rfl, hv, by decide, len_small (by simp), v, [8, 5, 5], rfl, hv, by decide, len_small (by simp), ?_⟩
  refine ⟨v, lo, hi, rfl, hv, v, rfl, hv, len_small (by simp), ?_⟩
  simp only [d_add_lst, List.length_cons, List.length_nil]
  refine ⟨small _ (by decide), _, rfl, ?_, hP⟩
  have h0 := numIn_ok v
  have this : ok 6 (numIn v) = true := ok_up (ok_up (ok_up (ok_up (ok_up (ok_up h0)))))
  simp [ok, okA, this]
end W01
set_option Elab.async false
set_option linter.all false
set_option maxRecDepth 100000
namespace W01
open PySem PySem.Spec PyProof.Rows L2 RZ Tr TL
theorem len_of {x : Str} {l : List Nat} (h : x.cps.toList = l) : x.length = l.length := by rw [len_codes, h]
theorem digs_num {x : Str} {m : Nat} (h : x.cps.toList = numL m) : digs x = true := by
  unfold digs
  rw [h, List.all_eq_true]
  intro c hc
  have := numL_digits m c hc
  simp; omega
theorem num_pos (m : Nat) : 1 ≤ (numL m).length := by
  have := numL_ne m
  cases h : numL m with
  | nil => exact absurd h this
  | cons _ _ => simp
theorem numIn_num {m : Nat} {x : Str} (hc : x.cps.toList = numL m) (h : m < 10 ^ 9) : numIn (.str x) = .int m := by
  have h1 := num_pos m
  have h9 : (numL m).length ≤ 9 := numL_len (by decide) h
  have hz : ¬ (x.cps.toList.head? = some 48 ∧ x.length ≠ 1) := by
    rintro ⟨q, q'⟩
    rw [hc] at q
    have := numL_head m q
    rw [len_of hc, this] at q'
    exact q' (by rw [numL_lt (by decide)]; rfl)
  simp only [numIn]
  rw [if_pos ⟨by rw [len_of hc]; exact h1, by rw [len_of hc]; exact h9, digs_num hc, hz⟩]
  unfold numOf
  rw [hc, numL_fold]
theorem numIn_zero {m : Nat} {x : Str} (hc : x.cps.toList = 48 :: numL m) : numIn (.str x) = .non := by
  have h1 := num_pos m
  have hl := len_of hc
  simp only [numIn]
  rw [if_neg]
  rintro ⟨_, _, _, q⟩
  refine q ⟨by rw [hc]; rfl, ?_⟩
  rw [hl, List.length_cons]
  omega
theorem numIn_long {m : Nat} {x : Str} (hc : x.cps.toList = numL m) (h : 10 ^ 9 ≤ m) : numIn (.str x) = .non := by
  have h1 := numL_long 9 m h
  have hl := len_of hc
  simp only [numIn]
  rw [if_neg]
  rintro ⟨_, q, _⟩
  omega
theorem hs_law : ∀ ds μ Pd, sp_law ds μ Pd → b_law { nx := fun _ μ' => Pd .non μ', rt := Pd } (startD n_law ds) μ := by
  rintro ds μ Pd ⟨ns, rfl, hl, hP⟩
  change b_law _ [some (.fz (ns.map D.int)), none, none, none, none, none, none, none, none, none, none, none, none, none] μ
  unfold b_law
  have small : ∀ k, k ≤ 1000 → k ≤ sizeLine := fun k hk => by rw [sizeLine_eq]; omega
  simp only [s_seq, s_set, e_call, a_cons, a_nil, e_v0]
  refine ⟨ns, rfl, hl, fun c hc => ?_⟩
  have hb0 : BagAt (μ ++ [some c]) μ.length := ⟨c, by simp, hc⟩
  generalize hn : μ.length = n at hb0
  generalize μ ++ [some c] = μ0 at hb0
  clear hn hc
  simp only [s_for, it_range1, e_c, a_cons, a_nil, List.set_cons_succ, List.set_cons_zero]
  refine ⟨⟨by decide, by decide⟩, ?_⟩
  refine loop_inv (fun _ ρ μ' => BagAt μ' n ∧ ∃ l : List (Option D), l.length = 12 ∧ ρ = some (.fz (ns.map D.int)) :: some (.loc n) :: l) _ _ _ ⟨hb0, _, rfl, rfl⟩ ?_ ?_
  · rintro d ds ρ μ1 nx ⟨hb, l, hl, rfl⟩ hnx
    obtain ⟨o2, o3, o4, o5, o6, o7, o8, o9, o10, o11, o12, o13, rfl⟩ : ∃ o2 o3 o4 o5 o6 o7 o8 o9 o10 o11 o12 o13, l = [o2, o3, o4, o5, o6, o7, o8, o9, o10, o11, o12, o13] := by
      match l, hl with
      | [o1, o2, o3, o4, o5, o6, o7, o8, o9, o10, o11, o12], _ => exact ⟨_, _, _, _, _, _, _, _, _, _, _, _, rfl⟩
    simp only [g_nm, s_seq, s_set, s_next, e_call, a_cons, a_nil, e_v1, List.set_cons_succ, List.set_cons_zero]
    refine ⟨n, rfl, hb, ?_⟩
    rintro _ μ2 ⟨lo, rfl⟩ hd2
    have hb2 := hd2.at hb
    simp only [e_op, e_v3, e_call, a_cons, a_nil, e_v1, e_c, List.set_cons_succ, List.set_cons_zero]
    refine ⟨n, 4, rfl, hb2, by decide, by decide, fun r μ3 h0 h1 hd3 => ?_⟩
    have hb3 := hd3.at hb2
    simp only [d_add_int, d_sub, e_lst, e_op, e_v3, e_v4, e_call, a_cons, a_nil, e_v1, e_c, List.set_cons_succ, List.set_cons_zero]
    refine ⟨n, rfl, hb3, ?_⟩
    rintro _ μ4 ⟨x4, rfl, hx4⟩ hd4
    have hb4 := hd4.at hb3
    refine ⟨n, rfl, hb4, ?_⟩
    rintro _ μ5 ⟨x5, rfl, hx5⟩ hd5
    have hb5 := hd5.at hb4
    refine ⟨n, rfl, hb5, fun d6 μ6 hx6 hd6 => ?_⟩
    have hb6 := hd6.at hb5
    refine ⟨len_small (by simp), ?_⟩
    simp only [e_comp, it_range1, e_c, a_cons, a_nil, wipe_cons, wipe_nil, List.set_cons_succ, List.set_cons_zero]
    refine ⟨⟨by decide, by decide⟩, ?_⟩
    refine comp_draw (n := n) (C := fun d => ok 2 d = true) (rangeD 0 4) [] μ6 _ (by decide) hb6 (fun d hd μ1 Q hb1 hQ => ?_) fun it μ7 hlen hit hd7 => ?_
    · simp only [g_nm, e_call, a_cons, a_nil, e_v1, List.set_cons_succ, List.set_cons_zero]
      exact ⟨n, rfl, hb1, fun d μ' ⟨i, hi⟩ h => hQ d μ' (hi ▸ ok_int) h⟩
    have hb7 := hd7.at hb6
    have hlen : it.length = 4 := hlen
    have hit : okA 2 it = true := okA_iff.mpr hit
    simp only [List.nil_append, e_call, a_cons, a_nil, e_v1, e_c, List.set_cons_succ, List.set_cons_zero]
    refine ⟨n, 4, rfl, hb7, by decide, by decide, fun sp μ8 h2 h3 hd8 => ?_⟩
    have hb8 := hd8.at hb7
    simp only [e_op, e_sl, e_v6, e_v7, o_no, o_yes, dSl, e_lst, e_call, a_cons, a_nil, e_v1, e_c, d_add_int, List.length_cons, List.length_nil, List.set_cons_succ, List.set_cons_zero]
    refine ⟨n, rfl, hb8, fun d9 μ9 hx9 hd9 => ⟨small _ (by decide), ?_⟩⟩
    have hb9 := hd9.at hb8
    have hcl : (cutD it none (some sp)).length ≤ 4 := hlen ▸ cut_len
    have hcr : (cutD it (some (sp + 1)) none).length ≤ 4 := hlen ▸ cut_len
    simp only [d_add_lst, List.length_cons, List.length_nil, List.length_append]
    refine ⟨by rw [sizeLine_eq]; omega, by rw [sizeLine_eq]; omega, ?_⟩
    obtain ⟨be, hbe, hbl, hbo⟩ : ∃ be, be = cutD it none (some sp) ++ [d9] ++ cutD it (some (sp + 1)) none ∧ be.length ≤ 9 ∧ okA 2 be = true := by
      refine ⟨_, rfl, by simp; omega, okA_app (okA_app (okA_cut hit) ?_) (okA_cut hit)⟩
      simp [okA, hx9]
    rw [← hbe]
    clear hbe
    simp only [s_for, it_any, e_op, e_comp, it_range1, e_v6, e_v8, e_lst, e_call, a_cons, a_nil, e_v1, e_c, List.length_cons, List.length_nil, wipe_cons, wipe_nil, List.set_cons_succ, List.set_cons_zero]
    refine ⟨n, 9, rfl, hb9, by decide, by decide, fun r1 μ10 _ _ hd10 => ⟨small _ (by decide), ⟨by decide, by decide⟩, ?_⟩⟩
    have hb10 := hd10.at hb9
    refine comp_draw (n := n) (C := fun d => ok 2 d = true) (rangeD 0 3) [] μ10 _ (by decide) hb10 (fun d hd μ1 Q hb1 hQ => ?_) fun it2 μ11 hlen2 hit2 hd11 => ?_
    · simp only [g_nm, e_call, a_cons, a_nil, e_v1, e_c, List.set_cons_succ, List.set_cons_zero]
      exact ⟨n, 6, rfl, hb1, by decide, by decide, fun r μ' _ _ h => hQ _ μ' ok_int h⟩
    have hb11 := hd11.at hb10
    have hlen2 : it2.length = 3 := hlen2
    have hit2 : okA 2 it2 = true := okA_iff.mpr hit2
    simp only [List.nil_append, d_add_lst, List.length_cons, List.length_nil]
    refine ⟨by rw [sizeLine_eq]; omega, small _ (by decide), ?_⟩
    refine loop_inv (fun ds ρ μ' => μ' = μ11 ∧ (∀ d, d ∈ ds → ∃ xs, d = .lst xs ∧ okA 2 xs = true ∧ xs.length ≤ 9) ∧ ∃ so o9, okA 3 so = true ∧ so.length + 6 * ds.length ≤ 100 ∧ ρ = [some (D.fz (List.map D.int ns)), some (D.loc n), some d, some (D.int lo), some (D.int (lo + r - 1)), some (.lst so), some (.lst it), some (.int sp), some (.lst be), o9, o10, o11, o12, o13]) _ _ _ ⟨rfl, ?_, _, _, ?_, ?_, rfl⟩ ?_ ?_
    · simp only [List.mem_cons, List.not_mem_nil, or_false]
      rintro e (rfl | rfl | rfl)
      · exact ⟨_, rfl, hit, by omega⟩
      · exact ⟨_, rfl, by simp [okA, ok_int, hit2], by simp; omega⟩
      · exact ⟨_, rfl, hbo, hbl⟩
    · simp [okA, ok_int, ok_le (by decide : 2 ≤ 3) hx6, ok_le (by decide : 0 ≤ 3) hx4, ok_le (by decide : 0 ≤ 3) hx5]
    · simp
    · rintro e es ρ μ12 nx2 ⟨rfl, hall, so, o9, hso, hsl, rfl⟩ hnx2
      obtain ⟨xs, rfl, hxs, hxl⟩ := hall e List.mem_cons_self
      have hcl : ∀ lo hi, (cutD xs lo hi).length ≤ 9 := fun lo hi => Nat.le_trans cut_len hxl
      simp only [g_nm, s_set, e_op, e_v5, e_v9, e_sl, o_no, o_yes, dSl, e_lst, e_call, a_cons, a_nil, e_c, d_tup_lst, d_add_lst, List.length_cons, List.length_nil, List.set_cons_succ, List.set_cons_zero]
      simp only [List.length_cons] at hsl
      refine ⟨small _ (by decide), by rw [sizeLine_eq]; omega, hnx2 _ _ ⟨rfl, fun d hd => hall d (List.mem_cons_of_mem _ hd), _, _, ?_, ?_, rfl⟩⟩
      · have c1 := ok_tup (n := 2) (okA_cut (lo := none) (hi := some 2) hxs) (by have := hcl none (some 2); omega)
        have c2 := ok_tup (n := 2) (okA_cut (lo := none) (hi := some 3) hxs) (by have := hcl none (some 3); omega)
        have c3 := ok_tup (n := 2) hxs (by omega)
        have c4 := ok_lst (n := 2) (okA_cut (lo := none) (hi := some 2) hxs) (by have := hcl none (some 2); omega)
        have c5 := ok_lst (n := 2) (okA_cut (lo := none) (hi := some 3) hxs) (by have := hcl none (some 3); omega)
        have c6 := ok_tup (n := 2) (okA_cut (lo := some 1) (hi := some 3) hxs) (by have := hcl (some 1) (some 3); omega)
        refine okA_app hso ?_
        simp only [okA, c1, c2, c3, c4, c5, c6, Bool.and_self]
      · simp; omega
    · rintro ρ μ12 ⟨rfl, _, so, o9, hso, hsl, rfl⟩
      simp only [s_for, it_any, e_v5]
      refine loop_inv (fun ds ρ μ' => μ' = μ12 ∧ (∀ d, d ∈ ds → ok 3 d = true) ∧ ∃ o10, ρ = [some (D.fz (List.map D.int ns)), some (D.loc n), some d, some (D.int lo), some (D.int (lo + r - 1)), some (.lst so), some (.lst it), some (.int sp), some (.lst be), o9, o10, o11, o12, o13]) _ _ _ ⟨rfl, fun d hd => okA_mem hso hd, _, rfl⟩ ?_ ?_
      · rintro e es ρ μ13 nx2 ⟨rfl, hall, o10, rfl⟩ hnx2
        simp only [g_nm, s_if, b_not, b_t, e_call, a_cons, a_nil, e_v3, e_v4, e_v10, List.set_cons_succ, List.set_cons_zero]
        refine ⟨e, lo, lo + r - 1, rfl, hall e List.mem_cons_self, trivial, ?_⟩
        simp only [tru_bl, Bool.not_true, Bool.false_eq_true, if_false, s_next]
        exact hnx2 _ _ ⟨rfl, fun d hd => hall d (List.mem_cons_of_mem _ hd), _, rfl⟩
      · rintro ρ μ13 ⟨rfl, _, o10, rfl⟩
        simp only [s_seq, s_set, s_if, s_next, b_not, b_t, b_b, s_ret, e_if, e_op, e_call, e_callP, pck_n, pck_0, pck_1, pck_2, e_lst, e_c, a_cons, a_nil, e_v1, e_v3, e_v4, e_v11, d_pow, List.length_cons, List.length_nil, List.set_cons_succ, List.set_cons_zero]
        refine ⟨⟨by decide, by decide, by decide⟩, n, 1000000000, rfl, hb11, by decide, by decide, fun k μ14 h4 h5 hd14 => ?_⟩
        obtain ⟨m, rfl⟩ := Int.eq_ofNat_of_zero_le h4
        have hm : m < 10 ^ 9 := by omega
        have s1 : ∀ k : Nat, k < 2 * 10 ^ 9 → Sg (Str.ofString (toString ((k : Nat) : Int))) 10 := fun k hk => by
          refine ⟨fun c hc => ?_, ?_⟩
          · rw [codes_num] at hc
            have := numL_digits k c hc
            omega
          · rw [codes_num]
            exact numL_len (by decide) (by omega)
        have g1 := s1 m (by omega)
        have g2 : Sg (Str.ofString "0" ++ Str.ofString (toString ((m : Nat) : Int))) 11 := (show Sg (Str.ofString "0") 1 from sg_of (by decide +kernel)).app g1
        have ea : (10 : Int) ^ Int.toNat 9 + (m : Int) = ((10 ^ 9 + m : Nat) : Int) := by
          have : (10 : Int) ^ Int.toNat 9 = 1000000000 := by decide
          rw [this]; omega
        have g3 := s1 (10 ^ 9 + m) (by omega)
        have g1l := g1.2
        rw [← len_codes] at g1l
        simp only [d_str_int, d_add_str, d_add_int, ea]
        refine ⟨log_small (by omega), _, rfl, g1.ok (by decide), ?_⟩
        refine ⟨log_small (by omega), ?_, _, rfl, g2.ok (by decide), ?_⟩
        · rw [sizeLine_eq]
          have : (Str.ofString "0").length = 1 := by decide +kernel
          omega
        refine ⟨⟨by decide, by decide, by decide⟩, log_small (by omega), _, rfl, g3.ok (by decide), small _ (by decide), small _ (by decide), ?_⟩
        rw [numIn_num (codes_num m) hm, numIn_zero (m := m) (by rw [codes_app, codes_num]; rfl), numIn_long (codes_num _) (by omega)]
        refine ⟨_, rfl, by simp [ok, okA, ok_int, ok_non], trivial, ?_⟩
        simp only [tru_bl, Bool.not_true, Bool.false_eq_true, if_false, true_and]
        refine ⟨_, _, _, rfl, ok_int, _, _, _, rfl, ok_int, ?_⟩
        simp only [dNe, toPy, shaped_bool, and_self, true_and, onB_bl, PyData.eqv, BEq.rfl, Bool.not_true, Bool.false_eq_true, if_false]
        exact hnx _ _ ⟨hd14.at hb11, [some d, some (D.int lo), some (D.int (lo + r - 1)), some (D.lst so), some (D.lst it), some (D.int sp), some (D.lst be), o9, o10, some (D.int m), o12, o13], rfl, rfl⟩
  · rintro ρ μ1 ⟨hb, l, hl, rfl⟩
    obtain ⟨o2, o3, o4, o5, o6, o7, o8, o9, o10, o11, o12, o13, rfl⟩ : ∃ o2 o3 o4 o5 o6 o7 o8 o9 o10 o11 o12 o13, l = [o2, o3, o4, o5, o6, o7, o8, o9, o10, o11, o12, o13] := by
      match l, hl with
      | [o1, o2, o3, o4, o5, o6, o7, o8, o9, o10, o11, o12], _ => exact ⟨_, _, _, _, _, _, _, _, _, _, _, _, rfl⟩
    simp only [s_seq, s_set, s_ret, e_lst, e_tup, e_and, e_op, e_call, e_callP, pck_n, pck_0, pck_1, pck_2, e_c, a_cons, a_nil, e_v12, List.length_cons, List.length_nil, List.set_cons_succ, List.set_cons_zero]
    refine ⟨trivial, _, rfl, by decide +kernel, small _ (by decide), trivial, _, rfl, by decide +kernel, small _ (by decide), trivial, _, rfl, by decide +kernel, trivial, _, rfl, by decide +kernel, _, rfl, by decide +kernel, small _ (by decide), small _ (by decide), ?_⟩
    have e1 : isName (.str (Str.ofString "a")) = true := by decide +kernel
    have e2 : isNums (.tup [.int 0, .int 5]) [5, 5] = true := by decide +kernel
    have e3 : isNums (.tup [.int 8, .int 5, .int 5]) [8, 5, 5] = true := by decide +kernel
    have e4 : numIn (.str (Str.ofString "0")) = .int 0 := numIn_num (m := 0) (by decide +kernel) (by decide)
    have e5 : numIn (.str (Str.ofString "999999999")) = .int 999999999 := numIn_num (m := 999999999) (by decide +kernel) (by decide)
    have e6 : isNon (numIn (.str (Str.ofString "-0"))) = true := by decide +kernel
    have e7 : isNon (numIn (.str (Str.ofString "00"))) = true := by decide +kernel
    rw [e1, e2, e3, e4, e5]
    refine ⟨_, rfl, by simp [ok, okA, ok_int, ok_bl], ?_⟩
    simp only [onB_bl, if_true]
    refine ⟨_, rfl, by decide +kernel, ?_⟩
    simp only [d_is, e6, onB_bl, if_true]
    refine ⟨_, rfl, by decide +kernel, ?_⟩
    simp only [d_is, e7]
    exact hP _
end W01
set_option Elab.async false
set_option linter.all false
set_option maxRecDepth 100000
namespace W01
open PySem PySem.Spec PyProof.Rows L2 RZ Tr
section
variable {P : Program} {wd : World} {K : PySem.W.Frag} {mg : Str → Option Value} {base : Heap}
theorem G_is_number (T : Txt K mg) (S_is_number : Sn K mg "is_number" s_is_number)  : FnI P wd K mg base "is_number" s_is_number 1 ["value", "least", "most"] sp_is_number :=
  S_is_number.fni (fun f fd F => fn_ok F sc_is_number (fun cdv A outer s H E hr => pb_is_number T  cdv A outer s H E hr) (fun ds μ Pd h => by first | (obtain ⟨_, rfl, _⟩ := h; rfl) | (obtain ⟨_, _, rfl, _⟩ := h; rfl) | (obtain ⟨_, _, _, rfl, _⟩ := h; rfl) | (obtain ⟨_, _, _, _, rfl, _⟩ := h; rfl) | (obtain ⟨rfl, _⟩ := h; rfl)) hs_is_number) (fun _ _ _ _ _ _ us hl => match us, hl with | [_, _, _], _ => rfl)
theorem G_is_name (T : Txt K mg) (S_is_name : Sn K mg "is_name" s_is_name)  : FnI P wd K mg base "is_name" s_is_name 1 ["value"] sp_is_name :=
  S_is_name.fni (fun f fd F => fn_ok F sc_is_name (fun cdv A outer s H E hr => pb_is_name T  cdv A outer s H E hr) (fun ds μ Pd h => by first | (obtain ⟨_, rfl, _⟩ := h; rfl) | (obtain ⟨_, _, rfl, _⟩ := h; rfl) | (obtain ⟨_, _, _, rfl, _⟩ := h; rfl) | (obtain ⟨_, _, _, _, rfl, _⟩ := h; rfl) | (obtain ⟨rfl, _⟩ := h; rfl)) hs_is_name) (fun _ _ _ _ _ _ us hl => match us, hl with | [_], _ => rfl)
theorem G_is_cell (T : Txt K mg) (S_is_cell : Sn K mg "is_cell" s_is_cell) (G_is_number : FnI P wd K mg base "is_number" s_is_number 1 ["value", "least", "most"] sp_is_number) : FnI P wd K mg base "is_cell" s_is_cell 2 ["value"] sp_is_cell :=
  S_is_cell.fni (fun f fd F => fn_ok F sc_is_cell (fun cdv A outer s H E hr => pb_is_cell T G_is_number cdv A outer s H E hr) (fun ds μ Pd h => by first | (obtain ⟨_, rfl, _⟩ := h; rfl) | (obtain ⟨_, _, rfl, _⟩ := h; rfl) | (obtain ⟨_, _, _, rfl, _⟩ := h; rfl) | (obtain ⟨_, _, _, _, rfl, _⟩ := h; rfl) | (obtain ⟨rfl, _⟩ := h; rfl)) hs_is_cell) (fun _ _ _ _ _ _ us hl => match us, hl with | [_], _ => rfl)
theorem G_is_place (T : Txt K mg) (S_is_place : Sn K mg "is_place" s_is_place) (G_is_number : FnI P wd K mg base "is_number" s_is_number 1 ["value", "least", "most"] sp_is_number) (G_is_cell : FnI P wd K mg base "is_cell" s_is_cell 2 ["value"] sp_is_cell) : FnI P wd K mg base "is_place" s_is_place 3 ["value"] sp_is_place :=
  S_is_place.fni (fun f fd F => fn_ok F sc_is_place (fun cdv A outer s H E hr => pb_is_place T G_is_number G_is_cell cdv A outer s H E hr) (fun ds μ Pd h => by first | (obtain ⟨_, rfl, _⟩ := h; rfl) | (obtain ⟨_, _, rfl, _⟩ := h; rfl) | (obtain ⟨_, _, _, rfl, _⟩ := h; rfl) | (obtain ⟨_, _, _, _, rfl, _⟩ := h; rfl) | (obtain ⟨rfl, _⟩ := h; rfl)) hs_is_place) (fun _ _ _ _ _ _ us hl => match us, hl with | [_], _ => rfl)
theorem G_number_in (T : Txt K mg) (S_number_in : Sn K mg "number_in" s_number_in)  : FnI P wd K mg base "number_in" s_number_in 1 ["text"] sp_number_in :=
  S_number_in.fni (fun f fd F => fn_ok F sc_number_in (fun cdv A outer s H E hr => pb_number_in T  cdv A outer s H E hr) (fun ds μ Pd h => by first | (obtain ⟨_, rfl, _⟩ := h; rfl) | (obtain ⟨_, _, rfl, _⟩ := h; rfl) | (obtain ⟨_, _, _, rfl, _⟩ := h; rfl) | (obtain ⟨_, _, _, _, rfl, _⟩ := h; rfl) | (obtain ⟨rfl, _⟩ := h; rfl)) hs_number_in) (fun _ _ _ _ _ _ us hl => match us, hl with | [_], _ => rfl)
theorem G_bag (T : Txt K mg) (S_bag : Sn K mg "_law_bag" s_bag)  : FnI P wd K mg base "_law_bag" s_bag 1 ["_law_script"] sp_bag :=
  S_bag.fni (fun f fd F => fn_ok F sc_bag (fun cdv A outer s H E hr => pb_bag T  cdv A outer s H E hr) (fun ds μ Pd h => by first | (obtain ⟨_, rfl, _⟩ := h; rfl) | (obtain ⟨_, _, rfl, _⟩ := h; rfl) | (obtain ⟨_, _, _, rfl, _⟩ := h; rfl) | (obtain ⟨_, _, _, _, rfl, _⟩ := h; rfl) | (obtain ⟨rfl, _⟩ := h; rfl)) hs_bag) (fun _ _ _ _ _ _ us hl => match us, hl with | [_], _ => rfl)
theorem G_draw (T : Txt K mg) (S_draw : Sn K mg "_law_draw" s_draw)  : FnI P wd K mg base "_law_draw" s_draw 1 ["_law_bag_here", "_law_many"] sp_draw :=
  S_draw.fni (fun f fd F => fn_ok F sc_draw (fun cdv A outer s H E hr => pb_draw T  cdv A outer s H E hr) (fun ds μ Pd h => by first | (obtain ⟨_, rfl, _⟩ := h; rfl) | (obtain ⟨_, _, rfl, _⟩ := h; rfl) | (obtain ⟨_, _, _, rfl, _⟩ := h; rfl) | (obtain ⟨_, _, _, _, rfl, _⟩ := h; rfl) | (obtain ⟨rfl, _⟩ := h; rfl)) hs_draw) (fun _ _ _ _ _ _ us hl => match us, hl with | [_, _], _ => rfl)
theorem G_pick (T : Txt K mg) (S_pick : Sn K mg "_law_pick" s_pick) (G_draw : FnI P wd K mg base "_law_draw" s_draw 1 ["_law_bag_here", "_law_many"] sp_draw) : FnI P wd K mg base "_law_pick" s_pick 2 ["_law_bag_here", "_law_some"] sp_pick :=
  S_pick.fni (fun f fd F => fn_ok F sc_pick (fun cdv A outer s H E hr => pb_pick T G_draw cdv A outer s H E hr) (fun ds μ Pd h => by first | (obtain ⟨_, rfl, _⟩ := h; rfl) | (obtain ⟨_, _, rfl, _⟩ := h; rfl) | (obtain ⟨_, _, _, rfl, _⟩ := h; rfl) | (obtain ⟨_, _, _, _, rfl, _⟩ := h; rfl) | (obtain ⟨rfl, _⟩ := h; rfl)) hs_pick) (fun _ _ _ _ _ _ us hl => match us, hl with | [_, _], _ => rfl)
theorem G_same (T : Txt K mg) (S_same : Sn K mg "_law_same" s_same)  : ∀ n, FnI P wd K mg base "_law_same" s_same (n + 1) ["_law_found", "_law_due"] (sp_same n)
  | 0 => S_same.none (fun ds μ P ⟨_, _, h, _⟩ => nomatch h) (fun _ _ _ _ _ _ us hl => match us, hl with | [_, _], _ => rfl)
  | n + 1 => S_same.fni (fun f fd F => fn_ok F sc_same (fun cdv A outer s H E hr => pb_same n T (G_same T S_same  n) cdv A outer s H E hr) (fun ds μ Pd h => by first | (obtain ⟨_, rfl, _⟩ := h; rfl) | (obtain ⟨_, _, rfl, _⟩ := h; rfl) | (obtain ⟨_, _, _, rfl, _⟩ := h; rfl) | (obtain ⟨_, _, _, _, rfl, _⟩ := h; rfl) | (obtain ⟨rfl, _⟩ := h; rfl)) (hs_same n)) (fun _ _ _ _ _ _ us hl => match us, hl with | [_, _], _ => rfl)
theorem G_odd (T : Txt K mg) (S_odd : Sn K mg "_law_odd" s_odd) (G_pick : FnI P wd K mg base "_law_pick" s_pick 2 ["_law_bag_here", "_law_some"] sp_pick) : FnI P wd K mg base "_law_odd" s_odd 3 ["_law_bag_here"] sp_odd :=
  S_odd.fni (fun f fd F => fn_ok F sc_odd (fun cdv A outer s H E hr => pb_odd T G_pick cdv A outer s H E hr) (fun ds μ Pd h => by first | (obtain ⟨_, rfl, _⟩ := h; rfl) | (obtain ⟨_, _, rfl, _⟩ := h; rfl) | (obtain ⟨_, _, _, rfl, _⟩ := h; rfl) | (obtain ⟨_, _, _, _, rfl, _⟩ := h; rfl) | (obtain ⟨rfl, _⟩ := h; rfl)) hs_odd) (fun _ _ _ _ _ _ us hl => match us, hl with | [_], _ => rfl)
theorem G_count (T : Txt K mg) (S_count : Sn K mg "_law_count" s_count) (G_pick : FnI P wd K mg base "_law_pick" s_pick 2 ["_law_bag_here", "_law_some"] sp_pick) (G_draw : FnI P wd K mg base "_law_draw" s_draw 1 ["_law_bag_here", "_law_many"] sp_draw) : FnI P wd K mg base "_law_count" s_count 3 ["_law_bag_here"] sp_count :=
  S_count.fni (fun f fd F => fn_ok F sc_count (fun cdv A outer s H E hr => pb_count T G_pick G_draw cdv A outer s H E hr) (fun ds μ Pd h => by first | (obtain ⟨_, rfl, _⟩ := h; rfl) | (obtain ⟨_, _, rfl, _⟩ := h; rfl) | (obtain ⟨_, _, _, rfl, _⟩ := h; rfl) | (obtain ⟨_, _, _, _, rfl, _⟩ := h; rfl) | (obtain ⟨rfl, _⟩ := h; rfl)) hs_count) (fun _ _ _ _ _ _ us hl => match us, hl with | [_], _ => rfl)
theorem G_word (T : Txt K mg) (S_word : Sn K mg "_law_word" s_word) (G_draw : FnI P wd K mg base "_law_draw" s_draw 1 ["_law_bag_here", "_law_many"] sp_draw) (G_pick : FnI P wd K mg base "_law_pick" s_pick 2 ["_law_bag_here", "_law_some"] sp_pick) : FnI P wd K mg base "_law_word" s_word 3 ["_law_bag_here"] sp_word :=
  S_word.fni (fun f fd F => fn_ok F sc_word (fun cdv A outer s H E hr => pb_word T G_draw G_pick cdv A outer s H E hr) (fun ds μ Pd h => by first | (obtain ⟨_, rfl, _⟩ := h; rfl) | (obtain ⟨_, _, rfl, _⟩ := h; rfl) | (obtain ⟨_, _, _, rfl, _⟩ := h; rfl) | (obtain ⟨_, _, _, _, rfl, _⟩ := h; rfl) | (obtain ⟨rfl, _⟩ := h; rfl)) hs_word) (fun _ _ _ _ _ _ us hl => match us, hl with | [_], _ => rfl)
theorem G_figures (T : Txt K mg) (S_figures : Sn K mg "_law_figures" s_figures) (G_draw : FnI P wd K mg base "_law_draw" s_draw 1 ["_law_bag_here", "_law_many"] sp_draw) (G_pick : FnI P wd K mg base "_law_pick" s_pick 2 ["_law_bag_here", "_law_some"] sp_pick) : FnI P wd K mg base "_law_figures" s_figures 3 ["_law_bag_here"] sp_figures :=
  S_figures.fni (fun f fd F => fn_ok F sc_figures (fun cdv A outer s H E hr => pb_figures T G_draw G_pick cdv A outer s H E hr) (fun ds μ Pd h => by first | (obtain ⟨_, rfl, _⟩ := h; rfl) | (obtain ⟨_, _, rfl, _⟩ := h; rfl) | (obtain ⟨_, _, _, rfl, _⟩ := h; rfl) | (obtain ⟨_, _, _, _, rfl, _⟩ := h; rfl) | (obtain ⟨rfl, _⟩ := h; rfl)) hs_figures) (fun _ _ _ _ _ _ us hl => match us, hl with | [_], _ => rfl)
theorem G_is_count (T : Txt K mg) (S_is_count : Sn K mg "_law_is_count" s_is_count)  : FnI P wd K mg base "_law_is_count" s_is_count 1 ["_law_thing", "_law_low", "_law_high"] sp_is_count :=
  S_is_count.fni (fun f fd F => fn_ok F sc_is_count (fun cdv A outer s H E hr => pb_is_count T  cdv A outer s H E hr) (fun ds μ Pd h => by first | (obtain ⟨_, rfl, _⟩ := h; rfl) | (obtain ⟨_, _, rfl, _⟩ := h; rfl) | (obtain ⟨_, _, _, rfl, _⟩ := h; rfl) | (obtain ⟨_, _, _, _, rfl, _⟩ := h; rfl) | (obtain ⟨rfl, _⟩ := h; rfl)) hs_is_count) (fun _ _ _ _ _ _ us hl => match us, hl with | [_, _, _], _ => rfl)
theorem G_is_tuple (T : Txt K mg) (S_is_tuple : Sn K mg "_law_is_tuple" s_is_tuple) (G_is_count : FnI P wd K mg base "_law_is_count" s_is_count 1 ["_law_thing", "_law_low", "_law_high"] sp_is_count) : FnI P wd K mg base "_law_is_tuple" s_is_tuple 2 ["_law_thing", "_law_highs"] sp_is_tuple :=
  S_is_tuple.fni (fun f fd F => fn_ok F sc_is_tuple (fun cdv A outer s H E hr => pb_is_tuple T G_is_count cdv A outer s H E hr) (fun ds μ Pd h => by first | (obtain ⟨_, rfl, _⟩ := h; rfl) | (obtain ⟨_, _, rfl, _⟩ := h; rfl) | (obtain ⟨_, _, _, rfl, _⟩ := h; rfl) | (obtain ⟨_, _, _, _, rfl, _⟩ := h; rfl) | (obtain ⟨rfl, _⟩ := h; rfl)) hs_is_tuple) (fun _ _ _ _ _ _ us hl => match us, hl with | [_, _], _ => rfl)
theorem G_is_word (T : Txt K mg) (S_is_word : Sn K mg "_law_is_word" s_is_word)  : FnI P wd K mg base "_law_is_word" s_is_word 1 ["_law_thing"] sp_is_word :=
  S_is_word.fni (fun f fd F => fn_ok F sc_is_word (fun cdv A outer s H E hr => pb_is_word T  cdv A outer s H E hr) (fun ds μ Pd h => by first | (obtain ⟨_, rfl, _⟩ := h; rfl) | (obtain ⟨_, _, rfl, _⟩ := h; rfl) | (obtain ⟨_, _, _, rfl, _⟩ := h; rfl) | (obtain ⟨_, _, _, _, rfl, _⟩ := h; rfl) | (obtain ⟨rfl, _⟩ := h; rfl)) hs_is_word) (fun _ _ _ _ _ _ us hl => match us, hl with | [_], _ => rfl)
theorem G_number_of (T : Txt K mg) (S_number_of : Sn K mg "_law_number_of" s_number_of)  : FnI P wd K mg base "_law_number_of" s_number_of 1 ["_law_thing"] sp_number_of :=
  S_number_of.fni (fun f fd F => fn_ok F sc_number_of (fun cdv A outer s H E hr => pb_number_of T  cdv A outer s H E hr) (fun ds μ Pd h => by first | (obtain ⟨_, rfl, _⟩ := h; rfl) | (obtain ⟨_, _, rfl, _⟩ := h; rfl) | (obtain ⟨_, _, _, rfl, _⟩ := h; rfl) | (obtain ⟨_, _, _, _, rfl, _⟩ := h; rfl) | (obtain ⟨rfl, _⟩ := h; rfl)) hs_number_of) (fun _ _ _ _ _ _ us hl => match us, hl with | [_], _ => rfl)
theorem G_judged_so (T : Txt K mg) (S_judged_so : Sn K mg "_law_judged_so" s_judged_so) (G_number_in : FnI P wd K mg base "number_in" s_number_in 1 ["text"] sp_number_in) (G_is_number : FnI P wd K mg base "is_number" s_is_number 1 ["value", "least", "most"] sp_is_number) (G_is_place : FnI P wd K mg base "is_place" s_is_place 3 ["value"] sp_is_place) (G_is_cell : FnI P wd K mg base "is_cell" s_is_cell 2 ["value"] sp_is_cell) (G_is_name : FnI P wd K mg base "is_name" s_is_name 1 ["value"] sp_is_name) (G_is_tuple : FnI P wd K mg base "_law_is_tuple" s_is_tuple 2 ["_law_thing", "_law_highs"] sp_is_tuple) (G_is_word : FnI P wd K mg base "_law_is_word" s_is_word 1 ["_law_thing"] sp_is_word) (G_same : FnI P wd K mg base "_law_same" s_same 9 ["_law_found", "_law_due"] (sp_same 8)) (G_number_of : FnI P wd K mg base "_law_number_of" s_number_of 1 ["_law_thing"] sp_number_of) (G_is_count : FnI P wd K mg base "_law_is_count" s_is_count 1 ["_law_thing", "_law_low", "_law_high"] sp_is_count) : FnI P wd K mg base "_law_judged_so" s_judged_so 11 ["_law_thing", "_law_low", "_law_high"] sp_judged_so :=
  S_judged_so.fni (fun f fd F => fn_ok F sc_judged_so (fun cdv A outer s H E hr => pb_judged_so T G_number_in G_is_number G_is_place G_is_cell G_is_name G_is_tuple G_is_word G_same G_number_of G_is_count cdv A outer s H E hr) (fun ds μ Pd h => by first | (obtain ⟨_, rfl, _⟩ := h; rfl) | (obtain ⟨_, _, rfl, _⟩ := h; rfl) | (obtain ⟨_, _, _, rfl, _⟩ := h; rfl) | (obtain ⟨_, _, _, _, rfl, _⟩ := h; rfl) | (obtain ⟨rfl, _⟩ := h; rfl)) hs_judged_so) (fun _ _ _ _ _ _ us hl => match us, hl with | [_, _, _], _ => rfl)
theorem ok_law {f : Addr} {fd : FuncData} (T : Txt K mg) (F : Fun K "law" "law" s_law f fd) (G_bag : FnI P wd K mg base "_law_bag" s_bag 1 ["_law_script"] sp_bag) (G_count : FnI P wd K mg base "_law_count" s_count 3 ["_law_bag_here"] sp_count) (G_draw : FnI P wd K mg base "_law_draw" s_draw 1 ["_law_bag_here", "_law_many"] sp_draw) (G_odd : FnI P wd K mg base "_law_odd" s_odd 3 ["_law_bag_here"] sp_odd) (G_figures : FnI P wd K mg base "_law_figures" s_figures 3 ["_law_bag_here"] sp_figures) (G_word : FnI P wd K mg base "_law_word" s_word 3 ["_law_bag_here"] sp_word) (G_judged_so : FnI P wd K mg base "_law_judged_so" s_judged_so 11 ["_law_thing", "_law_low", "_law_high"] sp_judged_so) (G_same : FnI P wd K mg base "_law_same" s_same 9 ["_law_found", "_law_due"] (sp_same 8)) (G_number_in : FnI P wd K mg base "number_in" s_number_in 1 ["text"] sp_number_in) (G_is_number : FnI P wd K mg base "is_number" s_is_number 1 ["value", "least", "most"] sp_is_number) (G_is_count : FnI P wd K mg base "_law_is_count" s_is_count 1 ["_law_thing", "_law_low", "_law_high"] sp_is_count) (G_is_place : FnI P wd K mg base "is_place" s_is_place 3 ["value"] sp_is_place) (G_is_cell : FnI P wd K mg base "is_cell" s_is_cell 2 ["value"] sp_is_cell) (G_is_name : FnI P wd K mg base "is_name" s_is_name 1 ["value"] sp_is_name) : FnD P wd K mg base 12 f fd ["_law_script"] sp_law :=
  fn_ok F sc_law (fun cdv A outer s H E hr => pb_law T G_bag G_count G_draw G_odd G_figures G_word G_judged_so G_same G_number_in G_is_number G_is_count G_is_place G_is_cell G_is_name cdv A outer s H E hr) (fun ds μ Pd h => by first | (obtain ⟨_, rfl, _⟩ := h; rfl) | (obtain ⟨_, _, rfl, _⟩ := h; rfl) | (obtain ⟨_, _, _, rfl, _⟩ := h; rfl) | (obtain ⟨_, _, _, _, rfl, _⟩ := h; rfl) | (obtain ⟨rfl, _⟩ := h; rfl)) hs_law
end
theorem all_mk {l : PySem.W.OpenLaw} {w : World} {K : PySem.W.Frag} {h : Heap} {mg : Str → Option Value} {fa f : Addr} (hfa : mg "law" = some (.ref fa)) (T : Txt K mg)
    (S_is_number : Sn K mg "is_number" s_is_number) (S_is_name : Sn K mg "is_name" s_is_name) (S_is_cell : Sn K mg "is_cell" s_is_cell) (S_is_place : Sn K mg "is_place" s_is_place) (S_number_in : Sn K mg "number_in" s_number_in) (S_bag : Sn K mg "_law_bag" s_bag) (S_draw : Sn K mg "_law_draw" s_draw) (S_pick : Sn K mg "_law_pick" s_pick) (S_same : Sn K mg "_law_same" s_same) (S_odd : Sn K mg "_law_odd" s_odd) (S_count : Sn K mg "_law_count" s_count) (S_word : Sn K mg "_law_word" s_word) (S_figures : Sn K mg "_law_figures" s_figures) (S_is_count : Sn K mg "_law_is_count" s_is_count) (S_is_tuple : Sn K mg "_law_is_tuple" s_is_tuple) (S_is_word : Sn K mg "_law_is_word" s_is_word) (S_number_of : Sn K mg "_law_number_of" s_number_of) (S_judged_so : Sn K mg "_law_judged_so" s_judged_so)
    (X : K.In h) (G : h.Ns mainGlobals mg) {oc : Value} {od an : Option Addr} {sl : Array (Option Value)} {kV dc pm cd ct : Value} (a : PySem.W.nsIn K mainGlobals "law" = some (some (.ref f)))
    (L : K.lookup f = some ⟨oc, od, .func (PySem.W.fnOf "law" "law" (defArgs s_law) (defBody s_law) (defScope s_law) .none kV dc pm an cd ct), sl⟩) (c : PySem.W.codeIn K cd "law" = true) (k : PySem.W.keepIn K (.ref f) = true) :
    ∃ fd : FuncData, (∀ (s : Shared) (v : Value), BindsTo s fd ⟨[v], []⟩ [("_law_script", v)]) ∧ ∀ base : Heap, K.In base → base.Ns mainGlobals mg → FnOk l.prog w K mg base CX0 12 fa fd ["_law_script"] (SpOf K sp_law) := by
  have e := hfa.symm.trans (PySem.W.mg_of X G a)
  cases e
  refine ⟨PySem.W.fnOf "law" "law" (defArgs s_law) (defBody s_law) (defScope s_law) .none kV dc pm an cd ct, fun s v => .of_eq rfl, fun base _ _ => ?_⟩
  have G_is_number := G_is_number (P := l.prog) (wd := w) (base := base) T S_is_number 
  have G_is_name := G_is_name (P := l.prog) (wd := w) (base := base) T S_is_name 
  have G_is_cell := G_is_cell (P := l.prog) (wd := w) (base := base) T S_is_cell G_is_number
  have G_is_place := G_is_place (P := l.prog) (wd := w) (base := base) T S_is_place G_is_number G_is_cell
  have G_number_in := G_number_in (P := l.prog) (wd := w) (base := base) T S_number_in 
  have G_bag := G_bag (P := l.prog) (wd := w) (base := base) T S_bag 
  have G_draw := G_draw (P := l.prog) (wd := w) (base := base) T S_draw 
  have G_pick := G_pick (P := l.prog) (wd := w) (base := base) T S_pick G_draw
  have G_same := fun n => G_same (P := l.prog) (wd := w) (base := base) T S_same  n
  have G_odd := G_odd (P := l.prog) (wd := w) (base := base) T S_odd G_pick
  have G_count := G_count (P := l.prog) (wd := w) (base := base) T S_count G_pick G_draw
  have G_word := G_word (P := l.prog) (wd := w) (base := base) T S_word G_draw G_pick
  have G_figures := G_figures (P := l.prog) (wd := w) (base := base) T S_figures G_draw G_pick
  have G_is_count := G_is_count (P := l.prog) (wd := w) (base := base) T S_is_count 
  have G_is_tuple := G_is_tuple (P := l.prog) (wd := w) (base := base) T S_is_tuple G_is_count
  have G_is_word := G_is_word (P := l.prog) (wd := w) (base := base) T S_is_word 
  have G_number_of := G_number_of (P := l.prog) (wd := w) (base := base) T S_number_of 
  have G_judged_so := G_judged_so (P := l.prog) (wd := w) (base := base) T S_judged_so G_number_in G_is_number G_is_place G_is_cell G_is_name G_is_tuple G_is_word (G_same 8) G_number_of G_is_count
  exact ok_law T (fun_mk (st := s_law) L c k) G_bag G_count G_draw G_odd G_figures G_word G_judged_so (G_same 8) G_number_in G_is_number G_is_count G_is_place G_is_cell G_is_name
theorem walk {l : PySem.W.OpenLaw} {q : Program} {loose : List Str} {XP : (Str → Option Value) → Heap → Prop} {YP : World → Heap → Prop} {d : DefRec} {K : Params → PySem.W.Frag} (hn : l.most = some 63) (hdf : d.params.defaults = [])
    (hY : ∀ (w : World) (h : Heap), YP w h → (K w.params).In h)
    (F : ∀ (w : World) (mg : Str → Option Value) (fa : Addr) (h : Heap), (K w.params).In h → h.Ns mainGlobals mg → mg d.name = some (.ref fa) →
      ∃ fd : FuncData, (∀ (s : Shared) (u : Value), BindsTo s fd ⟨[u], []⟩ [("_law_script", u)]) ∧ ∀ base : Heap, (K w.params).In base → base.Ns mainGlobals mg → FnOk l.prog w (K w.params) mg base CX0 12 fa fd ["_law_script"] (SpOf (K w.params) sp_law)) :
    PySem.W.WalkO q loose XP YP l.row.toRowW d [] (fun f vs => PySem.call f vs) :=
  L2.walk_of (n := 63) (k := 12) (x := "_law_script") (CX := fun _ => CX0) (sp := fun w => SpOf (K w.params) sp_law) hn (by decide) hdf ⟨rfl, by decide, by decide⟩ hY F (fun _ _ a ns hl ho hS => law_sp (fun μ P h => ⟨ns, rfl, hl, h⟩) ho hS) fun _ _ _ _ _ z => z
end W01

open PySem PySem.W PyProof.Rows in
set_option maxRecDepth 100000 in
set_option maxHeartbeats 0 in
theorem PySem.Challenge.cw_highestsky_k01_words_judged_holds : PySem.Challenge.rw_highestsky_k01_words_judged.Holds := by
  w_on; o_law; k_head; (case hw => w_witness2)
  k_fill
  refine W01.walk (l := PySem.Challenge.rw_highestsky_k01_words_judged) rfl rfl (fun w h Y => PySem.W.kIn_of Y) ?F
  case F =>
    intro w mg fa h KX G hmg
    refine' W01.all_mk hmg ⟨PySem.W.mg_none_of KX G ?z_all, PySem.W.mg_none_of KX G ?z_bool, PySem.W.mg_none_of KX G ?z_int, PySem.W.mg_none_of KX G ?z_isinstance, PySem.W.mg_none_of KX G ?z_len, PySem.W.mg_none_of KX G ?z_list, PySem.W.mg_none_of KX G ?z_range, PySem.W.mg_none_of KX G ?z_str, PySem.W.mg_none_of KX G ?z_tuple, PySem.W.mg_none_of KX G ?z_zip, ⟨_, PySem.W.mg_of KX G ?v_MOST_DIGITS⟩, ⟨_, PySem.W.mg_of KX G ?v_MOST_SIDE⟩, ⟨_, PySem.W.mg_of KX G ?v_MOST_WINDS⟩⟩ (Tr.sn_mk KX G ?a_is_number ?l_is_number ?c_is_number ?k_is_number) (Tr.sn_mk KX G ?a_is_name ?l_is_name ?c_is_name ?k_is_name) (Tr.sn_mk KX G ?a_is_cell ?l_is_cell ?c_is_cell ?k_is_cell) (Tr.sn_mk KX G ?a_is_place ?l_is_place ?c_is_place ?k_is_place) (Tr.sn_mk KX G ?a_number_in ?l_number_in ?c_number_in ?k_number_in) (Tr.sn_mk KX G ?a_bag ?l_bag ?c_bag ?k_bag) (Tr.sn_mk KX G ?a_draw ?l_draw ?c_draw ?k_draw) (Tr.sn_mk KX G ?a_pick ?l_pick ?c_pick ?k_pick) (Tr.sn_mk KX G ?a_same ?l_same ?c_same ?k_same) (Tr.sn_mk KX G ?a_odd ?l_odd ?c_odd ?k_odd) (Tr.sn_mk KX G ?a_count ?l_count ?c_count ?k_count) (Tr.sn_mk KX G ?a_word ?l_word ?c_word ?k_word) (Tr.sn_mk KX G ?a_figures ?l_figures ?c_figures ?k_figures) (Tr.sn_mk KX G ?a_is_count ?l_is_count ?c_is_count ?k_is_count) (Tr.sn_mk KX G ?a_is_tuple ?l_is_tuple ?c_is_tuple ?k_is_tuple) (Tr.sn_mk KX G ?a_is_word ?l_is_word ?c_is_word ?k_is_word) (Tr.sn_mk KX G ?a_number_of ?l_number_of ?c_number_of ?k_number_of) (Tr.sn_mk KX G ?a_judged_so ?l_judged_so ?c_judged_so ?k_judged_so) KX G ?a_law ?l_law ?c_law ?k_law
    (case a_is_number => k_is)
    (case l_is_number => k_is)
    (case c_is_number => k_is)
    (case k_is_number => k_is)
    (case a_is_name => k_is)
    (case l_is_name => k_is)
    (case c_is_name => k_is)
    (case k_is_name => k_is)
    (case a_is_cell => k_is)
    (case l_is_cell => k_is)
    (case c_is_cell => k_is)
    (case k_is_cell => k_is)
    (case a_is_place => k_is)
    (case l_is_place => k_is)
    (case c_is_place => k_is)
    (case k_is_place => k_is)
    (case a_number_in => k_is)
    (case l_number_in => k_is)
    (case c_number_in => k_is)
    (case k_number_in => k_is)
    (case a_bag => k_is)
    (case l_bag => k_is)
    (case c_bag => k_is)
    (case k_bag => k_is)
    (case a_draw => k_is)
    (case l_draw => k_is)
    (case c_draw => k_is)
    (case k_draw => k_is)
    (case a_pick => k_is)
    (case l_pick => k_is)
    (case c_pick => k_is)
    (case k_pick => k_is)
    (case a_same => k_is)
    (case l_same => k_is)
    (case c_same => k_is)
    (case k_same => k_is)
    (case a_odd => k_is)
    (case l_odd => k_is)
    (case c_odd => k_is)
    (case k_odd => k_is)
    (case a_count => k_is)
    (case l_count => k_is)
    (case c_count => k_is)
    (case k_count => k_is)
    (case a_word => k_is)
    (case l_word => k_is)
    (case c_word => k_is)
    (case k_word => k_is)
    (case a_figures => k_is)
    (case l_figures => k_is)
    (case c_figures => k_is)
    (case k_figures => k_is)
    (case a_is_count => k_is)
    (case l_is_count => k_is)
    (case c_is_count => k_is)
    (case k_is_count => k_is)
    (case a_is_tuple => k_is)
    (case l_is_tuple => k_is)
    (case c_is_tuple => k_is)
    (case k_is_tuple => k_is)
    (case a_is_word => k_is)
    (case l_is_word => k_is)
    (case c_is_word => k_is)
    (case k_is_word => k_is)
    (case a_number_of => k_is)
    (case l_number_of => k_is)
    (case c_number_of => k_is)
    (case k_number_of => k_is)
    (case a_judged_so => k_is)
    (case l_judged_so => k_is)
    (case c_judged_so => k_is)
    (case k_judged_so => k_is)
    (case a_law => k_is)
    (case l_law => k_is)
    (case c_law => k_is)
    (case k_law => k_is)
    (case z_all => k_is)
    (case z_bool => k_is)
    (case z_int => k_is)
    (case z_isinstance => k_is)
    (case z_len => k_is)
    (case z_list => k_is)
    (case z_range => k_is)
    (case z_str => k_is)
    (case z_tuple => k_is)
    (case z_zip => k_is)
    (case v_MOST_DIGITS => rfl)
    (case v_MOST_SIDE => rfl)
    (case v_MOST_WINDS => rfl)
#print axioms PySem.Challenge.cw_highestsky_k01_words_judged_holds
