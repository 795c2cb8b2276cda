import PyProof.Rows.All
import Wide.All
import OpenK.AllK
import Wide.FinOn
import HandS.ForMost
import HandS.TupAny
import HandS.IsInst
import HandS.ExcInit
import HandS.Deep
import HandS.Zip
import HandS.TryOnly
import HandS.Replace
import HandS.Exc
import HandS.ExcCtx
import HandS.HotCalls
import HandS.ExcField
import KE.KTryMore
import HandS.ExcValue
import KE.KExcInit
import KE.KExcIs
import HandS.HeadEnd
import HandS.HeadHook4
import HandS.Head2
import PySem.Challenge.RW_highestsky_k00_errors_by_themselves
set_option Elab.async false
set_option linter.all false
set_option maxRecDepth 100000
/-! Tr: values as trees over the hand layer: what is never changed again is a tree, what may still change is a numbered place. -/
namespace Tr
open PySem PySem.Spec PyProof.Rows L2

inductive D where
  | non
  | bl (b : Bool)
  | int (i : Int)
  | str (x : Str)
  | lst (xs : List D)
  | fz (xs : List D)
  | tup (xs : List D)
  | dT (ks : List (List Key)) (vs : List D)
  | dK (ks : List Key) (vs : List D)
  | ins (C : Addr) (ns : List Str) (vs : List D)
  | exc (C : Addr) (ns : List Str) (vs : List D)
  | loc (n : Nat)
  | ref (a : Addr)
  | ty (n : String)
  deriving Inhabited

inductive Cell where
  | lst (xs : List D)
  | dT (ks : List (List Key)) (vs : List D)
  | dK (ks : List Key) (vs : List D)
  | ins (C : Addr) (ns : List Str) (vs : List D)
  deriving Inhabited

abbrev Mu := List (Option Cell)
abbrev Env := List (Option D)
structure Wo where
  am : List Addr
  mu : Mu
  hid : List Addr

def Live (w : Wo) (a : Addr) : Prop := (∃ (n : Nat) (c : Cell), w.am[n]? = some a ∧ w.mu[n]? = some (some c)) ∨ a ∈ w.hid

/-- a list, a tuple of the written part -/
def KT (K : PySem.W.Frag) (a : Addr) (xs : List V) : Prop :=
  ∃ (o : Obj) (its : Array Value) (n : Nat), K.lookup a = some o ∧ o.cls = .type "tuple" ∧ o.data = .seq its n ∧ its.size ≤ sizeLine ∧ Vals xs its.toList
def KL (K : PySem.W.Frag) (a : Addr) (xs : List V) : Prop :=
  ∃ (o : Obj) (its : Array Value) (n : Nat), K.lookup a = some o ∧ o.cls = .type "list" ∧ o.dict = none ∧ o.data = .seq its n ∧ its.size ≤ sizeLine ∧ Vals xs its.toList
/-- a locked list -/
def FzS (K : PySem.W.Frag) (w : Wo) (H : Hp) (a : Addr) (xs : List V) : Prop := (¬ Live w a ∧ ∃ o, H a = some (.frz o (.lst xs))) ∨ KL K a xs
theorem FzS.sq {K : PySem.W.Frag} {w : Wo} {H : Hp} {a : Addr} {xs : List V} (h : FzS K w H a xs) : SqL K H a xs := h.elim (fun x => .inl (.inr x.2)) .inr
def FzL (K : PySem.W.Frag) (w : Wo) (H : Hp) (a : Addr) (xs : List V) : Prop := ¬ Live w a ∧ H a = some (.lst xs)
def FzT (K : PySem.W.Frag) (w : Wo) (H : Hp) (a : Addr) (xs : List V) : Prop := (¬ Live w a ∧ H a = some (.tup xs)) ∨ KT K a xs
theorem FzL.sq {K : PySem.W.Frag} {w : Wo} {H : Hp} {a : Addr} {xs : List V} (h : FzL K w H a xs) : SqL K H a xs := .inl (.inl h.2)
theorem FzT.sq {K : PySem.W.Frag} {w : Wo} {H : Hp} {a : Addr} {xs : List V} (h : FzT K w H a xs) : SqT K H a xs := h.elim (fun x => .inl (.inl x.2)) .inr

/-- the dict of an exception that stands for good -/
def ExD (w : Wo) (H : Hp) : Option Addr → List (Str × V) → Prop
  | none, fs => fs = []
  | some d, fs => ¬ Live w d ∧ H d = some (exd d fs)
mutual
def Rp (K : PySem.W.Frag) (w : Wo) (H : Hp) : D → V → Prop
  | .non, v => v = .non
  | .bl b, v => v = .bl b
  | .int i, v => v = .int i
  | .str x, v => v = .str x
  | .lst ds, v => ∃ a vs, v = .ref a ∧ FzL K w H a vs ∧ RpAll K w H ds vs
  | .fz ds, v => ∃ a vs, v = .ref a ∧ FzS K w H a vs ∧ RpAll K w H ds vs
  | .tup ds, v => ∃ a vs, v = .ref a ∧ FzT K w H a vs ∧ RpAll K w H ds vs
  | .dT ks ds, v => ∃ a kvs, v = .ref a ∧ ¬ Live w a ∧ Rd H a (.dT kvs) ∧ kvs.map (·.1) = ks ∧ RpAll K w H ds (kvs.map (·.2))
  | .dK ks ds, v => ∃ a kvs, v = .ref a ∧ ¬ Live w a ∧ Rd H a (.dK kvs) ∧ kvs.map (·.1) = ks ∧ RpAll K w H ds (kvs.map (·.2))
  | .ins C ns ds, v => ∃ a dx fs, v = .ref a ∧ ¬ Live w a ∧ H a = some (.ins C dx fs) ∧ fs.map (·.1) = ns ∧ RpAll K w H ds (fs.map (·.2))
  | .exc C ns ds, v => ∃ a od fs, v = .ref a ∧ ¬ Live w a ∧ H a = some (exo a C od) ∧ ExD w H od fs ∧ fs.map (·.1) = ns ∧ RpAll K w H ds (fs.map (·.2))
  | .loc n, v => ∃ a, v = .ref a ∧ w.am[n]? = some a
  | .ref a, v => v = .ref a
  | .ty n, v => v = .ty n
def RpAll (K : PySem.W.Frag) (w : Wo) (H : Hp) : List D → List V → Prop
  | [], vs => vs = []
  | d :: ds, vs => ∃ v r, vs = v :: r ∧ Rp K w H d v ∧ RpAll K w H ds r
end

def CellR (K : PySem.W.Frag) (w : Wo) (H : Hp) (a : Addr) : Cell → Prop
  | .lst ds => ∃ vs, H a = some (.lst vs) ∧ RpAll K w H ds vs
  | .dT ks ds => ∃ kvs, H a = some (.dT kvs) ∧ kvs.map (·.1) = ks ∧ RpAll K w H ds (kvs.map (·.2))
  | .dK ks ds => ∃ kvs, H a = some (.dK kvs) ∧ kvs.map (·.1) = ks ∧ RpAll K w H ds (kvs.map (·.2))
  | .ins C ns ds => ∃ dx fs, H a = some (.ins C dx fs) ∧ fs.map (·.1) = ns ∧ RpAll K w H ds (fs.map (·.2))

/-- what stands for good still stands -/
structure Kp (w : Wo) (H : Hp) (w' : Wo) (H' : Hp) : Prop where
  pre : ∃ m, w'.am = w.am ++ m
  keep : ∀ a o, H a = some o → ¬ Live w a → H' a = some o ∧ ¬ Live w' a
/-- from w, H the run has come to w', H' -/
structure Ev (w : Wo) (H : Hp) (w' : Wo) (H' : Hp) : Prop extends Kp w H w' H' where
  hd : w'.hid = w.hid
  hk : ∀ a, a ∈ w.hid → H' a = H a

structure Gd (K : PySem.W.Frag) (w : Wo) (H : Hp) : Prop where
  len : w.am.length = w.mu.length
  nd : w.am.Nodup
  trk : ∀ a, a ∈ w.am ++ w.hid → H a ≠ none
  apart : ∀ a, a ∈ w.am → a ∉ w.hid
  cell : ∀ (n : Nat) (a : Addr) (c : Cell), w.am[n]? = some a → w.mu[n]? = some (some c) → CellR K w H a c

section
variable {K : PySem.W.Frag} {w w' w'' : Wo} {H H' H'' : Hp}
theorem Kp.refl : Kp w H w H := ⟨⟨[], by simp⟩, fun _ _ h l => ⟨h, l⟩⟩
theorem Kp.trans (e : Kp w H w' H') (f : Kp w' H' w'' H'') : Kp w H w'' H'' := by
  obtain ⟨m, hm⟩ := e.pre
  obtain ⟨n, hn⟩ := f.pre
  refine ⟨⟨m ++ n, by rw [hn, hm, List.append_assoc]⟩, fun a o h l => ?_⟩
  obtain ⟨h1, l1⟩ := e.keep a o h l
  exact f.keep a o h1 l1
theorem Ev.refl : Ev w H w H := ⟨Kp.refl, rfl, fun _ _ => rfl⟩
theorem Ev.trans (e : Ev w H w' H') (f : Ev w' H' w'' H'') : Ev w H w'' H'' :=
  ⟨e.toKp.trans f.toKp, f.hd.trans e.hd, fun a ha => (f.hk a (by rw [e.hd]; exact ha)).trans (e.hk a ha)⟩
theorem Kp.amk {n : Nat} {a : Addr} (e : Kp w H w' H') (h : w.am[n]? = some a) : w'.am[n]? = some a := by
  obtain ⟨m, hm⟩ := e.pre
  rw [hm, List.getElem?_append_left (List.getElem?_eq_some_iff.mp h).1]
  exact h
theorem Kp.rd {a : Addr} {u : HO} (e : Kp w H w' H') (l : ¬ Live w a) (h : Rd H a u) : ¬ Live w' a ∧ Rd H' a u := by
  rcases h with h | ⟨o, h⟩
  · exact ⟨(e.keep _ _ h l).2, .inl (e.keep _ _ h l).1⟩
  · exact ⟨(e.keep _ _ h l).2, .inr ⟨o, (e.keep _ _ h l).1⟩⟩
theorem Kp.fzL {a : Addr} {vs : List V} (e : Kp w H w' H') (h : FzL K w H a vs) : FzL K w' H' a vs := ⟨(e.keep _ _ h.2 h.1).2, (e.keep _ _ h.2 h.1).1⟩
theorem Kp.fzS {a : Addr} {vs : List V} (e : Kp w H w' H') (h : FzS K w H a vs) : FzS K w' H' a vs := h.elim (fun x => .inl (x.2.elim fun o h => ⟨(e.keep _ _ h x.1).2, o, (e.keep _ _ h x.1).1⟩)) .inr
theorem Kp.exD {od : Option Addr} {fs : List (Str × V)} (e : Kp w H w' H') (h : ExD w H od fs) : ExD w' H' od fs := by
  cases od with
  | none => exact h
  | some d => exact ⟨(e.keep _ _ h.2 h.1).2, (e.keep _ _ h.2 h.1).1⟩
theorem Kp.fzT {a : Addr} {vs : List V} (e : Kp w H w' H') (h : FzT K w H a vs) : FzT K w' H' a vs := h.elim (fun x => .inl ⟨(e.keep _ _ x.2 x.1).2, (e.keep _ _ x.2 x.1).1⟩) .inr
mutual
theorem Rp.mono (e : Kp w H w' H') : ∀ (d : D) (v : V), Rp K w H d v → Rp K w' H' d v
  | .non, _, h => h
  | .bl _, _, h => h
  | .int _, _, h => h
  | .str _, _, h => h
  | .lst ds, _, ⟨a, vs, h1, h2, h3⟩ => ⟨a, vs, h1, e.fzL h2, RpAll.mono e ds vs h3⟩
  | .fz ds, _, ⟨a, vs, h1, h2, h3⟩ => ⟨a, vs, h1, e.fzS h2, RpAll.mono e ds vs h3⟩
  | .tup ds, _, ⟨a, vs, h1, h2, h3⟩ => ⟨a, vs, h1, e.fzT h2, RpAll.mono e ds vs h3⟩
  | .dT ks ds, _, ⟨a, kvs, h1, h2, h3, h4, h5⟩ => ⟨a, kvs, h1, (e.rd h2 h3).1, (e.rd h2 h3).2, h4, RpAll.mono e ds _ h5⟩
  | .dK ks ds, _, ⟨a, kvs, h1, h2, h3, h4, h5⟩ => ⟨a, kvs, h1, (e.rd h2 h3).1, (e.rd h2 h3).2, h4, RpAll.mono e ds _ h5⟩
  | .ins C ns ds, _, ⟨a, dx, fs, h1, h2, h3, h4, h5⟩ => ⟨a, dx, fs, h1, (e.keep _ _ h3 h2).2, (e.keep _ _ h3 h2).1, h4, RpAll.mono e ds _ h5⟩
  | .exc C ns ds, _, ⟨a, od, fs, h1, h2, h3, h4, h5, h6⟩ => ⟨a, od, fs, h1, (e.keep _ _ h3 h2).2, (e.keep _ _ h3 h2).1, e.exD h4, h5, RpAll.mono e ds _ h6⟩
  | .loc n, _, ⟨a, h1, h2⟩ => ⟨a, h1, e.amk h2⟩
  | .ref _, _, h => h
  | .ty _, _, h => h
theorem RpAll.mono (e : Kp w H w' H') : ∀ (ds : List D) (vs : List V), RpAll K w H ds vs → RpAll K w' H' ds vs
  | [], _, h => h
  | d :: ds, _, ⟨v, r, h1, h2, h3⟩ => ⟨v, r, h1, Rp.mono e d v h2, RpAll.mono e ds r h3⟩
end
theorem RpAll.length : ∀ {ds : List D} {vs : List V}, RpAll K w H ds vs → vs.length = ds.length
  | [], _, h => by rw [show _ = [] from h]; rfl
  | d :: ds, _, ⟨v, r, h1, h2, h3⟩ => by rw [h1, List.length_cons, List.length_cons, RpAll.length h3]
theorem RpAll.get : ∀ {ds : List D} {vs : List V} {i : Nat} {v : V}, RpAll K w H ds vs → vs[i]? = some v → ∃ d, ds[i]? = some d ∧ Rp K w H d v
  | [], _, i, v, h, e => by rw [show _ = [] from h] at e; simp at e
  | d :: ds, _, 0, v, ⟨x, r, h1, h2, h3⟩, e => by subst h1; simp at e; subst e; exact ⟨d, rfl, h2⟩
  | d :: ds, _, i + 1, v, ⟨x, r, h1, h2, h3⟩, e => by
    subst h1
    obtain ⟨d', e1, e2⟩ := RpAll.get (i := i) h3 (by simpa using e)
    exact ⟨d', by simpa using e1, e2⟩
theorem RpAll.get' : ∀ {ds : List D} {vs : List V} {i : Nat} {d : D}, RpAll K w H ds vs → ds[i]? = some d → ∃ v, vs[i]? = some v ∧ Rp K w H d v
  | [], _, i, v, h, e => by simp at e
  | d :: ds, _, 0, v, ⟨x, r, h1, h2, h3⟩, e => by subst h1; simp at e; subst e; exact ⟨x, rfl, h2⟩
  | d :: ds, _, i + 1, v, ⟨x, r, h1, h2, h3⟩, e => by
    subst h1
    obtain ⟨d', e1, e2⟩ := RpAll.get' (i := i) h3 (by simpa using e)
    exact ⟨d', by simpa using e1, e2⟩
theorem RpAll.append : ∀ {ds es : List D} {vs us : List V}, RpAll K w H ds vs → RpAll K w H es us → RpAll K w H (ds ++ es) (vs ++ us)
  | [], _, _, _, h, g => by rw [show _ = [] from h]; exact g
  | d :: ds, _, _, _, ⟨v, r, h1, h2, h3⟩, g => by subst h1; exact ⟨v, r ++ _, rfl, h2, RpAll.append h3 g⟩
theorem RpAll.set : ∀ {ds : List D} {vs : List V} {d : D} {v : V} (i : Nat), RpAll K w H ds vs → Rp K w H d v → RpAll K w H (ds.set i d) (vs.set i v)
  | [], _, _, _, _, h, _ => by rw [show _ = [] from h]; exact rfl
  | e :: ds, _, _, _, 0, ⟨x, r, h1, h2, h3⟩, g => by subst h1; exact ⟨_, _, rfl, g, h3⟩
  | e :: ds, _, _, _, i + 1, ⟨x, r, h1, h2, h3⟩, g => by subst h1; exact ⟨_, _, rfl, h2, RpAll.set i h3 g⟩
theorem RpAll.drop : ∀ {ds : List D} {vs : List V} (n : Nat), RpAll K w H ds vs → RpAll K w H (ds.drop n) (vs.drop n)
  | _, _, 0, h => h
  | [], _, n + 1, h => by rw [show _ = [] from h]; exact rfl
  | e :: ds, _, n + 1, ⟨x, r, h1, h2, h3⟩ => by subst h1; exact RpAll.drop n h3
theorem RpAll.take : ∀ {ds : List D} {vs : List V} (n : Nat), RpAll K w H ds vs → RpAll K w H (ds.take n) (vs.take n)
  | [], _, 0, h => rfl
  | _ :: _, _, 0, h => rfl
  | [], _, n + 1, h => by rw [show _ = [] from h]; exact rfl
  | e :: ds, _, n + 1, ⟨x, r, h1, h2, h3⟩ => by subst h1; exact ⟨_, _, rfl, h2, RpAll.take n h3⟩
theorem RpAll.ofMem : ∀ {ds : List D} {vs : List V}, vs.length = ds.length → (∀ (i : Nat) (d : D) (v : V), ds[i]? = some d → vs[i]? = some v → Rp K w H d v) → RpAll K w H ds vs
  | [], [], _, _ => rfl
  | [], _ :: _, h, _ => by simp at h
  | _ :: _, [], h, _ => by simp at h
  | d :: ds, v :: vs, h, g => ⟨v, vs, rfl, g 0 d v rfl rfl, RpAll.ofMem (by simpa using h) fun i d' v' e1 e2 => g (i + 1) d' v' (by simpa using e1) (by simpa using e2)⟩

theorem Gd.no {a : Addr} (g : Gd K w H) (h : H a = none) : a ∉ w.am := fun z => g.trk a (List.mem_append_left _ z) h
theorem Gd.noh {a : Addr} (g : Gd K w H) (h : H a = none) : a ∉ w.hid := fun z => g.trk a (List.mem_append_right _ z) h
theorem Gd.dead {a : Addr} (g : Gd K w H) (h : H a = none) : ¬ Live w a := fun l => l.elim (fun ⟨_, _, e, _⟩ => g.no h (List.mem_of_getElem? e)) (g.noh h)
/-- a new thing that is not to change -/
theorem Ev.new {p : Addr} {o : HO} (g : Gd K w H) (h : H p = none) : Ev w H w (upd H p o) :=
  ⟨⟨⟨[], by simp⟩, fun a u e l => ⟨by rw [upd_ne (ne_of_none e h)]; exact e, l⟩⟩, rfl, fun a ha => upd_ne fun z => g.noh h (z ▸ ha)⟩
theorem CellR.mono {a : Addr} {c : Cell} (e : Kp w H w' H') (ha : H' a = H a) (h : CellR K w H a c) : CellR K w' H' a c := by
  cases c with
  | lst ds => obtain ⟨vs, h1, h2⟩ := h; exact ⟨vs, ha.trans h1, RpAll.mono e _ _ h2⟩
  | dT ks ds => obtain ⟨vs, h1, h0, h2⟩ := h; exact ⟨vs, ha.trans h1, h0, RpAll.mono e _ _ h2⟩
  | dK ks ds => obtain ⟨vs, h1, h0, h2⟩ := h; exact ⟨vs, ha.trans h1, h0, RpAll.mono e _ _ h2⟩
  | ins C ns ds => obtain ⟨dx, vs, h1, h0, h2⟩ := h; exact ⟨dx, vs, ha.trans h1, h0, RpAll.mono e _ _ h2⟩
theorem Gd.new {p : Addr} {o : HO} (g : Gd K w H) (h : H p = none) : Gd K w (upd H p o) := by
  refine ⟨g.len, g.nd, fun a ha => ?_, g.apart, fun n a c e1 e2 => ?_⟩
  · by_cases q : a = p
    · subst q; rw [upd_same]; simp
    · rw [upd_ne q]; exact g.trk a ha
  · have q : a ≠ p := fun z => g.no h (by rw [← z]; exact List.mem_of_getElem? e1)
    exact (g.cell n a c e1 e2).mono (Ev.new g h).toKp (upd_ne q)
/-- a new thing that may change -/
def Wo.add (w : Wo) (p : Addr) (c : Cell) : Wo := ⟨w.am ++ [p], w.mu ++ [some c], w.hid⟩
theorem add_get {l : List Addr} {p a : Addr} {n : Nat} (h : (l ++ [p])[n]? = some a) : (n < l.length ∧ l[n]? = some a) ∨ (n = l.length ∧ a = p) := by
  by_cases hn : n < l.length
  · rw [List.getElem?_append_left hn] at h; exact .inl ⟨hn, h⟩
  · rw [List.getElem?_append_right (by omega)] at h
    cases q : n - l.length with
    | zero => rw [q] at h; simp at h; exact .inr ⟨by omega, h.symm⟩
    | succ m => rw [q] at h; simp at h
theorem Ev.add {p : Addr} {o : HO} {c : Cell} (g : Gd K w H) (h : H p = none) : Ev w H (w.add p c) (upd H p o) := by
  refine ⟨⟨⟨[p], rfl⟩, fun a u e l => ⟨by rw [upd_ne (ne_of_none e h)]; exact e, ?_⟩⟩, rfl, fun a ha => upd_ne fun z => g.noh h (z ▸ ha)⟩
  rintro (⟨n, c', e1, e2⟩ | hh)
  · have e2 : (w.mu ++ [some c])[n]? = some (some c') := e2
    rcases add_get (l := w.am) e1 with ⟨hn, e1⟩ | ⟨_, e1⟩
    · rw [List.getElem?_append_left (by rw [← g.len]; exact hn)] at e2
      exact l (.inl ⟨n, c', e1, e2⟩)
    · exact ne_of_none e h e1
  · exact l (.inr hh)
theorem Gd.add {p : Addr} {o : HO} {c : Cell} (g : Gd K w H) (h : H p = none) (hc : CellR K (w.add p c) (upd H p o) p c) : Gd K (w.add p c) (upd H p o) := by
  refine ⟨by simp [Wo.add, g.len], ?_, fun a ha => ?_, fun a ha => ?_, fun n a c' e1 e2 => ?_⟩
  · show (w.am ++ [p]).Nodup
    rw [List.nodup_append]
    refine ⟨g.nd, by simp, fun a ha b hb => ?_⟩
    simp at hb; subst hb
    exact fun z => g.no h (z ▸ ha)
  · by_cases q : a = p
    · subst q; rw [upd_same]; simp
    · rw [upd_ne q]
      have : a ∈ (w.am ++ [p]) ++ w.hid := ha
      refine g.trk a ?_
      simp [q] at this
      simpa using this
  · have : a ∈ w.am ++ [p] := ha
    rcases List.mem_append.mp this with z | z
    · exact g.apart a z
    · simp at z; subst z; exact g.noh h
  · have e2 : (w.mu ++ [some c])[n]? = some (some c') := e2
    rcases add_get (l := w.am) e1 with ⟨hn, e1⟩ | ⟨hn, e1⟩
    · rw [List.getElem?_append_left (by rw [← g.len]; exact hn)] at e2
      have q : a ≠ p := fun z => g.no h (by rw [← z]; exact List.mem_of_getElem? e1)
      exact (g.cell n a c' e1 e2).mono (Ev.add g h).toKp (upd_ne q)
    · rw [List.getElem?_append_right (by rw [← g.len]; omega), ← g.len, hn] at e2
      simp at e2
      rw [← e2, e1]; exact hc
/-- a place that may change is changed -/
def Wo.put (w : Wo) (n : Nat) (c : Cell) : Wo := ⟨w.am, w.mu.set n (some c), w.hid⟩
theorem Kp.put {n : Nat} {a : Addr} {o : HO} {c c' : Cell} (e1 : w.am[n]? = some a) (e2 : w.mu[n]? = some (some c)) : Kp w H (w.put n c') (upd H a o) := by
  have la : Live w a := .inl ⟨n, c, e1, e2⟩
  refine ⟨⟨[], by simp [Wo.put]⟩, fun b u e l => ⟨?_, ?_⟩⟩
  · rw [upd_ne (fun z => l (by rw [z]; exact la))]; exact e
  · rintro (⟨m, d, f1, f2⟩ | hh)
    · have f2 : (w.mu.set n (some c'))[m]? = some (some d) := f2
      by_cases q : m = n
      · subst q
        cases Option.some.inj (e1.symm.trans f1)
        exact l la
      · rw [List.getElem?_set_ne (Ne.symm q)] at f2
        exact l (.inl ⟨m, d, f1, f2⟩)
    · exact l (.inr hh)
theorem Ev.put {n : Nat} {a : Addr} {o : HO} {c c' : Cell} (g : Gd K w H) (e1 : w.am[n]? = some a) (e2 : w.mu[n]? = some (some c)) : Ev w H (w.put n c') (upd H a o) :=
  ⟨Kp.put e1 e2, rfl, fun b hb => upd_ne fun z => g.apart a (List.mem_of_getElem? e1) (z ▸ hb)⟩
theorem nodup_get {α : Type} {l : List α} (h : l.Nodup) {i j : Nat} {x : α} (a : l[i]? = some x) (b : l[j]? = some x) : i = j := by
  obtain ⟨h1, e1⟩ := List.getElem?_eq_some_iff.mp a
  obtain ⟨h2, e2⟩ := List.getElem?_eq_some_iff.mp b
  exact (List.getElem_inj h).mp (e1.trans e2.symm)
theorem Gd.put {n : Nat} {a : Addr} {o : HO} {c c' : Cell} (g : Gd K w H) (e1 : w.am[n]? = some a) (e2 : w.mu[n]? = some (some c)) (hc : CellR K (w.put n c') (upd H a o) a c') : Gd K (w.put n c') (upd H a o) := by
  refine ⟨by simp [Wo.put, g.len], g.nd, fun b hb => ?_, g.apart, fun m b d f1 f2 => ?_⟩
  · by_cases q : b = a
    · subst q; rw [upd_same]; simp
    · rw [upd_ne q]; exact g.trk b hb
  · have f2 : (w.mu.set n (some c'))[m]? = some (some d) := f2
    by_cases q : m = n
    · subst q
      cases Option.some.inj (e1.symm.trans f1)
      rw [List.getElem?_set_self (List.getElem?_eq_some_iff.mp e2).1] at f2
      cases f2
      exact hc
    · rw [List.getElem?_set_ne (Ne.symm q)] at f2
      have nb : b ≠ a := fun z => q (nodup_get g.nd (show w.am[m]? = some a from z ▸ f1) e1)
      exact (g.cell m b d f1 f2).mono (Kp.put e1 e2) (upd_ne nb)
/-- a place that may change is let stand for good -/
def Wo.fix (w : Wo) (n : Nat) : Wo := ⟨w.am, w.mu.set n none, w.hid⟩
theorem fix_get {m n : Nat} {l : Mu} {d : Cell} (f2 : (l.set n none)[m]? = some (some d)) : m ≠ n ∧ l[m]? = some (some d) := by
  by_cases q : m = n
  · subst q
    rw [List.getElem?_set] at f2
    split at f2
    · split at f2 <;> cases f2
    · rename_i z; exact absurd rfl z
  · rw [List.getElem?_set_ne (Ne.symm q)] at f2
    exact ⟨q, f2⟩
theorem Live.fix {n : Nat} {b : Addr} (l : Live (w.fix n) b) : Live w b := l.elim (fun ⟨m, d, f1, f2⟩ => .inl ⟨m, d, f1, (fix_get (l := w.mu) f2).2⟩) .inr
theorem Ev.fix {n : Nat} : Ev w H (w.fix n) H := ⟨⟨⟨[], by simp [Wo.fix]⟩, fun _ _ e l => ⟨e, fun z => l z.fix⟩⟩, rfl, fun _ _ => rfl⟩
theorem Gd.fix {n : Nat} (g : Gd K w H) : Gd K (w.fix n) H :=
  ⟨by simp [Wo.fix, g.len], g.nd, g.trk, g.apart, fun m b d f1 f2 => (g.cell m b d f1 (fix_get (l := w.mu) f2).2).mono Ev.fix.toKp rfl⟩
theorem fix_dead {n : Nat} {a : Addr} (g : Gd K w H) (e1 : w.am[n]? = some a) : ¬ Live (w.fix n) a := by
  rintro (⟨m, d, f1, f2⟩ | hh)
  · exact (fix_get (l := w.mu) f2).1 (nodup_get g.nd f1 e1)
  · exact g.apart a (List.mem_of_getElem? e1) hh
/-- a new thing that is hidden for a while, and let stand for good behind it -/
def Wo.hide (w : Wo) (p : Addr) : Wo := ⟨w.am, w.mu, p :: w.hid⟩
theorem Kp.hide {p : Addr} {o : HO} (h : H p = none) : Kp w H (w.hide p) (upd H p o) := by
  refine ⟨⟨[], by simp [Wo.hide]⟩, fun a u e l => ⟨by rw [upd_ne (ne_of_none e h)]; exact e, ?_⟩⟩
  rintro (x | x)
  · exact l (.inl x)
  · rcases List.mem_cons.mp (show a ∈ p :: w.hid from x) with z | z
    · exact ne_of_none e h z
    · exact l (.inr z)
theorem Gd.hide {p : Addr} {o : HO} (g : Gd K w H) (h : H p = none) : Gd K (w.hide p) (upd H p o) := by
  refine ⟨g.len, g.nd, fun a ha => ?_, fun a ha hh => ?_, fun n a c e1 e2 => ?_⟩
  · by_cases q : a = p
    · subst q; rw [upd_same]; simp
    · rw [upd_ne q]
      have : a ∈ w.am ++ p :: w.hid := ha
      refine g.trk a ?_
      simp [q] at this
      simpa using this
  · rcases List.mem_cons.mp (show a ∈ p :: w.hid from hh) with z | z
    · exact g.no h (z ▸ ha)
    · exact g.apart a ha z
  · have q : a ≠ p := fun z => g.no h (by rw [← z]; exact List.mem_of_getElem? e1)
    exact (g.cell n a c e1 e2).mono (Kp.hide h) (upd_ne q)
end

/-! ### the slots -/
def EnvR (K : PySem.W.Frag) (w : Wo) (H : Hp) (ρ : Env) (σ : L2.St) : Prop := ρ.length = σ.length ∧ ∀ (i : Nat) (d : D), ρ[i]? = some (some d) → ∃ v, σ[i]? = some (some v) ∧ Rp K w H d v
section
variable {K : PySem.W.Frag} {w w' : Wo} {H H' : Hp} {ρ : Env} {σ : L2.St}
theorem EnvR.mono (r : EnvR K w H ρ σ) (e : Kp w H w' H') : EnvR K w' H' ρ σ := ⟨r.1, fun i d h => let ⟨v, a, b⟩ := r.2 i d h; ⟨v, a, Rp.mono e d v b⟩⟩
theorem EnvR.set {d : D} {v : V} (i : Nat) (r : EnvR K w H ρ σ) (h : Rp K w H d v) : EnvR K w H (ρ.set i (some d)) (σ.set i (some v)) := by
  refine ⟨by simp [r.1], fun j e hj => ?_⟩
  by_cases q : j = i
  · subst q
    by_cases hl : j < ρ.length
    · rw [List.getElem?_set_self hl] at hj
      cases hj
      exact ⟨v, by rw [List.getElem?_set_self (by rw [← r.1]; exact hl)], h⟩
    · rw [List.getElem?_eq_none (by simpa using hl)] at hj; cases hj
  · rw [List.getElem?_set_ne (Ne.symm q)] at hj
    obtain ⟨v', a, b⟩ := r.2 j e hj
    exact ⟨v', by rw [List.getElem?_set_ne (Ne.symm q)]; exact a, b⟩
def wipeD (ρ : Env) : List Nat → Env
  | [] => ρ
  | v :: vs => (wipeD ρ vs).set v none
theorem EnvR.wipe (r : EnvR K w H ρ σ) : ∀ vs : List Nat, EnvR K w H (wipeD ρ vs) (L2.wipe σ vs)
  | [] => r
  | v :: vs => by
    have ih := EnvR.wipe r vs
    refine ⟨by simp [wipeD, L2.wipe, ih.1], fun j e hj => ?_⟩
    have hj : ((wipeD ρ vs).set v none)[j]? = some (some e) := hj
    by_cases q : j = v
    · subst q
      rw [List.getElem?_set] at hj
      split at hj
      · split at hj <;> cases hj
      · rename_i z; exact absurd rfl z
    · rw [List.getElem?_set_ne (Ne.symm q)] at hj
      obtain ⟨v', a, b⟩ := ih.2 j e hj
      exact ⟨v', by show ((L2.wipe σ vs).set v none)[j]? = _; rw [List.getElem?_set_ne (Ne.symm q)]; exact a, b⟩
end
end Tr
set_option Elab.async false
set_option linter.all false
set_option maxRecDepth 100000
namespace Tr
open PySem PySem.Spec PyProof.Rows L2

/-! ### what is wanted behind an expression, over trees -/
abbrev KD := D → Mu → Prop
abbrev KB := Bool → Mu → Prop
abbrev KA := List D → Mu → Prop
abbrev ET := Env → Mu → KD → Prop
abbrev BT := Env → Mu → KB → Prop
abbrev AT := Env → Mu → KA → Prop
abbrev R1D := D → Mu → KD → Prop
abbrev R2D := D → D → Mu → KD → Prop
abbrev RAD := List D → Mu → KD → Prop

def Fin (K : PySem.W.Frag) (w : Wo) (H : Hp) (P : KD) (Q : VK) : Prop := ∀ d v w' H', Ev w H w' H' → Gd K w' H' → Rp K w' H' d v → P d w'.mu → Q v H'
def FinB (K : PySem.W.Frag) (w : Wo) (H : Hp) (P : KB) (Q : Bool → Hp → Prop) : Prop := ∀ b w' H', Ev w H w' H' → Gd K w' H' → P b w'.mu → Q b H'
def FinA (K : PySem.W.Frag) (w : Wo) (H : Hp) (P : KA) (Q : List V → Hp → Prop) : Prop := ∀ ds vs w' H', Ev w H w' H' → Gd K w' H' → RpAll K w' H' ds vs → P ds w'.mu → Q vs H'
section
variable {K : PySem.W.Frag} {w w' : Wo} {H H' : Hp}
theorem Fin.mono {P : KD} {Q : VK} (f : Fin K w H P Q) (e : Ev w H w' H') : Fin K w' H' P Q := fun d v w2 H2 e2 g r p => f d v w2 H2 (e.trans e2) g r p
theorem FinB.mono {P : KB} {Q : Bool → Hp → Prop} (f : FinB K w H P Q) (e : Ev w H w' H') : FinB K w' H' P Q := fun d w2 H2 e2 g p => f d w2 H2 (e.trans e2) g p
theorem FinA.mono {P : KA} {Q : List V → Hp → Prop} (f : FinA K w H P Q) (e : Ev w H w' H') : FinA K w' H' P Q := fun d v w2 H2 e2 g r p => f d v w2 H2 (e.trans e2) g r p
theorem Fin.now {P : KD} {Q : VK} {d : D} {v : V} (f : Fin K w H P Q) (g : Gd K w H) (r : Rp K w H d v) (p : P d w.mu) : Q v H := f d v w H Ev.refl g r p
theorem Fin.int {P : KD} {Q : VK} {i : Int} (f : Fin K w H P Q) (g : Gd K w H) (p : P (.int i) w.mu) : Q (.int i) H := f (.int i) _ w H Ev.refl g rfl p
theorem Fin.st {P : KD} {Q : VK} {i : Str} (f : Fin K w H P Q) (g : Gd K w H) (p : P (.str i) w.mu) : Q (.str i) H := f (.str i) _ w H Ev.refl g rfl p
theorem Fin.bl {P : KD} {Q : VK} {i : Bool} (f : Fin K w H P Q) (g : Gd K w H) (p : P (.bl i) w.mu) : Q (.bl i) H := f (.bl i) _ w H Ev.refl g rfl p
theorem Fin.non {P : KD} {Q : VK} (f : Fin K w H P Q) (g : Gd K w H) (p : P .non w.mu) : Q .non H := f .non _ w H Ev.refl g rfl p
/-- a new thing that stands for good -/
theorem Fin.fresh {P : KD} {Q : VK} {d : D} {p : Addr} {o : HO} (f : Fin K w H P Q) (g : Gd K w H) (h : H p = none) (r : Gd K w (upd H p o) → ¬ Live w p → Rp K w (upd H p o) d (.ref p)) (q : P d w.mu) : Q (.ref p) (upd H p o) :=
  f d _ w _ (Ev.new g h) (g.new h) (r (g.new h) (g.dead h)) q
theorem rp_lst {p : Addr} {ds : List D} {vs : List V} (l : ¬ Live w p) (g : Gd K w H) (h : H p = none) (r : RpAll K w H ds vs) : Rp K w (upd H p (.lst vs)) (.lst ds) (.ref p) :=
  ⟨p, vs, rfl, ⟨l, upd_same⟩, RpAll.mono (Ev.new g h).toKp _ _ r⟩
theorem rp_tup {p : Addr} {ds : List D} {vs : List V} (l : ¬ Live w p) (g : Gd K w H) (h : H p = none) (r : RpAll K w H ds vs) : Rp K w (upd H p (.tup vs)) (.tup ds) (.ref p) :=
  ⟨p, vs, rfl, .inl ⟨l, upd_same⟩, RpAll.mono (Ev.new g h).toKp _ _ r⟩
theorem Fin.lst {P : KD} {Q : VK} {ds : List D} {vs : List V} {p : Addr} (f : Fin K w H P Q) (g : Gd K w H) (h : H p = none) (r : RpAll K w H ds vs) (q : P (.lst ds) w.mu) : Q (.ref p) (upd H p (.lst vs)) :=
  f _ _ w _ (Ev.new g h) (g.new h) (rp_lst (g.dead h) g h r) q
theorem Fin.tup {P : KD} {Q : VK} {ds : List D} {vs : List V} {p : Addr} (f : Fin K w H P Q) (g : Gd K w H) (h : H p = none) (r : RpAll K w H ds vs) (q : P (.tup ds) w.mu) : Q (.ref p) (upd H p (.tup vs)) :=
  f _ _ w _ (Ev.new g h) (g.new h) (rp_tup (g.dead h) g h r) q
end

def LE (K : PySem.W.Frag) (t : ET) : TE := fun σ H Q => ∃ w ρ P, Gd K w H ∧ EnvR K w H ρ σ ∧ t ρ w.mu P ∧ Fin K w H P Q
def LB (K : PySem.W.Frag) (t : BT) : TT := fun σ H Q => ∃ w ρ P, Gd K w H ∧ EnvR K w H ρ σ ∧ t ρ w.mu P ∧ FinB K w H P Q
def LA (K : PySem.W.Frag) (t : AT) : TA := fun σ H Q => ∃ w ρ P, Gd K w H ∧ EnvR K w H ρ σ ∧ t ρ w.mu P ∧ FinA K w H P Q

section
variable {X : Cx} {a b c e o : Expr} {es : List Expr} {pos : Pos} {ta tb tc te : ET} {sa : AT} {qa qb : BT}
theorem te_of {t0 : TE} {t : ET} (h : PE X e t0) (i : ∀ σ H Q, LE X.K t σ H Q → t0 σ H Q) : PE X e (LE X.K t) := ⟨fun pins s σ H Q I q => h.run pins s σ H Q I (i σ H Q q)⟩
theorem tb_of {t0 : TT} {t : BT} (h : PT X e t0) (i : ∀ σ H Q, LB X.K t σ H Q → t0 σ H Q) : PT X e (LB X.K t) := ⟨fun pins s σ H Q I q => h.run pins s σ H Q I (i σ H Q q)⟩
theorem tw_of {t0 : TT} {t : BT} (h : PW X e t0) (i : ∀ σ H Q, LB X.K t σ H Q → t0 σ H Q) : PW X e (LB X.K t) := ⟨fun wh pins s σ H Q I q => h.run wh pins s σ H Q I (i σ H Q q)⟩
theorem ta_of {t0 : TA} {t : AT} (h : PA X es t0) (i : ∀ σ H Q, LA X.K t σ H Q → t0 σ H Q) : PA X es (LA X.K t) := ⟨fun p pins s σ H Q I q => h.run p pins s σ H Q I (i σ H Q q)⟩

/-! ### names, constants -/
def eVar (i : Nat) : ET := fun ρ μ P => match ρ[i]? with
  | some (some d) => P d μ
  | _ => False
theorem te_var {i : Nat} (h : PE X e (tVar i)) : PE X e (LE X.K (eVar i)) := te_of h fun σ H Q ⟨w, ρ, P, g, r, t, f⟩ => by
  unfold eVar at t
  split at t
  · rename_i d hd
    obtain ⟨v, h1, h2⟩ := r.2 i d hd
    exact ⟨v, h1, f.now g h2 t⟩
  · exact t.elim
def eC (d : D) : ET := fun _ μ P => P d μ
theorem te_int {i : Int} {j} : PE X (.Constant (.int i) j pos) (LE X.K (eC (.int i))) := te_of pe_int fun σ H Q ⟨w, ρ, P, g, r, t, f⟩ => f.now g (show Rp X.K w H (.int i) (.int i) from rfl) t
theorem te_bl {i : Bool} {j} : PE X (.Constant (.bool i) j pos) (LE X.K (eC (.bl i))) := te_of pe_bl fun σ H Q ⟨w, ρ, P, g, r, t, f⟩ => f.now g (show Rp X.K w H (.bl i) (.bl i) from rfl) t
theorem te_non {j} : PE X (.Constant .none j pos) (LE X.K (eC .non)) := te_of pe_non fun σ H Q ⟨w, ρ, P, g, r, t, f⟩ => f.now g (show Rp X.K w H .non .non from rfl) t
theorem te_str {i : Str} {j} : PE X (.Constant (.str i) j pos) (LE X.K (eC (.str i))) := te_of pe_str fun σ H Q ⟨w, ρ, P, g, r, t, f⟩ => f.now g (show Rp X.K w H (.str i) (.str i) from rfl) t
theorem te_c {v : V} {d : D} (h : PE X e (tC v)) (r : ∀ w H, Rp X.K w H d v) : PE X e (LE X.K (eC d)) := te_of h fun σ H Q ⟨w, ρ, P, g, _, t, f⟩ => f.now g (r w H) t

/-! ### two operands -/
def OpD (K : PySem.W.Frag) (r : R2) (rd : R2D) : Prop := ∀ w H x y dx dy P Q, Gd K w H → Rp K w H dx x → Rp K w H dy y → rd dx dy w.mu P → Fin K w H P Q → r x y H Q
def eOp (rd : R2D) (ta tb : ET) : ET := fun ρ μ P => ta ρ μ fun x μ1 => tb ρ μ1 fun y μ2 => rd x y μ2 P
theorem lift_op {K : PySem.W.Frag} {r : R2} {rd : R2D} (h : OpD K r rd) (σ : L2.St) (H : Hp) (Q : VK) (q : LE K (eOp rd ta tb) σ H Q) : tOp r (LE K ta) (LE K tb) σ H Q := by
  obtain ⟨w, ρ, P, g, er, t, f⟩ := q
  refine ⟨w, ρ, _, g, er, t, fun x v w1 H1 e1 g1 r1 t1 => ?_⟩
  refine ⟨w1, ρ, _, g1, er.mono e1.toKp, t1, fun y u w2 H2 e2 g2 r2 t2 => ?_⟩
  exact h w2 H2 v u x y P Q g2 (Rp.mono e2.toKp _ _ r1) r2 t2 (f.mono (e1.trans e2))
theorem te_op {op : Operator} {r : R2} {rd : R2D} (ho : OpR X (binaryOp op) r) (hd : OpD X.K r rd) (ha : PE X a (LE X.K ta)) (hb : PE X b (LE X.K tb)) : PE X (.BinOp a op b pos) (LE X.K (eOp rd ta tb)) :=
  te_of (pe_op ho ha hb) (lift_op hd)
theorem te_cmp {op : CmpOp} {r : R2} {rd : R2D} (ho : OpR X (compareOp op) r) (hd : OpD X.K r rd) (ha : PE X a (LE X.K ta)) (hb : PE X b (LE X.K tb)) (hm : behindInMarks op b = false) : PE X (.Compare a [op] [b] pos) (LE X.K (eOp rd ta tb)) :=
  te_of (pe_cmpR ho ha hb hm) (lift_op hd)
def onB (d : D) (f : Bool → Prop) : Prop := match d with
  | .bl b => f b
  | _ => False
/-- a value that is True or False, as a test -/
def bB (t : ET) : BT := fun ρ μ P => t ρ μ fun d μ1 => onB d fun b => P b μ1
theorem lift_bB {K : PySem.W.Frag} {t0 : TE} {t : ET} (h : ∀ σ H Q, LE K t σ H Q → t0 σ H Q) (σ : L2.St) (H : Hp) (Q : Bool → Hp → Prop) (q : LB K (bB t) σ H Q) : tTest t0 σ H Q := by
  obtain ⟨w, ρ, P, g, er, t, f⟩ := q
  refine h σ H _ ⟨w, ρ, _, g, er, t, fun x v w1 H1 e1 g1 r1 t1 => ?_⟩
  cases x with
  | bl b => exact ⟨b, r1, f b w1 H1 e1 g1 t1⟩
  | _ => exact t1.elim
theorem tb_cmp {op : CmpOp} {r : R2} {rd : R2D} (ho : OpR X (compareOp op) r) (hd : OpD X.K r rd) (ha : PE X a (LE X.K ta)) (hb : PE X b (LE X.K tb)) (hm : behindInMarks op b = false) : PT X (.Compare a [op] [b] pos) (LB X.K (bB (eOp rd ta tb))) :=
  tb_of (pt_cmpR ho ha hb hm) (lift_bB (lift_op hd))
def eChain (rd rd' : R2D) (ta tb tc : ET) : ET := fun ρ μ P => ta ρ μ fun x μ1 => tb ρ μ1 fun y μ2 => rd x y μ2 fun z μ3 => onB z fun k =>
  if k = true then tc ρ μ3 fun w μ4 => rd' y w μ4 P else P (.bl false) μ3
theorem lift_chain {K : PySem.W.Frag} {r r' : R2} {rd rd' : R2D} (h : OpD K r rd) (h' : OpD K r' rd') (σ : L2.St) (H : Hp) (Q : VK) (q : LE K (eChain rd rd' ta tb tc) σ H Q) : tChain r r' (LE K ta) (LE K tb) (LE K tc) σ H Q := by
  obtain ⟨w, ρ, P, g, er, t, f⟩ := q
  refine ⟨w, ρ, _, g, er, t, fun x v w1 H1 e1 g1 r1 t1 => ?_⟩
  refine ⟨w1, ρ, _, g1, er.mono e1.toKp, t1, fun y u w2 H2 e2 g2 r2 t2 => ?_⟩
  refine h w2 H2 v u x y _ _ g2 (Rp.mono e2.toKp _ _ r1) r2 t2 fun z k w3 H3 e3 g3 r3 t3 => ?_
  cases z with
  | bl b =>
    refine ⟨b, r3, ?_⟩
    have t3 : if b = true then _ else _ := t3
    cases b with
    | true =>
      rw [if_pos rfl] at t3 ⊢
      refine ⟨w3, ρ, _, g3, er.mono ((e1.trans e2).trans e3).toKp, t3, fun z' k' w4 H4 e4 g4 r4 t4 => ?_⟩
      exact h' w4 H4 u k' y z' P Q g4 (Rp.mono (e3.trans e4).toKp _ _ r2) r4 t4 (f.mono (((e1.trans e2).trans e3).trans e4))
    | false =>
      rw [if_neg Bool.false_ne_true] at t3 ⊢
      exact f.mono ((e1.trans e2).trans e3) (.bl false) _ w3 H3 Ev.refl g3 rfl t3
  | _ => exact t3.elim
theorem te_chain {op op' : CmpOp} {r r' : R2} {rd rd' : R2D} (ho : OpR X (compareOp op) r) (hd : OpD X.K r rd) (ho' : OpR X (compareOp op') r') (hd' : OpD X.K r' rd') (ha : PE X a (LE X.K ta)) (hb : PE X b (LE X.K tb)) (hc : PE X c (LE X.K tc))
    (hm : lastMarks [op, op'] [b, c] = false := by with_unfolding_all rfl) : PE X (.Compare a [op, op'] [b, c] pos) (LE X.K (eChain rd rd' ta tb tc)) :=
  te_of (pe_chain ho ho' ha hb hc hm) (lift_chain hd hd')
theorem tb_chain {op op' : CmpOp} {r r' : R2} {rd rd' : R2D} (ho : OpR X (compareOp op) r) (hd : OpD X.K r rd) (ho' : OpR X (compareOp op') r') (hd' : OpD X.K r' rd') (ha : PE X a (LE X.K ta)) (hb : PE X b (LE X.K tb)) (hc : PE X c (LE X.K tc))
    (hm : lastMarks [op, op'] [b, c] = false := by with_unfolding_all rfl) : PT X (.Compare a [op, op'] [b, c] pos) (LB X.K (bB (eChain rd rd' ta tb tc))) :=
  tb_of (pt_chain ho ho' ha hb hc hm) (lift_bB (lift_chain hd hd'))

/-! ### and, or, not, if else -/
def bAnd (s t : BT) : BT := fun ρ μ P => s ρ μ fun b μ1 => if b = true then t ρ μ1 P else P false μ1
def bOr (s t : BT) : BT := fun ρ μ P => s ρ μ fun b μ1 => if b = true then P true μ1 else t ρ μ1 P
def bNot (s : BT) : BT := fun ρ μ P => s ρ μ fun b μ1 => P (!b) μ1
theorem tw_and1 (ha : PT X a (LB X.K qa)) : PW X (.BoolOp .And [a] pos) (LB X.K qa) := pw_and1 ha
theorem tw_or1 (ha : PT X a (LB X.K qa)) : PW X (.BoolOp .Or [a] pos) (LB X.K qa) := pw_or1 ha
theorem tw_and {rest : List Expr} (ha : PT X a (LB X.K qa)) (hb : PW X (.BoolOp .And (b :: rest) pos) (LB X.K qb)) : PW X (.BoolOp .And (a :: b :: rest) pos) (LB X.K (bAnd qa qb)) :=
  tw_of (pw_and ha hb) fun σ H Q ⟨w, ρ, P, g, er, t, f⟩ => ⟨w, ρ, _, g, er, t, fun k w1 H1 e1 g1 t1 => by
    cases k with
    | true => rw [if_pos rfl] at t1 ⊢; exact ⟨w1, ρ, P, g1, er.mono e1.toKp, t1, f.mono e1⟩
    | false => rw [if_neg Bool.false_ne_true] at t1 ⊢; exact f false w1 H1 e1 g1 t1⟩
theorem tw_or {rest : List Expr} (ha : PT X a (LB X.K qa)) (hb : PW X (.BoolOp .Or (b :: rest) pos) (LB X.K qb)) : PW X (.BoolOp .Or (a :: b :: rest) pos) (LB X.K (bOr qa qb)) :=
  tw_of (pw_or ha hb) fun σ H Q ⟨w, ρ, P, g, er, t, f⟩ => ⟨w, ρ, _, g, er, t, fun k w1 H1 e1 g1 t1 => by
    cases k with
    | true => rw [if_pos rfl] at t1 ⊢; exact f true w1 H1 e1 g1 t1
    | false => rw [if_neg Bool.false_ne_true] at t1 ⊢; exact ⟨w1, ρ, P, g1, er.mono e1.toKp, t1, f.mono e1⟩⟩
theorem tb_not (ha : PT X a (LB X.K qa)) : PT X (.UnaryOp .Not a pos) (LB X.K (bNot qa)) :=
  tb_of (pt_not ha) fun σ H Q ⟨w, ρ, P, g, er, t, f⟩ => ⟨w, ρ, _, g, er, t, fun k w1 H1 e1 g1 t1 => f _ w1 H1 e1 g1 t1⟩
def eAnd (ta tb : ET) : ET := fun ρ μ P => ta ρ μ fun d μ1 => onB d fun k => if k = true then tb ρ μ1 P else P (.bl false) μ1
def eOr (ta tb : ET) : ET := fun ρ μ P => ta ρ μ fun d μ1 => onB d fun k => if k = true then P (.bl true) μ1 else tb ρ μ1 P
def eNot (ta : ET) : ET := fun ρ μ P => ta ρ μ fun d μ1 => onB d fun b => P (.bl (!b)) μ1
theorem te_one {op : BoolOp} (h : PE X a (LE X.K ta)) : PE X (.BoolOp op [a] pos) (LE X.K ta) := pe_one h
theorem te_and {rest : List Expr} (ha : PE X a (LE X.K ta)) (hb : PE X (.BoolOp .And (b :: rest) pos) (LE X.K tb)) : PE X (.BoolOp .And (a :: b :: rest) pos) (LE X.K (eAnd ta tb)) :=
  te_of (pe_and ha hb) fun σ H Q ⟨w, ρ, P, g, er, t, f⟩ => ⟨w, ρ, _, g, er, t, fun d v w1 H1 e1 g1 r1 t1 => by
    cases d with
    | bl k =>
      refine ⟨k, r1, ?_⟩
      have t1 : if k = true then _ else _ := t1
      cases k with
      | true => rw [if_pos rfl] at t1 ⊢; exact ⟨w1, ρ, P, g1, er.mono e1.toKp, t1, f.mono e1⟩
      | false => rw [if_neg Bool.false_ne_true] at t1 ⊢; exact f (.bl false) _ w1 H1 e1 g1 rfl t1
    | _ => exact t1.elim⟩
theorem te_or {rest : List Expr} (ha : PE X a (LE X.K ta)) (hb : PE X (.BoolOp .Or (b :: rest) pos) (LE X.K tb)) : PE X (.BoolOp .Or (a :: b :: rest) pos) (LE X.K (eOr ta tb)) :=
  te_of (pe_or ha hb) fun σ H Q ⟨w, ρ, P, g, er, t, f⟩ => ⟨w, ρ, _, g, er, t, fun d v w1 H1 e1 g1 r1 t1 => by
    cases d with
    | bl k =>
      refine ⟨k, r1, ?_⟩
      have t1 : if k = true then _ else _ := t1
      cases k with
      | true => rw [if_pos rfl] at t1 ⊢; exact f (.bl true) _ w1 H1 e1 g1 rfl t1
      | false => rw [if_neg Bool.false_ne_true] at t1 ⊢; exact ⟨w1, ρ, P, g1, er.mono e1.toKp, t1, f.mono e1⟩
    | _ => exact t1.elim⟩
theorem te_not (ha : PE X a (LE X.K ta)) : PE X (.UnaryOp .Not a pos) (LE X.K (eNot ta)) :=
  te_of (pe_not ha) fun σ H Q ⟨w, ρ, P, g, er, t, f⟩ => ⟨w, ρ, _, g, er, t, fun d v w1 H1 e1 g1 r1 t1 => by
    cases d with
    | bl k => exact ⟨k, r1, f (.bl (!k)) _ w1 H1 e1 g1 rfl t1⟩
    | _ => exact t1.elim⟩
def eIf (q : BT) (ta tb : ET) : ET := fun ρ μ P => q ρ μ fun b μ1 => if b = true then ta ρ μ1 P else tb ρ μ1 P
theorem te_if (hc : PT X c (LB X.K qa)) (ha : PE X a (LE X.K ta)) (hb : PE X b (LE X.K tb)) : PE X (.IfExp c a b pos) (LE X.K (eIf qa ta tb)) :=
  te_of (pe_ifExp hc ha hb) fun σ H Q ⟨w, ρ, P, g, er, t, f⟩ => ⟨w, ρ, _, g, er, t, fun k w1 H1 e1 g1 t1 => by
    cases k with
    | true => rw [if_pos rfl] at t1 ⊢; exact ⟨w1, ρ, P, g1, er.mono e1.toKp, t1, f.mono e1⟩
    | false => rw [if_neg Bool.false_ne_true] at t1 ⊢; exact ⟨w1, ρ, P, g1, er.mono e1.toKp, t1, f.mono e1⟩⟩

/-! ### argument lists, displays -/
def aNil : AT := fun _ μ P => P [] μ
def aCons (t : ET) (s : AT) : AT := fun ρ μ P => t ρ μ fun d μ1 => s ρ μ1 fun ds μ2 => P (d :: ds) μ2
theorem ta_nil : PA X [] (LA X.K aNil) := ta_of pa_nil fun σ H Q ⟨w, ρ, P, g, er, t, f⟩ => f [] [] w H Ev.refl g rfl t
theorem ta_cons (ha : PE X e (LE X.K te)) (hr : PA X es (LA X.K sa)) (hs : starEach (e :: es) X.env = (false, eval e X.env) :: starEach es X.env := by rfl) : PA X (e :: es) (LA X.K (aCons te sa)) :=
  ta_of (pa_cons ha hr hs) fun σ H Q ⟨w, ρ, P, g, er, t, f⟩ => ⟨w, ρ, _, g, er, t, fun d v w1 H1 e1 g1 r1 t1 =>
    ⟨w1, ρ, _, g1, er.mono e1.toKp, t1, fun ds vs w2 H2 e2 g2 r2 t2 => f (d :: ds) (v :: vs) w2 H2 (e1.trans e2) g2 ⟨v, vs, rfl, Rp.mono e2.toKp _ _ r1, r2⟩ t2⟩⟩
def eTup (s : AT) : ET := fun ρ μ P => s ρ μ fun ds μ1 => ds.length ≤ sizeLine ∧ P (.tup ds) μ1
def eLst (s : AT) : ET := fun ρ μ P => s ρ μ fun ds μ1 => ds.length ≤ sizeLine ∧ P (.lst ds) μ1
theorem te_tup {x1} (h : PA X es (LA X.K sa)) : PE X (.Tuple es x1 pos) (LE X.K (eTup sa)) :=
  te_of (pe_tup h) fun σ H Q ⟨w, ρ, P, g, er, t, f⟩ => ⟨w, ρ, _, g, er, t, fun ds vs w1 H1 e1 g1 r1 ⟨hl, t1⟩ => ⟨by rw [r1.length]; exact hl, fun p hp => (f.mono e1).tup g1 hp r1 t1⟩⟩
theorem te_lst (h : PA X es (LA X.K sa)) : PE X (.List es pos) (LE X.K (eLst sa)) :=
  te_of (pe_lst h) fun σ H Q ⟨w, ρ, P, g, er, t, f⟩ => ⟨w, ρ, _, g, er, t, fun ds vs w1 H1 e1 g1 r1 ⟨hl, t1⟩ => ⟨by rw [r1.length]; exact hl, fun p hp => (f.mono e1).lst g1 hp r1 t1⟩⟩
/-- .. a list that may change -/
def eLstL (s : AT) : ET := fun ρ μ P => s ρ μ fun ds μ1 => ds.length ≤ sizeLine ∧ P (.loc μ1.length) (μ1 ++ [some (.lst ds)])
theorem fin_add {K : PySem.W.Frag} {w : Wo} {H : Hp} {P : KD} {Q : VK} {p : Addr} {o : HO} {cl : Cell} (f : Fin K w H P Q) (g : Gd K w H) (h : H p = none) (hc : CellR K (w.add p cl) (upd H p o) p cl) (q : P (.loc w.mu.length) (w.mu ++ [some cl])) : Q (.ref p) (upd H p o) :=
  f (.loc w.mu.length) (.ref p) (w.add p cl) _ (Ev.add g h) (g.add h hc) ⟨p, rfl, by show (w.am ++ [p])[w.mu.length]? = some p; rw [← g.len]; simp⟩ q
theorem te_lstL (h : PA X es (LA X.K sa)) : PE X (.List es pos) (LE X.K (eLstL sa)) :=
  te_of (pe_lst h) fun σ H Q ⟨w, ρ, P, g, er, t, f⟩ => ⟨w, ρ, _, g, er, t, fun ds vs w1 H1 e1 g1 r1 ⟨hl, t1⟩ => ⟨by rw [r1.length]; exact hl, fun p hp =>
    fin_add (cl := .lst ds) (f.mono e1) g1 hp ⟨vs, upd_same, RpAll.mono (Ev.add g1 hp).toKp _ _ r1⟩ t1⟩⟩

/-! ### calls -/
def CallD (K : PySem.W.Frag) (r : List V → Hp → VK → Prop) (rd : RAD) : Prop := ∀ w H vs ds P Q, Gd K w H → RpAll K w H ds vs → rd ds w.mu P → Fin K w H P Q → r vs H Q
def eCall (rd : RAD) (s : AT) : ET := fun ρ μ P => s ρ μ fun ds μ1 => rd ds μ1 P
theorem lift_call {K : PySem.W.Frag} {r : List V → Hp → VK → Prop} {rd : RAD} (h : CallD K r rd) (σ : L2.St) (H : Hp) (Q : VK) (q : LE K (eCall rd sa) σ H Q) : tCB r (LA K sa) σ H Q := by
  obtain ⟨w, ρ, P, g, er, t, f⟩ := q
  exact ⟨w, ρ, _, g, er, t, fun ds vs w1 H1 e1 g1 r1 t1 => h w1 H1 vs ds P Q g1 r1 t1 (f.mono e1)⟩
theorem te_callB {x : Str} {p : Pos} {id : String} {r : List V → Hp → VK → Prop} {rd : RAD} (hc : CallR X (.builtin id) r) (hd : CallD X.K r rd) (hg : Gl X x) (hm : X.mg x = none) (hv : bootBuiltins x = some (.builtin id)) (ha : PA X (e :: es) (LA X.K sa))
    (hn : x ≠ "__name__" := by decide) (hdb : (x == ("__debug__" : Str)) = false := by decide) (he : starEach (e :: es) X.env = (false, eval e X.env) :: starEach es X.env := by rfl) (hpl : (backTo pos (starEach es X.env)).any (·.1) = false := by rfl) :
    PE X (.Call (.Name x p) (e :: es) [] pos) (LE X.K (eCall rd sa)) := te_of (pe_callB hc hg hm hv ha hn hdb he hpl) (lift_call hd)
theorem te_callTy {x : Str} {p : Pos} {T : String} {r : List V → Hp → VK → Prop} {rd : RAD} (hc : CallR X (.type T) r) (hd : CallD X.K r rd) (hg : Gl X x) (hm : X.mg x = none) (hv : bootBuiltins x = some (.type T)) (ha : PA X (e :: es) (LA X.K sa))
    (hn : x ≠ "__name__" := by decide) (hdb : (x == ("__debug__" : Str)) = false := by decide) (he : starEach (e :: es) X.env = (false, eval e X.env) :: starEach es X.env := by rfl) (hpl : (backTo pos (starEach es X.env)).any (·.1) = false := by rfl) :
    PE X (.Call (.Name x p) (e :: es) [] pos) (LE X.K (eCall rd sa)) := te_of (pe_callTy hc hg hm hv ha hn hdb he hpl) (lift_call hd)

/-! ### own defs that raise nothing -/
def SpOf (K : PySem.W.Frag) (sp : RAD) : Sp := fun vs H Q _ => ∃ w ds P, Gd K w H ∧ RpAll K w H ds vs ∧ sp ds w.mu P ∧ Fin K w H P Q
abbrev FnD (P : Program) (wd : World) (K : PySem.W.Frag) (mg : Str → Option Value) (base : Heap) (k : Nat) (f : Addr) (fd : FuncData) (ps : List Str) (sp : RAD) : Prop := FnOk P wd K mg base CX0 k f fd ps (SpOf K sp)
theorem te_call {x : Str} {p : Pos} {k : Nat} {f : Addr} {fd : FuncData} {ps : List Str} {sp : RAD} (F : FnD X.prog X.w X.K X.mg X.base k f fd ps sp) (hr : Room k X.A) (hg : Gl X x) (hm : X.mg x = some (.ref f)) (hk : PySem.W.keepIn X.K (.ref f) = true)
    (hb : Binds X.K fd ps []) (ha : PA X (e :: es) (LA X.K sa)) (hdb : (x == ("__debug__" : Str)) = false := by decide) (he : starEach (e :: es) X.env = (false, eval e X.env) :: starEach es X.env := by rfl)
    (hpl : (backTo pos (starEach es X.env)).any (·.1) = false := by rfl) : PE X (.Call (.Name x p) (e :: es) [] pos) (LE X.K (eCall sp sa)) :=
  te_of (pe_call F hr hg hm hk hb .nil pass0 ha hdb he hpl) fun σ H Q ⟨w, ρ, P, g, er, t, f⟩ => ⟨w, ρ, _, g, er, t, fun ds vs w1 H1 e1 g1 r1 t1 => by
    show SpOf X.K sp (vs ++ []) H1 Q E0
    rw [List.append_nil]
    exact ⟨w1, ds, P, g1, r1, t1, f.mono e1⟩⟩
theorem te_call0 {x : Str} {p : Pos} {k : Nat} {f : Addr} {fd : FuncData} {ps : List Str} {sp : RAD} (F : FnD X.prog X.w X.K X.mg X.base k f fd ps sp) (hr : Room k X.A) (hg : Gl X x) (hm : X.mg x = some (.ref f)) (hk : PySem.W.keepIn X.K (.ref f) = true)
    (hb : Binds X.K fd ps []) (hdb : (x == ("__debug__" : Str)) = false := by decide) : PE X (.Call (.Name x p) [] [] pos) (LE X.K (eCall sp aNil)) :=
  te_of (pe_call0 F hr hg hm hk hb .nil pass0 hdb) fun σ H Q ⟨w, ρ, P, g, er, t, f⟩ => ⟨w, [], P, g, rfl, t, f⟩
/-- keywords behind the positional ones, in any order: gD puts them into the parameters' order -/
def eCallK (sp : RAD) (gD : List D → List D → List D) (s s' : AT) : ET := fun ρ μ P => s ρ μ fun ds μ1 => s' ρ μ1 fun es μ2 => sp (gD ds es) μ2 P
theorem tk_nil : PK X [] (LA X.K aNil) := ⟨fun pos pins s σ H Q I ⟨w, ρ, P, g, er, t, f⟩ => pk_nil.run pos pins s σ H Q I (f [] [] w H Ev.refl g rfl t)⟩
theorem tk_cons {nm : Option Str} {kpos : Pos} {kws : List Keyword} (ha : PE X e (LE X.K te)) (hr : PK X kws (LA X.K sa)) : PK X (⟨nm, e, kpos⟩ :: kws) (LA X.K (aCons te sa)) :=
  ⟨fun pos pins s σ H Q I ⟨w, ρ, P, g, er, t, f⟩ => (pk_cons ha hr).run pos pins s σ H Q I ⟨w, ρ, _, g, er, t, fun d v w1 H1 e1 g1 r1 t1 =>
    ⟨w1, ρ, _, g1, er.mono e1.toKp, t1, fun ds vs w2 H2 e2 g2 r2 t2 => f (d :: ds) (v :: vs) w2 H2 (e1.trans e2) g2 ⟨v, vs, rfl, Rp.mono e2.toKp _ _ r1, r2⟩ t2⟩⟩⟩

/-! ### a value's truth -/
def dTru : D → Option Bool
  | .non => some false
  | .bl b => some b
  | .int i => some (i != 0)
  | .str x => some ((x.length : Int) != 0)
  | .lst xs => some (!xs.isEmpty)
  | .tup xs => some (!xs.isEmpty)
  | _ => none
def sized : D → Prop
  | .str x => x.length ≤ sizeLine
  | _ => True
theorem dTru_ok {K : PySem.W.Frag} {w : Wo} {H : Hp} {d : D} {v : V} {b : Bool} (r : Rp K w H d v) (h : dTru d = some b) (z : sized d) : TruV K v H b := by
  have em : ∀ {ds : List D} {vs : List V}, RpAll K w H ds vs → vs.isEmpty = ds.isEmpty := fun {ds vs} h => by
    cases ds with
    | nil => rw [show vs = [] from h]; rfl
    | cons d ds => obtain ⟨v, r, e, _⟩ := h; rw [e]; rfl
  cases d with
  | non => cases h; rw [show v = _ from r]; exact rfl
  | bl k => cases h; rw [show v = _ from r]; exact rfl
  | int k => cases h; rw [show v = _ from r]; exact rfl
  | str k => cases h; rw [show v = _ from r]; exact ⟨z, rfl⟩
  | lst xs => cases h; obtain ⟨a, vs, e, h1, h2⟩ := r; subst e; exact .inl ⟨vs, h1.sq, by rw [em h2]⟩
  | tup xs => cases h; obtain ⟨a, vs, e, h1, h2⟩ := r; subst e; exact .inr (.inl ⟨vs, h1.sq, by rw [em h2]⟩)
  | _ => cases h
def bT (t : ET) : BT := fun ρ μ P => t ρ μ fun d μ1 => sized d ∧ match dTru d with
  | some b => P b μ1
  | none => False
theorem tb_truth (ha : PE X a (LE X.K ta)) (he : ∀ whole, isTrue a X.env whole = (do let v ← whole; standAt a.pos; holding [v] (truthy v)) := by intro _; rfl) : PT X a (LB X.K (bT ta)) :=
  tb_of (pt_truth ha he) fun σ H Q ⟨w, ρ, P, g, er, t, f⟩ => ⟨w, ρ, _, g, er, t, fun d v w1 H1 e1 g1 r1 ⟨z, t1⟩ => by
    cases hb : dTru d with
    | some b => rw [hb] at t1; exact ⟨b, dTru_ok r1 hb z, f b w1 H1 e1 g1 t1⟩
    | none => rw [hb] at t1; exact t1.elim⟩
end
end Tr
set_option Elab.async false
set_option linter.all false
set_option maxRecDepth 100000
namespace Tr
open PySem PySem.Spec PyProof.Rows L2

/-! ### data -/
mutual
def toPy : D → Option PyData
  | .non => some .none
  | .bl b => some (.bool b)
  | .int i => some (.int i)
  | .str x => some (.str x)
  | .lst xs => match toPyA xs with
    | some ps => some (.list ps)
    | none => none
  | .tup xs => match toPyA xs with
    | some ps => some (.tuple ps)
    | none => none
  | _ => none
def toPyA : List D → Option (List PyData)
  | [] => some []
  | d :: ds => match toPy d, toPyA ds with
    | some p, some ps => some (p :: ps)
    | _, _ => none
end
section
variable {K : PySem.W.Frag} {w : Wo} {H : Hp}
mutual
theorem dp_of : ∀ (d : D) (v : V) (p : PyData), Rp K w H d v → toPy d = some p → Dp K H v p
  | .non, _, _, h, e => by cases e; rw [show _ = _ from h]; exact .non
  | .bl b, _, _, h, e => by cases e; rw [show _ = _ from h]; exact .bl b
  | .int i, _, _, h, e => by cases e; rw [show _ = _ from h]; exact .int i
  | .str x, _, _, h, e => by cases e; rw [show _ = _ from h]; exact .str x
  | .lst xs, _, _, ⟨a, vs, h1, h2, h3⟩, e => by
    subst h1
    unfold toPy at e
    cases q : toPyA xs with
    | none => rw [q] at e; cases e
    | some ps => rw [q] at e; cases e; exact .lst h2.sq (dpA_of xs vs ps h3 q)
  | .tup xs, _, _, ⟨a, vs, h1, h2, h3⟩, e => by
    subst h1
    unfold toPy at e
    cases q : toPyA xs with
    | none => rw [q] at e; cases e
    | some ps => rw [q] at e; cases e; exact .tup h2.sq (dpA_of xs vs ps h3 q)
  | .fz _, _, _, _, e => by unfold toPy at e; cases e
  | .dT _ _, _, _, _, e => by unfold toPy at e; cases e
  | .dK _ _, _, _, _, e => by unfold toPy at e; cases e
  | .ins _ _ _, _, _, _, e => by unfold toPy at e; cases e
  | .exc _ _ _, _, _, _, e => by unfold toPy at e; cases e
  | .loc _, _, _, _, e => by unfold toPy at e; cases e
  | .ref _, _, _, _, e => by unfold toPy at e; cases e
  | .ty _, _, _, _, e => by unfold toPy at e; cases e
theorem dpA_of : ∀ (ds : List D) (vs : List V) (ps : List PyData), RpAll K w H ds vs → toPyA ds = some ps → DpAll K H vs ps
  | [], _, _, h, e => by rw [show _ = [] from h]; unfold toPyA at e; cases e; exact .nil
  | d :: ds, _, _, ⟨v, r, h1, h2, h3⟩, e => by
    subst h1
    unfold toPyA at e
    cases q1 : toPy d with
    | none => rw [q1] at e; cases e
    | some p =>
      cases q2 : toPyA ds with
      | none => rw [q1, q2] at e; cases e
      | some ps => rw [q1, q2] at e; cases e; exact .cons (dp_of d v p h2 q1) (dpA_of ds r ps h3 q2)
end
end

/-! ### operators by trees -/
def dAdd : R2D := fun x y μ P => match x, y with
  | .int i, .int j => P (.int (i + j)) μ
  | .str a, .str b => a.length + b.length ≤ sizeLine ∧ P (.str (a ++ b)) μ
  | .lst a, .lst b => a.length + b.length ≤ sizeLine ∧ P (.lst (a ++ b)) μ
  | .tup a, .tup b => a.length + b.length ≤ sizeLine ∧ P (.tup (a ++ b)) μ
  | _, _ => False
def dSub : R2D := fun x y μ P => match x, y with
  | .int i, .int j => P (.int (i - j)) μ
  | _, _ => False
def dMul : R2D := fun x y μ P => match x, y with
  | .int i, .int j => CMul i j ∧ P (.int (i * j)) μ
  | _, _ => False
def dMod : R2D := fun x y μ P => match x, y with
  | .int i, .int j => 0 < j ∧ P (.int (i % j)) μ
  | _, _ => False
def dFdiv : R2D := fun x y μ P => match x, y with
  | .int i, .int j => CDiv i j ∧ P (.int (i / j)) μ
  | _, _ => False
def dPow : R2D := fun x y μ P => match x, y with
  | .int i, .int j => CPow i j ∧ P (.int (i ^ j.toNat)) μ
  | _, _ => False
def dEq : R2D := fun x y μ P => match toPy x, toPy y with
  | some p, some q => (SeqAt.shaped p = true ∧ SeqAt.shaped q = true) ∧ P (.bl (PyData.eqv p q)) μ
  | _, _ => False
def dNe : R2D := fun x y μ P => match toPy x, toPy y with
  | some p, some q => (SeqAt.shaped p = true ∧ SeqAt.shaped q = true) ∧ P (.bl (!PyData.eqv p q)) μ
  | _, _ => False
def dLt : R2D := fun x y μ P => match x, y with
  | .int i, .int j => P (.bl (decide (i < j))) μ
  | .str i, .str j => P (.bl (decide (i.cps.toList < j.cps.toList))) μ
  | _, _ => False
def dLe : R2D := fun x y μ P => match x, y with
  | .int i, .int j => P (.bl (decide (i ≤ j))) μ
  | .str i, .str j => P (.bl (!decide (j.cps.toList < i.cps.toList))) μ
  | _, _ => False
def dGt : R2D := fun x y μ P => match x, y with
  | .int i, .int j => P (.bl (decide (j < i))) μ
  | .str i, .str j => P (.bl (decide (j.cps.toList < i.cps.toList))) μ
  | _, _ => False
def dGe : R2D := fun x y μ P => match x, y with
  | .int i, .int j => P (.bl (decide (j ≤ i))) μ
  | .str i, .str j => P (.bl (!decide (i.cps.toList < j.cps.toList))) μ
  | _, _ => False
def isNon : D → Bool
  | .non => true
  | _ => false
def dIs : R2D := fun x y μ P => match y with
  | .non => P (.bl (isNon x)) μ
  | _ => False
def dIsNot : R2D := fun x y μ P => match y with
  | .non => P (.bl (!isNon x)) μ
  | _ => False
def dIn : R2D := fun x y μ P => match x, y with
  | .str c, .str z => (∃ n, c = ⟨#[n]⟩) ∧ P (.bl (c.cps.toList.all fun n => decide (n ∈ z.cps.toList))) μ
  | x, .lst ys => match toPy x, toPyA ys with
    | some d, some ds => (SeqAt.shaped d = true ∧ SeqAt.shaped (.list ds) = true) ∧ P (.bl (ds.any fun z => PyData.eqv z d)) μ
    | _, _ => False
  | x, .tup ys => match toPy x, toPyA ys with
    | some d, some ds => (SeqAt.shaped d = true ∧ SeqAt.shaped (.tuple ds) = true) ∧ P (.bl (ds.any fun z => PyData.eqv z d)) μ
    | _, _ => False
  | _, _ => False
def dNotIn : R2D := fun x y μ P => dIn x y μ fun d μ' => onB d fun b => P (.bl (!b)) μ'

section
variable {X : Cx} {K : PySem.W.Frag}
theorem Rp.isNon {w : Wo} {H : Hp} {d : D} {v : V} (r : Rp K w H d v) : decide (v = .non) = Tr.isNon d := by
  have no : ∀ {P : Prop}, (∃ a, v = .ref a ∧ P) → decide (v = .non) = false := fun ⟨a, h, _⟩ => by rw [h]; exact decide_eq_false fun z => nomatch z
  cases d with
  | non => rw [show v = _ from r]; rfl
  | bl b => rw [show v = _ from r]; exact decide_eq_false fun z => nomatch z
  | int b => rw [show v = _ from r]; exact decide_eq_false fun z => nomatch z
  | str b => rw [show v = _ from r]; exact decide_eq_false fun z => nomatch z
  | ref b => rw [show v = _ from r]; exact decide_eq_false fun z => nomatch z
  | ty b => rw [show v = _ from r]; exact decide_eq_false fun z => nomatch z
  | lst xs => obtain ⟨a, _, h, _⟩ := r; rw [h]; exact decide_eq_false fun z => nomatch z
  | fz xs => obtain ⟨a, _, h, _⟩ := r; rw [h]; exact decide_eq_false fun z => nomatch z
  | tup xs => obtain ⟨a, _, h, _⟩ := r; rw [h]; exact decide_eq_false fun z => nomatch z
  | dT ks xs => obtain ⟨a, _, h, _⟩ := r; rw [h]; exact decide_eq_false fun z => nomatch z
  | dK ks xs => obtain ⟨a, _, h, _⟩ := r; rw [h]; exact decide_eq_false fun z => nomatch z
  | ins C ks xs => obtain ⟨a, _, _, h, _⟩ := r; rw [h]; exact decide_eq_false fun z => nomatch z
  | exc C ks xs => obtain ⟨a, _, _, h, _⟩ := r; rw [h]; exact decide_eq_false fun z => nomatch z
  | loc n => obtain ⟨a, h, _⟩ := r; rw [h]; exact decide_eq_false fun z => nomatch z
theorem OpD.int {g : Int → Int → V} {C : Int → Int → Prop} {rd : R2D} (h : ∀ x y μ P, rd x y μ P → ∃ i j d, x = .int i ∧ y = .int j ∧ C i j ∧ P d μ ∧ ∀ (w : Wo) (H : Hp), Rp K w H d (g i j)) : OpD K (rI C g) rd := by
  intro w H x y dx dy P Q gd rx ry t f
  obtain ⟨i, j, d, rfl, rfl, c, p, r⟩ := h _ _ _ _ t
  exact ⟨i, j, rx, ry, c, f.now gd (r w H) p⟩

/-! addition -/
def rAddA (K : PySem.W.Frag) : R2 := fun x y H Q => (∃ i j, x = .int i ∧ y = .int j ∧ Q (.int (i + j)) H) ∨ (∃ i j, x = .str i ∧ y = .str j ∧ i.length + j.length ≤ sizeLine ∧ Q (.str (i ++ j)) H) ∨ rCat x y H Q ∨ rCatA K x y H Q
theorem op_addA : OpR X (binaryOp .Add) (rAddA X.K) := OpR.or op_add (OpR.or op_add_str (OpR.or op_cat op_catA))
theorem RpAll.nil_iff {w : Wo} {H : Hp} {ds : List D} {vs : List V} (h : RpAll K w H ds vs) : vs = [] ↔ ds = [] := by
  cases ds with
  | nil => exact ⟨fun _ => rfl, fun _ => h⟩
  | cons d ds => obtain ⟨v, r, e, _⟩ := h; subst e; exact ⟨(nomatch ·), (nomatch ·)⟩
theorem od_add : OpD K (rAddA K) dAdd := by
  intro w H x y dx dy P Q g rx ry t f
  unfold dAdd at t
  split at t
  · exact .inl ⟨_, _, rx, ry, f.int g t⟩
  · exact .inr (.inl ⟨_, _, rx, ry, t.1, f.st g t.2⟩)
  · obtain ⟨a, vs, e1, h1, r1⟩ := rx
    obtain ⟨b, us, e2, h2, r2⟩ := ry
    refine .inr (.inr (.inl ⟨a, b, vs, us, e1, e2, h1.2, h2.2, by rw [r1.length, r2.length]; exact t.1, fun p hp => f.lst g hp (r1.append r2) t.2⟩))
  · obtain ⟨a, vs, e1, h1, r1⟩ := rx
    obtain ⟨b, us, e2, h2, r2⟩ := ry
    refine .inr (.inr (.inr ⟨a, b, vs, us, e1, e2, h1.sq, h2.sq, by rw [r1.length, r2.length]; exact t.1, fun e => ?_, fun _ e => ?_, fun _ _ p hp => f.tup g hp (r1.append r2) t.2⟩))
    · have q := r1.nil_iff.mp e
      subst q
      exact f.now g (d := .tup ([] ++ _)) ⟨b, us, rfl, h2, r2⟩ t.2
    · have q := r2.nil_iff.mp e
      subst q
      refine f.now g (d := .tup (_ ++ [])) ⟨a, vs, rfl, h1, ?_⟩ t.2
      rw [List.append_nil]
      exact r1
  · exact t.elim
theorem od_sub : OpD K (rI0 fun i j => .int (i - j)) dSub := by
  intro w H x y dx dy P Q g rx ry t f
  unfold dSub at t
  split at t
  · exact ⟨_, _, rx, ry, f.int g t⟩
  · exact t.elim
theorem od_mul : OpD K (rI CMul fun i j => .int (i * j)) dMul := by
  intro w H x y dx dy P Q g rx ry t f
  unfold dMul at t
  split at t
  · exact ⟨_, _, rx, ry, t.1, f.int g t.2⟩
  · exact t.elim
theorem od_mod : OpD K (rI (fun _ j => 0 < j) fun i j => .int (i % j)) dMod := by
  intro w H x y dx dy P Q g rx ry t f
  unfold dMod at t
  split at t
  · exact ⟨_, _, rx, ry, t.1, f.int g t.2⟩
  · exact t.elim
theorem od_fdiv : OpD K (rI CDiv fun i j => .int (i / j)) dFdiv := by
  intro w H x y dx dy P Q g rx ry t f
  unfold dFdiv at t
  split at t
  · exact ⟨_, _, rx, ry, t.1, f.int g t.2⟩
  · exact t.elim
theorem od_pow : OpD K (rI CPow fun i j => .int (i ^ j.toNat)) dPow := by
  intro w H x y dx dy P Q g rx ry t f
  unfold dPow at t
  split at t
  · exact ⟨_, _, rx, ry, t.1, f.int g t.2⟩
  · exact t.elim
theorem od_eq : OpD K (rEqD K) dEq := by
  intro w H x y dx dy P Q g rx ry t f
  unfold dEq at t
  split at t
  · rename_i p q hp hq
    exact ⟨p, q, dp_of _ _ _ rx hp, dp_of _ _ _ ry hq, t.1.1, t.1.2, f.bl g t.2⟩
  · exact t.elim
theorem od_ne : OpD K (rNeD K) dNe := by
  intro w H x y dx dy P Q g rx ry t f
  unfold dNe at t
  split at t
  · rename_i p q hp hq
    exact ⟨p, q, dp_of _ _ _ rx hp, dp_of _ _ _ ry hq, t.1.1, t.1.2, f.bl g t.2⟩
  · exact t.elim
def rOrd (g : Int → Int → V) (h : Str → Str → V) : R2 := fun x y H Q => rI0 g x y H Q ∨ ∃ i j, x = .str i ∧ y = .str j ∧ Q (h i j) H
theorem op_ltA : OpR X (compareOp .Lt) (rOrd (fun i j => .bl (decide (i < j))) fun i j => .bl (decide (i.cps.toList < j.cps.toList))) := OpR.or op_lt op_lt_str
theorem op_leA : OpR X (compareOp .LtE) (rOrd (fun i j => .bl (decide (i ≤ j))) fun i j => .bl (!decide (j.cps.toList < i.cps.toList))) := OpR.or op_le op_le_str
theorem op_gtA : OpR X (compareOp .Gt) (rOrd (fun i j => .bl (decide (j < i))) fun i j => .bl (decide (j.cps.toList < i.cps.toList))) := OpR.or op_gt op_gt_str
theorem op_geA : OpR X (compareOp .GtE) (rOrd (fun i j => .bl (decide (j ≤ i))) fun i j => .bl (!decide (i.cps.toList < j.cps.toList))) := OpR.or op_ge op_ge_str
theorem od_lt : OpD K (rOrd (fun i j => .bl (decide (i < j))) fun i j => .bl (decide (i.cps.toList < j.cps.toList))) dLt := by
  intro w H x y dx dy P Q g rx ry t f
  unfold dLt at t
  split at t
  · exact .inl ⟨_, _, rx, ry, f.bl g t⟩
  · exact .inr ⟨_, _, rx, ry, f.bl g t⟩
  · exact t.elim
theorem od_le : OpD K (rOrd (fun i j => .bl (decide (i ≤ j))) fun i j => .bl (!decide (j.cps.toList < i.cps.toList))) dLe := by
  intro w H x y dx dy P Q g rx ry t f
  unfold dLe at t
  split at t
  · exact .inl ⟨_, _, rx, ry, f.bl g t⟩
  · exact .inr ⟨_, _, rx, ry, f.bl g t⟩
  · exact t.elim
theorem od_gt : OpD K (rOrd (fun i j => .bl (decide (j < i))) fun i j => .bl (decide (j.cps.toList < i.cps.toList))) dGt := by
  intro w H x y dx dy P Q g rx ry t f
  unfold dGt at t
  split at t
  · exact .inl ⟨_, _, rx, ry, f.bl g t⟩
  · exact .inr ⟨_, _, rx, ry, f.bl g t⟩
  · exact t.elim
theorem od_ge : OpD K (rOrd (fun i j => .bl (decide (j ≤ i))) fun i j => .bl (!decide (i.cps.toList < j.cps.toList))) dGe := by
  intro w H x y dx dy P Q g rx ry t f
  unfold dGe at t
  split at t
  · exact .inl ⟨_, _, rx, ry, f.bl g t⟩
  · exact .inr ⟨_, _, rx, ry, f.bl g t⟩
  · exact t.elim
theorem od_is : OpD K (fun x y H Q => y = .non ∧ Q (.bl (decide (x = .non))) H) dIs := by
  intro w H x y dx dy P Q g rx ry t f
  unfold dIs at t
  split at t
  · exact ⟨ry, by rw [rx.isNon]; exact f.bl g t⟩
  · exact t.elim
theorem od_isnot : OpD K (fun x y H Q => y = .non ∧ Q (.bl (!decide (x = .non))) H) dIsNot := by
  intro w H x y dx dy P Q g rx ry t f
  unfold dIsNot at t
  split at t
  · exact ⟨ry, by rw [rx.isNon]; exact f.bl g t⟩
  · exact t.elim

/-! in -/
def rInA (K : PySem.W.Frag) (neg : Bool) : R2 := fun x y H Q => (∃ (c : Nat) (z : Str), x = .str ⟨#[c]⟩ ∧ y = .str z ∧ Q (.bl (neg ^^ decide (c ∈ z.cps.toList))) H) ∨
  ∃ d ds, Dp K H x d ∧ ((Dp K H y (.list ds) ∧ SeqAt.shaped (.list ds) = true) ∨ (Dp K H y (.tuple ds) ∧ SeqAt.shaped (.tuple ds) = true)) ∧ SeqAt.shaped d = true ∧ Q (.bl (neg ^^ ds.any fun z => PyData.eqv z d)) H
theorem op_inTup (hu : X.A.units + 65 < cLine) : OpR X (compareOp .In) (fun x y H Q => ∃ d ds, Dp X.K H x d ∧ Dp X.K H y (.tuple ds) ∧ SeqAt.shaped d = true ∧ SeqAt.shaped (.tuple ds) = true ∧ Q (.bl (ds.any fun z => PyData.eqv z d)) H) := by
  intro pins s σ H x y v u Q I rx ry h
  obtain ⟨d, ds, hd, he, sd, se, q⟩ := h
  obtain ⟨as, r1⟩ := Dp.reads I d x v hd rx
  obtain ⟨bs, r2⟩ := Dp.reads I (.tuple ds) y u he ry
  exact SeqAt.in_tuple_reads r2 r1 (SeqAt.canLay_of_shaped se) (SeqAt.canLay_of_shaped sd) (PyProof.Rows.room_in_shaped sd hu) ⟨.bl _, H, I, rfl, q⟩
theorem op_notInTup (hu : X.A.units + 65 < cLine) : OpR X (compareOp .NotIn) (fun x y H Q => ∃ d ds, Dp X.K H x d ∧ Dp X.K H y (.tuple ds) ∧ SeqAt.shaped d = true ∧ SeqAt.shaped (.tuple ds) = true ∧ Q (.bl (!ds.any fun z => PyData.eqv z d)) H) := by
  intro pins s σ H x y v u Q I rx ry h
  obtain ⟨d, ds, hd, he, sd, se, q⟩ := h
  obtain ⟨as, r1⟩ := Dp.reads I d x v hd rx
  obtain ⟨bs, r2⟩ := Dp.reads I (.tuple ds) y u he ry
  exact SeqAt.notIn_tuple_reads r2 r1 (SeqAt.canLay_of_shaped se) (SeqAt.canLay_of_shaped sd) (PyProof.Rows.room_in_shaped sd hu) ⟨.bl _, H, I, rfl, q⟩
theorem op_inA (hu : X.A.units + 65 < cLine) : OpR X (compareOp .In) (rInA X.K false) := by
  intro pins s σ H x y v u Q I rx ry h
  rcases h with ⟨c, z, h1, h2, q⟩ | ⟨d, ds, h1, h2 | h2, h3, q⟩
  · exact op_in_sign pins s σ H x y v u Q I rx ry ⟨c, z, h1, h2, by simpa using q⟩
  · exact op_inD hu pins s σ H x y v u Q I rx ry ⟨d, ds, h1, h2.1, h3, h2.2, by simpa using q⟩
  · exact op_inTup hu pins s σ H x y v u Q I rx ry ⟨d, ds, h1, h2.1, h3, h2.2, by simpa using q⟩
theorem op_notInA (hu : X.A.units + 65 < cLine) : OpR X (compareOp .NotIn) (rInA X.K true) := by
  intro pins s σ H x y v u Q I rx ry h
  rcases h with ⟨c, z, h1, h2, q⟩ | ⟨d, ds, h1, h2 | h2, h3, q⟩
  · exact op_notIn_sign pins s σ H x y v u Q I rx ry ⟨c, z, h1, h2, by simpa using q⟩
  · exact op_notInD hu pins s σ H x y v u Q I rx ry ⟨d, ds, h1, h2.1, h3, h2.2, by simpa using q⟩
  · exact op_notInTup hu pins s σ H x y v u Q I rx ry ⟨d, ds, h1, h2.1, h3, h2.2, by simpa using q⟩
theorem od_inA {neg : Bool} {w : Wo} {H : Hp} {x y : V} {dx dy : D} {P : KD} {Q : VK} (g : Gd K w H) (rx : Rp K w H dx x) (ry : Rp K w H dy y) (t : dIn dx dy w.mu P) (f : ∀ b, P (.bl b) w.mu → Q (.bl (neg ^^ b)) H) : rInA K neg x y H Q := by
  unfold dIn at t
  split at t
  · obtain ⟨⟨n, e⟩, t⟩ := t
    subst e
    refine .inl ⟨n, _, rx, ry, ?_⟩
    have := f _ t
    simpa using this
  · split at t
    · rename_i d ds h1 h2
      refine .inr ⟨d, ds, dp_of _ _ _ rx h1, .inl ⟨dp_of _ _ _ ry (by unfold toPy; rw [h2]), t.1.2⟩, t.1.1, f _ t.2⟩
    · exact t.elim
  · split at t
    · rename_i d ds h1 h2
      refine .inr ⟨d, ds, dp_of _ _ _ rx h1, .inr ⟨dp_of _ _ _ ry (by unfold toPy; rw [h2]), t.1.2⟩, t.1.1, f _ t.2⟩
    · exact t.elim
  · exact t.elim
theorem od_in : OpD K (rInA K false) dIn := fun w H x y dx dy P Q g rx ry t f => od_inA g rx ry t fun b p => by simpa using f.now g (show Rp K w H (.bl b) (.bl b) from rfl) p
theorem od_notin : OpD K (rInA K true) dNotIn := fun w H x y dx dy P Q g rx ry t f => od_inA g rx ry t fun b p => by simpa using f.now g (show Rp K w H (.bl (!b)) (.bl (!b)) from rfl) p
end
end Tr
set_option Elab.async false
set_option linter.all false
set_option maxRecDepth 100000
namespace Tr
open PySem PySem.Spec PyProof.Rows L2

/-! ### isinstance of data -/
def tyN : D → Option String
  | .non => some "NoneType"
  | .bl _ => some "bool"
  | .int _ => some "int"
  | .str _ => some "str"
  | .lst _ => some "list"
  | .tup _ => some "tuple"
  | _ => none
def kinds : List String := ["NoneType", "bool", "int", "str", "list", "tuple"]
def clss : List String := ["bool", "int", "str", "list", "tuple", "dict"]
def isTy (t n : String) : Bool := t == n || (t == "bool" && n == "int")
theorem kitB_isTy : ∀ t, t ∈ kinds → ∀ n, n ∈ clss → kitB t n = some (isTy t n) := by decide +kernel
theorem tyN_kind {d : D} {t : String} (h : tyN d = some t) : t ∈ kinds := by
  cases d <;> cases h <;> decide
theorem tyX_of {K : PySem.W.Frag} {w : Wo} {H : Hp} {d : D} {v : V} {t : String} (r : Rp K w H d v) (h : tyN d = some t) : TyX K H v (.type t) := by
  cases d <;> cases h
  case non => rw [show v = _ from r]; exact .base .non
  case bl b => rw [show v = _ from r]; exact .base (.bl b)
  case int b => rw [show v = _ from r]; exact .base (.int b)
  case str b => rw [show v = _ from r]; exact .base (.str b)
  case lst xs => obtain ⟨a, vs, e, h1, _⟩ := r; rw [e]; exact .base (.lst h1.2)
  case tup xs =>
    obtain ⟨a, vs, e, h1, _⟩ := r
    rw [e]
    rcases h1 with ⟨_, h1⟩ | ⟨o, its, n, hk, hc, _⟩
    · exact .base (.tup h1)
    · exact .kTuple hk hc
def tyNs : List D → Option (List String)
  | [] => some []
  | .ty n :: ds => match tyNs ds with
    | some ns => some (n :: ns)
    | none => none
  | _ :: _ => none
def dIsi : RAD := fun ds μ P => match ds with
  | [x, .ty n] => match tyN x with
    | some t => n ∈ clss ∧ P (.bl (isTy t n)) μ
    | none => False
  | [x, .tup cs] => match tyN x, tyNs cs with
    | some t, some ns => (∀ n, n ∈ ns → n ∈ clss) ∧ P (.bl (ns.any (isTy t))) μ
    | _, _ => False
  | _ => False
section
variable {X : Cx} {K : PySem.W.Frag}
theorem tyNs_cls {w : Wo} {H : Hp} : ∀ {cs : List D} {vs : List V} {ns : List String}, RpAll K w H cs vs → tyNs cs = some ns → Paired ClsV vs (ns.map Value.type)
  | [], _, _, h, e => by rw [show _ = [] from h]; cases e; exact .nil
  | .ty n :: ds, _, _, ⟨v, r, h1, h2, h3⟩, e => by
    subst h1
    unfold tyNs at e
    cases q : tyNs ds with
    | none => rw [q] at e; cases e
    | some ns => rw [q] at e; cases e; rw [show v = _ from h2]; exact .cons (.ty n) (tyNs_cls h3 q)
  | .non :: _, _, _, _, e => by cases e
  | .bl _ :: _, _, _, _, e => by cases e
  | .int _ :: _, _, _, _, e => by cases e
  | .str _ :: _, _, _, _, e => by cases e
  | .lst _ :: _, _, _, _, e => by cases e
  | .fz _ :: _, _, _, _, e => by cases e
  | .tup _ :: _, _, _, _, e => by cases e
  | .dT _ _ :: _, _, _, _, e => by cases e
  | .dK _ _ :: _, _, _, _, e => by cases e
  | .ins _ _ _ :: _, _, _, _, e => by cases e
  | .exc _ _ _ :: _, _, _, _, e => by cases e
  | .loc _ :: _, _, _, _, e => by cases e
  | .ref _ :: _, _, _, _, e => by cases e
theorem kitAny_isTy {t : String} (ht : t ∈ kinds) : ∀ {ns : List String}, (∀ n, n ∈ ns → n ∈ clss) → PySem.W.kitAny K (.type t) (ns.map Value.type) = some (ns.any (isTy t))
  | [], _ => by first | rfl | simp [PySem.W.kitAny]
  | n :: ns, h => by
    have h1 : PySem.W.kitOne K (.type t) (.type n) = some (isTy t n) := kit_ty (kitB_isTy t ht n (h n List.mem_cons_self))
    refine kitAny_cons h1 (fun hb => ?_) (fun hb => ?_)
    · rw [kitAny_isTy ht fun m hm => h m (List.mem_cons_of_mem _ hm)]
      simp [hb]
    · simp [hb]
theorem rpAll2 {w : Wo} {H : Hp} {a b : D} {vs : List V} (h : RpAll K w H [a, b] vs) : ∃ x y, vs = [x, y] ∧ Rp K w H a x ∧ Rp K w H b y := by
  obtain ⟨x, r, e, h1, y, r2, e2, h2, h3⟩ := h
  rw [show r2 = [] from h3] at e2
  exact ⟨x, y, by rw [e, e2], h1, h2⟩
theorem rpAll1 {w : Wo} {H : Hp} {a : D} {vs : List V} (h : RpAll K w H [a] vs) : ∃ x, vs = [x] ∧ Rp K w H a x := by
  obtain ⟨x, r, e, h1, h3⟩ := h
  rw [show r = [] from h3] at e
  exact ⟨x, e, h1⟩
def rIsiA (K : PySem.W.Frag) : List V → Hp → VK → Prop := fun xs H Q => rIsi K xs H Q ∨ rIsiT K xs H Q ∨ rIsiK K xs H Q
theorem call_isiA : CallR X (.builtin "isinstance") (rIsiA X.K) := CallR.or call_isi (CallR.or call_isiT call_isiK)
theorem cls_all {vs : List V} {ns : List String} {us : List Value} (h : Paired ClsV vs (ns.map Value.type)) (r : Vals vs us) : us = ns.map Value.type := ClsV.all h r
theorem cd_isi : CallD K (rIsiA K) dIsi := by
  intro w H vs ds P Q g r t f
  unfold dIsi at t
  split at t
  · obtain ⟨x, y, rfl, h1, h2⟩ := rpAll2 r
    split at t
    · rename_i tt ht
      rw [show y = _ from h2]
      exact .inl ⟨x, _, _, _, _, rfl, .ty _, tyX_of h1 ht, kit_ty (kitB_isTy _ (tyN_kind ht) _ t.1), f.bl g t.2⟩
    · exact t.elim
  · obtain ⟨x, y, rfl, h1, h2⟩ := rpAll2 r
    split at t
    · rename_i tt ns ht hn
      obtain ⟨a, us, e, h3, h4⟩ := h2
      subst e
      rcases h3 with ⟨_, h3⟩ | ⟨o, its, n, hk, hc, hd, hz, hv⟩
      · exact .inr (.inl ⟨x, a, us, _, _, _, rfl, h3, tyNs_cls h4 hn, tyX_of h1 ht, kitAny_isTy (tyN_kind ht) t.1, f.bl g t.2⟩)
      · refine .inr (.inr ⟨x, a, o.dict, ns.map Value.type, n, o.slots, _, _, rfl, ?_, tyX_of h1 ht, kitAny_isTy (tyN_kind ht) t.1, f.bl g t.2⟩)
        have e := cls_all (tyNs_cls h4 hn) hv
        obtain ⟨oc, od, dt, sl⟩ := o
        simp only at hc hd
        subst hc hd
        rw [hk, ← e]
    · exact t.elim
  · exact t.elim

/-! ### len, all, any, int, str, bool, tuple, list, abs, min, max -/
def dLen : RAD := fun ds μ P => match ds with
  | [.str x] => x.length ≤ sizeLine ∧ P (.int x.length) μ
  | [.lst xs] => P (.int xs.length) μ
  | [.fz xs] => P (.int xs.length) μ
  | [.tup xs] => P (.int xs.length) μ
  | [.loc n] => match μ[n]? with
    | some (some (.lst xs)) => P (.int xs.length) μ
    | _ => False
  | _ => False
theorem Gd.at {w : Wo} {H : Hp} {n : Nat} {v : V} {c : Cell} (g : Gd K w H) (r : Rp K w H (.loc n) v) (e : w.mu[n]? = some (some c)) : ∃ a, v = .ref a ∧ w.am[n]? = some a ∧ CellR K w H a c := by
  obtain ⟨a, e1, e2⟩ := r
  exact ⟨a, e1, e2, g.cell n a c e2 e⟩
theorem cd_len : CallD K (fun xs H Q => ∃ x n, xs = [x] ∧ LenV K x H n ∧ Q (.int n) H) dLen := by
  intro w H vs ds P Q g r t f
  unfold dLen at t
  split at t
  · obtain ⟨x, rfl, h⟩ := rpAll1 r
    rw [show x = _ from h]
    exact ⟨_, _, rfl, ⟨t.1, rfl⟩, f.int g t.2⟩
  · obtain ⟨x, rfl, a, us, e, h1, h2⟩ := rpAll1 r
    subst e
    exact ⟨_, _, rfl, .inl ⟨us, h1.sq, h2.length.symm⟩, f.int g t⟩
  · obtain ⟨x, rfl, a, us, e, h1, h3⟩ := rpAll1 r
    subst e
    exact ⟨_, _, rfl, .inl ⟨us, h1.sq, h3.length.symm⟩, f.int g t⟩
  · obtain ⟨x, rfl, a, us, e, h1, h2⟩ := rpAll1 r
    subst e
    exact ⟨_, _, rfl, .inr ⟨us, h1.sq, h2.length.symm⟩, f.int g t⟩
  · split at t
    · rename_i hm
      obtain ⟨x, rfl, h⟩ := rpAll1 r
      obtain ⟨a, e, _, us, h1, h2⟩ := g.at h hm
      subst e
      exact ⟨_, _, rfl, .inl ⟨us, SqL.of h1, h2.length.symm⟩, f.int g t⟩
    · exact t.elim
  · exact t.elim
def boolsOf : List D → Option (List Bool)
  | [] => some []
  | .bl b :: ds => match boolsOf ds with
    | some bs => some (b :: bs)
    | none => none
  | _ :: _ => none
theorem boolsOf_rp {w : Wo} {H : Hp} : ∀ {ds : List D} {vs : List V} {bs : List Bool}, RpAll K w H ds vs → boolsOf ds = some bs → vs = bs.map V.bl
  | [], _, _, h, e => by cases e; exact h
  | .bl n :: ds, _, _, ⟨v, r, h1, h2, h3⟩, e => by
    unfold boolsOf at e
    cases q : boolsOf ds with
    | none => rw [q] at e; cases e
    | some ns => rw [q] at e; cases e; rw [h1, show v = _ from h2, boolsOf_rp h3 q]; rfl
  | .non :: _, _, _, _, e => by cases e
  | .ty _ :: _, _, _, _, e => by cases e
  | .int _ :: _, _, _, _, e => by cases e
  | .str _ :: _, _, _, _, e => by cases e
  | .lst _ :: _, _, _, _, e => by cases e
  | .fz _ :: _, _, _, _, e => by cases e
  | .tup _ :: _, _, _, _, e => by cases e
  | .dT _ _ :: _, _, _, _, e => by cases e
  | .dK _ _ :: _, _, _, _, e => by cases e
  | .ins _ _ _ :: _, _, _, _, e => by cases e
  | .exc _ _ _ :: _, _, _, _, e => by cases e
  | .loc _ :: _, _, _, _, e => by cases e
  | .ref _ :: _, _, _, _, e => by cases e
def dAll : RAD := fun ds μ P => match ds with
  | [.lst xs] => match boolsOf xs with
    | some bs => P (.bl (bs.all id)) μ
    | none => False
  | _ => False
def dAny : RAD := fun ds μ P => match ds with
  | [.lst xs] => match boolsOf xs with
    | some bs => P (.bl (bs.any id)) μ
    | none => False
  | _ => False
theorem cd_all : CallD K (rAll K) dAll := by
  intro w H vs ds P Q g r t f
  unfold dAll at t
  split at t
  · split at t
    · rename_i hb
      obtain ⟨x, rfl, a, us, e, h1, h2⟩ := rpAll1 r
      subst e
      exact ⟨a, _, rfl, by rw [← boolsOf_rp h2 hb]; exact h1.sq, f.bl g t⟩
    · exact t.elim
  · exact t.elim
theorem cd_any : CallD K (rAny K) dAny := by
  intro w H vs ds P Q g r t f
  unfold dAny at t
  split at t
  · split at t
    · rename_i hb
      obtain ⟨x, rfl, a, us, e, h1, h2⟩ := rpAll1 r
      subst e
      exact ⟨a, _, rfl, by rw [← boolsOf_rp h2 hb]; exact h1.sq, f.bl g t⟩
    · exact t.elim
  · exact t.elim
def dIntOf : RAD := fun ds μ P => match ds with
  | [.int i] => P (.int i) μ
  | [.bl k] => P (.int (if k then 1 else 0)) μ
  | [.str a] => ∃ n, (PySem.intText? a = some n ∧ a.length ≤ 640) ∧ P (.int n) μ
  | _ => False
def rIntOf : List V → Hp → VK → Prop := fun xs H Q => ((∃ i, xs = [.int i] ∧ Q (.int i) H) ∨ ∃ k, xs = [.bl k] ∧ Q (.int (if k then 1 else 0)) H) ∨ ∃ a n, xs = [.str a] ∧ PySem.intText? a = some n ∧ a.length ≤ 640 ∧ Q (.int n) H
theorem call_intA : CallR X (.type "int") rIntOf := CallR.or call_int1 call_int_str
theorem cd_int : CallD K rIntOf dIntOf := by
  intro w H vs ds P Q g r t f
  unfold dIntOf at t
  split at t
  · obtain ⟨x, rfl, h⟩ := rpAll1 r
    rw [show x = _ from h]
    exact .inl (.inl ⟨_, rfl, f.int g t⟩)
  · obtain ⟨x, rfl, h⟩ := rpAll1 r
    rw [show x = _ from h]
    exact .inl (.inr ⟨_, rfl, f.int g t⟩)
  · obtain ⟨x, rfl, h⟩ := rpAll1 r
    rw [show x = _ from h]
    obtain ⟨n, ⟨h1, h2⟩, t⟩ := t
    exact .inr ⟨_, n, rfl, h1, h2, f.int g t⟩
  · exact t.elim
def dStrOf : RAD := fun ds μ P => match ds with
  | [.int i] => i.natAbs.log2 < 1920 ∧ P (.str (toString i)) μ
  | _ => False
theorem cd_str : CallD K (fun xs H Q => ∃ i : Int, xs = [.int i] ∧ i.natAbs.log2 < 1920 ∧ Q (.str (toString i)) H) dStrOf := by
  intro w H vs ds P Q g r t f
  unfold dStrOf at t
  split at t
  · obtain ⟨x, rfl, h⟩ := rpAll1 r
    rw [show x = _ from h]
    exact ⟨_, rfl, t.1, f.st g t.2⟩
  · exact t.elim
def dTupOf : RAD := fun ds μ P => match ds with
  | [.lst xs] => P (.tup xs) μ
  | [.fz xs] => P (.tup xs) μ
  | [.tup xs] => P (.tup xs) μ
  | [.loc n] => match μ[n]? with
    | some (some (.lst xs)) => P (.tup xs) μ
    | _ => False
  | _ => False
def dLstOf : RAD := fun ds μ P => match ds with
  | [.lst xs] => P (.lst xs) μ
  | [.fz xs] => P (.lst xs) μ
  | [.tup xs] => P (.lst xs) μ
  | [.loc n] => match μ[n]? with
    | some (some (.lst xs)) => P (.lst xs) μ
    | _ => False
  | _ => False
theorem cd_tup : CallD K (fun xs H Q => ∃ p ys, xs = [.ref p] ∧ ((SqL K H p ys ∧ ∀ l, H l = none → Q (.ref l) (upd H l (.tup ys))) ∨ (SqT K H p ys ∧ Q (.ref p) H))) dTupOf := by
  intro w H vs ds P Q g r t f
  unfold dTupOf at t
  split at t
  · obtain ⟨x, rfl, a, us, e, h1, h2⟩ := rpAll1 r
    subst e
    exact ⟨a, us, rfl, .inl ⟨h1.sq, fun l hl => f.tup g hl h2 t⟩⟩
  · obtain ⟨x, rfl, a, us, e, h1, h3⟩ := rpAll1 r
    subst e
    exact ⟨a, us, rfl, .inl ⟨h1.sq, fun l hl => f.tup g hl h3 t⟩⟩
  · obtain ⟨x, rfl, a, us, e, h1, h2⟩ := rpAll1 r
    subst e
    exact ⟨a, us, rfl, .inr ⟨h1.sq, f.now g (d := .tup _) ⟨a, us, rfl, h1, h2⟩ t⟩⟩
  · split at t
    · rename_i hm
      obtain ⟨x, rfl, h⟩ := rpAll1 r
      obtain ⟨a, e, _, us, h1, h2⟩ := g.at h hm
      subst e
      exact ⟨a, us, rfl, .inl ⟨SqL.of h1, fun l hl => f.tup g hl h2 t⟩⟩
    · exact t.elim
  · exact t.elim
theorem cd_lst : CallD K (fun xs H Q => ∃ p ys, xs = [.ref p] ∧ (SqL K H p ys ∨ SqT K H p ys) ∧ ∀ l, H l = none → Q (.ref l) (upd H l (.lst ys))) dLstOf := by
  intro w H vs ds P Q g r t f
  unfold dLstOf at t
  split at t
  · obtain ⟨x, rfl, a, us, e, h1, h2⟩ := rpAll1 r
    subst e
    exact ⟨a, us, rfl, .inl h1.sq, fun l hl => f.lst g hl h2 t⟩
  · obtain ⟨x, rfl, a, us, e, h1, h3⟩ := rpAll1 r
    subst e
    exact ⟨a, us, rfl, .inl h1.sq, fun l hl => f.lst g hl h3 t⟩
  · obtain ⟨x, rfl, a, us, e, h1, h2⟩ := rpAll1 r
    subst e
    exact ⟨a, us, rfl, .inr h1.sq, fun l hl => f.lst g hl h2 t⟩
  · split at t
    · rename_i hm
      obtain ⟨x, rfl, h⟩ := rpAll1 r
      obtain ⟨a, e, _, us, h1, h2⟩ := g.at h hm
      subst e
      exact ⟨a, us, rfl, .inl (SqL.of h1), fun l hl => f.lst g hl h2 t⟩
    · exact t.elim
  · exact t.elim

/-! ### items, slices -/
def dIx : R2D := fun x y μ P => match x, y with
  | .lst xs, .int i => match atI xs i with
    | some d => P d μ
    | none => False
  | .tup xs, .int i => match atI xs i with
    | some d => P d μ
    | none => False
  | .str z, .int i => match atI z.cps.toList i with
    | some c => z.length ≤ sizeLine ∧ P (.str ⟨#[c]⟩) μ
    | none => False
  | .loc n, .int i => match μ[n]? with
    | some (some (.lst xs)) => match atI xs i with
      | some d => P d μ
      | none => False
    | _ => False
  | _, _ => False
theorem atI_rp {w : Wo} {H : Hp} {ds : List D} {vs : List V} {i : Int} {d : D} (r : RpAll K w H ds vs) (h : atI ds i = some d) : ∃ v, atI vs i = some v ∧ Rp K w H d v := by
  unfold atI at h ⊢
  rw [r.length]
  cases q : ixN ds.length i with
  | none => rw [q] at h; cases h
  | some j =>
    rw [q] at h
    exact r.get' h
theorem od_ix : OpD K (rIx K) dIx := by
  intro w H x y dx dy P Q g rx ry t f
  unfold dIx at t
  split at t
  · split at t
    · rename_i hd
      obtain ⟨a, us, e, h1, h2⟩ := rx
      obtain ⟨v, h3, h4⟩ := atI_rp h2 hd
      exact .inl ⟨a, us, _, v, e, ry, h1.sq, h3, f.now g h4 t⟩
    · exact t.elim
  · split at t
    · rename_i hd
      obtain ⟨a, us, e, h1, h2⟩ := rx
      obtain ⟨v, h3, h4⟩ := atI_rp h2 hd
      exact .inr (.inl ⟨a, us, _, v, e, ry, h1.sq, h3, f.now g h4 t⟩)
    · exact t.elim
  · split at t
    · rename_i hd
      exact .inr (.inr ⟨_, _, _, rx, ry, t.1, hd, f.st g t.2⟩)
    · exact t.elim
  · split at t
    · rename_i hm
      split at t
      · rename_i hd
        obtain ⟨a, e, _, us, h1, h2⟩ := g.at rx hm
        obtain ⟨v, h3, h4⟩ := atI_rp h2 hd
        exact .inl ⟨a, us, _, v, e, ry, SqL.of h1, h3, f.now g h4 t⟩
      · exact t.elim
    · exact t.elim
  · exact t.elim
theorem te_ix {a b : Expr} {ta tb : ET} {pos : Pos} (ha : PE X a (LE X.K ta)) (hb : PE X b (LE X.K tb)) (hs : PlainIx b) : PE X (.Subscript a b pos) (LE X.K (eOp dIx ta tb)) := te_of (pe_ix ix_seq ha hb hs) (lift_op od_ix)
def cutD (xs : List D) (lo hi : Option Int) : List D := (xs.drop (HT.sIx xs.length 0 lo)).take (HT.sIx xs.length xs.length hi - HT.sIx xs.length 0 lo)
theorem cut_rp {w : Wo} {H : Hp} {ds : List D} {vs : List V} {lo hi : Option Int} (r : RpAll K w H ds vs) : RpAll K w H (cutD ds lo hi) (cutV vs lo hi) := by
  unfold cutD cutV
  rw [r.length]
  exact (r.drop _).take _
theorem cut_all {xs : List D} {lo hi : Option Int} (h : HT.sIx xs.length 0 lo = 0 ∧ HT.sIx xs.length xs.length hi = xs.length) : cutD xs lo hi = xs := by
  unfold cutD
  rw [h.1, h.2]
  simp
abbrev OT := Env → Mu → (Option Int → Mu → Prop) → Prop
def oNo : OT := fun _ μ P => P none μ
def oYes (t : ET) : OT := fun ρ μ P => t ρ μ fun d μ1 => match d with
  | .int i => P (some i) μ1
  | _ => False
def LO (K : PySem.W.Frag) (t : OT) : TO := fun σ H Q => ∃ w ρ P, Gd K w H ∧ EnvR K w H ρ σ ∧ t ρ w.mu P ∧ ∀ o w' H', Ev w H w' H' → Gd K w' H' → P o w'.mu → Q o H'
theorem to_no : PO X none (LO X.K oNo) := ⟨fun pins s σ H Q I ⟨w, ρ, P, g, er, t, f⟩ => po_none.run pins s σ H Q I (f none w H Ev.refl g t)⟩
theorem to_yes {e : Expr} {t : ET} (h : PE X e (LE X.K t)) : PO X (some e) (LO X.K (oYes t)) := ⟨fun pins s σ H Q I ⟨w, ρ, P, g, er, t, f⟩ => (po_some h).run pins s σ H Q I ⟨w, ρ, _, g, er, t, fun d v w1 H1 e1 g1 r1 t1 => by
  cases d with
  | int i => exact ⟨i, r1, f (some i) w1 H1 e1 g1 t1⟩
  | _ => exact t1.elim⟩⟩
def dSl (x : D) (lo hi : Option Int) : Mu → KD → Prop := fun μ P => match x with
  | .lst xs => P (.lst (cutD xs lo hi)) μ
  | .fz xs => P (.lst (cutD xs lo hi)) μ
  | .tup xs => P (.tup (cutD xs lo hi)) μ
  | .str z => z.length ≤ sizeLine ∧ P (.str (cutS z lo hi)) μ
  | .loc n => match μ[n]? with
    | some (some (.lst xs)) => P (.lst (cutD xs lo hi)) μ
    | _ => False
  | _ => False
def eSl (t : ET) (l u : OT) : ET := fun ρ μ P => t ρ μ fun d μ1 => l ρ μ1 fun lo μ2 => u ρ μ2 fun hi μ3 => dSl d lo hi μ3 P
def rSlAll (K : PySem.W.Frag) : V → Option Int → Option Int → Hp → VK → Prop := fun x lo hi H Q => rSlL K x lo hi H Q ∨ rSlA K x lo hi H Q ∨ rSlS x lo hi H Q
theorem sl_all : SlR X (rSlAll X.K) := SlR.or sl_list (SlR.or sl_tupA sl_str)
theorem te_sl {e : Expr} {t : ET} {l u : OT} {lo hi : Option Expr} {p2 pos : Pos} (he : PE X e (LE X.K t)) (hl : PO X lo (LO X.K l)) (hu : PO X hi (LO X.K u)) : PE X (.Subscript e (.Slice lo hi none p2) pos) (LE X.K (eSl t l u)) :=
  te_of (pe_slice sl_all he hl hu) fun σ H Q ⟨w, ρ, P, g, er, t, f⟩ => ⟨w, ρ, _, g, er, t, fun d v w1 H1 e1 g1 r1 t1 => ⟨w1, ρ, _, g1, er.mono e1.toKp, t1, fun lo w2 H2 e2 g2 t2 =>
    ⟨w2, ρ, _, g2, er.mono (e1.trans e2).toKp, t2, fun hi w3 H3 e3 g3 t3 => by
      have r3 := Rp.mono (e2.trans e3).toKp _ _ r1
      have f3 := f.mono ((e1.trans e2).trans e3)
      unfold dSl at t3
      split at t3
      · obtain ⟨a, us, e, h1, h2⟩ := r3
        exact .inl ⟨a, us, e, h1.sq, fun p hp => f3.lst g3 hp (cut_rp h2) t3⟩
      · obtain ⟨a, us, e, h1, h4⟩ := r3
        exact .inl ⟨a, us, e, h1.sq, fun p hp => f3.lst g3 hp (cut_rp h4) t3⟩
      · obtain ⟨a, us, e, h1, h2⟩ := r3
        refine .inr (.inl ⟨a, us, e, h1.sq, fun z => ?_, fun _ p hp => f3.tup g3 hp (cut_rp h2) t3⟩)
        rw [h2.length] at z
        rw [cut_all z] at t3
        exact f3.now g3 (d := .tup _) ⟨a, us, rfl, h1, h2⟩ t3
      · exact .inr (.inr ⟨_, r3, t3.1, f3.st g3 t3.2⟩)
      · split at t3
        · rename_i hm
          obtain ⟨a, e, _, us, h1, h2⟩ := g3.at r3 hm
          exact .inl ⟨a, us, e, SqL.of h1, fun p hp => f3.lst g3 hp (cut_rp h2) t3⟩
        · exact t3.elim
      · exact t3.elim⟩⟩⟩

/-! ### join -/
def strsOf : List D → Option (List Str)
  | [] => some []
  | .str b :: ds => match strsOf ds with
    | some bs => some (b :: bs)
    | none => none
  | _ :: _ => none
theorem strsOf_rp {w : Wo} {H : Hp} : ∀ {ds : List D} {vs : List V} {bs : List Str}, RpAll K w H ds vs → strsOf ds = some bs → vs = bs.map V.str
  | [], _, _, h, e => by cases e; exact h
  | .str n :: ds, _, _, ⟨v, r, h1, h2, h3⟩, e => by
    unfold strsOf at e
    cases q : strsOf ds with
    | none => rw [q] at e; cases e
    | some ns => rw [q] at e; cases e; rw [h1, show v = _ from h2, strsOf_rp h3 q]; rfl
  | .non :: _, _, _, _, e => by cases e
  | .ty _ :: _, _, _, _, e => by cases e
  | .int _ :: _, _, _, _, e => by cases e
  | .bl _ :: _, _, _, _, e => by cases e
  | .lst _ :: _, _, _, _, e => by cases e
  | .fz _ :: _, _, _, _, e => by cases e
  | .tup _ :: _, _, _, _, e => by cases e
  | .dT _ _ :: _, _, _, _, e => by cases e
  | .dK _ _ :: _, _, _, _, e => by cases e
  | .ins _ _ _ :: _, _, _, _, e => by cases e
  | .exc _ _ _ :: _, _, _, _, e => by cases e
  | .loc _ :: _, _, _, _, e => by cases e
  | .ref _ :: _, _, _, _, e => by cases e
def dJoin (a : Str) : R1D := fun y μ P => match y with
  | .lst xs => match strsOf xs with
    | some ys => (ys.map (·.length)).sum + ys.length * a.length ≤ 16777216 ∧ P (.str (Txt.join a ys)) μ
    | none => False
  | _ => False
/-- o.m(e), o a text -/
def eStr1 (rd : Str → R1D) (ta tb : ET) : ET := fun ρ μ P => ta ρ μ fun x μ1 => match x with
  | .str a => tb ρ μ1 fun y μ2 => rd a y μ2 P
  | _ => False
def Str1D (K : PySem.W.Frag) (r : V → List V → Hp → VK → Prop) (rd : Str → R1D) : Prop := ∀ w H a y dy P Q, Gd K w H → Rp K w H dy y → rd a dy w.mu P → Fin K w H P Q → r (.str a) [y] H Q
theorem lift_str1 {ta tb : ET} {r : V → List V → Hp → VK → Prop} {rd : Str → R1D} (h : Str1D K r rd) (σ : L2.St) (H : Hp) (Q : VK) (q : LE K (eStr1 rd ta tb) σ H Q) : tM1 r (LE K ta) (LE K tb) σ H Q := by
  obtain ⟨w, ρ, P, g, er, t, f⟩ := q
  refine ⟨w, ρ, _, g, er, t, fun x v w1 H1 e1 g1 r1 t1 => ?_⟩
  split at t1
  · rename_i a
    rw [show v = V.str a from r1]
    exact ⟨⟨a, rfl⟩, w1, ρ, _, g1, er.mono e1.toKp, t1, fun y u w2 H2 e2 g2 r2 t2 => h w2 H2 a u y P Q g2 r2 t2 (f.mono (e1.trans e2))⟩
  · exact t1.elim
def rJoin (K : PySem.W.Frag) : V → List V → Hp → VK → Prop := fun x xs H Q => ∃ a p, ∃ ys : List Str, x = .str a ∧ xs = [.ref p] ∧ (SqL K H p (ys.map V.str) ∨ SqT K H p (ys.map V.str)) ∧
      (ys.map (·.length)).sum + ys.length * a.length ≤ 16777216 ∧ Q (.str (Txt.join a ys)) H
theorem sd_join : Str1D K (rJoin K) dJoin := by
  intro w H a y dy P Q g r t f
  unfold dJoin at t
  split at t
  · split at t
    · rename_i hb
      obtain ⟨p, us, e, h1, h2⟩ := r
      subst e
      exact ⟨_, p, _, rfl, rfl, .inl (by rw [← strsOf_rp h2 hb]; exact h1.sq), t.1, f.st g t.2⟩
    · exact t.elim
  · exact t.elim
theorem te_join {o e : Expr} {ta tb : ET} {apos pos : Pos} (ho : PE X o (LE X.K ta)) (he : PE X e (LE X.K tb)) (hs : starEach [e] X.env = [(false, eval e X.env)] := by rfl) (hbase : attributeBase o "join" X.env (eval o X.env) = eval o X.env := by rfl)
    (hline : (apos.endLine == pos.line) = true := by rfl) : PE X (.Call (.Attribute o "join" apos) [e] [] pos) (LE X.K (eStr1 dJoin ta tb)) :=
  te_of (pe_join ho he hs hbase hline) (lift_str1 sd_join)
end
end Tr
set_option Elab.async false
set_option linter.all false
set_option maxRecDepth 100000
namespace Tr
open PySem PySem.Spec PyProof.Rows L2

/-! ### targets -/
abbrev GT := D → Env → Mu → (Env → Mu → Prop) → Prop
inductive Tgt where
  | nm (i : Nat)
  | tp (ts : List Tgt)
/-- a tuple of that length, or a list -/
def gSq (K : PySem.W.Frag) (n : Nat) (t : TGs) : TG := fun v σ H Q => gTup K n t v σ H Q ∨ gLst K n t v σ H Q
mutual
def gTgt (K : PySem.W.Frag) : Tgt → TG
  | .nm i => gName i
  | .tp ts => gSq K ts.length (gTgts K ts)
def gTgts (K : PySem.W.Frag) : List Tgt → TGs
  | [] => gNil
  | t :: ts => gCons (gTgt K t) (gTgts K ts)
end
mutual
def gD : Tgt → GT
  | .nm i => fun d ρ μ P => P (ρ.set i (some d)) μ
  | .tp ts => fun d ρ μ P => match d with
    | .tup xs => xs.length = ts.length ∧ gDs ts xs ρ μ P
    | .lst xs => xs.length = ts.length ∧ gDs ts xs ρ μ P
    | _ => False
def gDs : List Tgt → List D → Env → Mu → (Env → Mu → Prop) → Prop
  | [], xs, ρ, μ, P => xs = [] ∧ P ρ μ
  | t :: ts, xs, ρ, μ, P => match xs with
    | x :: xs => gD t x ρ μ fun ρ1 μ1 => gDs ts xs ρ1 μ1 P
    | [] => False
end
mutual
def slots : Tgt → List Nat
  | .nm i => [i]
  | .tp ts => slotsA ts
def slotsA : List Tgt → List Nat
  | [] => []
  | t :: ts => slots t ++ slotsA ts
end
theorem wipe_get (σ : L2.St) : ∀ (vs : List Nat) (j : Nat), (L2.wipe σ vs)[j]? = if j ∈ vs then (if j < σ.length then some none else none) else σ[j]?
  | [], j => by simp [L2.wipe]
  | v :: vs, j => by
    show ((L2.wipe σ vs).set v none)[j]? = _
    rw [List.getElem?_set, wipe_get σ vs j, L2.wipe_length]
    by_cases h : v = j
    · subst h; simp
    · simp [h, Ne.symm h]
theorem wipe_set {σ : L2.St} {vs : List Nat} {i : Nat} {x : Option V} (h : i ∈ vs) : L2.wipe (σ.set i x) vs = L2.wipe σ vs := by
  apply List.ext_getElem?
  intro j
  rw [wipe_get, wipe_get, List.length_set]
  by_cases hj : j ∈ vs
  · simp [hj]
  · have : i ≠ j := fun e => hj (e ▸ h)
    simp [hj, List.getElem?_set_ne this]
section
variable {K : PySem.W.Frag} {vs : List Nat}
mutual
theorem tgt_run : ∀ (t : Tgt) (d : D) (v : V) (w : Wo) (H : Hp) (ρ : Env) (σ : L2.St) (P : Env → Mu → Prop) (Q : L2.St → Hp → Prop), EnvR K w H ρ σ → Rp K w H d v → gD t d ρ w.mu P →
    (∀ ρ' σ', EnvR K w H ρ' σ' → (slots t ⊆ vs → L2.wipe σ' vs = L2.wipe σ vs) → P ρ' w.mu → Q σ' H) → gTgt K t v σ H Q
  | .nm i, d, v, w, H, ρ, σ, P, Q, er, r, t, f => f _ _ (er.set i r) (fun h => wipe_set (h List.mem_cons_self)) t
  | .tp ts, d, v, w, H, ρ, σ, P, Q, er, r, t, f => by
    unfold gD at t
    split at t
    · rename_i xs
      obtain ⟨a, us, e, h1, h2⟩ := r
      show gSq K ts.length (gTgts K ts) v σ H Q
      exact .inl ⟨a, us, e, h1.sq, by rw [h2.length]; exact t.1, tgts_run ts xs us w H ρ σ P Q er h2 t.2 f⟩
    · rename_i xs
      obtain ⟨a, us, e, h1, h2⟩ := r
      show gSq K ts.length (gTgts K ts) v σ H Q
      exact .inr ⟨a, us, e, h1.sq, by rw [h2.length]; exact t.1, tgts_run ts xs us w H ρ σ P Q er h2 t.2 f⟩
    · exact t.elim
theorem tgts_run : ∀ (ts : List Tgt) (ds : List D) (us : List V) (w : Wo) (H : Hp) (ρ : Env) (σ : L2.St) (P : Env → Mu → Prop) (Q : L2.St → Hp → Prop), EnvR K w H ρ σ → RpAll K w H ds us → gDs ts ds ρ w.mu P →
    (∀ ρ' σ', EnvR K w H ρ' σ' → (slotsA ts ⊆ vs → L2.wipe σ' vs = L2.wipe σ vs) → P ρ' w.mu → Q σ' H) → gTgts K ts us σ H Q
  | [], ds, us, w, H, ρ, σ, P, Q, er, r, t, f => by
    obtain ⟨e, t⟩ := t
    subst e
    exact ⟨r, f _ _ er (fun _ => rfl) t⟩
  | t0 :: ts, ds, us, w, H, ρ, σ, P, Q, er, r, t, f => by
    cases ds with
    | nil => exact (show False from t).elim
    | cons d ds =>
      obtain ⟨v, r0, e, h1, h2⟩ := r
      refine ⟨v, r0, e, tgt_run t0 d v w H ρ σ _ _ er h1 t fun ρ1 σ1 er1 z1 t1 => ?_⟩
      refine tgts_run ts ds r0 w H ρ1 σ1 P Q er1 h2 t1 fun ρ2 σ2 er2 z2 t2 => f ρ2 σ2 er2 (fun h => ?_) t2
      have h : slots t0 ++ slotsA ts ⊆ vs := h
      exact (z2 fun i hi => h (List.mem_append_right _ hi)).trans (z1 fun i hi => h (List.mem_append_left _ hi))
end
end
section
variable {X : Cx} {pos : Pos}
theorem tg_nm {i : Nat} {x : Str} (hN : X.N.Nodup) (hi : X.N[i]? = some x) (hx : Loc X.env.scope x) (hf : X.fn x = true ∨ X.env.scope.names.lookup x = some .local := by first | exact .inl rfl | exact .inr rfl | assumption) : PG X (.Name x pos) (gTgt X.K (.nm i)) := pg_name hN hi hx hf
theorem tg_tp {es : List Expr} {k : Nat} {ts : List Tgt} (hc : X.calm = true) (h : PGs X es (gTgts X.K ts))
    (hn : (assignEach es X.env).length = ts.length := by rfl) (hst : (assignEach es X.env).findIdx? (·.1) = none := by rfl) : PG X (.Tuple es k pos) (gTgt X.K (.tp ts)) :=
  ⟨fun pins s σ H v u Q I r hw => hw.elim ((pg_tup hc h hn hst).run pins s σ H v u Q I r) ((pg_lst hc h hn hst).run pins s σ H v u Q I r)⟩
theorem tgs_nil : PGs X [] (gTgts X.K []) := pgs_nil
theorem tgs_cons {e : Expr} {es : List Expr} {t : Tgt} {ts : List Tgt} (h1 : PG X e (gTgt X.K t)) (h2 : PGs X es (gTgts X.K ts))
    (hs : (assignEach (e :: es) X.env).map (·.2) = assign e X.env :: (assignEach es X.env).map (·.2) := by rfl) : PGs X (e :: es) (gTgts X.K (t :: ts)) := pgs_cons h1 h2 hs
end

/-! ### statements -/
structure EndsD where
  nx : Env → Mu → Prop
  rt : KD
  bk : Env → Mu → Prop := fun _ _ => False
  ct : Env → Mu → Prop := fun _ _ => False
abbrev ST := EndsD → Env → Mu → Prop
def FinS (K : PySem.W.Frag) (w : Wo) (H : Hp) (P : Env → Mu → Prop) (Q : L2.St → Hp → Prop) : Prop := ∀ ρ' σ' w' H', Ev w H w' H' → Gd K w' H' → EnvR K w' H' ρ' σ' → P ρ' w'.mu → Q σ' H'
structure FinD (K : PySem.W.Frag) (w : Wo) (H : Hp) (DD : EndsD) (E : L2.Ends) : Prop where
  nx : FinS K w H DD.nx E.nx
  rt : Fin K w H DD.rt E.rt
  bk : FinS K w H DD.bk E.bk
  ct : FinS K w H DD.ct E.ct
theorem FinS.mono {K : PySem.W.Frag} {w w' : Wo} {H H' : Hp} {P : Env → Mu → Prop} {Q : L2.St → Hp → Prop} (f : FinS K w H P Q) (e : Ev w H w' H') : FinS K w' H' P Q := fun d v w2 H2 e2 g r p => f d v w2 H2 (e.trans e2) g r p
theorem FinD.mono {K : PySem.W.Frag} {w w' : Wo} {H H' : Hp} {DD : EndsD} {E : L2.Ends} (f : FinD K w H DD E) (e : Ev w H w' H') : FinD K w' H' DD E := ⟨f.nx.mono e, f.rt.mono e, f.bk.mono e, f.ct.mono e⟩
def LS (K : PySem.W.Frag) (t : ST) : TS := fun E σ H => ∃ w ρ DD, Gd K w H ∧ EnvR K w H ρ σ ∧ t DD ρ w.mu ∧ FinD K w H DD E
section
variable {X : Cx} {a b c e o : Expr} {es : List Expr} {st : Stmt} {rest sa sb : List Stmt} {pos : Pos} {ta tb tc te : ET} {qa : BT} {t u : ST}
theorem ss_of {t0 : TS} {t : ST} (h : PS X st t0) (i : ∀ E σ H, LS X.K t E σ H → t0 E σ H) : PS X st (LS X.K t) := ⟨fun pins s σ H E I q => h.run pins s σ H E I (i E σ H q)⟩
theorem sss_of {t0 : TS} {t : ST} (h : PSs X rest t0) (i : ∀ E σ H, LS X.K t E σ H → t0 E σ H) : PSs X rest (LS X.K t) := ⟨fun pins s σ H E I q => h.run pins s σ H E I (i E σ H q)⟩
def sNext : ST := fun DD ρ μ => DD.nx ρ μ
def sSeq (t u : ST) : ST := fun DD ρ μ => t { DD with nx := u DD } ρ μ
theorem ss_nil : PSs X [] (LS X.K sNext) := sss_of pss_nil fun E σ H ⟨w, ρ, DD, g, er, t, f⟩ => f.nx ρ σ w H Ev.refl g er t
theorem ss_cons (h1 : PS X st (LS X.K t)) (h2 : PSs X rest (LS X.K u)) : PSs X (st :: rest) (LS X.K (sSeq t u)) :=
  sss_of (pss_cons h1 h2) fun E σ H ⟨w, ρ, DD, g, er, t, f⟩ => ⟨w, ρ, _, g, er, t, ⟨fun ρ' σ' w' H' e g' er' p => ⟨w', ρ', DD, g', er', p, f.mono e⟩, f.rt, f.bk, f.ct⟩⟩
theorem ss_one (h1 : PS X st (LS X.K t)) : PSs X [st] (LS X.K t) := pss_one h1
def sSet (i : Nat) (t : ET) : ST := fun DD ρ μ => t ρ μ fun d μ1 => DD.nx (ρ.set i (some d)) μ1
theorem ss_set {i : Nat} {x : Str} {pos' : Pos} (hN : X.N.Nodup) (hi : X.N[i]? = some x) (hx : Loc X.env.scope x) (he : PE X e (LE X.K te)) (hs : swapsWith e (some (.Name x pos')) pos.line X.env = pure false := by rfl)
    (hf : X.fn x = true ∨ X.env.scope.names.lookup x = some .local := by first | exact .inl rfl | exact .inr rfl | assumption) : PS X (.Assign [.Name x pos'] e pos) (LS X.K (sSet i te)) :=
  ss_of (ps_set hN hi hx he hs hf) fun E σ H ⟨w, ρ, DD, g, er, t, f⟩ => ⟨w, ρ, _, g, er, t, fun d v w1 H1 e1 g1 r1 t1 => f.nx _ _ w1 H1 e1 g1 ((er.mono e1.toKp).set i r1) t1⟩
def sAsg (tg : Tgt) (t : ET) : ST := fun DD ρ μ => t ρ μ fun d μ1 => gD tg d ρ μ1 DD.nx
theorem ss_asg {tgt : Expr} {tg : Tgt} (he : PE X e (LE X.K te)) (hg : PG X tgt (gTgt X.K tg)) (hs : swapsWithSole [tgt] e pos.line X.env = pure false := by rfl) (hw : swappedStores [tgt] e X.env = pure none := by rfl)
    (h1 : (assignEach [tgt] X.env).map (·.2) = [assign tgt X.env] := by rfl) : PS X (.Assign [tgt] e pos) (LS X.K (sAsg tg te)) :=
  ss_of (ps_asg he hg hs hw h1) fun E σ H ⟨w, ρ, DD, g, er, t, f⟩ => ⟨w, ρ, _, g, er, t, fun d v w1 H1 e1 g1 r1 t1 => tgt_run (vs := []) tg d v w1 H1 ρ σ _ _ (er.mono e1.toKp) r1 t1 fun ρ' σ' er' _ p => f.nx ρ' σ' w1 H1 e1 g1 er' p⟩
def sPar (i j : Nat) (s : AT) : ST := fun DD ρ μ => s ρ μ fun ds μ1 => match ds with
  | [x, y] => DD.nx ((ρ.set i (some x)).set j (some y)) μ1
  | _ => False
theorem ss_par {i j : Nat} {x y : Str} {px py pt : Pos} {kt k2 pt2} {sq : AT} (hc : X.calm = true) (hN : X.N.Nodup) (hi : X.N[i]? = some x) (hj : X.N[j]? = some y) (hij : i ≠ j)
    (hx : X.env.scope.names.lookup x = some .local) (hy : X.env.scope.names.lookup y = some .local) (ha : PA X [a, b] (LA X.K sq))
    (hw : swappedStores [.Tuple [.Name x px, .Name y py] kt pt] (.Tuple [a, b] k2 pt2) X.env = pure (some [x, y]))
    (hs : swapsWithSole [.Tuple [.Name x px, .Name y py] kt pt] (.Tuple [a, b] k2 pt2) pos.line X.env = pure false := by rfl) :
    PS X (.Assign [.Tuple [.Name x px, .Name y py] kt pt] (.Tuple [a, b] k2 pt2) pos) (LS X.K (sPar i j sq)) :=
  ss_of (ps_par hc hN hi hj hij hx hy ha hw hs) fun E σ H ⟨w, ρ, DD, g, er, t, f⟩ => ⟨w, ρ, _, g, er, t, fun ds vs w1 H1 e1 g1 r1 t1 => by
    split at t1
    · obtain ⟨v, u, rfl, h1, h2⟩ := rpAll2 r1
      exact ⟨v, u, rfl, f.nx _ _ w1 H1 e1 g1 (((er.mono e1.toKp).set i h1).set j h2) t1⟩
    · exact t1.elim⟩
def sExpr (t : ET) : ST := fun DD ρ μ => t ρ μ fun _ μ1 => DD.nx ρ μ1
theorem ss_expr (he : PE X e (LE X.K te)) (hs : swapsWith e none pos.line X.env = pure false := by rfl) : PS X (.Expr e pos) (LS X.K (sExpr te)) :=
  ss_of (ps_expr he hs) fun E σ H ⟨w, ρ, DD, g, er, t, f⟩ => ⟨w, ρ, _, g, er, t, fun d v w1 H1 e1 g1 r1 t1 => f.nx ρ σ w1 H1 e1 g1 (er.mono e1.toKp) t1⟩
def sRet (t : ET) : ST := fun DD ρ μ => t ρ μ DD.rt
theorem ss_ret (he : PE X e (LE X.K te)) : PS X (.Return (some e) pos) (LS X.K (sRet te)) :=
  ss_of (ps_ret he) fun E σ H ⟨w, ρ, DD, g, er, t, f⟩ => ⟨w, ρ, _, g, er, t, f.rt⟩
def sRetN : ST := fun DD _ μ => DD.rt .non μ
theorem ss_retN : PS X (.Return none pos) (LS X.K sRetN) := ss_of ps_retN fun E σ H ⟨w, ρ, DD, g, er, t, f⟩ => f.rt.non g t
theorem ss_pass : PS X (.Pass pos) (LS X.K sNext) := ss_of ps_pass fun E σ H ⟨w, ρ, DD, g, er, t, f⟩ => f.nx ρ σ w H Ev.refl g er t
def sIf (q : BT) (t u : ST) : ST := fun DD ρ μ => q ρ μ fun b μ1 => if b = true then t DD ρ μ1 else u DD ρ μ1
theorem ss_if (hc : PT X c (LB X.K qa)) (ha : PSs X sa (LS X.K t)) (hb : PSs X sb (LS X.K u)) : PS X (.If c sa sb pos) (LS X.K (sIf qa t u)) :=
  ss_of (ps_if hc ha hb) fun E σ H ⟨w, ρ, DD, g, er, t, f⟩ => ⟨w, ρ, _, g, er, t, fun k w1 H1 e1 g1 t1 => by
    cases k with
    | true => rw [if_pos rfl] at t1 ⊢; exact ⟨w1, ρ, DD, g1, er.mono e1.toKp, t1, f.mono e1⟩
    | false => rw [if_neg Bool.false_ne_true] at t1 ⊢; exact ⟨w1, ρ, DD, g1, er.mono e1.toKp, t1, f.mono e1⟩⟩
/-- xs[i] = e, xs a list that may change -/
def sPut (te tx ti : ET) : ST := fun DD ρ μ => te ρ μ fun d μ1 => tx ρ μ1 fun x μ2 => ti ρ μ2 fun i μ3 => match x, i with
  | .loc n, .int k => match μ3[n]? with
    | some (some (.lst xs)) => match ixN xs.length k with
      | some j => DD.nx ρ (μ3.set n (some (.lst (xs.set j d))))
      | none => False
    | _ => False
  | _, _ => False
theorem ss_put {x i : Expr} {tx ti : ET} {p2 : Pos} (he : PE X e (LE X.K te)) (hx : PE X x (LE X.K tx)) (hi : PE X i (LE X.K ti)) (hg : PG X (.Subscript x i p2) (gSub (LE X.K tx) (LE X.K ti) rSetL))
    (hs : swapsWithSole [.Subscript x i p2] e pos.line X.env = pure false := by rfl) (hw : swappedStores [.Subscript x i p2] e X.env = pure none := by rfl)
    (h1 : (assignEach [.Subscript x i p2] X.env).map (·.2) = [assign (.Subscript x i p2) X.env] := by rfl) : PS X (.Assign [.Subscript x i p2] e pos) (LS X.K (sPut te tx ti)) :=
  ss_of (ps_asg he hg hs hw h1) fun E σ H ⟨w, ρ, DD, g, er, t, f⟩ => ⟨w, ρ, _, g, er, t, fun d v w1 H1 e1 g1 r1 t1 =>
    ⟨w1, ρ, _, g1, er.mono e1.toKp, t1, fun dx vx w2 H2 e2 g2 r2 t2 => ⟨w2, ρ, _, g2, er.mono (e1.trans e2).toKp, t2, fun di vi w3 H3 e3 g3 r3 t3 => by
      split at t3
      · split at t3
        · split at t3
          · rename_i n k _ xs hm _ j hj
            obtain ⟨ad, e4, ea, us, h4, h5⟩ := g3.at (Rp.mono e3.toKp _ _ r2) hm
            have hd := Rp.mono (e2.trans e3).toKp _ _ r1
            refine ⟨ad, us, k, j, e4, r3, h4, by rw [h5.length]; exact hj, ?_⟩
            have kp := Kp.put (o := .lst (us.set j v)) (c' := .lst (xs.set j d)) (H := H3) ea hm
            have ev := Ev.put (o := .lst (us.set j v)) (c' := .lst (xs.set j d)) g3 ea hm
            refine f.nx ρ σ (w3.put n (.lst (xs.set j d))) _ (((e1.trans e2).trans e3).trans ev) (g3.put ea hm ⟨_, upd_same, RpAll.mono kp _ _ (h5.set j hd)⟩) (er.mono (((e1.trans e2).trans e3).trans ev).toKp) t3
          · exact t3.elim
        · exact t3.elim
      · exact t3.elim⟩⟩⟩
end

/-! ### what is walked -/
structure ItD (K : PySem.W.Frag) (w0 : Wo) (H0 : Hp) (J : It) (ds : List D) : Prop where
  go : ∀ i w H, Kp w0 H0 w H → Gd K w H → i < ds.length → J.go i H
  yld : ∀ i w H x H', Kp w0 H0 w H → Gd K w H → i < ds.length → J.yld i H x H' → ∃ d w', ds[i]? = some d ∧ w'.mu = w.mu ∧ Ev w H w' H' ∧ Gd K w' H' ∧ Rp K w' H' d x
  stop : ∀ i w H, Kp w0 H0 w H → Gd K w H → ds.length ≤ i → J.stop i H
abbrev IT := Env → Mu → KA → Prop
def LI (K : PySem.W.Frag) (t : IT) : TI := fun σ H R => ∃ w ρ P, Gd K w H ∧ EnvR K w H ρ σ ∧ t ρ w.mu P ∧ ∀ ds w' H' J, Ev w H w' H' → Gd K w' H' → ItD K w' H' J ds → P ds w'.mu → R J H'
def loopD (tg : Tgt) (tb : ST) (DD : EndsD) : List D → Env → Mu → Prop
  | [], ρ, μ => DD.nx ρ μ
  | d :: ds, ρ, μ => gD tg d ρ μ fun ρ1 μ1 => tb { DD with nx := loopD tg tb DD ds, ct := loopD tg tb DD ds, bk := DD.nx } ρ1 μ1
def sFor (it : IT) (tg : Tgt) (tb : ST) : ST := fun DD ρ μ => it ρ μ fun ds μ1 => loopD tg tb DD ds ρ μ1
section
variable {X : Cx} {iter tgt : Expr} {body : List Stmt} {pos : Pos} {ti : IT} {tg : Tgt} {tb : ST}
theorem ss_for (hp : PassesOwn (model X.prog X.w) X.A X.env X.xe) (hc : X.calm = true) (hi : PI X tgt iter (LI X.K ti)) (hg : PG X tgt (gTgt X.K tg)) (hb : PSs X body (LS X.K tb))
    (hs : ∀ x, foldedSetIterable iter X.env x = pure x := by intro _; rfl) : PS X (.For tgt iter body [] pos) (LS X.K (sFor ti tg tb)) :=
  ss_of (ps_for hp hc hi hg hb hs) fun E σ H ⟨w, ρ, DD, g, er, t, f⟩ => by
    refine ⟨w, ρ, _, g, er, t, fun ds w1 H1 J e1 g1 it t1 => ?_⟩
    refine ⟨fun i m σ' H' => i ≤ ds.length ∧ m = ds.length - i ∧ ∃ w2 ρ2, Ev w1 H1 w2 H' ∧ Gd X.K w2 H' ∧ EnvR X.K w2 H' ρ2 σ' ∧ loopD tg tb DD (ds.drop i) ρ2 w2.mu, ⟨_, Nat.zero_le _, rfl, w1, ρ, Ev.refl, g1, er.mono e1.toKp, t1⟩, ?_⟩
    rintro i m σ2 H2 ⟨hi, hm, w2, ρ2, e2, g2, er2, t2⟩
    by_cases hlt : i < ds.length
    · refine .inr ⟨it.go i w2 H2 e2.toKp g2 hlt, fun σ' H' => ∃ w2 ρ2, Ev w1 H1 w2 H' ∧ Gd X.K w2 H' ∧ EnvR X.K w2 H' ρ2 σ' ∧ loopD tg tb DD (ds.drop (i + 1)) ρ2 w2.mu, fun σ' H' h => ⟨_, by omega, hlt, rfl, h⟩, fun x H3 hy => ?_⟩
      obtain ⟨d, w3, hd, hmu, e3, g3, r3⟩ := it.yld i w2 H2 x H3 e2.toKp g2 hlt hy
      rw [List.drop_eq_getElem_cons hlt] at t2
      have hd' : ds[i] = d := by
        obtain ⟨_, q⟩ := List.getElem?_eq_some_iff.mp hd
        exact q
      rw [hd'] at t2
      unfold loopD at t2
      rw [← hmu] at t2
      have e13 := e1.trans (e2.trans e3)
      refine tgt_run (vs := []) tg d x w3 H3 ρ2 σ2 _ _ (er2.mono e3.toKp) r3 t2 fun ρ4 σ4 er4 _ t4 => ?_
      refine ⟨w3, ρ4, _, g3, er4, t4, ⟨fun ρ5 σ5 w5 H5 e5 g5 er5 t5 => ⟨w5, ρ5, (e2.trans e3).trans e5, g5, er5, t5⟩, (f.mono e13).rt, (f.mono e13).nx, fun ρ5 σ5 w5 H5 e5 g5 er5 t5 => ⟨w5, ρ5, (e2.trans e3).trans e5, g5, er5, t5⟩⟩⟩
    · have : i = ds.length := by omega
      subst this
      rw [List.drop_length] at t2
      exact .inl ⟨it.stop _ w2 H2 e2.toKp g2 (Nat.le_refl _), f.nx ρ2 σ2 w2 H2 (e1.trans e2) g2 er2 t2⟩
end

/-! ### list comprehensions -/
def compD (tg : Tgt) (tt : BT) (te : ET) (ρ : Env) : List D → List D → Mu → KA → Prop
  | [], acc, μ, P => P acc μ
  | d :: ds, acc, μ, P => gD tg d ρ μ fun ρ1 μ1 => tt ρ1 μ1 fun b μ2 =>
    if b = true then te ρ1 μ2 fun y μ3 => acc.length < sizeLine ∧ compD tg tt te ρ ds (acc ++ [y]) μ3 P else compD tg tt te ρ ds acc μ2 P
def bYes : BT := fun _ μ P => P true μ
def eComp (it : IT) (tg : Tgt) (tt : BT) (te : ET) (vs : List Nat) : ET := fun ρ μ P => it ρ μ fun ds μ1 => compD tg tt te (wipeD ρ vs) ds [] μ1 fun ys μ2 => P (.lst ys) μ2
theorem lift_comp {K : PySem.W.Frag} {ti : IT} {tg : Tgt} {tt : BT} {te : ET} {vs : List Nat} (hv : slots tg ⊆ vs) (σ : L2.St) (H : Hp) (Q : VK) (q : LE K (eComp ti tg tt te vs) σ H Q) : tLc (LI K ti) (gTgt K tg) (LB K tt) (LE K te) vs σ H Q := by
  obtain ⟨w, ρ, P, g, er, t, f⟩ := q
  refine ⟨w, ρ, _, g, er, t, fun ds w1 H1 J e1 g1 it t1 => ?_⟩
  intro Dn hD
  have er1 := (er.mono e1.toKp).wipe vs
  refine ⟨fun i m H' => i ≤ ds.length ∧ m = ds.length - i ∧ ∃ w2 acc us, Kp w1 H1 w2 H' ∧ w2.hid = Dn :: w1.hid ∧ (∀ a, a ∈ w1.hid → H' a = H1 a) ∧ Gd K w2 H' ∧ H' Dn = some (.lst us) ∧ RpAll K w2 H' acc us ∧
      compD tg tt te (wipeD ρ vs) (ds.drop i) acc w2.mu (fun ys μ2 => P (.lst ys) μ2), ⟨_, Nat.zero_le _, rfl, w1.hide Dn, [], [], Kp.hide hD, rfl, fun a ha => upd_ne fun z => g1.noh hD (z ▸ ha), g1.hide hD, upd_same, rfl, t1⟩, ?_⟩
  rintro i m H2 ⟨hi, hm, w2, acc, us, k2, hh2, hk2, g2, hD2, ra2, t2⟩
  by_cases hlt : i < ds.length
  · refine .inr ⟨it.go i w2 H2 k2 g2 hlt, fun H' => ∃ w2 acc us, Kp w1 H1 w2 H' ∧ w2.hid = Dn :: w1.hid ∧ (∀ a, a ∈ w1.hid → H' a = H1 a) ∧ Gd K w2 H' ∧ H' Dn = some (.lst us) ∧ RpAll K w2 H' acc us ∧
      compD tg tt te (wipeD ρ vs) (ds.drop (i + 1)) acc w2.mu (fun ys μ2 => P (.lst ys) μ2), fun H' h => ⟨_, by omega, hlt, rfl, h⟩, fun x H3 hy => ?_⟩
    obtain ⟨d, w3, hd, hmu, e3, g3, r3⟩ := it.yld i w2 H2 x H3 k2 g2 hlt hy
    rw [List.drop_eq_getElem_cons hlt] at t2
    have hd' : ds[i] = d := by
      obtain ⟨_, q⟩ := List.getElem?_eq_some_iff.mp hd
      exact q
    rw [hd'] at t2
    unfold compD at t2
    rw [← hmu] at t2
    have k3 := k2.trans e3.toKp
    refine tgt_run (vs := vs) tg d x w3 H3 (wipeD ρ vs) (L2.wipe σ vs) _ _ (er1.mono k3) r3 t2 fun ρ4 σ4 er4 hw4 t4 => ?_
    refine ⟨(hw4 hv).trans ?_, ?_⟩
    · apply List.ext_getElem?
      intro j
      rw [wipe_get, wipe_get, L2.wipe_length]
      by_cases hj : j ∈ vs <;> simp [hj]
    · -- the test, the element
      have mem2 : Dn ∈ w2.hid := by rw [hh2]; exact List.mem_cons_self
      refine ⟨w3, ρ4, _, g3, er4, t4, fun bb w5 H5 e5 g5 t5 => ?_⟩
      have hD5 : H5 Dn = some (.lst us) := by rw [e5.hk Dn (by rw [e3.hd]; exact mem2), e3.hk Dn mem2]; exact hD2
      have hk5 : ∀ a, a ∈ w1.hid → H5 a = H1 a := fun a ha => by
        have m2 : a ∈ w2.hid := by rw [hh2]; exact List.mem_cons_of_mem _ ha
        rw [e5.hk a (by rw [e3.hd]; exact m2), e3.hk a m2]
        exact hk2 a ha
      have hh5 : w5.hid = Dn :: w1.hid := by rw [e5.hd, e3.hd, hh2]
      cases bb with
      | false =>
        rw [if_neg Bool.false_ne_true] at t5
        refine iteF ?_
        exact ⟨w5, acc, us, k3.trans e5.toKp, hh5, hk5, g5, hD5, RpAll.mono (e3.trans e5).toKp _ _ ra2, t5⟩
      | true =>
        rw [if_pos rfl] at t5
        refine iteT ?_
        refine ⟨w5, ρ4, _, g5, er4.mono e5.toKp, t5, fun y v w6 H6 e6 g6 r6 t6 => ?_⟩
        obtain ⟨hl, t6⟩ := t6
        have mem5 : Dn ∈ w5.hid := by rw [hh5]; exact List.mem_cons_self
        have hD6 : H6 Dn = some (.lst us) := by rw [e6.hk Dn mem5]; exact hD5
        have ra6 := RpAll.mono ((e3.trans e5).trans e6).toKp _ _ ra2
        have hh6 : w6.hid = Dn :: w1.hid := by rw [e6.hd, hh5]
        have mem6 : Dn ∈ w6.hid := by rw [hh6]; exact List.mem_cons_self
        have k7 : Kp w6 H6 w6 (upd H6 Dn (.lst (us ++ [v]))) := ⟨⟨[], by simp⟩, fun a u ha l => ⟨by rw [upd_ne (fun z => l (.inr (by rw [z]; exact mem6)))]; exact ha, l⟩⟩
        refine ⟨us, hD6, by rw [ra6.length]; exact hl, w6, acc ++ [y], us ++ [v], ((k3.trans e5.toKp).trans e6.toKp).trans k7, hh6, fun a ha => ?_, ?_, upd_same, (RpAll.mono k7 _ _ ra6).append ⟨v, [], rfl, Rp.mono k7 _ _ r6, rfl⟩, t6⟩
        · have na : a ≠ Dn := fun z => g1.noh hD (z ▸ ha)
          rw [upd_ne na, e6.hk a (by rw [hh5]; exact List.mem_cons_of_mem _ ha)]
          exact hk5 a ha
        · refine ⟨g6.len, g6.nd, fun a ha => ?_, g6.apart, fun n a c h1 h2 => ?_⟩
          · by_cases q : a = Dn
            · subst q; rw [upd_same]; simp
            · rw [upd_ne q]; exact g6.trk a ha
          · have na : a ≠ Dn := fun z => g6.apart a (List.mem_of_getElem? h1) (z ▸ mem6)
            exact (g6.cell n a c h1 h2).mono k7 (upd_ne na)
  · have : i = ds.length := by omega
    subst this
    rw [List.drop_length] at t2
    refine .inl ⟨it.stop _ w2 H2 k2 g2 (Nat.le_refl _), ?_⟩
    have mem2 : Dn ∈ w2.hid := by rw [hh2]; exact List.mem_cons_self
    -- the new list is let stand
    have lv : ∀ {a : Addr}, Live ⟨w2.am, w2.mu, w1.hid⟩ a → Live w2 a := fun {a} l => l.elim .inl fun z => .inr (by rw [hh2]; exact List.mem_cons_of_mem _ z)
    have k9 : Kp w2 H2 ⟨w2.am, w2.mu, w1.hid⟩ H2 := ⟨⟨[], by simp⟩, fun a o h l => ⟨h, fun z => l (lv z)⟩⟩
    have e9 : Ev w1 H1 ⟨w2.am, w2.mu, w1.hid⟩ H2 := ⟨k2.trans k9, rfl, hk2⟩
    have g9 : Gd K ⟨w2.am, w2.mu, w1.hid⟩ H2 := ⟨g2.len, g2.nd, fun a ha => g2.trk a (by
      rcases List.mem_append.mp ha with z | z
      · exact List.mem_append_left _ z
      · exact List.mem_append_right _ (by rw [hh2]; exact List.mem_cons_of_mem _ z)), fun a ha hh => g2.apart a ha (by rw [hh2]; exact List.mem_cons_of_mem _ hh), fun n a c h1 h2 => (g2.cell n a c h1 h2).mono k9 rfl⟩
    refine f (.lst acc) (.ref Dn) ⟨w2.am, w2.mu, w1.hid⟩ H2 (e1.trans e9) g9 ⟨Dn, us, rfl, ⟨?_, hD2⟩, RpAll.mono k9 _ _ ra2⟩ t2
    rintro (⟨n, c, h1, h2⟩ | hh)
    · exact g2.apart Dn (List.mem_of_getElem? h1) mem2
    · exact g1.noh hD hh
section
variable {X : Cx} {elt tgt iter : Expr} {ifs : List Expr} {scope : Scope} {own : List (Str × Nat)} {vs : List Nat} {pos : Pos} {ti : IT} {tg : Tgt} {tt : BT} {te : ET}
theorem tts_nil : PTs X [] (LB X.K bYes) := ⟨fun pins s σ H Q I ⟨w, ρ, P, g, er, t, f⟩ => pts_nil.run pins s σ H Q I (f true w H Ev.refl g t)⟩
theorem te_comp (hc : X.calm = true) (hN : X.N.Nodup) (hi : PI X tgt iter (LI X.K ti)) (ok : BlkOk X.N X.env.scope scope own)
    (hg : ∀ (s : Shared) (H : Hp) (C : Addr) (cl : List (Str × Addr)) (fp : List Addr), PG (X.blk s H scope (compEnvC scope cl C X.env) fp) tgt (gTgt X.K tg)) (ht : ∀ (s : Shared) (H : Hp) (C : Addr) (cl : List (Str × Addr)) (fp : List Addr), PTs (X.blk s H scope (compEnvC scope cl C X.env) fp) ifs (LB X.K tt))
    (he : ∀ (s : Shared) (H : Hp) (C : Addr) (cl : List (Str × Addr)) (fp : List Addr), PE (X.blk s H scope (compEnvC scope cl C X.env) fp) elt (LE X.K te)) (hv : slots tg ⊆ vs) (ho : own.map (·.2) = vs := by rfl) (hs : ∀ x, foldedSetIterable iter X.env x = pure x := by intro _; rfl) :
    PE X (.ListComp elt [⟨tgt, iter, ifs, 0⟩] scope pos) (LE X.K (eComp ti tg tt te vs)) := by
  subst ho
  exact te_of (pe_lc hc hN hi ok hg ht he hs) (lift_comp hv)
def sComp (i : Nat) (it : IT) (tg : Tgt) (tt : BT) (te : ET) (vs : List Nat) : ST := sSet i (eComp it tg tt te vs)
theorem ss_comp {i : Nat} {y : Str} {py spos : Pos} (hc : X.calm = true) (hN : X.N.Nodup) (hy : X.N[i]? = some y) (hyl : X.env.scope.names.lookup y = some .local)
    (hsw : swapsWith (.ListComp elt [⟨tgt, iter, ifs, 0⟩] scope pos) (some (.Name y py)) spos.line X.env = pure true) (hi : PI X tgt iter (LI X.K ti)) (ok : BlkOk X.N X.env.scope scope own)
    (hg : ∀ (s : Shared) (H : Hp) (C : Addr) (cl : List (Str × Addr)) (fp : List Addr), PG (X.blk s H scope (compEnvC scope cl C X.env) fp) tgt (gTgt X.K tg)) (ht : ∀ (s : Shared) (H : Hp) (C : Addr) (cl : List (Str × Addr)) (fp : List Addr), PTs (X.blk s H scope (compEnvC scope cl C X.env) fp) ifs (LB X.K tt))
    (he : ∀ (s : Shared) (H : Hp) (C : Addr) (cl : List (Str × Addr)) (fp : List Addr), PE (X.blk s H scope (compEnvC scope cl C X.env) fp) elt (LE X.K te)) (hv : slots tg ⊆ vs) (ho : own.map (·.2) = vs := by rfl) (hs : ∀ x, foldedSetIterable iter X.env x = pure x := by intro _; rfl) :
    PS X (.Assign [.Name y py] (.ListComp elt [⟨tgt, iter, ifs, 0⟩] scope pos) spos) (LS X.K (sSet i (eComp ti tg tt te vs))) := by
  subst ho
  exact ss_of (ps_setLc hc hN hy hyl hsw hi ok hg ht he hs) fun E σ H ⟨w, ρ, DD, g, er, t, f⟩ => lift_comp hv σ H _ ⟨w, ρ, _, g, er, t, fun d v w1 H1 e1 g1 r1 t1 => f.nx _ _ w1 H1 e1 g1 ((er.mono e1.toKp).set i r1) t1⟩
end
end Tr
set_option Elab.async false
set_option linter.all false
set_option maxRecDepth 100000
namespace Tr
open PySem PySem.Spec PyProof.Rows L2 RZ

/-! ### what is walked: a list, a tuple, a text -/
def wAny (K : PySem.W.Frag) (tl : TE) : TI := fun σ H R => tl σ H fun x H1 =>
  (∃ q, x = .ref q ∧ (∃ ys, SqL K H1 q ys) ∧ R (Itl K q) H1) ∨ (∃ q, x = .ref q ∧ (∃ ys, SqT K H1 q ys) ∧ R (Itt K q) H1) ∨ ∃ z, x = .str z ∧ R (Its z) H1
section
variable {X : Cx} {tgt e : Expr}
theorem pi_wAny {tl : TE} (h : PE X e tl) : PI X tgt e (wAny X.K tl) := by
  refine ⟨fun pins s σ H R I hw => thn (h.run pins s σ H _ I hw) ?_⟩
  rintro v s1 ⟨x, H1, J, rx, (⟨q, rfl, ⟨ys, hq⟩, hR⟩ | ⟨q, rfl, ⟨ys, hq⟩, hR⟩ | ⟨z, rfl, hR⟩)⟩
  · cases rx
    obtain ⟨us, -, pl, -⟩ := J.list hq
    exact wpAny_pyIter_list pl.isList (pi_one (tk := s1.toks) J _ (turn_list q _) ⟨_, Heap.get?_push_size _ rfl, rfl, rfl⟩ hR)
  · cases rx
    obtain ⟨us, -, pl, -⟩ := J.tuple hq
    exact wpAny_pyIter_tuple (show s1.heap.IsTuple q us.toArray from pl) (pi_one (tk := s1.toks) J _ (turn_tuple q _) ⟨_, Heap.get?_push_size _ rfl, rfl, rfl⟩ hR)
  · obtain ⟨tk, rfl⟩ := rx
    by_cases ha : (z.cps.all (· < 128)) = true
    · refine wpAny_pyIter_ascii ha ?_
      exact pi_one (tk := s1.toks) J _ (turn_str _ z tk "str_ascii_iterator" (.inl rfl)) ⟨_, Heap.get?_push_size _ rfl, rfl, rfl⟩ hR
    · refine wpAny_pyIter_wide (by simpa using ha) ?_
      exact pi_one (tk := s1.toks) J _ (turn_str _ z tk "str_iterator" (.inr rfl)) ⟨_, Heap.get?_push_size _ rfl, rfl, rfl⟩ hR
def signs (z : Str) : List D := z.cps.toList.map fun c => D.str ⟨#[c]⟩
def itAny (t : ET) : IT := fun ρ μ P => t ρ μ fun d μ1 => match d with
  | .lst xs => P xs μ1
  | .fz xs => P xs μ1
  | .tup xs => P xs μ1
  | .str z => P (signs z) μ1
  | _ => False
variable {K : PySem.W.Frag} {w : Wo} {H : Hp}
theorem itd_list {a : Addr} {ds : List D} {vs : List V} (h : ∀ w' H', Kp w H w' H' → SqL K H' a vs) (r : RpAll K w H ds vs) : ItD K w H (Itl K a) ds where
  go := fun i w' H' k g hi => ⟨vs, vs[i]'(by rw [r.length]; exact hi), h w' H' k, by simp [r.length, hi]⟩
  yld := fun i w' H' x H2 k g hi hy => by
    obtain ⟨e, hy⟩ := hy
    subst e
    obtain ⟨d, h1, h2⟩ := (RpAll.mono k _ _ r).get (hy vs (h w' _ k))
    exact ⟨d, w', h1, rfl, Ev.refl, g, h2⟩
  stop := fun i w' H' k g hi => ⟨vs, h w' H' k, by rw [r.length]; exact hi⟩
theorem itd_tup {a : Addr} {ds : List D} {vs : List V} (h : ∀ w' H', Kp w H w' H' → SqT K H' a vs) (r : RpAll K w H ds vs) : ItD K w H (Itt K a) ds where
  go := fun i w' H' k g hi => ⟨vs, vs[i]'(by rw [r.length]; exact hi), h w' H' k, by simp [r.length, hi]⟩
  yld := fun i w' H' x H2 k g hi hy => by
    obtain ⟨e, hy⟩ := hy
    subst e
    obtain ⟨d, h1, h2⟩ := (RpAll.mono k _ _ r).get (hy vs (h w' _ k))
    exact ⟨d, w', h1, rfl, Ev.refl, g, h2⟩
  stop := fun i w' H' k g hi => ⟨vs, h w' H' k, by rw [r.length]; exact hi⟩
theorem itd_str {z : Str} : ItD K w H (Its z) (signs z) where
  go := fun i w' H' k g hi => by
    show i < z.cps.size
    simpa [signs] using hi
  yld := fun i w' H' x H2 k g hi hy => by
    obtain ⟨e, c, hc, rfl⟩ := hy
    subst e
    exact ⟨.str ⟨#[c]⟩, w', by simp [signs, hc], rfl, Ev.refl, g, rfl⟩
  stop := fun i w' H' k g hi => by
    show z.cps.size ≤ i
    simpa [signs] using hi
theorem ti_of {e tgt : Expr} {t0 : TI} {t : IT} (h : PI X tgt e t0) (i : ∀ σ H R, LI X.K t σ H R → t0 σ H R) : PI X tgt e (LI X.K t) := ⟨fun pins s σ H R I q => h.run pins s σ H R I (i σ H R q)⟩
theorem ti_any {t : ET} (h : PE X e (LE X.K t)) : PI X tgt e (LI X.K (itAny t)) :=
  ti_of (pi_wAny h) fun σ H R ⟨w, ρ, P, g, er, t, f⟩ => ⟨w, ρ, _, g, er, t, fun d v w1 H1 e1 g1 r1 t1 => by
    split at t1
    · obtain ⟨a, us, e, h1, h2⟩ := r1
      exact .inl ⟨a, e, ⟨us, h1.sq⟩, f _ w1 H1 _ e1 g1 (itd_list (fun w' H' k => (k.fzL h1).sq) h2) t1⟩
    · obtain ⟨a, us, e, h1, h2⟩ := r1
      exact .inl ⟨a, e, ⟨us, h1.sq⟩, f _ w1 H1 _ e1 g1 (itd_list (fun w' H' k => (k.fzS h1).sq) h2) t1⟩
    · obtain ⟨a, us, e, h1, h2⟩ := r1
      exact .inr (.inl ⟨a, e, ⟨us, h1.sq⟩, f _ w1 H1 _ e1 g1 (itd_tup (fun w' H' k => (k.fzT h1).sq) h2) t1⟩)
    · exact .inr (.inr ⟨_, r1, f _ w1 H1 _ e1 g1 itd_str t1⟩)
    · exact t1.elim⟩

/-! range -/
def rangeD (lo : Int) (n : Nat) : List D := (List.range n).map fun (i : Nat) => D.int (lo + (i : Int))
theorem itd_range {lo : Int} {n : Nat} : ItD K w H (Itr lo n) (rangeD lo n) where
  go := fun i w' H' k g hi => by
    have hi : i < (rangeD lo n).length := hi
    show i < n
    simpa [rangeD] using hi
  yld := fun i w' H' x H2 k g hi hy => by
    obtain ⟨e, rfl⟩ := hy
    subst e
    have hi : i < (rangeD lo n).length := hi
    have hn : i < n := by simpa [rangeD] using hi
    exact ⟨.int (lo + i), w', by simp [rangeD, hn], rfl, Ev.refl, g, rfl⟩
  stop := fun i w' H' k g hi => by
    have hi : (rangeD lo n).length ≤ i := hi
    show n ≤ i
    simpa [rangeD] using hi
def itRange1 (s : AT) : IT := fun ρ μ P => s ρ μ fun ds μ1 => match ds with
  | [.int j] => (-(2 ^ 62) ≤ j ∧ j < 2 ^ 62) ∧ P (rangeD 0 j.toNat) μ1
  | _ => False
theorem ti_range1 {a : Expr} {sa : AT} {p pos : Pos} (hg : Gl X "range") (hm : X.mg "range" = none) (ha : PA X [a] (LA X.K sa)) (hs : starEach [a] X.env = [(false, eval a X.env)] := by rfl) : PI X tgt (.Call (.Name "range" p) [a] [] pos) (LI X.K (itRange1 sa)) :=
  ti_of (pi_range1 hg hm ha hs) fun σ H R ⟨w, ρ, P, g, er, t, f⟩ => ⟨w, ρ, _, g, er, t, fun ds vs w1 H1 e1 g1 r1 t1 => by
    split at t1
    · obtain ⟨x, rfl, h⟩ := rpAll1 r1
      rw [show x = _ from h]
      exact ⟨_, rfl, t1.1.1, t1.1.2, f _ w1 H1 _ e1 g1 itd_range t1.2⟩
    · exact t1.elim⟩
def itRange2 (s : AT) : IT := fun ρ μ P => s ρ μ fun ds μ1 => match ds with
  | [.int i, .int j] => (-(2 ^ 62) ≤ i ∧ i < 2 ^ 62 ∧ -(2 ^ 62) ≤ j ∧ j < 2 ^ 62) ∧ P (rangeD i (j - i).toNat) μ1
  | _ => False
theorem ti_range2 {a b : Expr} {sa : AT} {p pos : Pos} (hg : Gl X "range") (hm : X.mg "range" = none) (ha : PA X [a, b] (LA X.K sa)) (hs : starEach [a, b] X.env = [(false, eval a X.env), (false, eval b X.env)] := by rfl) (hs2 : starEach [b] X.env = [(false, eval b X.env)] := by rfl) :
    PI X tgt (.Call (.Name "range" p) [a, b] [] pos) (LI X.K (itRange2 sa)) :=
  ti_of (pi_range2 hg hm ha hs hs2) fun σ H R ⟨w, ρ, P, g, er, t, f⟩ => ⟨w, ρ, _, g, er, t, fun ds vs w1 H1 e1 g1 r1 t1 => by
    split at t1
    · obtain ⟨x, y, rfl, h, h'⟩ := rpAll2 r1
      rw [show x = _ from h, show y = _ from h']
      exact ⟨_, _, rfl, t1.1, f _ w1 H1 _ e1 g1 itd_range t1.2⟩
    · exact t1.elim⟩

/-! zip of two lists, of two tuples; enumerate of a list -/
def zipD : List D → List D → List D
  | x :: xs, y :: ys => .tup [x, y] :: zipD xs ys
  | _, _ => []
theorem zipD_get : ∀ {xs ys : List D} {i : Nat} {x y : D}, xs[i]? = some x → ys[i]? = some y → (zipD xs ys)[i]? = some (.tup [x, y])
  | [], _, _, _, _, h, _ => by simp at h
  | _ :: _, [], _, _, _, _, h => by simp at h
  | x :: xs, y :: ys, 0, _, _, h1, h2 => by simp at h1 h2; subst h1; subst h2; rfl
  | x :: xs, y :: ys, i + 1, _, _, h1, h2 => by
    show (zipD xs ys)[i]? = _
    exact zipD_get (by simpa using h1) (by simpa using h2)
theorem zipD_len : ∀ {xs ys : List D}, (zipD xs ys).length = min xs.length ys.length
  | [], _ => by simp [zipD]
  | _ :: _, [] => by simp [zipD]
  | x :: xs, y :: ys => by
    show (zipD xs ys).length + 1 = _
    rw [zipD_len, List.length_cons, List.length_cons]
    omega
/-- a new pair at a turn -/
theorem turn_pair {w' : Wo} {H' H2 : Hp} {T : Addr} {d e : D} {x y : V} (g : Gd K w' H') (hT : H' T = none) (h2 : H2 = upd H' T (.tup [x, y])) (r1 : Rp K w' H' d x) (r2 : Rp K w' H' e y) : Ev w' H' w' H2 ∧ Gd K w' H2 ∧ Rp K w' H2 (.tup [d, e]) (.ref T) := by
  subst h2
  exact ⟨Ev.new g hT, g.new hT, rp_tup (g.dead hT) g hT ⟨x, [y], rfl, r1, y, [], rfl, r2, rfl⟩⟩
theorem itd_zipL {a b : Addr} {ds es : List D} {vs us : List V} (h : ∀ w' H', Kp w H w' H' → SqL K H' a vs ∧ SqL K H' b us) (r : RpAll K w H ds vs) (q : RpAll K w H es us) : ItD K w H (Itz K a b) (zipD ds es) where
  go := fun i w' H' k g hi => by
    rw [zipD_len, ← r.length, ← q.length] at hi
    exact ⟨vs, us, vs[i], us[i], (h w' H' k).1, (h w' H' k).2, by simp [show i < vs.length by omega], by simp [show i < us.length by omega]⟩
  yld := fun i w' H' z H2 k g hi hy => by
    obtain ⟨T, x, y, rfl, hT, hH, hx, hy⟩ := hy
    obtain ⟨d, h1, h2⟩ := (RpAll.mono k _ _ r).get (hx vs (h w' _ k).1)
    obtain ⟨e, h3, h4⟩ := (RpAll.mono k _ _ q).get (hy us (h w' _ k).2)
    obtain ⟨e1, e2, e3⟩ := turn_pair g hT hH h2 h4
    exact ⟨_, w', zipD_get h1 h3, rfl, e1, e2, e3⟩
  stop := fun i w' H' k g hi => by
    rw [zipD_len, ← r.length, ← q.length] at hi
    exact ⟨vs, us, (h w' H' k).1, (h w' H' k).2, by omega⟩
theorem itd_zipT {a b : Addr} {ds es : List D} {vs us : List V} (h : ∀ w' H', Kp w H w' H' → SqT K H' a vs ∧ SqT K H' b us) (r : RpAll K w H ds vs) (q : RpAll K w H es us) : ItD K w H (ItzT K a b) (zipD ds es) where
  go := fun i w' H' k g hi => by
    rw [zipD_len, ← r.length, ← q.length] at hi
    exact ⟨vs, us, vs[i], us[i], (h w' H' k).1, (h w' H' k).2, by simp [show i < vs.length by omega], by simp [show i < us.length by omega]⟩
  yld := fun i w' H' z H2 k g hi hy => by
    obtain ⟨T, x, y, rfl, hT, hH, hx, hy⟩ := hy
    obtain ⟨d, h1, h2⟩ := (RpAll.mono k _ _ r).get (hx vs (h w' _ k).1)
    obtain ⟨e, h3, h4⟩ := (RpAll.mono k _ _ q).get (hy us (h w' _ k).2)
    obtain ⟨e1, e2, e3⟩ := turn_pair g hT hH h2 h4
    exact ⟨_, w', zipD_get h1 h3, rfl, e1, e2, e3⟩
  stop := fun i w' H' k g hi => by
    rw [zipD_len, ← r.length, ← q.length] at hi
    exact ⟨vs, us, (h w' H' k).1, (h w' H' k).2, by omega⟩
def itZip (s : AT) : IT := fun ρ μ P => s ρ μ fun ds μ1 => match ds with
  | [.lst xs, .lst ys] => P (zipD xs ys) μ1
  | [.tup xs, .tup ys] => P (zipD xs ys) μ1
  | _ => False
theorem ti_zip {e e2 : Expr} {sa : AT} {p pos tpos : Pos} {elts : List Expr} {kk : Nat} (hg : Gl X "zip") (hm : X.mg "zip" = none) (ha : PA X [e, e2] (LA X.K sa))
    (hs : starEach [e, e2] X.env = (false, eval e X.env) :: starEach [e2] X.env := by rfl) (hpl : (backTo pos (starEach [e2] X.env)).any (·.1) = false := by rfl) :
    PI X (.Tuple elts kk tpos) (.Call (.Name "zip" p) [e, e2] [] pos) (LI X.K (itZip sa)) :=
  ti_of (pi_zipA hg hm ha hs hpl) fun σ H R ⟨w, ρ, P, g, er, t, f⟩ => ⟨w, ρ, _, g, er, t, fun ds vs w1 H1 e1 g1 r1 t1 => by
    split at t1
    · obtain ⟨x, y, rfl, ⟨a, us, rfl, h1, h2⟩, b, ws, rfl, h3, h4⟩ := rpAll2 r1
      exact ⟨a, b, us, ws, rfl, .inl ⟨h1.sq, h3.sq, f _ w1 H1 _ e1 g1 (itd_zipL (fun w' H' k => ⟨(k.fzL h1).sq, (k.fzL h3).sq⟩) h2 h4) t1⟩⟩
    · obtain ⟨x, y, rfl, ⟨a, us, rfl, h1, h2⟩, b, ws, rfl, h3, h4⟩ := rpAll2 r1
      exact ⟨a, b, us, ws, rfl, .inr ⟨h1.sq, h3.sq, f _ w1 H1 _ e1 g1 (itd_zipT (fun w' H' k => ⟨(k.fzT h1).sq, (k.fzT h3).sq⟩) h2 h4) t1⟩⟩
    · exact t1.elim⟩
def enumD (i : Nat) : List D → List D
  | [] => []
  | x :: xs => .tup [.int (i : Int), x] :: enumD (i + 1) xs
theorem enumD_get : ∀ {xs : List D} {k i : Nat} {x : D}, xs[i]? = some x → (enumD k xs)[i]? = some (.tup [.int ((k + i : Nat) : Int), x])
  | [], _, _, _, h => by simp at h
  | x :: xs, k, 0, _, h => by simp at h; subst h; rfl
  | x :: xs, k, i + 1, y, h => by
    show (enumD (k + 1) xs)[i]? = _
    rw [enumD_get (k := k + 1) (i := i) (x := y) (by simpa using h)]
    have : k + 1 + i = k + (i + 1) := by omega
    rw [this]
theorem enumD_len : ∀ {xs : List D} {k : Nat}, (enumD k xs).length = xs.length
  | [], _ => rfl
  | x :: xs, k => by
    show (enumD (k + 1) xs).length + 1 = _
    rw [enumD_len, List.length_cons]
theorem itd_enum {a : Addr} {ds : List D} {vs : List V} (h : ∀ w' H', Kp w H w' H' → SqL K H' a vs) (r : RpAll K w H ds vs) : ItD K w H (Ite K a) (enumD 0 ds) where
  go := fun i w' H' k g hi => by
    rw [enumD_len, ← r.length] at hi
    exact ⟨vs, vs[i], h w' H' k, by simp [hi]⟩
  yld := fun i w' H' z H2 k g hi hy => by
    obtain ⟨T, x, rfl, hT, hH, hx⟩ := hy
    obtain ⟨d, h1, h2⟩ := (RpAll.mono k _ _ r).get (hx vs (h w' _ k))
    obtain ⟨e1, e2, e3⟩ := turn_pair (d := .int (i : Int)) g hT hH rfl h2
    refine ⟨_, w', ?_, rfl, e1, e2, e3⟩
    rw [enumD_get h1, Nat.zero_add]
  stop := fun i w' H' k g hi => by
    rw [enumD_len, ← r.length] at hi
    exact ⟨vs, h w' H' k, hi⟩
def itEnum (s : AT) : IT := fun ρ μ P => s ρ μ fun ds μ1 => match ds with
  | [.lst xs] => P (enumD 0 xs) μ1
  | _ => False
theorem ti_enum {e : Expr} {sa : AT} {p pos tpos : Pos} {elts : List Expr} {kk : Nat} (hg : Gl X "enumerate") (hm : X.mg "enumerate" = none) (ha : PA X [e] (LA X.K sa)) (hs : starEach [e] X.env = [(false, eval e X.env)] := by rfl) :
    PI X (.Tuple elts kk tpos) (.Call (.Name "enumerate" p) [e] [] pos) (LI X.K (itEnum sa)) :=
  ti_of (pi_enum hg hm ha hs) fun σ H R ⟨w, ρ, P, g, er, t, f⟩ => ⟨w, ρ, _, g, er, t, fun ds vs w1 H1 e1 g1 r1 t1 => by
    split at t1
    · obtain ⟨x, rfl, a, us, rfl, h1, h2⟩ := rpAll1 r1
      exact ⟨a, us, rfl, h1.sq, f _ w1 H1 _ e1 g1 (itd_enum (fun w' H' k => (k.fzL h1).sq) h2) t1⟩
    · exact t1.elim⟩
end

/-! ### a def by its body -/
def startD (N : List Str) (ds : List D) : Env := ds.map some ++ List.replicate (N.length - ds.length) none
theorem envR_start {K : PySem.W.Frag} {w : Wo} {H : Hp} {N : List Str} {ds : List D} {vs : List V} (r : RpAll K w H ds vs) : EnvR K w H (startD N ds) (L2.start N vs) := by
  refine ⟨by simp [startD, L2.start, r.length], fun i d h => ?_⟩
  unfold startD at h
  by_cases hi : i < ds.length
  · rw [List.getElem?_append_left (by simpa using hi), List.getElem?_map] at h
    cases q : ds[i]? with
    | none => rw [q] at h; cases h
    | some e =>
      rw [q] at h
      cases h
      obtain ⟨v, h1, h2⟩ := r.get' q
      refine ⟨v, ?_, h2⟩
      unfold L2.start
      rw [List.getElem?_append_left (by simpa [r.length] using hi), List.getElem?_map, h1]
      rfl
  · rw [List.getElem?_append_right (by simpa using hi), List.getElem?_replicate] at h
    split at h <;> cases h
section
variable {P : Program} {wd : World} {K : PySem.W.Frag} {mg : Str → Option Value} {base : Heap}
theorem fn_ok {x qual : Str} {st : Stmt} {f : Addr} {fd : FuncData} {N ps : List Str} {k : Nat} {sp : RAD} {t : ST} (F : Fun K x qual st f fd) (S : FnScope N ps (defScope st))
    (hb : ∀ (cdv : Value) (A : Around) (outer : List PySem.Env) (s : Shared) (H : Hp) (E : XK), Room k (A.deeper (envOfC qual (defScope st) s.heap.objs.size f cdv)) →
      PSs (cxOf CX0 P wd K mg base N qual (defScope st) f cdv A outer s H E).nox (defBody st) (LS K t))
    (len : ∀ ds μ Pd, sp ds μ Pd → ds.length = ps.length) (hs : ∀ ds μ Pd, sp ds μ Pd → t { nx := fun _ μ' => Pd .non μ', rt := Pd } (startD N ds) μ) : FnD P wd K mg base (k + 1) f fd ps sp := by
  refine F.ok S (fun vs H Q E h => ?_) (fun cdv A outer s H vs Q E hr h => ?_)
  · obtain ⟨w, ds, Pd, g, r, q, f⟩ := h
    rw [r.length]
    exact len ds _ Pd q
  · obtain ⟨w, ds, Pd, g, r, q, f⟩ := h
    refine ⟨_, hb cdv A outer s H E hr, w, startD N ds, _, g, envR_start r, hs ds _ Pd q, ?_⟩
    exact ⟨fun ρ' σ' w' H' e g' er' p => f .non .non w' H' e g' rfl p, f, fun _ _ _ _ _ _ _ p => p.elim, fun _ _ _ _ _ _ _ p => p.elim⟩
end
end Tr
set_option Elab.async false
set_option linter.all false
set_option maxRecDepth 100000
namespace Tr
open PySem PySem.Spec PyProof.Rows L2 RZ

/-- a def of the text that stands under its name -/
structure FnI (P : Program) (wd : World) (K : PySem.W.Frag) (mg : Str → Option Value) (base : Heap) (x : Str) (st : Stmt) (k : Nat) (ps : List Str) (sp : RAD) : Prop where
  ex : ∃ (f : Addr) (fd : FuncData), FnD P wd K mg base k f fd ps sp ∧ mg x = some (.ref f) ∧ Fun K x x st f fd ∧ Binds K fd ps []
theorem FnI.mono {P : Program} {wd : World} {K : PySem.W.Frag} {mg : Str → Option Value} {base : Heap} {x : Str} {st : Stmt} {j k : Nat} {ps : List Str} {sp : RAD} (F : FnI P wd K mg base x st j ps sp) (h : j ≤ k) : FnI P wd K mg base x st k ps sp := by
  obtain ⟨f, fd, a, b, c, d⟩ := F.ex
  exact ⟨f, fd, a.mono h, b, c, d⟩
theorem SpOf.imp {K : PySem.W.Frag} {sp sp' : RAD} (h : ∀ ds μ P, sp' ds μ P → sp ds μ P) (vs : List V) (H : Hp) (Q : VK) (E : XK) (q : SpOf K sp' vs H Q E) : SpOf K sp vs H Q E := by
  obtain ⟨w, ds, P, g, r, t, f⟩ := q
  exact ⟨w, ds, P, g, r, h _ _ _ t, f⟩
theorem FnI.imp {P : Program} {wd : World} {K : PySem.W.Frag} {mg : Str → Option Value} {base : Heap} {x : Str} {st : Stmt} {k : Nat} {ps : List Str} {sp sp' : RAD} (F : FnI P wd K mg base x st k ps sp) (h : ∀ ds μ P, sp' ds μ P → sp ds μ P) : FnI P wd K mg base x st k ps sp' := by
  obtain ⟨f, fd, a, b, c, d⟩ := F.ex
  exact ⟨f, fd, FnOk.imp a (SpOf.imp h), b, c, d⟩
theorem fni_mk {P : Program} {wd : World} {K : PySem.W.Frag} {mg : Str → Option Value} {base : Heap} {x : Str} {st : Stmt} {f : Addr} {fd : FuncData} {k : Nat} {ps : List Str} {sp : RAD} (F : Fun K x x st f fd) (hm : mg x = some (.ref f)) (h : FnD P wd K mg base k f fd ps sp)
    (hb : Binds K fd ps []) : FnI P wd K mg base x st k ps sp := ⟨f, fd, h, hm, F, hb⟩
def pick (pm : List Nat) {α : Type} [Inhabited α] (l : List α) : List α := pm.map fun i => l.getD i default
theorem pick_rel {K : PySem.W.Frag} {w : Wo} {H : Hp} {ds : List D} {vs : List V} (r : RpAll K w H ds vs) {pm : List Nat} (h : ∀ i, i ∈ pm → i < ds.length) : RpAll K w H (pick pm ds) (pm.map fun i => vs.getD i .non) := by
  refine RpAll.ofMem (by simp [pick]) fun i d v h1 h2 => ?_
  unfold pick at h1
  rw [List.getElem?_map] at h1 h2
  cases q : pm[i]? with
  | none => rw [q] at h1; cases h1
  | some j =>
    rw [q] at h1 h2
    have hj := h j (List.mem_of_getElem? q)
    have hj' : j < vs.length := by rw [r.length]; exact hj
    obtain ⟨v', e1, e2⟩ := r.get' (i := j) (List.getElem?_eq_getElem hj)
    simp only [Option.map_some, Option.some.injEq, List.getD_eq_getElem?_getD] at h1 h2
    rw [List.getElem?_eq_getElem hj] at h1
    rw [e1] at h2
    simp only [Option.getD_some] at h1 h2
    rw [← h1, ← h2]
    exact e2
theorem vals_pick {vs : List V} {us : List Value} (r : Vals vs us) {pm : List Nat} : Vals (pm.map fun i => vs.getD i .non) (pm.map fun i => us.getD i .none) := by
  induction pm with
  | nil => exact .nil
  | cons i pm ih =>
    refine .cons ?_ ih
    show RelV (vs.getD i .non) (us.getD i .none)
    rw [List.getD_eq_getElem?_getD, List.getD_eq_getElem?_getD]
    cases q : vs[i]? with
    | some v =>
      obtain ⟨u, e, r'⟩ := r.get q
      rw [e]
      exact r'
    | none =>
      rw [r.none_of q]
      exact rfl
section
variable {X : Cx} {e : Expr} {es : List Expr} {pos p : Pos} {sa : AT} {x : Str} {st : Stmt} {k j : Nat} {ps : List Str} {sp : RAD}
theorem te_fn (F : FnI X.prog X.w X.K X.mg X.base x st k ps sp) (hr : Room j X.A) (hg : Gl X x) (ha : PA X (e :: es) (LA X.K sa)) (hk : k ≤ j := by first | decide | omega) (hdb : (x == ("__debug__" : Str)) = false := by decide) (he : starEach (e :: es) X.env = (false, eval e X.env) :: starEach es X.env := by rfl)
    (hpl : (backTo pos (starEach es X.env)).any (·.1) = false := by rfl) : PE X (.Call (.Name x p) (e :: es) [] pos) (LE X.K (eCall sp sa)) := by
  obtain ⟨f, fd, a, b, c, d⟩ := F.ex
  exact te_call a (hr.mono hk) hg b c.kp d ha hdb he hpl
theorem te_fn0 (F : FnI X.prog X.w X.K X.mg X.base x st k ps sp) (hr : Room j X.A) (hg : Gl X x) (hk : k ≤ j := by first | decide | omega) (hdb : (x == ("__debug__" : Str)) = false := by decide) : PE X (.Call (.Name x p) [] [] pos) (LE X.K (eCall sp aNil)) := by
  obtain ⟨f, fd, a, b, c, d⟩ := F.ex
  exact te_call0 a (hr.mono hk) hg b c.kp d hdb
/-- f(k = v, ..), all by keywords (names ks, as they are written); pm: which of them stands at each parameter -/
def eCallP (sp : RAD) (pm : List Nat) (n : Nat) (s : AT) : ET := fun ρ μ P => s ρ μ fun ds μ1 => ds.length = n ∧ sp (pick pm ds) μ1 P
theorem te_fnK {kws : List Keyword} {ks : List Str} (pm : List Nat) (F : FnI X.prog X.w X.K X.mg X.base x st k ps sp) (hr : Room j X.A) (hg : Gl X x) (hkw : PK X kws (LA X.K sa))
    (hb : ∀ (kV doc pmm : Value) (an : Option Addr) (cdv ct : Value) (ws : List Value), ws.length = ks.length → bindArgs (PySem.W.fnOf x x (defArgs st) (defBody st) (defScope st) .none kV doc pmm an cdv ct) ⟨[], ks.zip ws⟩ = pure (ps.zip (pm.map fun i => ws.getD i .none)))
    (hpm : ∀ i, i ∈ pm → i < ks.length := by decide) (hk : k ≤ j := by first | decide | omega) (hall : (backToKw pos (keywordEach kws X.env)).all (·.1.isSome) = true := by rfl) (hks : (backToKw pos (keywordEach kws X.env)).filterMap (·.1) = ks := by rfl)
    (hdb : (x == ("__debug__" : Str)) = false := by decide) (hpl : ((backTo pos (starEach [] X.env)).any (·.1) || (backToKw pos (keywordEach kws X.env)).any (·.1.isNone)) = false := by rfl) (hpp : ps.length = pm.length := by rfl) :
    PE X (.Call (.Name x p) [] kws pos) (LE X.K (eCallP sp pm ks.length sa)) := by
  obtain ⟨f, fd, a, b, c, d⟩ := F.ex
  refine ⟨fun pins s σ H Q I ⟨w, ρ, P, g, er, t, f'⟩ => ?_⟩
  refine wpAny_Call_Name_kw (ld_glob I hg b ?_ hdb)
  refine PySem.W.callWith_KW0 (h₀ := X.base) I.ok.mod.kin c.kp hall ?_ hpl
  refine thn (hkw.run pos pins s σ H (fun vs H1 => ∃ w1 ds, Gd X.K w1 H1 ∧ RpAll X.K w1 H1 ds vs ∧ ds.length = ks.length ∧ sp (pick pm ds) w1.mu P ∧ Fin X.K w1 H1 P Q) I ⟨w, ρ, _, g, er, t, fun ds vs w1 H1 e1 g1 r1 ⟨hl, t1⟩ => ⟨w1, ds, g1, r1, hl, t1, f'.mono e1⟩⟩) ?_
  rintro ws s2 ⟨zs, H2, I2, rz, w1, ds, g1, r1, hl, t1, f1⟩
  refine ⟨I2.kIn, ?_⟩
  rw [hks]
  have hz : ws.length = ks.length := by rw [← rz.length, r1.length, hl]
  have r2 := vals_pick rz (pm := pm)
  have r3 := pick_rel r1 (pm := pm) (fun i hi => by rw [hl]; exact hpm i hi)
  have hsp : SpOf X.K sp (pm.map fun i => zs.getD i .non) H2 Q (fun _ _ _ => False) := ⟨w1, _, P, g1, r3, t1, f1⟩
  obtain ⟨oc, od, kV, doc, pmv, an, cdv, ct, osl, rfl, lk, hcd⟩ := c.ex
  refine wpAny_call (codeAny_mono (a.run X.A X.stack s2 H2 ⟨[], ks.zip ws⟩ _ _ Q (fun _ _ _ => False) (hr.mono hk) I2.env0 (.of_eq (hb kV doc pmv an cdv ct ws hz)) r2 hsp) fun r s' hq => ?_)
  cases r with
  | error er' => exact False.elim hq
  | ok fl =>
    cases fl with
    | ret u => exact I2.after hq
    | next => exact False.elim hq
    | brk => exact False.elim hq
    | cont => exact False.elim hq
theorem hu64 {A : Around} {k : Nat} (hr : Room k A) : A.units + 64 < cLine := hr.units
theorem hu65 {A : Around} {k : Nat} (hr : Room k A) : A.units + 65 < cLine := by have := hr.un; omega
def dNeg : R1D := fun x μ P => match x with
  | .int i => P (.int (-i)) μ
  | _ => False
def eUn (rd : R1D) (t : ET) : ET := fun ρ μ P => t ρ μ fun x μ1 => rd x μ1 P
theorem te_neg {a : Expr} {ta : ET} (ha : PE X a (LE X.K ta)) : PE X (.UnaryOp .USub a pos) (LE X.K (eUn dNeg ta)) :=
  te_of (pe_un un_neg ha) fun σ H Q ⟨w, ρ, P, g, er, t, f⟩ => ⟨w, ρ, _, g, er, t, fun d v w1 H1 e1 g1 r1 t1 => by
    unfold dNeg at t1
    split at t1
    · exact ⟨_, r1, (f.mono e1).int g1 t1⟩
    · exact t1.elim⟩
/-- a name of the module that holds a def, a class -/
theorem te_ref {a : Addr} (hg : Gl X x) (hm : X.mg x = some (.ref a)) (hdb : (x == ("__debug__" : Str)) = false := by decide) : PE X (.Name x p) (LE X.K (eC (.ref a))) := te_c (pe_glob hg hm (v := .ref a) rfl hdb) fun _ _ => rfl
theorem te_gint {i : Int} (hg : Gl X x) (hm : ∃ t, X.mg x = some (.int i t)) (hdb : (x == ("__debug__" : Str)) = false := by decide) : PE X (.Name x p) (LE X.K (eC (.int i))) := by
  obtain ⟨t, hm⟩ := hm
  exact te_c (pe_glob hg hm (v := .int i) ⟨_, rfl⟩ hdb) fun _ _ => rfl
theorem te_gstr {i : Str} (hg : Gl X x) (hm : ∃ t, X.mg x = some (.str i t)) (hdb : (x == ("__debug__" : Str)) = false := by decide) : PE X (.Name x p) (LE X.K (eC (.str i))) := by
  obtain ⟨t, hm⟩ := hm
  exact te_c (pe_glob hg hm (v := .str i) ⟨_, rfl⟩ hdb) fun _ _ => rfl
theorem te_ty {n : String} (hg : Gl X x) (hm : X.mg x = none) (hv : bootBuiltins x = some (.type n)) (hn : x ≠ "__name__" := by decide) (hdb : (x == ("__debug__" : Str)) = false := by decide) : PE X (.Name x p) (LE X.K (eC (.ty n))) := te_c (pe_bltn hg hm hv (v := .ty n) rfl hn hdb) fun _ _ => rfl
theorem tts_one {c : Expr} {q : BT} (h : PT X c (LB X.K q)) : PTs X [c] (LB X.K q) := pts_one h
/-- 'abc'.index(c), found -/
def dIndexS (a : Str) : R1D := fun y μ P => match y with
  | .str b => match Builtin.Str.occurrences a b 0 a.length 1 with
    | i :: _ => P (.int (i : Nat)) μ
    | [] => False
  | _ => False
theorem sd_index {K : PySem.W.Frag} : Str1D K (fun x xs H Q => ∃ a b i rest, x = .str a ∧ xs = [.str b] ∧ Builtin.Str.occurrences a b 0 a.length 1 = i :: rest ∧ Q (.int (i : Nat)) H) dIndexS := by
  intro w H a y dy P Q g r t f
  unfold dIndexS at t
  split at t
  · split at t
    · rename_i i rest hb
      exact ⟨a, _, i, rest, rfl, by rw [show y = _ from r], hb, f.int g t⟩
    · exact t.elim
  · exact t.elim
theorem te_sindex {o : Expr} {ta tb : ET} {apos : Pos} (ho : PE X o (LE X.K ta)) (he : PE X e (LE X.K tb)) (hs : starEach [e] X.env = [(false, eval e X.env)] := by rfl) (hbase : attributeBase o "index" X.env (eval o X.env) = eval o X.env := by rfl)
    (hline : (apos.endLine == pos.line) = true := by rfl) : PE X (.Call (.Attribute o "index" apos) [e] [] pos) (LE X.K (eStr1 dIndexS ta tb)) :=
  te_of (pe_m1 F.slot_str_index F.type_str_index mt_sindex ho he hs hbase hline) (lift_str1 sd_index)
end
end Tr
set_option Elab.async false
set_option linter.all false
set_option maxRecDepth 100000
namespace Tr
open PySem PySem.Spec PyProof.Rows L2 RZ
/-! what simp may open -/
section
variable {ρ : Env} {μ : Mu} {P : KD} {PB : KB} {PA' : KA} {DD : EndsD}
@[simp] theorem s_seq {t u : ST} : sSeq t u DD ρ μ = t { DD with nx := u DD } ρ μ := id rfl
@[simp] theorem s_next : sNext DD ρ μ = DD.nx ρ μ := id rfl
@[simp] theorem s_set {i : Nat} {t : ET} : sSet i t DD ρ μ = t ρ μ fun d μ1 => DD.nx (ρ.set i (some d)) μ1 := id rfl
@[simp] theorem s_ret {t : ET} : sRet t DD ρ μ = t ρ μ DD.rt := id rfl
@[simp] theorem s_retN : sRetN DD ρ μ = DD.rt .non μ := id rfl
@[simp] theorem s_expr {t : ET} : sExpr t DD ρ μ = t ρ μ fun _ μ1 => DD.nx ρ μ1 := id rfl
@[simp] theorem s_if {q : BT} {t u : ST} : sIf q t u DD ρ μ = q ρ μ fun b μ1 => if b = true then t DD ρ μ1 else u DD ρ μ1 := id rfl
@[simp] theorem s_for {it : IT} {tg : Tgt} {tb : ST} : sFor it tg tb DD ρ μ = it ρ μ fun ds μ1 => loopD tg tb DD ds ρ μ1 := id rfl
@[simp] theorem s_asg {tg : Tgt} {t : ET} : sAsg tg t DD ρ μ = t ρ μ fun d μ1 => gD tg d ρ μ1 DD.nx := id rfl
@[simp] theorem s_par {i j : Nat} {s : AT} : sPar i j s DD ρ μ = s ρ μ fun ds μ1 => match ds with | [x, y] => DD.nx ((ρ.set i (some x)).set j (some y)) μ1 | _ => False := id rfl
@[simp] theorem e_c {d : D} : eC d ρ μ P = P d μ := id rfl
theorem e_var {i : Nat} : eVar i ρ μ P = match ρ[i]? with | some (some d) => P d μ | _ => False := id rfl
@[simp] theorem e_v0 {d : D} {r : Env} : eVar 0 (some d :: r) μ P = P d μ := id rfl
@[simp] theorem e_vS {i : Nat} {o : Option D} {r : Env} : eVar (i + 1) (o :: r) μ P = eVar i r μ P := by simp [e_var]
@[simp] theorem e_v1 {a1 : Option D} {d : D} {r : Env} : eVar 1 (a1 :: some d :: r) μ P = P d μ := id rfl
@[simp] theorem e_v2 {a1 a2 : Option D} {d : D} {r : Env} : eVar 2 (a1 :: a2 :: some d :: r) μ P = P d μ := id rfl
@[simp] theorem e_v3 {a1 a2 a3 : Option D} {d : D} {r : Env} : eVar 3 (a1 :: a2 :: a3 :: some d :: r) μ P = P d μ := id rfl
@[simp] theorem e_v4 {a1 a2 a3 a4 : Option D} {d : D} {r : Env} : eVar 4 (a1 :: a2 :: a3 :: a4 :: some d :: r) μ P = P d μ := id rfl
@[simp] theorem e_v5 {a1 a2 a3 a4 a5 : Option D} {d : D} {r : Env} : eVar 5 (a1 :: a2 :: a3 :: a4 :: a5 :: some d :: r) μ P = P d μ := id rfl
@[simp] theorem e_v6 {a1 a2 a3 a4 a5 a6 : Option D} {d : D} {r : Env} : eVar 6 (a1 :: a2 :: a3 :: a4 :: a5 :: a6 :: some d :: r) μ P = P d μ := id rfl
@[simp] theorem e_v7 {a1 a2 a3 a4 a5 a6 a7 : Option D} {d : D} {r : Env} : eVar 7 (a1 :: a2 :: a3 :: a4 :: a5 :: a6 :: a7 :: some d :: r) μ P = P d μ := id rfl
@[simp] theorem e_v8 {a1 a2 a3 a4 a5 a6 a7 a8 : Option D} {d : D} {r : Env} : eVar 8 (a1 :: a2 :: a3 :: a4 :: a5 :: a6 :: a7 :: a8 :: some d :: r) μ P = P d μ := id rfl
@[simp] theorem e_v9 {a1 a2 a3 a4 a5 a6 a7 a8 a9 : Option D} {d : D} {r : Env} : eVar 9 (a1 :: a2 :: a3 :: a4 :: a5 :: a6 :: a7 :: a8 :: a9 :: some d :: r) μ P = P d μ := id rfl
@[simp] theorem e_v10 {a1 a2 a3 a4 a5 a6 a7 a8 a9 a10 : Option D} {d : D} {r : Env} : eVar 10 (a1 :: a2 :: a3 :: a4 :: a5 :: a6 :: a7 :: a8 :: a9 :: a10 :: some d :: r) μ P = P d μ := id rfl
@[simp] theorem e_v11 {a1 a2 a3 a4 a5 a6 a7 a8 a9 a10 a11 : Option D} {d : D} {r : Env} : eVar 11 (a1 :: a2 :: a3 :: a4 :: a5 :: a6 :: a7 :: a8 :: a9 :: a10 :: a11 :: some d :: r) μ P = P d μ := id rfl
@[simp] theorem e_op {rd : R2D} {ta tb : ET} : eOp rd ta tb ρ μ P = ta ρ μ fun x μ1 => tb ρ μ1 fun y μ2 => rd x y μ2 P := id rfl
@[simp] theorem e_un {rd : R1D} {ta : ET} : eUn rd ta ρ μ P = ta ρ μ fun x μ1 => rd x μ1 P := id rfl
@[simp] theorem e_chain {rd rd' : R2D} {ta tb tc : ET} : eChain rd rd' ta tb tc ρ μ P = ta ρ μ fun x μ1 => tb ρ μ1 fun y μ2 => rd x y μ2 fun z μ3 => onB z fun k =>
  if k = true then tc ρ μ3 fun w μ4 => rd' y w μ4 P else P (.bl false) μ3 := id rfl
@[simp] theorem onB_bl {b : Bool} {f : Bool → Prop} : onB (.bl b) f = f b := id rfl
@[simp] theorem e_and {ta tb : ET} : eAnd ta tb ρ μ P = ta ρ μ fun d μ1 => onB d fun k => if k = true then tb ρ μ1 P else P (.bl false) μ1 := id rfl
@[simp] theorem e_or {ta tb : ET} : eOr ta tb ρ μ P = ta ρ μ fun d μ1 => onB d fun k => if k = true then P (.bl true) μ1 else tb ρ μ1 P := id rfl
@[simp] theorem e_not {ta : ET} : eNot ta ρ μ P = ta ρ μ fun d μ1 => onB d fun b => P (.bl (!b)) μ1 := id rfl
@[simp] theorem e_if {q : BT} {ta tb : ET} : eIf q ta tb ρ μ P = q ρ μ fun b μ1 => if b = true then ta ρ μ1 P else tb ρ μ1 P := id rfl
@[simp] theorem e_tup {s : AT} : eTup s ρ μ P = s ρ μ fun ds μ1 => ds.length ≤ sizeLine ∧ P (.tup ds) μ1 := id rfl
@[simp] theorem e_lst {s : AT} : eLst s ρ μ P = s ρ μ fun ds μ1 => ds.length ≤ sizeLine ∧ P (.lst ds) μ1 := id rfl
@[simp] theorem e_lstL {s : AT} : eLstL s ρ μ P = s ρ μ fun ds μ1 => ds.length ≤ sizeLine ∧ P (.loc μ1.length) (μ1 ++ [some (.lst ds)]) := id rfl
@[simp] theorem e_call {rd : RAD} {s : AT} : eCall rd s ρ μ P = s ρ μ fun ds μ1 => rd ds μ1 P := id rfl
@[simp] theorem e_callP {rd : RAD} {pm : List Nat} {n : Nat} {s : AT} : eCallP rd pm n s ρ μ P = s ρ μ fun ds μ1 => ds.length = n ∧ rd (pick pm ds) μ1 P := id rfl
@[simp] theorem e_sl {t : ET} {l u : OT} : eSl t l u ρ μ P = t ρ μ fun d μ1 => l ρ μ1 fun lo μ2 => u ρ μ2 fun hi μ3 => dSl d lo hi μ3 P := id rfl
@[simp] theorem o_no {Q : Option Int → Mu → Prop} : oNo ρ μ Q = Q none μ := id rfl
@[simp] theorem o_yes {Q : Option Int → Mu → Prop} {t : ET} : oYes t ρ μ Q = t ρ μ fun d μ1 => match d with | .int i => Q (some i) μ1 | _ => False := id rfl
@[simp] theorem e_str1 {rd : Str → R1D} {ta tb : ET} : eStr1 rd ta tb ρ μ P = ta ρ μ fun x μ1 => match x with | .str a => tb ρ μ1 fun y μ2 => rd a y μ2 P | _ => False := id rfl
@[simp] theorem e_comp {it : IT} {tg : Tgt} {tt : BT} {te : ET} {vs : List Nat} : eComp it tg tt te vs ρ μ P = it ρ μ fun ds μ1 => compD tg tt te (wipeD ρ vs) ds [] μ1 fun ys μ2 => P (.lst ys) μ2 := id rfl
@[simp] theorem a_nil : aNil ρ μ PA' = PA' [] μ := id rfl
@[simp] theorem a_cons {t : ET} {s : AT} : aCons t s ρ μ PA' = t ρ μ fun d μ1 => s ρ μ1 fun ds μ2 => PA' (d :: ds) μ2 := id rfl
@[simp] theorem b_b {t : ET} : bB t ρ μ PB = t ρ μ fun d μ1 => onB d fun b => PB b μ1 := id rfl
@[simp] theorem b_t {t : ET} : bT t ρ μ PB = t ρ μ fun d μ1 => sized d ∧ match dTru d with | some b => PB b μ1 | none => False := id rfl
@[simp] theorem b_and {s t : BT} : bAnd s t ρ μ PB = s ρ μ fun b μ1 => if b = true then t ρ μ1 PB else PB false μ1 := id rfl
@[simp] theorem b_or {s t : BT} : bOr s t ρ μ PB = s ρ μ fun b μ1 => if b = true then PB true μ1 else t ρ μ1 PB := id rfl
@[simp] theorem b_not {s : BT} : bNot s ρ μ PB = s ρ μ fun b μ1 => PB (!b) μ1 := id rfl
@[simp] theorem b_yes : bYes ρ μ PB = PB true μ := id rfl
@[simp] theorem it_any {t : ET} : itAny t ρ μ PA' = t ρ μ fun d μ1 => match d with | .lst xs => PA' xs μ1 | .fz xs => PA' xs μ1 | .tup xs => PA' xs μ1 | .str z => PA' (signs z) μ1 | _ => False := id rfl
@[simp] theorem it_range1 {s : AT} : itRange1 s ρ μ PA' = s ρ μ fun ds μ1 => match ds with | [.int j] => (-(2 ^ 62) ≤ j ∧ j < 2 ^ 62) ∧ PA' (rangeD 0 j.toNat) μ1 | _ => False := id rfl
@[simp] theorem it_zip {s : AT} : itZip s ρ μ PA' = s ρ μ fun ds μ1 => match ds with | [.lst xs, .lst ys] => PA' (zipD xs ys) μ1 | [.tup xs, .tup ys] => PA' (zipD xs ys) μ1 | _ => False := id rfl
@[simp] theorem it_enum {s : AT} : itEnum s ρ μ PA' = s ρ μ fun ds μ1 => match ds with | [.lst xs] => PA' (enumD 0 xs) μ1 | _ => False := id rfl
@[simp] theorem g_nm {i : Nat} {d : D} {Q : Env → Mu → Prop} : gD (.nm i) d ρ μ Q = Q (ρ.set i (some d)) μ := id rfl
@[simp] theorem g_tp {ts : List Tgt} {xs : List D} {Q : Env → Mu → Prop} : gD (.tp ts) (.tup xs) ρ μ Q = (xs.length = ts.length ∧ gDs ts xs ρ μ Q) := id rfl
@[simp] theorem g_tpl {ts : List Tgt} {xs : List D} {Q : Env → Mu → Prop} : gD (.tp ts) (.lst xs) ρ μ Q = (xs.length = ts.length ∧ gDs ts xs ρ μ Q) := id rfl
@[simp] theorem gs_nil {xs : List D} {Q : Env → Mu → Prop} : gDs [] xs ρ μ Q = (xs = [] ∧ Q ρ μ) := id rfl
@[simp] theorem gs_cons {t : Tgt} {ts : List Tgt} {x : D} {xs : List D} {Q : Env → Mu → Prop} : gDs (t :: ts) (x :: xs) ρ μ Q = gD t x ρ μ fun ρ1 μ1 => gDs ts xs ρ1 μ1 Q := id rfl
@[simp] theorem l_nil {tg : Tgt} {tb : ST} : loopD tg tb DD [] ρ μ = DD.nx ρ μ := id rfl
@[simp] theorem cp_nil {tg : Tgt} {tt : BT} {te : ET} {acc : List D} : compD tg tt te ρ [] acc μ PA' = PA' acc μ := id rfl
theorem l_cons {tg : Tgt} {tb : ST} {d : D} {ds : List D} : loopD tg tb DD (d :: ds) ρ μ = gD tg d ρ μ fun ρ1 μ1 => tb { DD with nx := loopD tg tb DD ds, ct := loopD tg tb DD ds, bk := DD.nx } ρ1 μ1 := id rfl
theorem cp_cons {tg : Tgt} {tt : BT} {te : ET} {acc ds : List D} {d : D} : compD tg tt te ρ (d :: ds) acc μ PA' = gD tg d ρ μ fun ρ1 μ1 => tt ρ1 μ1 fun b μ2 =>
    if b = true then te ρ1 μ2 fun y μ3 => acc.length < sizeLine ∧ compD tg tt te ρ ds (acc ++ [y]) μ3 PA' else compD tg tt te ρ ds acc μ2 PA' := id rfl
@[simp] theorem wipe_nil : wipeD ρ [] = ρ := id rfl
@[simp] theorem wipe_cons {v : Nat} {vs : List Nat} : wipeD ρ (v :: vs) = (wipeD ρ vs).set v none := id rfl
theorem len_small {α : Type} {l : List α} (h : l.length ≤ 1000) : l.length ≤ sizeLine := Nat.le_trans h (by rw [sizeLine_eq]; decide)
@[simp] theorem sl_0 : 0 ≤ sizeLine := Nat.zero_le _
/-! isinstance -/
@[simp] theorem d_isi1 {x : D} {n : String} : dIsi [x, .ty n] μ P = match tyN x with | some t => n ∈ clss ∧ P (.bl (isTy t n)) μ | none => False := id rfl
@[simp] theorem d_isi2 {x : D} {cs : List D} : dIsi [x, .tup cs] μ P = match tyN x, tyNs cs with | some t, some ns => (∀ n, n ∈ ns → n ∈ clss) ∧ P (.bl (ns.any (isTy t))) μ | _, _ => False := id rfl
@[simp] theorem sized_non : sized .non := trivial
@[simp] theorem sized_bl {b : Bool} : sized (.bl b) := trivial
@[simp] theorem sized_int {b : Int} : sized (.int b) := trivial
@[simp] theorem sized_lst {b : List D} : sized (.lst b) := trivial
@[simp] theorem sized_tup {b : List D} : sized (.tup b) := trivial
@[simp] theorem sized_str {x : Str} : sized (.str x) = (x.length ≤ sizeLine) := id rfl
@[simp] theorem tru_non : dTru .non = some false := id rfl
@[simp] theorem tru_bl {b : Bool} : dTru (.bl b) = some b := id rfl
@[simp] theorem tru_int {b : Int} : dTru (.int b) = some (b != 0) := id rfl
@[simp] theorem tru_str {x : Str} : dTru (.str x) = some ((x.length : Int) != 0) := id rfl
@[simp] theorem tru_lst {xs : List D} : dTru (.lst xs) = some (!xs.isEmpty) := id rfl
@[simp] theorem tru_tup {xs : List D} : dTru (.tup xs) = some (!xs.isEmpty) := id rfl
/-! operators on what is known -/
@[simp] theorem d_add_int {i j : Int} : dAdd (.int i) (.int j) μ P = P (.int (i + j)) μ := id rfl
@[simp] theorem d_add_str {i j : Str} : dAdd (.str i) (.str j) μ P = (i.length + j.length ≤ sizeLine ∧ P (.str (i ++ j)) μ) := id rfl
@[simp] theorem d_add_lst {i j : List D} : dAdd (.lst i) (.lst j) μ P = (i.length + j.length ≤ sizeLine ∧ P (.lst (i ++ j)) μ) := id rfl
@[simp] theorem d_add_tup {i j : List D} : dAdd (.tup i) (.tup j) μ P = (i.length + j.length ≤ sizeLine ∧ P (.tup (i ++ j)) μ) := id rfl
@[simp] theorem d_sub {i j : Int} : dSub (.int i) (.int j) μ P = P (.int (i - j)) μ := id rfl
@[simp] theorem d_mul {i j : Int} : dMul (.int i) (.int j) μ P = (CMul i j ∧ P (.int (i * j)) μ) := id rfl
@[simp] theorem d_mod {i j : Int} : dMod (.int i) (.int j) μ P = (0 < j ∧ P (.int (i % j)) μ) := id rfl
@[simp] theorem d_fdiv {i j : Int} : dFdiv (.int i) (.int j) μ P = (CDiv i j ∧ P (.int (i / j)) μ) := id rfl
@[simp] theorem d_pow {i j : Int} : dPow (.int i) (.int j) μ P = (CPow i j ∧ P (.int (i ^ j.toNat)) μ) := id rfl
@[simp] theorem d_lt {i j : Int} : dLt (.int i) (.int j) μ P = P (.bl (decide (i < j))) μ := id rfl
@[simp] theorem d_le {i j : Int} : dLe (.int i) (.int j) μ P = P (.bl (decide (i ≤ j))) μ := id rfl
@[simp] theorem d_gt {i j : Int} : dGt (.int i) (.int j) μ P = P (.bl (decide (j < i))) μ := id rfl
@[simp] theorem d_ge {i j : Int} : dGe (.int i) (.int j) μ P = P (.bl (decide (j ≤ i))) μ := id rfl
@[simp] theorem d_neg {i : Int} : dNeg (.int i) μ P = P (.int (-i)) μ := id rfl
@[simp] theorem d_is {x : D} : dIs x .non μ P = P (.bl (isNon x)) μ := id rfl
@[simp] theorem d_isnot {x : D} : dIsNot x .non μ P = P (.bl (!isNon x)) μ := id rfl
@[simp] theorem isNon_non : isNon .non = true := id rfl
@[simp] theorem isNon_bl {b : Bool} : isNon (.bl b) = false := id rfl
@[simp] theorem isNon_int {b : Int} : isNon (.int b) = false := id rfl
@[simp] theorem isNon_str {b : Str} : isNon (.str b) = false := id rfl
@[simp] theorem isNon_lst {b : List D} : isNon (.lst b) = false := id rfl
@[simp] theorem isNon_tup {b : List D} : isNon (.tup b) = false := id rfl
@[simp] theorem d_len_lst {xs : List D} : dLen [.lst xs] μ P = P (.int xs.length) μ := id rfl
@[simp] theorem d_len_fz {xs : List D} : dLen [.fz xs] μ P = P (.int xs.length) μ := id rfl
@[simp] theorem d_len_tup {xs : List D} : dLen [.tup xs] μ P = P (.int xs.length) μ := id rfl
@[simp] theorem d_len_str {x : Str} : dLen [.str x] μ P = (x.length ≤ sizeLine ∧ P (.int x.length) μ) := id rfl
@[simp] theorem d_int_int {i : Int} : dIntOf [.int i] μ P = P (.int i) μ := id rfl
@[simp] theorem d_str_int {i : Int} : dStrOf [.int i] μ P = (i.natAbs.log2 < 1920 ∧ P (.str (toString i)) μ) := id rfl
@[simp] theorem d_tup_lst {xs : List D} : dTupOf [.lst xs] μ P = P (.tup xs) μ := id rfl
@[simp] theorem d_tup_tup {xs : List D} : dTupOf [.tup xs] μ P = P (.tup xs) μ := id rfl
@[simp] theorem d_lst_lst {xs : List D} : dLstOf [.lst xs] μ P = P (.lst xs) μ := id rfl
@[simp] theorem d_lst_tup {xs : List D} : dLstOf [.tup xs] μ P = P (.lst xs) μ := id rfl
@[simp] theorem d_ix_lst {xs : List D} {i : Int} : dIx (.lst xs) (.int i) μ P = match atI xs i with | some d => P d μ | none => False := id rfl
@[simp] theorem d_ix_tup {xs : List D} {i : Int} : dIx (.tup xs) (.int i) μ P = match atI xs i with | some d => P d μ | none => False := id rfl
@[simp] theorem d_ix_str {z : Str} {i : Int} : dIx (.str z) (.int i) μ P = match atI z.cps.toList i with | some c => z.length ≤ sizeLine ∧ P (.str ⟨#[c]⟩) μ | none => False := id rfl
@[simp] theorem d_ix_loc {n : Nat} {i : Int} : dIx (.loc n) (.int i) μ P = match μ[n]? with
    | some (some (.lst xs)) => match atI xs i with
      | some d => P d μ
      | none => False
    | _ => False := id rfl
@[simp] theorem s_put {te tx ti : ET} : sPut te tx ti DD ρ μ = te ρ μ fun d μ1 => tx ρ μ1 fun x μ2 => ti ρ μ2 fun i μ3 => match x, i with
  | .loc n, .int k => match μ3[n]? with
    | some (some (.lst xs)) => match ixN xs.length k with
      | some j => DD.nx ρ (μ3.set n (some (.lst (xs.set j d))))
      | none => False
    | _ => False
  | _, _ => False := id rfl
theorem cmul_r {i j : Int} (h : j.natAbs < 2 ^ 64) : CMul i j := .inr (by omega)
theorem cmul_l {i j : Int} (h : i.natAbs < 2 ^ 64) : CMul i j := .inl (by omega)
@[simp] theorem atI0 {α : Type} {a : α} {l : List α} : atI (a :: l) (0 : Int) = some a := by simp [atI, ixN]
@[simp] theorem atI1 {α : Type} {a b : α} {l : List α} : atI (a :: b :: l) (1 : Int) = some b := by
  have h : (1 : Int) < ((a :: b :: l).length : Int) := by simp only [List.length_cons]; omega
  simp only [atI, ixN]; rw [if_pos (by decide), if_pos h]; rfl
@[simp] theorem atI2 {α : Type} {a b c : α} {l : List α} : atI (a :: b :: c :: l) (2 : Int) = some c := by
  have h : (2 : Int) < ((a :: b :: c :: l).length : Int) := by simp only [List.length_cons]; omega
  simp only [atI, ixN]; rw [if_pos (by decide), if_pos h]; rfl
@[simp] theorem atI3 {α : Type} {a b c d : α} {l : List α} : atI (a :: b :: c :: d :: l) (3 : Int) = some d := by
  have h : (3 : Int) < ((a :: b :: c :: d :: l).length : Int) := by simp only [List.length_cons]; omega
  simp only [atI, ixN]; rw [if_pos (by decide), if_pos h]; rfl
theorem atI_nat' {α : Type} {l : List α} {i : Int} (h0 : 0 ≤ i) (h : i < (l.length : Int)) : ∃ x, l[i.toNat]? = some x ∧ atI l i = some x := by
  have hi : i.toNat < l.length := by omega
  refine ⟨l[i.toNat], List.getElem?_eq_getElem hi, ?_⟩
  simp only [atI, ixN]
  rw [if_pos h0, if_pos h]
  exact List.getElem?_eq_getElem hi
end
end Tr
set_option Elab.async false
set_option linter.all false
set_option maxRecDepth 100000
namespace Tr
open PySem PySem.Spec PyProof.Rows L2 RZ

/-! ### plain data -/
mutual
/-- plain data, n deep at most -/
def ok : Nat → D → Bool
  | _, .non => true
  | _, .bl _ => true
  | _, .int _ => true
  | _, .str x => PyData.strOk x && decide (x.length ≤ 1000)
  | n + 1, .lst xs => okA n xs && decide (xs.length ≤ 1000)
  | n + 1, .tup xs => okA n xs && decide (xs.length ≤ 1000)
  | _, _ => false
def okA : Nat → List D → Bool
  | _, [] => true
  | n, d :: ds => ok n d && okA n ds
end
/-! a comprehension whose element is a function of the item -/
theorem comp_map {tg : Tgt} {te : ET} {ρ : Tr.Env} {f : D → D} : ∀ (ds acc : List D) (μ : Mu) (P : KA), acc.length + ds.length ≤ 1000 →
    (∀ d, d ∈ ds → ∀ P : KD, P (f d) μ → gD tg d ρ μ fun ρ1 μ1 => te ρ1 μ1 P) → P (acc ++ ds.map f) μ → compD tg bYes te ρ ds acc μ P
  | [], acc, μ, P, _, _, h => by simpa using h
  | d :: ds, acc, μ, P, hl, he, h => by
    rw [cp_cons]
    have := he d List.mem_cons_self (fun y μ3 => acc.length < sizeLine ∧ compD tg bYes te ρ ds (acc ++ [y]) μ3 P) ?_
    · simpa using this
    · simp only [List.length_cons] at hl
      refine ⟨Nat.lt_of_lt_of_le (show acc.length < 1001 by omega) (by rw [sizeLine_eq]; decide), comp_map ds (acc ++ [f d]) μ P (by simp; omega) (fun d' hd' => he d' (List.mem_cons_of_mem _ hd')) (by simpa using h)⟩
theorem okA_mem {n : Nat} : ∀ {ds : List D} {d : D}, okA n ds = true → d ∈ ds → ok n d = true
  | [], _, _, h => by cases h
  | e :: ds, d, h, hm => by
    simp only [okA, Bool.and_eq_true] at h
    rcases List.mem_cons.mp hm with z | z
    · rw [z]; exact h.1
    · exact okA_mem h.2 z
theorem boolsOf_map {α : Type} (f : α → Bool) : ∀ l : List α, boolsOf (l.map fun x => D.bl (f x)) = some (l.map f)
  | [] => rfl
  | x :: l => by simp [boolsOf, boolsOf_map f l]
/-- a letter by the order of texts -/
theorem le_sign (a b : Nat) : (!decide ([b] < [a])) = decide (a ≤ b) := by
  have : ([b] < [a]) ↔ b < a := by
    constructor
    · intro h
      cases h with
      | rel h => exact h
      | cons h => cases h
    · exact fun h => List.Lex.rel h
  by_cases h : b < a
  · simp [this, h, Nat.not_le.mpr h]
  · simp [this, h, Nat.le_of_not_lt h]
theorem comp_mapG {α : Type} {tg : Tgt} {te : ET} {ρ : Tr.Env} (g f : α → D) : ∀ (l : List α) (acc : List D) (μ : Mu) (P : KA), acc.length + l.length ≤ 1000 →
    (∀ a, a ∈ l → ∀ P : KD, P (f a) μ → gD tg (g a) ρ μ fun ρ1 μ1 => te ρ1 μ1 P) → P (acc ++ l.map f) μ → compD tg bYes te ρ (l.map g) acc μ P
  | [], acc, μ, P, _, _, h => by simpa using h
  | a :: l, acc, μ, P, hl, he, h => by
    rw [List.map_cons, cp_cons]
    have := he a List.mem_cons_self (fun y μ3 => acc.length < sizeLine ∧ compD tg bYes te ρ (l.map g) (acc ++ [y]) μ3 P) ?_
    · simpa using this
    · simp only [List.length_cons] at hl
      refine ⟨Nat.lt_of_lt_of_le (show acc.length < 1001 by omega) (by rw [sizeLine_eq]; decide), comp_mapG g f l (acc ++ [f a]) μ P (by simp; omega) (fun d' hd' => he d' (List.mem_cons_of_mem _ hd')) (by simpa using h)⟩
theorem comp_signs {tg : Tgt} {te : ET} {ρ : Tr.Env} (x : Str) (f : Nat → D) (μ : Mu) (P : KA) (hl : x.length ≤ 1000) (he : ∀ c, c ∈ x.cps.toList → ∀ P : KD, P (f c) μ → gD tg (.str ⟨#[c]⟩) ρ μ fun ρ1 μ1 => te ρ1 μ1 P)
    (h : P (x.cps.toList.map f) μ) : compD tg bYes te ρ (Tr.signs x) [] μ P := comp_mapG (fun c => D.str ⟨#[c]⟩) f x.cps.toList [] μ P (by simpa [Str.length] using hl) he (by simpa using h)
theorem all_bl {α : Type} (l : List α) (f : α → Bool) (μ : Mu) (P : KD) (h : P (.bl (l.all f)) μ) : dAll [.lst (l.map fun a => .bl (f a))] μ P := by
  simp only [dAll, boolsOf_map]
  simpa [List.all_map, Function.comp_def] using h
theorem any_bl {α : Type} (l : List α) (f : α → Bool) (μ : Mu) (P : KD) (h : P (.bl (l.any f)) μ) : dAny [.lst (l.map fun a => .bl (f a))] μ P := by
  simp only [dAny, boolsOf_map]
  simpa [List.any_map, Function.comp_def] using h
mutual
theorem ok_up : ∀ {n : Nat} {d : D}, ok n d = true → ok (n + 1) d = true
  | n, .non, _ => by cases n <;> rfl
  | n, .bl _, _ => by cases n <;> rfl
  | n, .int _, _ => by cases n <;> rfl
  | n, .str _, h => by cases n <;> simpa [ok] using h
  | 0, .lst _, h => by cases h
  | 0, .tup _, h => by cases h
  | n + 1, .lst xs, h => by
    simp only [ok, Bool.and_eq_true] at h ⊢
    exact ⟨okA_mono h.1, h.2⟩
  | n + 1, .tup xs, h => by
    simp only [ok, Bool.and_eq_true] at h ⊢
    exact ⟨okA_mono h.1, h.2⟩
  | n, .fz _, h => by cases n <;> cases h
  | n, .dT _ _, h => by cases n <;> cases h
  | n, .dK _ _, h => by cases n <;> cases h
  | n, .ins _ _ _, h => by cases n <;> cases h
  | n, .exc _ _ _, h => by cases n <;> cases h
  | n, .loc _, h => by cases n <;> cases h
  | n, .ref _, h => by cases n <;> cases h
  | n, .ty _, h => by cases n <;> cases h
theorem okA_mono : ∀ {n : Nat} {ds : List D}, okA n ds = true → okA (n + 1) ds = true
  | _, [], _ => rfl
  | n, d :: ds, h => by
    simp only [okA, Bool.and_eq_true] at h ⊢
    exact ⟨ok_up h.1, okA_mono h.2⟩
end
end Tr
set_option Elab.async false
set_option linter.all false
set_option maxRecDepth 100000
namespace Tr
open PySem PySem.Spec PyProof.Rows L2 RZ

/-! ### the draws: the bag is a list that changes -/
def Bg (c : Cell) : Prop := ∃ (ns : List Int) (a b m : Int), c = .lst [.lst (ns.map D.int), .int a, .int b, .int m] ∧ ns.length ≤ 63 ∧ 0 ≤ a
def BagAt (μ : Mu) (n : Nat) : Prop := ∃ c, μ[n]? = some (some c) ∧ Bg c
/-- the bag at n may have turned -/
def Dr (n : Nat) (μ μ' : Mu) : Prop := ∃ c, Bg c ∧ μ' = μ.set n (some c)
def sp_bag : RAD := fun ds μ P => ∃ ns : List Int, ds = [.fz (ns.map D.int)] ∧ ns.length ≤ 63 ∧ ∀ c, Bg c → P (.loc μ.length) (μ ++ [some c])
def sp_draw : RAD := fun ds μ P => ∃ (n : Nat) (many : Int), ds = [.loc n, .int many] ∧ BagAt μ n ∧ 0 < many ∧ many < 1073741824 ∧ ∀ r μ', 0 ≤ r → r < many → Dr n μ μ' → P (.int r) μ'
/-- what may be picked from -/
def picks : D → List D
  | .lst xs => xs
  | .tup xs => xs
  | .str z => signs z
  | _ => []
def sp_pick : RAD := fun ds μ P => ∃ (n : Nat) (x : D), ds = [.loc n, x] ∧ BagAt μ n ∧ picks x ≠ [] ∧ (picks x).length < 1000 ∧ ∀ d μ', d ∈ picks x → Dr n μ μ' → P d μ'

def okS : Nat → D → Bool
  | 0, _ => false
  | n + 1, d => ok n d
@[simp] theorem okS_8 {d : D} : okS 8 d = ok 7 d := rfl
def sp_same (n : Nat) : RAD := fun ds μ P => ∃ x, ds = [x, x] ∧ okS n x = true ∧ P (.bl true) μ

def tr_bag : ST :=
  (sSeq (sSet 1 (eComp (itAny (eSl (eVar 0) oNo (oYes (eC (.int 63))))) (.nm 3) bYes (eCall dIntOf (aCons (eVar 3) aNil)) [3]))
  (sSeq (sSet 2 (eOp dAdd (eC (.int 120310)) (eOp dMul (eC (.int 61)) (eCall dLen (aCons (eVar 1) aNil)))))
  (sSeq (sFor (itAny (eVar 1)) (.nm 3)
  (sSet 2 (eOp dMod (eCall dIntOf (aCons (eOp dAdd (eOp dMul (eVar 2) (eC (.int 6947))) (eVar 3)) aNil)) (eC (.int 2147483423)))))
  (sRet (eLstL (aCons (eVar 1) (aCons (eC (.int 0)) (aCons (eC (.int 0)) (aCons (eVar 2) aNil)))))))))
def dr_end : ST :=
  (sSeq (sSet 5 (eOp dMod (eCall dIntOf (aCons (eOp dIx (eVar 0) (eC (.int 2))) aNil)) (eVar 1)))
  (sSeq (sPut (eOp dFdiv (eCall dIntOf (aCons (eOp dIx (eVar 0) (eC (.int 2))) aNil)) (eVar 1)) (eVar 0) (eC (.int 2)))
  (sRet (eVar 5))))
def dr_fresh : ST :=
  (sSeq (sSet 3 (eOp dMod (eCall dIntOf (aCons (eOp dAdd (eOp dAdd (eOp dMul (eVar 2) (eC (.int 43051))) (eOp dMul (eOp dIx (eVar 0) (eC (.int 1))) (eC (.int 39119)))) (eOp dIx (eVar 0) (eC (.int 3)))) aNil)) (eC (.int 2147483587))))
  (sSeq (sSet 4 (eOp dMod (eCall dIntOf (aCons (eOp dAdd (eOp dMul (eVar 3) (eVar 3)) (eOp dMul (eOp dIx (eVar 0) (eC (.int 1))) (eC (.int 60607)))) aNil)) (eC (.int 998244353))))
  (sRet (eOp dMod (eOp dFdiv (eOp dMod (eCall dIntOf (aCons (eOp dAdd (eOp dMul (eVar 4) (eC (.int 46819))) (eVar 3)) aNil)) (eC (.int 2147483549))) (eC (.int 23))) (eVar 1)))))
def dr_mid : ST :=
  (sSeq (sIf (bOr (bB (eOp dGt (eOp dIx (eVar 0) (eC (.int 1))) (eCall dLen (aCons (eOp dIx (eVar 0) (eC (.int 0))) aNil)))) (bB (eOp dLt (eVar 2) (eOp dPow (eC (.int 10)) (eC (.int 18)))))) dr_fresh sNext)
  (sPut (eVar 2) (eVar 0) (eC (.int 2))))
def tr_draw : ST :=
  (sSeq (sIf (bB (eOp dLt (eOp dIx (eVar 0) (eC (.int 2))) (eC (.int 2))))
  (sSeq (sPut (eOp dAdd (eOp dIx (eVar 0) (eC (.int 1))) (eC (.int 1))) (eVar 0) (eC (.int 1)))
  (sSeq (sSet 2 (eOp dAdd (eOp dIx (eVar 0) (eC (.int 3))) (eOp dMul (eOp dIx (eVar 0) (eC (.int 1))) (eC (.int 9241)))))
  (sSeq (sIf (bB (eOp dLe (eOp dIx (eVar 0) (eC (.int 1))) (eCall dLen (aCons (eOp dIx (eVar 0) (eC (.int 0))) aNil))))
  (sSet 2 (eOp dIx (eOp dIx (eVar 0) (eC (.int 0))) (eOp dSub (eOp dIx (eVar 0) (eC (.int 1))) (eC (.int 1))))) sNext)
  dr_mid))) sNext)
  dr_end)
def tr_pick : ST :=
  (sRet (eOp dIx (eVar 1) (eCall sp_draw (aCons (eVar 0) (aCons (eCall dLen (aCons (eVar 1) aNil)) aNil)))))
def tr_same (n : Nat) : ST :=
  (sSeq (sIf (bOr (bB (eOp dIs (eVar 1) (eC .non))) (bB (eOp dIs (eVar 0) (eC .non))))
  (sRet (eAnd (eOp dIs (eVar 1) (eC .non)) (eOp dIs (eVar 0) (eC .non)))) sNext)
  (sSeq (sIf (bOr (bT (eCall dIsi (aCons (eVar 1) (aCons (eTup (aCons (eC (.ty "list")) (aCons (eC (.ty "tuple")) aNil))) aNil)))) (bT (eCall dIsi (aCons (eVar 0) (aCons (eTup (aCons (eC (.ty "list")) (aCons (eC (.ty "tuple")) aNil))) aNil)))))
  (sSeq (sIf (bOr (bB (eOp dNe (eCall dIsi (aCons (eVar 1) (aCons (eC (.ty "list")) aNil))) (eCall dIsi (aCons (eVar 0) (aCons (eC (.ty "list")) aNil))))) (bB (eOp dNe (eCall dIsi (aCons (eVar 1) (aCons (eC (.ty "tuple")) aNil))) (eCall dIsi (aCons (eVar 0) (aCons (eC (.ty "tuple")) aNil))))))
  (sRet (eC (.bl false))) sNext)
  (sRet (eAnd (eOp dEq (eCall dLen (aCons (eVar 0) aNil)) (eCall dLen (aCons (eVar 1) aNil))) (eCall dAll (aCons (eComp (itZip (aCons (eVar 0) (aCons (eVar 1) aNil))) (.tp [(.nm 2), (.nm 3)]) bYes (eCall (sp_same n) (aCons (eVar 2) (aCons (eVar 3) aNil))) [2, 3]) aNil))))) sNext)
  (sSeq (sIf (bOr (bB (eOp dNe (eCall dIsi (aCons (eVar 1) (aCons (eC (.ty "bool")) aNil))) (eCall dIsi (aCons (eVar 0) (aCons (eC (.ty "bool")) aNil))))) (bB (eOp dNe (eCall dIsi (aCons (eVar 1) (aCons (eC (.ty "str")) aNil))) (eCall dIsi (aCons (eVar 0) (aCons (eC (.ty "str")) aNil))))))
  (sRet (eC (.bl false))) sNext)
  (sRet (eAnd (eOp dEq (eCall dIsi (aCons (eVar 1) (aCons (eC (.ty "int")) aNil))) (eCall dIsi (aCons (eVar 0) (aCons (eC (.ty "int")) aNil)))) (eOp dEq (eVar 0) (eVar 1)))))))
theorem BagAt.lt {μ : Mu} {n : Nat} (h : BagAt μ n) : n < μ.length := by
  obtain ⟨c, h, _⟩ := h
  exact (List.getElem?_eq_some_iff.mp h).1
theorem Dr.refl {μ : Mu} {n : Nat} (h : BagAt μ n) : Dr n μ μ := by
  obtain ⟨c, h, g⟩ := h
  obtain ⟨hl, e⟩ := List.getElem?_eq_some_iff.mp h
  exact ⟨c, g, by rw [← e, List.set_getElem_self]⟩
theorem Dr.at {μ μ' : Mu} {n : Nat} (h : BagAt μ n) (d : Dr n μ μ') : BagAt μ' n := by
  obtain ⟨c, g, rfl⟩ := d
  exact ⟨c, by rw [List.getElem?_set_self h.lt], g⟩
theorem Dr.trans {μ μ' μ'' : Mu} {n : Nat} (d : Dr n μ μ') (e : Dr n μ' μ'') : Dr n μ μ'' := by
  obtain ⟨c, g, rfl⟩ := d
  obtain ⟨c', g', rfl⟩ := e
  exact ⟨c', g', by rw [List.set_set]⟩
theorem Dr.len {μ μ' : Mu} {n : Nat} (d : Dr n μ μ') : μ'.length = μ.length := by
  obtain ⟨c, g, rfl⟩ := d
  simp
theorem Dr.other {μ μ' : Mu} {n m : Nat} (d : Dr n μ μ') (h : m ≠ n) : μ'[m]? = μ[m]? := by
  obtain ⟨c, g, rfl⟩ := d
  rw [List.getElem?_set_ne (Ne.symm h)]
/-- behind the first change of the bag -/
theorem draw_set {μ : Mu} {n : Nat} {c c' : Cell} (h : μ[n]? = some (some c)) : (μ.set n (some c'))[n]? = some (some c') := List.getElem?_set_self (List.getElem?_eq_some_iff.mp h).1
theorem hs_draw (n : Nat) (many : Int) (μ : Mu) (Pd : KD) (hb : BagAt μ n) (h0 : 0 < many) (h1 : many < 1073741824) (hP : ∀ r μ', 0 ≤ r → r < many → Dr n μ μ' → Pd (.int r) μ') :
    tr_draw { nx := fun _ μ' => Pd .non μ', rt := Pd } [some (.loc n), some (.int many), none, none, none, none] μ := by
  obtain ⟨c, hm, ns, a, b, m, rfl, hl, ha⟩ := hb
  unfold tr_draw
  have i1 : ∀ x y z w : D, ixN [x, y, z, w].length 1 = some 1 := fun _ _ _ _ => rfl
  have i2 : ∀ x y z w : D, ixN [x, y, z, w].length 2 = some 2 := fun _ _ _ _ => rfl
  have c1 : ∀ x : Int, CMul x 9241 := fun x => cmul_r (by decide)
  have c2 : ∀ x : Int, CMul x 43051 := fun x => cmul_r (by decide)
  have c3 : ∀ x : Int, CMul x 39119 := fun x => cmul_r (by decide)
  have c4 : ∀ x : Int, CMul x 60607 := fun x => cmul_r (by decide)
  have c5 : ∀ x : Int, CMul x 46819 := fun x => cmul_r (by decide)
  have cd : ∀ x : Int, CDiv x many := fun x => ⟨h0, h1⟩
  have cd23 : ∀ x : Int, CDiv x 23 := fun x => ⟨by decide, by decide⟩
  -- the end: a digit of the number at hand
  have fin : ∀ (μ1 : Mu) (e z : Int) (f : Option D) (f3 f4 : Option D), Dr n μ μ1 → 0 ≤ e → μ1[n]? = some (some (.lst [.lst (ns.map D.int), .int e, .int z, .int m])) →
      dr_end { nx := fun _ μ' => Pd .non μ', rt := Pd } [some (.loc n), some (.int many), f, f3, f4, none] μ1 := by
    intro μ1 e z f f3 f4 hd he h3
    simp only [dr_end, s_seq, s_set, e_op, e_call, a_cons, a_nil, e_v0, e_v1, e_v5, e_c, d_ix_loc, h3, atI2, d_int_int, d_mod, s_put, d_fdiv, i2, s_ret, List.set_cons_succ, List.set_cons_zero]
    refine ⟨h0, cd _, ?_⟩
    exact hP _ _ (Int.emod_nonneg _ (by omega)) (Int.emod_lt_of_pos _ h0) (hd.trans ⟨_, ⟨ns, e, _, m, rfl, hl, he⟩, rfl⟩)
  by_cases hb : b < 2
  · simp only [s_seq, s_if, b_b, e_op, e_v0, e_c, d_ix_loc, hm, atI2, d_lt, onB_bl, hb, decide_true, if_true, s_put, atI1, d_add_int, i1, List.set_cons_succ, List.set_cons_zero]
    have h3 := draw_set (c' := .lst [.lst (ns.map D.int), .int (a + 1), .int b, .int m]) hm
    have hd : Dr n μ (μ.set n (some (.lst [.lst (ns.map D.int), .int (a + 1), .int b, .int m]))) := ⟨_, ⟨ns, a + 1, b, m, rfl, hl, by omega⟩, rfl⟩
    generalize μ.set n (some (.lst [.lst (ns.map D.int), .int (a + 1), .int b, .int m])) = μ1 at h3 hd
    simp only [s_set, e_op, e_v0, e_c, d_ix_loc, h3, atI3, atI1, d_mul, c1, true_and, d_add_int, List.set_cons_succ, List.set_cons_zero, e_call, a_cons, a_nil, atI0, d_len_lst, d_le, onB_bl, List.length_map]
    have last : ∀ μ2, Dr n μ μ2 → ∀ x : Int, 0 < (23 : Int) → Pd (.int (x / 23 % many)) μ2 := fun μ2 h x _ => hP _ _ (Int.emod_nonneg _ (by omega)) (Int.emod_lt_of_pos _ h0) h
    have sm : ∀ x : Int, CMul (x % 2147483587) (x % 2147483587) := fun x => cmul_l (by omega)
    -- the number that is taken
    have mid : ∀ cz : Int, dr_mid { nx := dr_end { nx := fun _ μ' => Pd .non μ', rt := Pd }, rt := Pd } [some (.loc n), some (.int many), some (.int cz), none, none, none] μ1 := by
      intro cz
      have fresh : ∀ nx, dr_fresh { nx := nx, rt := Pd } [some (.loc n), some (.int many), some (.int cz), none, none, none] μ1 := by
        intro nx
        simp only [dr_fresh, s_seq, s_set, e_op, e_v0, e_v1, e_v2, e_v3, e_v4, e_c, d_ix_loc, h3, atI3, atI1, d_mul, c2, c3, c4, c5, sm, true_and, d_add_int, List.set_cons_succ, List.set_cons_zero, e_call, a_cons, a_nil, d_int_int, d_mod, s_ret, d_fdiv, cd23]
        exact ⟨by decide, by decide, by decide, h0, last _ hd _ (by decide)⟩
      simp only [dr_mid, s_seq, s_if, b_or, b_b, e_op, e_v0, e_c, d_ix_loc, h3, atI1, atI0, e_call, a_cons, a_nil, d_len_lst, d_gt, onB_bl, List.length_map, decide_eq_true_eq]
      by_cases hg : (ns.length : Int) < a + 1
      · simp only [hg, if_true]
        exact fresh _
      · simp only [hg, if_false, e_v2, d_pow, d_lt, onB_bl, decide_eq_true_eq]
        refine ⟨⟨by decide, by decide, by decide⟩, ?_⟩
        split
        · exact fresh _
        · simp only [s_next, s_put, e_v2, e_v0, e_c, h3, i2, List.set_cons_succ, List.set_cons_zero]
          exact fin _ (a + 1) cz _ _ _ (hd.trans ⟨_, ⟨ns, a + 1, cz, m, rfl, hl, by omega⟩, rfl⟩) (by omega) (draw_set h3)
    simp only [s_seq, s_if, b_b, e_op, e_v0, e_c, d_ix_loc, h3, atI1, atI0, e_call, a_cons, a_nil, d_len_lst, d_le, onB_bl, List.length_map]
    split
    · rename_i hle
      have hle : a + 1 ≤ (ns.length : Int) := by simpa using hle
      have hx : ∃ cz : Int, atI (ns.map D.int) (a + 1 - 1) = some (.int cz) := by
        obtain ⟨x, e1, e2⟩ := atI_nat' (l := ns.map D.int) (i := a + 1 - 1) (by omega) (by rw [List.length_map]; omega)
        rw [List.getElem?_map] at e1
        cases q : ns[(a + 1 - 1).toNat]? with
        | none => rw [q] at e1; cases e1
        | some cz => rw [q] at e1; cases e1; exact ⟨cz, e2⟩
      obtain ⟨cz, hx⟩ := hx
      simp only [s_set, e_op, e_v0, e_c, d_ix_loc, h3, atI0, atI1, d_sub, d_ix_lst, hx, List.set_cons_succ, List.set_cons_zero]
      exact mid cz
    · simp only [s_next]
      exact mid _
  · simp only [s_seq, s_if, b_b, e_op, e_v0, e_c, d_ix_loc, hm, atI2, d_lt, onB_bl, hb, decide_false, Bool.false_eq_true, if_false, s_next]
    exact fin μ a b _ _ _ (Dr.refl ⟨_, hm, ns, a, b, m, rfl, hl, ha⟩) ha hm

theorem hs_pick (n : Nat) (x : D) (μ : Mu) (Pd : KD) (hb : BagAt μ n) (h0 : picks x ≠ []) (h1 : (picks x).length < 1000) (hP : ∀ d μ', d ∈ picks x → Dr n μ μ' → Pd d μ') :
    tr_pick { nx := fun _ μ' => Pd .non μ', rt := Pd } [some (.loc n), some x] μ := by
  have l0 : 0 < (picks x).length := List.length_pos_iff.mpr h0
  unfold tr_pick
  have dr : ∀ (k : Nat) (Q : KD), 0 < k → k < 1000 → (∀ r μ', 0 ≤ r → r < (k : Int) → Dr n μ μ' → Q (.int r) μ') → sp_draw [.loc n, .int (k : Int)] μ Q := fun k Q h0 h1 h => ⟨n, k, rfl, hb, by omega, by omega, h⟩
  cases x with
  | lst xs =>
    simp only [s_ret, e_op, e_v1, e_v0, e_call, a_cons, a_nil, d_len_lst]
    refine dr _ _ l0 h1 fun r μ' r0 r1 hd => ?_
    obtain ⟨d, e1, e2⟩ := atI_nat' r0 r1
    simp only [d_ix_lst, e2]
    exact hP d μ' (List.mem_of_getElem? e1) hd
  | tup xs =>
    simp only [s_ret, e_op, e_v1, e_v0, e_call, a_cons, a_nil, d_len_tup]
    refine dr _ _ l0 h1 fun r μ' r0 r1 hd => ?_
    obtain ⟨d, e1, e2⟩ := atI_nat' r0 r1
    simp only [d_ix_tup, e2]
    exact hP d μ' (List.mem_of_getElem? e1) hd
  | str z =>
    have hz : z.length ≤ sizeLine := by
      have : z.length < 1000 := by simpa [picks, Tr.signs, Str.length] using h1
      rw [sizeLine_eq]
      omega
    simp only [s_ret, e_op, e_v1, e_v0, e_call, a_cons, a_nil, d_len_str]
    refine ⟨hz, dr z.length _ (by simpa [picks, Tr.signs, Str.length] using l0) (by simpa [picks, Tr.signs, Str.length] using h1) fun r μ' r0 r1 hd => ?_⟩
    obtain ⟨c, e1, e2⟩ := atI_nat' (l := z.cps.toList) r0 (by simpa [Str.length] using r1)
    simp only [d_ix_str, e2]
    exact ⟨hz, hP _ μ' (by simp only [picks, Tr.signs, List.mem_map]; exact ⟨c, List.mem_of_getElem? e1, rfl⟩) hd⟩
  | _ => exact absurd rfl h0

/-! ### loops, comprehensions with draws -/
theorem loop_inv {tg : Tgt} {tb : ST} {DD : EndsD} (I : List D → Tr.Env → Mu → Prop) : ∀ (ds : List D) (ρ : Tr.Env) (μ : Mu), I ds ρ μ →
    (∀ d ds ρ μ, ∀ nx : Tr.Env → Mu → Prop, I (d :: ds) ρ μ → (∀ ρ' μ', I ds ρ' μ' → nx ρ' μ') → gD tg d ρ μ fun ρ1 μ1 => tb { DD with nx := nx, ct := nx, bk := DD.nx } ρ1 μ1) →
    (∀ ρ' μ', I [] ρ' μ' → DD.nx ρ' μ') → loopD tg tb DD ds ρ μ
  | [], ρ, μ, h, _, e => e ρ μ h
  | d :: ds, ρ, μ, h, st, e => by
    rw [l_cons]
    exact st d ds ρ μ _ h fun ρ' μ' h' => loop_inv I ds ρ' μ' h' st e
theorem comp_draw {tg : Tgt} {te : ET} {ρ : Tr.Env} {n : Nat} {C : D → Prop} : ∀ (ds acc : List D) (μ : Mu) (P : KA), acc.length + ds.length ≤ 1000 → BagAt μ n →
    (∀ d, d ∈ ds → ∀ μ1 (Q : KD), BagAt μ1 n → (∀ y μ2, C y → Dr n μ1 μ2 → Q y μ2) → gD tg d ρ μ1 fun ρ1 μ2 => te ρ1 μ2 Q) →
    (∀ ys μ', ys.length = ds.length → (∀ y, y ∈ ys → C y) → Dr n μ μ' → P (acc ++ ys) μ') → compD tg bYes te ρ ds acc μ P
  | [], acc, μ, P, _, hb, _, h => by simpa using h [] μ rfl (by simp) (Dr.refl hb)
  | d :: ds, acc, μ, P, hl, hb, he, h => by
    rw [cp_cons]
    have := he d List.mem_cons_self μ (fun y μ3 => acc.length < sizeLine ∧ compD tg bYes te ρ ds (acc ++ [y]) μ3 P) hb ?_
    · simpa using this
    · intro y μ2 hy hd
      simp only [List.length_cons] at hl
      refine ⟨Nat.lt_of_lt_of_le (show acc.length < 1001 by omega) (by rw [sizeLine_eq]; decide), comp_draw ds (acc ++ [y]) μ2 P (by simp; omega) (hd.at hb) (fun d' hd' => he d' (List.mem_cons_of_mem _ hd')) fun ys μ' hlen hys hd' => ?_⟩
      have := h (y :: ys) μ' (by simp [hlen]) (by simp; exact ⟨hy, hys⟩) (hd.trans hd')
      simpa using this

/-! ### the bag is made -/
theorem hs_bag (ns : List Int) (μ : Mu) (Pd : KD) (hl : ns.length ≤ 63) (hP : ∀ c, Bg c → Pd (.loc μ.length) (μ ++ [some c])) : tr_bag { nx := fun _ μ' => Pd .non μ', rt := Pd } [some (.fz (ns.map D.int)), none, none, none] μ := by
  have cut : cutD (ns.map D.int) none (some 63) = ns.map D.int := by
    unfold cutD
    have e : HT.sIx (ns.map D.int).length (ns.map D.int).length (some (63 : Int)) = min 63 (ns.map D.int).length := HT.sIx_nat _ _ 63
    rw [e, HT.sIx_none, List.length_map, Nat.min_eq_right hl, Nat.sub_zero, List.drop_zero]
    exact List.take_of_length_le (by simp)
  unfold tr_bag
  simp only [s_seq, s_set, e_comp, it_any, e_sl, e_v0, o_no, o_yes, e_c, dSl, cut, wipe_cons, wipe_nil, List.set_cons_succ, List.set_cons_zero]
  refine comp_map (f := id) (ns.map D.int) [] μ _ (by simp; omega) (fun d hd P h => ?_) ?_
  · obtain ⟨i, _, rfl⟩ := List.mem_map.mp hd
    simpa using h
  · simp only [List.nil_append, List.map_id, e_op, e_c, e_call, a_cons, a_nil, e_v1, d_len_lst, d_mul, d_add_int, s_for, it_any, List.set_cons_succ, List.set_cons_zero]
    refine ⟨cmul_l (by decide), ?_⟩
    refine loop_inv (fun ds ρ μ' => (∀ d, d ∈ ds → ∃ i : Int, d = .int i) ∧ μ' = μ ∧ ∃ (m : Int) (f : Option D), ρ = [some (.fz (ns.map D.int)), some (.lst (ns.map D.int)), some (.int m), f]) _ _ _ ⟨fun d hd => ?_, rfl, _, _, rfl⟩ ?_ ?_
    · obtain ⟨i, _, rfl⟩ := List.mem_map.mp hd
      exact ⟨i, rfl⟩
    · rintro d ds ρ μ' nx ⟨hd, rfl, m, f, rfl⟩ hn
      obtain ⟨i, rfl⟩ := hd d List.mem_cons_self
      simp only [g_nm, s_set, e_op, e_call, a_cons, a_nil, e_v2, e_v3, e_c, d_mul, d_add_int, d_int_int, d_mod, List.set_cons_succ, List.set_cons_zero]
      exact ⟨cmul_r (by decide), by decide, hn _ _ ⟨fun d' hd' => hd d' (List.mem_cons_of_mem _ hd'), rfl, _, _, rfl⟩⟩
    · rintro ρ' μ' ⟨-, rfl, m, f, rfl⟩
      simp only [s_ret, e_lstL, a_cons, a_nil, e_v1, e_v2, e_c]
      exact ⟨len_small (by simp), hP _ ⟨ns, 0, 0, m, rfl, hl, by decide⟩⟩

/-! ### the same data -/
theorem ok_ty {n : Nat} {d : D} (h : ok n d = true) : ∃ t, tyN d = some t := by
  cases d <;> first | exact ⟨_, rfl⟩ | (cases n <;> simp [ok] at h)
theorem eqv_refl_s (x : D) (p : PyData) (hp : toPy x = some p) (hf : match x with | .bl _ | .int _ | .str _ => True | _ => False) : PyData.eqv p p = true := by
  cases x <;> simp at hf <;> simp [toPy] at hp <;> subst hp <;> simp [PyData.eqv]
theorem comp_zip_same {sp : RAD} {ρ : Tr.Env} {i j : Nat} (hij : i ≠ j) : ∀ (ds acc : List D) (μ : Mu) (P : KA), acc.length + ds.length ≤ 1000 → i < ρ.length → j < ρ.length →
    (∀ d, d ∈ ds → ∀ P : KD, P (.bl true) μ → sp [d, d] μ P) → P (acc ++ ds.map fun _ => .bl true) μ →
    compD (.tp [.nm i, .nm j]) bYes (eCall sp (aCons (eVar i) (aCons (eVar j) aNil))) ρ (zipD ds ds) acc μ P
  | [], acc, μ, P, _, _, _, _, h => by simpa [zipD] using h
  | d :: ds, acc, μ, P, hl, hi, hj, he, h => by
    show compD _ _ _ _ (.tup [d, d] :: zipD ds ds) acc μ P
    rw [cp_cons]
    have v1 : ∀ Q : KD, eVar i ((ρ.set i (some d)).set j (some d)) μ Q = Q d μ := fun Q => by
      rw [e_var, List.getElem?_set_ne (Ne.symm hij), List.getElem?_set_self hi]
    have v2 : ∀ Q : KD, eVar j ((ρ.set i (some d)).set j (some d)) μ Q = Q d μ := fun Q => by
      rw [e_var, List.getElem?_set_self (by simpa using hj)]
    simp only [g_tp, gs_cons, gs_nil, g_nm, List.length_cons, List.length_nil, true_and, b_yes, if_true, e_call, a_cons, a_nil, v1, v2]
    simp only [List.length_cons] at hl
    refine he d List.mem_cons_self _ ⟨Nat.lt_of_lt_of_le (show acc.length < 1001 by omega) (by rw [sizeLine_eq]; decide), ?_⟩
    exact comp_zip_same hij ds (acc ++ [.bl true]) μ P (by simp; omega) hi hj (fun d' hd' => he d' (List.mem_cons_of_mem _ hd')) (by simpa using h)
theorem hs_same (n : Nat) (x : D) (μ : Mu) (Pd : KD) (hx : okS (n + 1) x = true) (hP : Pd (.bl true) μ) :
    tr_same n { nx := fun _ μ' => Pd .non μ', rt := Pd } [some x, some x, none, none] μ := by
  have l2 : (2 : Nat) ≤ sizeLine := by rw [sizeLine_eq]; decide
  have shb : ∀ b : Bool, SeqAt.shaped (.bool b) = true := fun b => by cases b <;> decide +kernel
  have shi : ∀ b : Int, SeqAt.shaped (.int b) = true := fun b => by simp [SeqAt.shaped, PyData.canLay0, PyData.depth]
  have shs : ∀ b : Str, PyData.strOk b = true → SeqAt.shaped (.str b) = true := fun b h => by simp [SeqAt.shaped, PyData.canLay0, PyData.depth, h]
  have sq : ∀ k, n = k + 1 → ∀ ds : List D, okA k ds = true → ∀ d, d ∈ ds → ∀ P : KD, P (.bl true) μ → sp_same n [d, d] μ P := fun k e ds h d hd P hP => ⟨d, rfl, by rw [e]; exact okA_mem h hd, hP⟩
  replace hx : ok n x = true := hx
  unfold tr_same
  cases x with
  | non => simpa using hP
  | bl b => simp [tyN, tyNs, clss, isTy, dNe, dEq, toPy, PyData.eqv, shb, l2]; exact hP
  | int b => simp [tyN, tyNs, clss, isTy, dNe, dEq, toPy, PyData.eqv, shb, shi, l2]; exact hP
  | str b =>
    simp [ok] at hx
    simp [tyN, tyNs, clss, isTy, dNe, dEq, toPy, PyData.eqv, shb, shs b hx.1, l2]; exact hP
  | lst xs =>
    obtain ⟨k, rfl⟩ : ∃ k, n = k + 1 := by cases n; · cases hx
                                           · exact ⟨_, rfl⟩
    simp [ok] at hx
    simp [tyN, tyNs, clss, isTy, dNe, dEq, toPy, PyData.eqv, shb, shi, l2]
    refine comp_zip_same (by decide) xs [] μ _ (by simpa using hx.2) (by simp) (by simp) (sq k rfl xs hx.1) ?_
    simp only [dAll, List.nil_append, boolsOf_map (fun _ => true)]
    have e : (xs.map fun _ => true).all id = true := by simp [List.all_eq_true]
    rw [e]
    exact hP
  | tup xs =>
    obtain ⟨k, rfl⟩ : ∃ k, n = k + 1 := by cases n; · cases hx
                                           · exact ⟨_, rfl⟩
    simp [ok] at hx
    simp [tyN, tyNs, clss, isTy, dNe, dEq, toPy, PyData.eqv, shb, shi, l2]
    refine comp_zip_same (by decide) xs [] μ _ (by simpa using hx.2) (by simp) (by simp) (sq k rfl xs hx.1) ?_
    simp only [dAll, List.nil_append, boolsOf_map (fun _ => true)]
    have e : (xs.map fun _ => true).all id = true := by simp [List.all_eq_true]
    rw [e]
    exact hP
  | _ => simp [ok] at hx
end Tr
set_option Elab.async false
set_option linter.all false
set_option maxRecDepth 100000
namespace Tr
open PySem PySem.Spec PyProof.Rows L2 RZ TL

/-! ### texts by their signs -/
theorem len_codes (x : Str) : x.length = x.cps.toList.length := by simp [Str.length]
/-- signs that are signs, m at most -/
def Sg (x : Str) (m : Nat) : Prop := (∀ c, c ∈ x.cps.toList → c < 1114112) ∧ x.cps.toList.length ≤ m
theorem strOk_iff {x : Str} : PyData.strOk x = true ↔ ∀ c, c ∈ x.cps.toList → c < 1114112 := by
  unfold PyData.strOk
  rw [Array.all_eq_true_iff_forall_mem]
  simp
theorem Sg.ok {x : Str} {m n : Nat} (h : Sg x m) (hm : m ≤ 1000) : Tr.ok n (.str x) = true := by
  have a := strOk_iff.mpr h.1
  have b : x.length ≤ 1000 := by rw [len_codes]; exact Nat.le_trans h.2 hm
  cases n <;> simp [Tr.ok, a, b]
theorem ok_sg {x : Str} {n : Nat} (h : Tr.ok n (.str x) = true) : Sg x 1000 := by
  have h : PyData.strOk x = true ∧ x.length ≤ 1000 := by cases n <;> simpa [Tr.ok] using h
  exact ⟨strOk_iff.mp h.1, by rw [← len_codes]; exact h.2⟩
theorem Sg.mono {x : Str} {m k : Nat} (h : Sg x m) (hk : m ≤ k) : Sg x k := ⟨h.1, Nat.le_trans h.2 hk⟩
theorem codes_app (x y : Str) : (x ++ y).cps.toList = x.cps.toList ++ y.cps.toList := tl_append x y
theorem Sg.app {x y : Str} {m k : Nat} (h : Sg x m) (g : Sg y k) : Sg (x ++ y) (m + k) := by
  refine ⟨fun c hc => ?_, ?_⟩
  · rw [codes_app] at hc
    exact (List.mem_append.mp hc).elim (h.1 c) (g.1 c)
  · rw [codes_app, List.length_append]
    have := h.2; have := g.2
    omega
theorem codes_cut (z : Str) (lo hi : Option Int) : (cutS z lo hi).cps.toList = (z.cps.toList.drop (HT.sIx z.length 0 lo)).take (HT.sIx z.length z.length hi - HT.sIx z.length 0 lo) := by simp [cutS]
theorem Sg.cut {x : Str} {m : Nat} (h : Sg x m) (lo hi : Option Int) : Sg (cutS x lo hi) m := by
  refine ⟨fun c hc => ?_, ?_⟩
  · rw [codes_cut] at hc
    exact h.1 c (List.mem_of_mem_drop (List.mem_of_mem_take hc))
  · rw [codes_cut, List.length_take, List.length_drop]
    have := h.2
    omega
theorem Sg.line {x : Str} {m : Nat} (h : Sg x m) (hm : m ≤ 1000) : x.length ≤ sizeLine := by
  rw [len_codes, sizeLine_eq]
  have := h.2
  omega
theorem joinL_signs : ∀ cs : List Nat, joinL [] (cs.map fun c => [c]) = cs
  | [] => rfl
  | [c] => rfl
  | c :: d :: r => by
    show [c] ++ ([] ++ joinL [] ((d :: r).map fun c => [c])) = _
    rw [joinL_signs (d :: r)]
    rfl
theorem join_signs (cs : List Nat) : (Txt.join (Str.ofString "") (cs.map fun c => (⟨#[c]⟩ : Str))).cps.toList = cs := by
  show TL.tl _ = cs
  rw [join_eq, tl_join, List.map_map]
  exact joinL_signs cs
theorem strs_signs : ∀ (ys : List D), (∀ y, y ∈ ys → ∃ c : Nat, c < 128 ∧ y = .str ⟨#[c]⟩) → ∃ cs : List Nat, (∀ c, c ∈ cs → c < 128) ∧ cs.length = ys.length ∧ strsOf ys = some (cs.map fun c => (⟨#[c]⟩ : Str))
  | [], _ => ⟨[], by simp, rfl, rfl⟩
  | y :: ys, h => by
    obtain ⟨c, hc, rfl⟩ := h y List.mem_cons_self
    obtain ⟨cs, h1, h2, h3⟩ := strs_signs ys fun y' hy => h y' (List.mem_cons_of_mem _ hy)
    refine ⟨c :: cs, fun d hd => ?_, by simp [h2], by simp [strsOf, h3]⟩
    rcases List.mem_cons.mp hd with z | z
    · rw [z]; exact hc
    · exact h1 d z
/-- signs joined -/
theorem join_draw {ys : List D} {μ : Mu} {P : KD} (h : ∀ y, y ∈ ys → ∃ c : Nat, c < 128 ∧ y = .str ⟨#[c]⟩) (hl : ys.length ≤ 1000) (hP : ∀ x, Sg x ys.length → P (.str x) μ) : dJoin (Str.ofString "") (.lst ys) μ P := by
  obtain ⟨cs, h1, h2, h3⟩ := strs_signs ys h
  simp only [dJoin, h3]
  refine ⟨?_, hP _ ⟨fun c hc => ?_, ?_⟩⟩
  · have e1 : ((cs.map fun c => (⟨#[c]⟩ : Str)).map (·.length)).sum = cs.length := by
      rw [List.map_map]
      have : (List.map ((fun x => x.length) ∘ fun c => (⟨#[c]⟩ : Str)) cs) = List.replicate cs.length 1 := by
        rw [List.eq_replicate_iff]
        refine ⟨by simp, fun b hb => ?_⟩
        obtain ⟨c, _, rfl⟩ := List.mem_map.mp hb
        rfl
      rw [this]
      simp
    have e2 : (Str.ofString "").length = 0 := by decide
    rw [e1, e2, h2]
    omega
  · rw [join_signs] at hc
    exact Nat.lt_trans (h1 c hc) (by decide)
  · rw [join_signs, h2]
    exact Nat.le_refl _
/-- a written text of small signs -/
theorem sg_of {x : Str} {m : Nat} (h : (x.cps.toList.all (fun c => decide (c < 128)) && decide (x.cps.toList.length ≤ m)) = true) : Sg x m := by
  simp only [Bool.and_eq_true, List.all_eq_true, decide_eq_true_eq] at h
  exact ⟨fun c hc => Nat.lt_trans (h.1 c hc) (by decide), h.2⟩
theorem small_of {x : Str} (h : x.cps.toList.all (fun c => decide (c < 128)) = true) : ∀ y, y ∈ Tr.signs x → ∃ c : Nat, c < 128 ∧ y = .str ⟨#[c]⟩ := fun y hy => by
  obtain ⟨c, hc, rfl⟩ := List.mem_map.mp hy
  exact ⟨c, of_decide_eq_true (List.all_eq_true.mp h c hc), rfl⟩
/-- str of a number -/
theorem codes_num (n : Nat) : (Str.ofString (toString ((n : Nat) : Int))).cps.toList = numL n := tl_num n
theorem log_small {i : Int} (h : i.natAbs < 2 ^ 64) : i.natAbs.log2 < 1920 := by
  by_cases z : i.natAbs = 0
  · rw [z]; decide
  · exact Nat.lt_trans ((Nat.log2_lt z).mpr h) (by decide)
theorem eqv_str (x y : Str) : PyData.eqv (.str x) (.str y) = decide (x.cps.toList = y.cps.toList) := by
  simp only [PyData.eqv]
  by_cases h : x = y
  · subst h; simp
  · have h2 : ¬ x.cps.toList = y.cps.toList := fun e => h (by cases x; cases y; simp only [Str.mk.injEq]; exact Array.toList_inj.mp e)
    simp [h, h2]
theorem shaped_str {x : Str} (h : ∀ c, c ∈ x.cps.toList → c < 1114112) : SeqAt.shaped (.str x) = true := by simp [SeqAt.shaped, PyData.canLay0, PyData.depth, strOk_iff.mpr h]
theorem shaped_int (i : Int) : SeqAt.shaped (.int i) = true := by simp [SeqAt.shaped, PyData.canLay0, PyData.depth]
theorem shaped_bool (b : Bool) : SeqAt.shaped (.bool b) = true := by cases b <;> decide +kernel
end Tr
set_option Elab.async false
set_option linter.all false
set_option maxRecDepth 100000
namespace Tr
open PySem PySem.Spec PyProof.Rows L2 RZ TL
/-! ### numbers written out -/
theorem numL_fold (n : Nat) : (numL n).foldl (fun (a : Int) (c : Nat) => a * 10 + ((c : Int) - 48)) 0 = n := by
  induction n using Nat.strongRecOn with
  | _ n ih =>
    by_cases h : n < 10
    · rw [numL_lt h]; simp; omega
    · rw [numL_step (by omega), List.foldl_append, ih (n / 10) (by omega)]
      simp only [List.foldl_cons, List.foldl_nil]
      omega
theorem numL_head (n : Nat) : (numL n).head? = some 48 → n = 0 := by
  induction n using Nat.strongRecOn with
  | _ n ih =>
    by_cases h : n < 10
    · rw [numL_lt h]; simp
    · rw [numL_step (by omega)]
      intro q
      have e : (numL (n / 10) ++ [48 + n % 10]).head? = (numL (n / 10)).head? := by
        have := numL_ne (n / 10)
        cases hh : numL (n / 10) with
        | nil => exact absurd hh this
        | cons _ _ => rfl
      have := ih (n / 10) (by omega) (e ▸ q)
      omega
theorem numL_long : ∀ (k n : Nat), 10 ^ k ≤ n → k + 1 ≤ (numL n).length
  | 0, n, _ => by
    have := numL_ne n
    cases h : numL n with
    | nil => exact absurd h this
    | cons _ _ => simp
  | k + 1, n, h => by
    have h10 : 10 ≤ n := Nat.le_trans (by rw [Nat.pow_succ]; have := Nat.pow_pos (n := k) (show 0 < 10 by decide); omega) h
    rw [numL_step h10, List.length_append]
    have := numL_long k (n / 10) (by rw [Nat.pow_succ] at h; omega)
    simp; omega
theorem num_str (n : Nat) : (toString ((n : Nat) : Int) : String) = toString (n : Int) := rfl
theorem e_v12 {μ : Mu} {P : KD} {a1 a2 a3 a4 a5 a6 a7 a8 a9 a10 a11 a12 : Option D} {d : D} {r : Env} : eVar 12 (a1 :: a2 :: a3 :: a4 :: a5 :: a6 :: a7 :: a8 :: a9 :: a10 :: a11 :: a12 :: some d :: r) μ P = P d μ := id rfl
theorem e_v13 {μ : Mu} {P : KD} {a0 a1 a2 a3 a4 a5 a6 a7 a8 a9 a10 a11 a12 : Option D} {d : D} {r : Env} : eVar 13 (a0 :: a1 :: a2 :: a3 :: a4 :: a5 :: a6 :: a7 :: a8 :: a9 :: a10 :: a11 :: a12 :: some d :: r) μ P = P d μ := id rfl
theorem e_v14 {μ : Mu} {P : KD} {b0 a0 a1 a2 a3 a4 a5 a6 a7 a8 a9 a10 a11 a12 : Option D} {d : D} {r : Env} : eVar 14 (b0 :: a0 :: a1 :: a2 :: a3 :: a4 :: a5 :: a6 :: a7 :: a8 :: a9 :: a10 :: a11 :: a12 :: some d :: r) μ P = P d μ := id rfl
theorem e_v15 {μ : Mu} {P : KD} {b1 b0 a0 a1 a2 a3 a4 a5 a6 a7 a8 a9 a10 a11 a12 : Option D} {d : D} {r : Env} : eVar 15 (b1 :: b0 :: a0 :: a1 :: a2 :: a3 :: a4 :: a5 :: a6 :: a7 :: a8 :: a9 :: a10 :: a11 :: a12 :: some d :: r) μ P = P d μ := id rfl
@[simp] theorem pck_n {ds : List D} : pick [] ds = [] := id rfl
@[simp] theorem pck_0 {l : List Nat} {d : D} {ds : List D} : pick (0 :: l) (d :: ds) = d :: pick l (d :: ds) := id rfl
@[simp] theorem pck_1 {l : List Nat} {d e : D} {ds : List D} : pick (1 :: l) (d :: e :: ds) = e :: pick l (d :: e :: ds) := id rfl
@[simp] theorem pck_2 {l : List Nat} {d e f : D} {ds : List D} : pick (2 :: l) (d :: e :: f :: ds) = f :: pick l (d :: e :: f :: ds) := id rfl
@[simp] theorem pck_3 {l : List Nat} {d e f g : D} {ds : List D} : pick (3 :: l) (d :: e :: f :: g :: ds) = g :: pick l (d :: e :: f :: g :: ds) := id rfl
/-! ### cut lists -/
theorem okA_iff {n : Nat} : ∀ {xs : List D}, okA n xs = true ↔ ∀ x, x ∈ xs → ok n x = true
  | [] => by simp [okA]
  | x :: xs => by simp [okA, okA_iff (xs := xs)]
theorem cut_mem {xs : List D} {lo hi : Option Int} {x : D} (h : x ∈ cutD xs lo hi) : x ∈ xs := List.mem_of_mem_drop (List.mem_of_mem_take h)
theorem cut_len {xs : List D} {lo hi : Option Int} : (cutD xs lo hi).length ≤ xs.length := by
  unfold cutD
  rw [List.length_take, List.length_drop]
  omega
theorem okA_cut {n : Nat} {xs : List D} {lo hi : Option Int} (h : okA n xs = true) : okA n (cutD xs lo hi) = true := okA_iff.mpr fun x hx => okA_mem h (cut_mem hx)
theorem okA_app {n : Nat} {xs ys : List D} (h : okA n xs = true) (g : okA n ys = true) : okA n (xs ++ ys) = true := okA_iff.mpr fun x hx => (List.mem_append.mp hx).elim (okA_mem h) (okA_mem g)
theorem ok_tup {n : Nat} {xs : List D} (h : okA n xs = true) (hl : xs.length ≤ 1000) : ok (n + 1) (.tup xs) = true := by simp [ok, h, hl]
theorem ok_lst {n : Nat} {xs : List D} (h : okA n xs = true) (hl : xs.length ≤ 1000) : ok (n + 1) (.lst xs) = true := by simp [ok, h, hl]
theorem ok_int {n : Nat} {i : Int} : ok n (.int i) = true := by cases n <;> rfl
theorem ok_non {n : Nat} : ok n .non = true := by cases n <;> rfl
theorem ok_bl {n : Nat} {i : Bool} : ok n (.bl i) = true := by cases n <;> rfl
theorem ok_le {n m : Nat} {d : D} (h : n ≤ m) (g : ok n d = true) : ok m d = true := by
  induction h with
  | refl => exact g
  | step _ ih => exact ok_up ih
end Tr
set_option Elab.async false
set_option linter.all false
set_option maxRecDepth 100000
namespace Tr
open PySem PySem.Spec PyProof.Rows L2 RZ
/-! ### what the top has written -/
def Sn (K : PySem.W.Frag) (mg : Str → Option Value) (x : Str) (st : Stmt) : Prop := ∃ f fd, mg x = some (.ref f) ∧ Fun K x x st f fd
theorem sn_mk {K : PySem.W.Frag} {h : Heap} {mg : Str → Option Value} {x : Str} {st : Stmt} {f : Addr} {oc : Value} {od an : Option Addr} {sl : Array (Option Value)} {kV dc pm cd ct : Value} (X : K.In h) (G : h.Ns mainGlobals mg)
    (a : PySem.W.nsIn K mainGlobals x = some (some (.ref f))) (l : K.lookup f = some ⟨oc, od, .func (PySem.W.fnOf x x (defArgs st) (defBody st) (defScope st) .none kV dc pm an cd ct), sl⟩) (c : PySem.W.codeIn K cd x = true) (k : PySem.W.keepIn K (.ref f) = true) : Sn K mg x st :=
  ⟨f, _, PySem.W.mg_of X G a, fun_mk l c k⟩
theorem Sn.fni {P : Program} {wd : World} {K : PySem.W.Frag} {mg : Str → Option Value} {base : Heap} {x : Str} {st : Stmt} {k : Nat} {ps : List Str} {sp : RAD} (S : Sn K mg x st) (h : ∀ f fd, Fun K x x st f fd → FnD P wd K mg base k f fd ps sp)
    (hb : ∀ (kV doc pm : Value) (an : Option Addr) (cdv ct : Value) (us : List Value), us.length = ps.length → bindArgs (PySem.W.fnOf x x (defArgs st) (defBody st) (defScope st) .none kV doc pm an cdv ct) ⟨us, []⟩ = pure (ps.zip us)) : FnI P wd K mg base x st k ps sp := by
  obtain ⟨f, fd, hm, F⟩ := S
  exact fni_mk F hm (h f fd F) (F.binds hb)
theorem Sn.none {P : Program} {wd : World} {K : PySem.W.Frag} {mg : Str → Option Value} {base : Heap} {x : Str} {st : Stmt} {k : Nat} {ps : List Str} {sp : RAD} (S : Sn K mg x st) (hsp : ∀ ds μ P, ¬ sp ds μ P)
    (hb : ∀ (kV doc pm : Value) (an : Option Addr) (cdv ct : Value) (us : List Value), us.length = ps.length → bindArgs (PySem.W.fnOf x x (defArgs st) (defBody st) (defScope st) .none kV doc pm an cdv ct) ⟨us, []⟩ = pure (ps.zip us)) : FnI P wd K mg base x st k ps sp :=
  S.fni (fun f fd F => ⟨fun vs H Q E ⟨w, ds, Pd, g, r, q, f⟩ => (hsp _ _ _ q).elim, fun A outer s H args us vs Q E hr he hb hv ⟨w, ds, Pd, g, r, q, f⟩ => (hsp _ _ _ q).elim⟩) hb
/-- the law is walked -/
theorem law_sp {K : PySem.W.Frag} {sp : RAD} {H : Hp} {a : Addr} {ns : List Int} (hsp : ∀ μ P, (∀ μ', P (.bl true) μ') → sp [.fz (ns.map D.int)] μ P) (ho : Only H) (hS : SqL K H a (ns.map V.int)) :
    SpOf K sp [.ref a] H (fun v _ => v = .bl true) fun _ _ _ => False := by
  refine ⟨⟨[], [], []⟩, [.fz (ns.map D.int)], fun d _ => d = .bl true, ⟨rfl, List.nodup_nil, by simp, by simp, by simp⟩, ⟨_, _, rfl, ⟨a, ns.map V.int, rfl, ?_, ?_⟩, rfl⟩, hsp _ _ fun _ => rfl, fun d v w' H' _ _ r e => ?_⟩
  · rcases hS with (h | ⟨o, h⟩) | h
    · rcases ho a with n | ⟨o, xs, z⟩
      · rw [n] at h; cases h
      · rw [z] at h; cases h
    · exact .inl ⟨by simp [Live], o, h⟩
    · exact .inr h
  · clear hS hsp
    induction ns with
    | nil => rfl
    | cons n ns ih => exact ⟨_, _, rfl, rfl, ih⟩
  · subst e
    exact r
end Tr
set_option Elab.async false
set_option linter.all false
set_option maxRecDepth 100000
namespace Tr
open PySem PySem.Spec PyProof.Rows L2 RZ
/-! ### objects -/
def lookD (f : Str) : List Str → List D → Option D
  | n :: ns, d :: ds => if f = n then some d else lookD f ns ds
  | _, _ => none
def putN (f : Str) : List Str → List Str
  | [] => [f]
  | n :: ns => if n = f then f :: ns else n :: putN f ns
def putD (f : Str) (d : D) : List Str → List D → List D
  | n :: ns, x :: ds => if n = f then d :: ds else x :: putD f d ns ds
  | _, _ => [d]
/-- the fields of an object: its class, names, things -/
def insOf (d : D) (μ : Mu) : Option (Addr × List Str × List D) := match d with
  | .ins C ns ds => some (C, ns, ds)
  | .loc n => match μ[n]? with
    | some (some (.ins C ns ds)) => some (C, ns, ds)
    | _ => none
  | _ => none
section
variable {K : PySem.W.Frag} {w : Wo} {H : Hp}
theorem look_rp {f : Str} {x : D} : ∀ {fs : List (Str × V)} {ds : List D}, RpAll K w H ds (fs.map (·.2)) → lookD f (fs.map (·.1)) ds = some x → ∃ v, fs.lookup f = some v ∧ Rp K w H x v
  | [], ds, _, h => by simp [lookD] at h
  | (n, v) :: fs, [], _, h => by simp [lookD] at h
  | (n, v) :: fs, d :: ds, ⟨v', r, e, h1, h2⟩, h => by
    simp at e
    obtain ⟨rfl, rfl⟩ := e
    simp only [List.map_cons, lookD] at h
    by_cases q : f = n
    · rw [if_pos q] at h
      cases h
      exact ⟨v, by simp [List.lookup, q], h1⟩
    · rw [if_neg q] at h
      obtain ⟨u, e1, e2⟩ := look_rp h2 h
      refine ⟨u, ?_, e2⟩
      have : (f == n) = false := by simpa using q
      simp [List.lookup, this, e1]
theorem look_no {f : Str} : ∀ {fs : List (Str × V)} {ds : List D}, RpAll K w H ds (fs.map (·.2)) → lookD f (fs.map (·.1)) ds = none → fs.lookup f = none
  | [], ds, _, h => rfl
  | (n, v) :: fs, [], h, _ => by cases h
  | (n, v) :: fs, d :: ds, ⟨v', r, e, h1, h2⟩, h => by
    simp at e
    obtain ⟨rfl, rfl⟩ := e
    simp only [List.map_cons, lookD] at h
    by_cases q : f = n
    · rw [if_pos q] at h; cases h
    · rw [if_neg q] at h
      have : (f == n) = false := by simpa using q
      simp [List.lookup, this, look_no h2 h]
theorem putF_cons {f n : Str} {v y : V} {fs : List (Str × V)} : putF f v ((n, y) :: fs) = if n = f then (n, v) :: fs else (n, y) :: putF f v fs := rfl
theorem put_names {f : Str} {v : V} : ∀ {fs : List (Str × V)}, (putF f v fs).map (·.1) = putN f (fs.map (·.1))
  | [] => rfl
  | (n, y) :: fs => by
    rw [putF_cons]
    simp only [List.map_cons, putN]
    by_cases q : n = f
    · simp [q]
    · simp [q, put_names (fs := fs)]
theorem put_rp {f : Str} {x : D} {v : V} : ∀ {fs : List (Str × V)} {ds : List D}, RpAll K w H ds (fs.map (·.2)) → Rp K w H x v → RpAll K w H (putD f x (fs.map (·.1)) ds) ((putF f v fs).map (·.2))
  | [], _, h, r => ⟨v, [], rfl, r, rfl⟩
  | (n, y) :: fs, [], h, _ => by cases h
  | (n, y) :: fs, d :: ds, ⟨v', r, e, h1, h2⟩, hr => by
    simp at e
    obtain ⟨rfl, rfl⟩ := e
    rw [putF_cons]
    simp only [List.map_cons, putD]
    by_cases q : n = f
    · simp only [q, if_true, List.map_cons]
      exact ⟨v, _, rfl, hr, h2⟩
    · simp only [q, if_false, List.map_cons]
      exact ⟨_, _, rfl, h1, put_rp h2 hr⟩
theorem Gd.ins {d : D} {v : V} {C : Addr} {ns : List Str} {ds : List D} (g : Gd K w H) (r : Rp K w H d v) (h : insOf d w.mu = some (C, ns, ds)) :
    ∃ a dx fs, v = .ref a ∧ H a = some (.ins C dx fs) ∧ fs.map (·.1) = ns ∧ RpAll K w H ds (fs.map (·.2)) := by
  unfold insOf at h
  split at h
  · cases h
    obtain ⟨a, dx, fs, e, _, h1, h2, h3⟩ := r
    exact ⟨a, dx, fs, e, h1, h2, h3⟩
  · split at h
    · rename_i hm
      cases h
      obtain ⟨a, e, _, dx, fs, h1, h2, h3⟩ := g.at r hm
      exact ⟨a, dx, fs, e, h1, h2, h3⟩
    · cases h
  · cases h
end
/-! a field -/
def eFld (Cs : List Addr) (f : Str) (t : ET) : ET := fun ρ μ P => t ρ μ fun d μ1 => match insOf d μ1 with
  | some (C, ns, ds) => C ∈ Cs ∧ match lookD f ns ds with
    | some x => P x μ1
    | none => False
  | none => False
/-- a class whose objects' fields are plain -/
def FldC (K : PySem.W.Frag) (f : Str) (Cs : List Addr) : Prop := ∀ C, C ∈ Cs → Cls K C ∧ NoAttr K C f
section
variable {X : Cx} {e : Expr} {es : List Expr} {pos p : Pos} {t te to_ : ET} {sa : AT}
theorem te_fld {Cs : List Addr} {f : Str} (hc : FldC X.K f Cs) (h : PE X e (LE X.K t)) (hb : attributeBase e f X.env (eval e X.env) = eval e X.env := by rfl) : PE X (.Attribute e f pos) (LE X.K (eFld Cs f t)) :=
  te_of (pe_fld h hb) fun σ H Q ⟨w, ρ, P, g, er, t, fn⟩ => ⟨w, ρ, _, g, er, t, fun d v w1 H1 e1 g1 r1 t1 => by
    split at t1
    · rename_i C ns ds hi
      obtain ⟨a, dx, fs, e2, h1, h2, h3⟩ := g1.ins r1 hi
      obtain ⟨hC, t1⟩ := t1
      split at t1
      · rename_i x hx
        subst h2
        obtain ⟨u, h4, h5⟩ := look_rp h3 hx
        exact ⟨a, C, dx, fs, u, e2, h1, (hc C hC).1, (hc C hC).2, h4, (fn.mono e1).now g1 h5 t1⟩
      · exact t1.elim
    · exact t1.elim⟩
/-! o.f = e, o an object that may change -/
def sFldD (Cs : List Addr) (f : Str) (to te : ET) : ST := fun DD ρ μ => te ρ μ fun d μ1 => to ρ μ1 fun x μ2 => match x with
  | .loc n => match μ2[n]? with
    | some (some (.ins C ns ds)) => C ∈ Cs ∧ ns.length < 1000 ∧ DD.nx ρ (μ2.set n (some (.ins C (putN f ns) (putD f d ns ds))))
    | _ => False
  | _ => False
theorem ss_fld {Cs : List Addr} {f : Str} {o : Expr} (hc : FldC X.K f Cs) (ho : PE X o (LE X.K to_)) (he : PE X e (LE X.K te)) (hs : swapsWith e (some (.Attribute o f p)) pos.line X.env = pure false := by rfl) :
    PS X (.Assign [.Attribute o f p] e pos) (LS X.K (sFldD Cs f to_ te)) :=
  ss_of (ps_fld ho he hs) fun E σ H ⟨w, ρ, DD, g, er, t, fn⟩ => ⟨w, ρ, _, g, er, t, fun d v w1 H1 e1 g1 r1 t1 => ⟨w1, ρ, _, g1, er.mono e1.toKp, t1, fun dx vx w2 H2 e2 g2 r2 t2 => by
    split at t2
    · split at t2
      · rename_i n _ C ns ds hm
        obtain ⟨hC, hl, t2⟩ := t2
        obtain ⟨a, e3, ea, dx, fs, h1, h2, h3⟩ := g2.at r2 hm
        subst h2
        have hd := Rp.mono e2.toKp _ _ r1
        have kp := Kp.put (o := .ins C dx (putF f v fs)) (c' := .ins C (putN f (fs.map (·.1))) (putD f d (fs.map (·.1)) ds)) (H := H2) ea hm
        have ev := Ev.put (o := .ins C dx (putF f v fs)) (c' := .ins C (putN f (fs.map (·.1))) (putD f d (fs.map (·.1)) ds)) g2 ea hm
        refine ⟨a, C, dx, fs, e3, h1, (hc C hC).1, (hc C hC).2, by simpa using hl, ?_⟩
        exact fn.nx ρ σ (w2.put n _) _ ((e1.trans e2).trans ev) (g2.put ea hm ⟨dx, _, upd_same, put_names, RpAll.mono kp _ _ (put_rp h3 hd)⟩) (er.mono ((e1.trans e2).trans ev).toKp) t2
      · exact t2.elim
    · exact t2.elim⟩⟩
/-! C(..): an object that may change; or one that stands for good -/
structure MkI (P : Program) (wd : World) (K : PySem.W.Frag) (mg : Str → Option Value) (base : Heap) (x : Str) (C : Addr) (k : Nat) (ps : List Str) (sp : RAD) : Prop where
  ex : ∃ f fd, FnD P wd K mg base k f fd ps sp ∧ Mk K C f ∧ mg x = some (.ref C) ∧ Binds K fd ps []
def mkL (C : Addr) (sp : RAD) : RAD := fun ds μ P => sp (.loc μ.length :: ds) (μ ++ [some (.ins C [] [])]) fun d μ' => d = .non ∧ P (.loc μ.length) μ'
def mkF (C : Addr) (sp : RAD) : RAD := fun ds μ P => sp (.loc μ.length :: ds) (μ ++ [some (.ins C [] [])]) fun d μ' => d = .non ∧ ∃ ns xs, μ'[μ.length]? = some (some (.ins C ns xs)) ∧ P (.ins C ns xs) (μ'.set μ.length none)
section
variable {C : Addr} {sp : RAD} {w : Wo} {H : Hp} {ds : List D} {vs : List V} {x dx : Addr} {P : KD} {Q : VK}
theorem mk_start (g : Gd X.K w H) (hx : H x = none) (hdx : H dx = none) (hne : dx ≠ x) : Ev w H (w.add x (.ins C [] [])) (upd (upd H dx (.own x)) x (.ins C dx [])) ∧ Gd X.K (w.add x (.ins C [] [])) (upd (upd H dx (.own x)) x (.ins C dx [])) := by
  have hx' : (upd H dx (.own x)) x = none := by rw [upd_ne (Ne.symm hne)]; exact hx
  have g1 : Gd X.K w (upd H dx (.own x)) := g.new hdx
  exact ⟨(Ev.new g hdx).trans (Ev.add g1 hx'), g1.add hx' ⟨dx, [], upd_same, rfl, rfl⟩⟩
theorem mkL_sp (g : Gd X.K w H) (r : RpAll X.K w H ds vs) (t : mkL C sp ds w.mu P) (f : Fin X.K w H P Q) (hx : H x = none) (hdx : H dx = none) (hne : dx ≠ x) :
    SpOf X.K sp (.ref x :: (vs ++ [])) (upd (upd H dx (.own x)) x (.ins C dx [])) (fun v H2 => v = .non ∧ Q (.ref x) H2) E0 := by
  obtain ⟨ev, g1⟩ := mk_start (X := X) (C := C) g hx hdx hne
  have hat : (w.am ++ [x])[w.mu.length]? = some x := by rw [← g.len]; simp
  rw [List.append_nil]
  refine ⟨w.add x (.ins C [] []), .loc w.mu.length :: ds, _, g1, ⟨_, _, rfl, ⟨x, rfl, hat⟩, RpAll.mono ev.toKp _ _ r⟩, t, fun d v w2 H2 e2 g2 r2 t2 => ?_⟩
  obtain ⟨rfl, t2⟩ := t2
  exact ⟨r2, f (.loc w.mu.length) (.ref x) w2 H2 (ev.trans e2) g2 ⟨x, rfl, e2.toKp.amk hat⟩ t2⟩
theorem mkF_sp (g : Gd X.K w H) (r : RpAll X.K w H ds vs) (t : mkF C sp ds w.mu P) (f : Fin X.K w H P Q) (hx : H x = none) (hdx : H dx = none) (hne : dx ≠ x) :
    SpOf X.K sp (.ref x :: (vs ++ [])) (upd (upd H dx (.own x)) x (.ins C dx [])) (fun v H2 => v = .non ∧ Q (.ref x) H2) E0 := by
  obtain ⟨ev, g1⟩ := mk_start (X := X) (C := C) g hx hdx hne
  have hat : (w.am ++ [x])[w.mu.length]? = some x := by rw [← g.len]; simp
  rw [List.append_nil]
  refine ⟨w.add x (.ins C [] []), .loc w.mu.length :: ds, _, g1, ⟨_, _, rfl, ⟨x, rfl, hat⟩, RpAll.mono ev.toKp _ _ r⟩, t, fun d v w2 H2 e2 g2 r2 t2 => ?_⟩
  obtain ⟨rfl, ns, xs, hm, t2⟩ := t2
  have ha := e2.toKp.amk hat
  obtain ⟨dx', fs, h1, h2, h3⟩ := g2.cell _ _ _ ha hm
  exact ⟨r2, f (.ins C ns xs) (.ref x) (w2.fix w.mu.length) H2 ((ev.trans e2).trans Ev.fix) g2.fix ⟨x, dx', fs, rfl, fix_dead g2 ha, h1, h2, RpAll.mono Ev.fix.toKp _ _ h3⟩ t2⟩
end
theorem te_makeL {x : Str} {C : Addr} {k j : Nat} {ps : List Str} {sp : RAD} (M : MkI X.prog X.w X.K X.mg X.base x C k ps sp) (hr : Room j X.A) (hg : Gl X x) (ha : PA X (e :: es) (LA X.K sa)) (hk : k + 1 ≤ j := by decide)
    (hdb : (x == ("__debug__" : Str)) = false := by decide) (he : starEach (e :: es) X.env = (false, eval e X.env) :: starEach es X.env := by rfl) (hpl : (backTo pos (starEach es X.env)).any (·.1) = false := by rfl) :
    PE X (.Call (.Name x p) (e :: es) [] pos) (LE X.K (eCall (mkL C sp) sa)) := by
  obtain ⟨f, fd, F, m, hm, hb⟩ := M.ex
  exact te_of (pe_make m F (hr.mono hk) hg hm hb .nil pass0 ha hdb he hpl) fun σ H Q ⟨w, ρ, P, g, er, t, fn⟩ => ⟨w, ρ, _, g, er, t, fun ds vs w1 H1 e1 g1 r1 t1 x dx hx hdx hne =>
    mkL_sp g1 r1 t1 (fn.mono e1) hx hdx hne⟩
theorem te_makeF {x : Str} {C : Addr} {k j : Nat} {ps : List Str} {sp : RAD} (M : MkI X.prog X.w X.K X.mg X.base x C k ps sp) (hr : Room j X.A) (hg : Gl X x) (ha : PA X (e :: es) (LA X.K sa)) (hk : k + 1 ≤ j := by decide)
    (hdb : (x == ("__debug__" : Str)) = false := by decide) (he : starEach (e :: es) X.env = (false, eval e X.env) :: starEach es X.env := by rfl) (hpl : (backTo pos (starEach es X.env)).any (·.1) = false := by rfl) :
    PE X (.Call (.Name x p) (e :: es) [] pos) (LE X.K (eCall (mkF C sp) sa)) := by
  obtain ⟨f, fd, F, m, hm, hb⟩ := M.ex
  exact te_of (pe_make m F (hr.mono hk) hg hm hb .nil pass0 ha hdb he hpl) fun σ H Q ⟨w, ρ, P, g, er, t, fn⟩ => ⟨w, ρ, _, g, er, t, fun ds vs w1 H1 e1 g1 r1 t1 x dx hx hdx hne =>
    mkF_sp g1 r1 t1 (fn.mono e1) hx hdx hne⟩
/-! o.m(..) -/
structure MtI (P : Program) (wd : World) (K : PySem.W.Frag) (mg : Str → Option Value) (base : Heap) (C : Addr) (m : Str) (k : Nat) (ps : List Str) (sp : RAD) : Prop where
  ex : ∃ f fd, FnD P wd K mg base k f fd ps sp ∧ Meth K C m f ∧ Cls K C ∧ Binds K fd ps []
def eMeth (C : Addr) (m : Str) (sp : RAD) (t : ET) (sa : AT) : ET := fun ρ μ P => t ρ μ fun d μ1 => match insOf d μ1 with
  | some (C', ns, ds) => C' = C ∧ lookD m ns ds = none ∧ sa ρ μ1 fun xs μ2 => sp (d :: xs) μ2 P
  | none => False
theorem te_meth {C : Addr} {m : Str} {k j : Nat} {ps : List Str} {sp : RAD} {o : Expr} {apos : Pos} {pl : Sem Bool} (M : MtI X.prog X.w X.K X.mg X.base C m k ps sp) (hr : Room j X.A) (ho : PE X o (LE X.K t)) (ha : PA X (e :: es) (LA X.K sa)) (hk : k ≤ j := by decide)
    (he : starEach (e :: es) X.env = (false, eval e X.env) :: starEach es X.env := by rfl) (hpl : (backTo pos (starEach es X.env)).any (·.1) = false := by rfl)
    (hev : eval (.Call (.Attribute o m apos) (e :: es) [] pos) X.env = (do
      let ov ← eval o X.env
      standAt apos.atName
      let (f, first) ← holding [ov] (getMethod ov m pl)
      callWith pos f first (backTo pos (starEach (e :: es) X.env)) (backToKw pos (keywordEach [] X.env))) := by rfl) :
    PE X (.Call (.Attribute o m apos) (e :: es) [] pos) (LE X.K (eMeth C m sp t sa)) := by
  obtain ⟨f, fd, F, mt, cl, hb⟩ := M.ex
  exact te_of (pe_meth ho cl mt F (hr.mono hk) hb .nil pass0 ha he hpl hev) fun σ H Q ⟨w, ρ, P, g, er, t, fn⟩ => ⟨w, ρ, _, g, er, t, fun d v w1 H1 e1 g1 r1 t1 => by
    split at t1
    · rename_i C' ns ds hi
      obtain ⟨rfl, hno, t1⟩ := t1
      obtain ⟨a, dx, fs, e2, h1, h2, h3⟩ := g1.ins r1 hi
      subst h2
      refine ⟨a, dx, fs, e2, h1, look_no h3 hno, w1, ρ, _, g1, er.mono e1.toKp, t1, fun xs us w2 H2 e3 g2 r2 t2 => ?_⟩
      show SpOf X.K sp (v :: (us ++ [])) H2 Q E0
      rw [List.append_nil]
      exact ⟨w2, d :: xs, P, g2, ⟨_, _, rfl, Rp.mono e3.toKp _ _ r1, r2⟩, t2, fn.mono (e1.trans e3)⟩
    · exact t1.elim⟩
theorem te_meth0 {C : Addr} {m : Str} {k j : Nat} {ps : List Str} {sp : RAD} {o : Expr} {apos : Pos} {pl : Sem Bool} (M : MtI X.prog X.w X.K X.mg X.base C m k ps sp) (hr : Room j X.A) (ho : PE X o (LE X.K t)) (hk : k ≤ j := by decide)
    (hev : eval (.Call (.Attribute o m apos) [] [] pos) X.env = (do
      let ov ← eval o X.env
      standAt apos.atName
      let (f, first) ← holding [ov] (getMethod ov m pl)
      callWith pos f first (backTo pos (starEach [] X.env)) (backToKw pos (keywordEach [] X.env))) := by rfl) :
    PE X (.Call (.Attribute o m apos) [] [] pos) (LE X.K (eMeth C m sp t aNil)) := by
  obtain ⟨f, fd, F, mt, cl, hb⟩ := M.ex
  exact te_of (pe_meth0 ho cl mt F (hr.mono hk) hb .nil pass0 hev) fun σ H Q ⟨w, ρ, P, g, er, t, fn⟩ => ⟨w, ρ, _, g, er, t, fun d v w1 H1 e1 g1 r1 t1 => by
    split at t1
    · rename_i C' ns ds hi
      obtain ⟨rfl, hno, t1⟩ := t1
      obtain ⟨a, dx, fs, e2, h1, h2, h3⟩ := g1.ins r1 hi
      subst h2
      refine ⟨a, dx, fs, e2, h1, look_no h3 hno, ?_⟩
      exact ⟨w1, [d], P, g1, ⟨_, _, rfl, r1, rfl⟩, t1, fn.mono e1⟩
    · exact t1.elim⟩
end
end Tr
set_option Elab.async false
set_option linter.all false
set_option maxRecDepth 100000
namespace Tr
open PySem PySem.Spec PyProof.Rows L2 RZ
/-! ### plain data compared -/
mutual
def deq : D → D → Bool
  | .non, .non => true
  | .bl a, .bl b => a == b
  | .bl a, .int j => (if a then 1 else 0) == j
  | .int i, .bl b => i == (if b then 1 else 0)
  | .int i, .int j => i == j
  | .str x, .str y => x == y
  | .lst xs, .lst ys => deqA xs ys
  | .tup xs, .tup ys => deqA xs ys
  | _, _ => false
def deqA : List D → List D → Bool
  | [], [] => true
  | x :: xs, y :: ys => deq x y && deqA xs ys
  | _, _ => false
end
theorem toPy_lst {xs : List D} {p : PyData} (h : toPy (.lst xs) = some p) : ∃ ps, toPyA xs = some ps ∧ p = .list ps := by
  unfold toPy at h
  cases q : toPyA xs with
  | none => rw [q] at h; cases h
  | some ps => rw [q] at h; cases h; exact ⟨ps, rfl, rfl⟩
theorem toPy_tup {xs : List D} {p : PyData} (h : toPy (.tup xs) = some p) : ∃ ps, toPyA xs = some ps ∧ p = .tuple ps := by
  unfold toPy at h
  cases q : toPyA xs with
  | none => rw [q] at h; cases h
  | some ps => rw [q] at h; cases h; exact ⟨ps, rfl, rfl⟩
theorem toPyA_cons {x : D} {xs : List D} {ps : List PyData} (h : toPyA (x :: xs) = some ps) : ∃ p r, toPy x = some p ∧ toPyA xs = some r ∧ ps = p :: r := by
  unfold toPyA at h
  cases q1 : toPy x with
  | none => rw [q1] at h; cases h
  | some p =>
    cases q2 : toPyA xs with
    | none => rw [q1, q2] at h; cases h
    | some r => rw [q1, q2] at h; cases h; exact ⟨p, r, rfl, rfl, rfl⟩
mutual
theorem eqv_deq : ∀ (x y : D) (p q : PyData), toPy x = some p → toPy y = some q → PyData.eqv p q = deq x y
  | .lst xs, y, p, q, hp, hq => by
    obtain ⟨ps, h1, rfl⟩ := toPy_lst hp
    cases y with
    | lst ys =>
      obtain ⟨qs, h2, rfl⟩ := toPy_lst hq
      simp only [PyData.eqv, deq]
      exact eqvA_deq xs ys ps qs h1 h2
    | tup ys => obtain ⟨qs, h2, rfl⟩ := toPy_tup hq; simp only [PyData.eqv, deq]
    | _ => simp [toPy] at hq <;> subst hq <;> simp only [PyData.eqv, deq]
  | .tup xs, y, p, q, hp, hq => by
    obtain ⟨ps, h1, rfl⟩ := toPy_tup hp
    cases y with
    | tup ys =>
      obtain ⟨qs, h2, rfl⟩ := toPy_tup hq
      simp only [PyData.eqv, deq]
      exact eqvA_deq xs ys ps qs h1 h2
    | lst ys => obtain ⟨qs, h2, rfl⟩ := toPy_lst hq; simp only [PyData.eqv, deq]
    | _ => simp [toPy] at hq <;> subst hq <;> simp only [PyData.eqv, deq]
  | .non, y, p, q, hp, hq => by
    simp [toPy] at hp; subst hp
    cases y with
    | lst ys => obtain ⟨qs, h2, rfl⟩ := toPy_lst hq; simp only [PyData.eqv, deq]
    | tup ys => obtain ⟨qs, h2, rfl⟩ := toPy_tup hq; simp only [PyData.eqv, deq]
    | _ => simp [toPy] at hq <;> subst hq <;> simp only [PyData.eqv, deq]
  | .bl b, y, p, q, hp, hq => by
    simp [toPy] at hp; subst hp
    cases y with
    | lst ys => obtain ⟨qs, h2, rfl⟩ := toPy_lst hq; simp only [PyData.eqv, deq]
    | tup ys => obtain ⟨qs, h2, rfl⟩ := toPy_tup hq; simp only [PyData.eqv, deq]
    | _ => simp [toPy] at hq <;> subst hq <;> simp only [PyData.eqv, deq]
  | .int b, y, p, q, hp, hq => by
    simp [toPy] at hp; subst hp
    cases y with
    | lst ys => obtain ⟨qs, h2, rfl⟩ := toPy_lst hq; simp only [PyData.eqv, deq]
    | tup ys => obtain ⟨qs, h2, rfl⟩ := toPy_tup hq; simp only [PyData.eqv, deq]
    | _ => simp [toPy] at hq <;> subst hq <;> simp only [PyData.eqv, deq]
  | .str b, y, p, q, hp, hq => by
    simp [toPy] at hp; subst hp
    cases y with
    | lst ys => obtain ⟨qs, h2, rfl⟩ := toPy_lst hq; simp only [PyData.eqv, deq]
    | tup ys => obtain ⟨qs, h2, rfl⟩ := toPy_tup hq; simp only [PyData.eqv, deq]
    | _ => simp [toPy] at hq <;> subst hq <;> simp only [PyData.eqv, deq]
  | .fz _, _, _, _, hp, _ => by simp [toPy] at hp
  | .dT _ _, _, _, _, hp, _ => by simp [toPy] at hp
  | .dK _ _, _, _, _, hp, _ => by simp [toPy] at hp
  | .ins _ _ _, _, _, _, hp, _ => by simp [toPy] at hp
  | .exc _ _ _, _, _, _, hp, _ => by simp [toPy] at hp
  | .loc _, _, _, _, hp, _ => by simp [toPy] at hp
  | .ref _, _, _, _, hp, _ => by simp [toPy] at hp
  | .ty _, _, _, _, hp, _ => by simp [toPy] at hp
theorem eqvA_deq : ∀ (xs ys : List D) (ps qs : List PyData), toPyA xs = some ps → toPyA ys = some qs → PyData.eqvAll ps qs = deqA xs ys
  | [], [], ps, qs, h1, h2 => by simp [toPyA] at h1 h2; subst h1; subst h2; simp only [PyData.eqvAll, deqA]
  | [], y :: ys, ps, qs, h1, h2 => by
    simp [toPyA] at h1; subst h1
    obtain ⟨q, r, _, _, rfl⟩ := toPyA_cons h2
    simp only [PyData.eqvAll, deqA]
  | x :: xs, [], ps, qs, h1, h2 => by
    simp [toPyA] at h2; subst h2
    obtain ⟨q, r, _, _, rfl⟩ := toPyA_cons h1
    simp only [PyData.eqvAll, deqA]
  | x :: xs, y :: ys, ps, qs, h1, h2 => by
    obtain ⟨p, r, a1, a2, rfl⟩ := toPyA_cons h1
    obtain ⟨q, t, b1, b2, rfl⟩ := toPyA_cons h2
    simp only [PyData.eqvAll, deqA]
    rw [eqv_deq x y p q a1 b1, eqvA_deq xs ys r t a2 b2]
end
mutual
theorem ok_py : ∀ (n : Nat) (d : D), ok n d = true → ∃ p, toPy d = some p ∧ p.canLay0 = true ∧ p.depth ≤ n
  | _, .non, _ => ⟨_, rfl, by simp [PyData.canLay0], by simp [PyData.depth]⟩
  | _, .bl b, _ => ⟨_, rfl, by simp [PyData.canLay0], by simp [PyData.depth]⟩
  | _, .int b, _ => ⟨_, rfl, by simp [PyData.canLay0], by simp [PyData.depth]⟩
  | n, .str b, h => by
    have h : PyData.strOk b = true ∧ b.length ≤ 1000 := by cases n <;> simpa [ok] using h
    exact ⟨_, rfl, by simp [PyData.canLay0, h.1], by simp [PyData.depth]⟩
  | 0, .lst _, h => by simp [ok] at h
  | 0, .tup _, h => by simp [ok] at h
  | n + 1, .lst xs, h => by
    simp only [ok, Bool.and_eq_true] at h
    obtain ⟨ps, h1, h2, h3⟩ := okA_py n xs h.1
    exact ⟨.list ps, by simp [toPy, h1], by simp [PyData.canLay0, h2], by simp [PyData.depth]; omega⟩
  | n + 1, .tup xs, h => by
    simp only [ok, Bool.and_eq_true] at h
    obtain ⟨ps, h1, h2, h3⟩ := okA_py n xs h.1
    exact ⟨.tuple ps, by simp [toPy, h1], by simp [PyData.canLay0, h2], by simp [PyData.depth]; omega⟩
  | n, .fz _, h => by cases n <;> cases h
  | n, .dT _ _, h => by cases n <;> cases h
  | n, .dK _ _, h => by cases n <;> cases h
  | n, .ins _ _ _, h => by cases n <;> cases h
  | n, .exc _ _ _, h => by cases n <;> cases h
  | n, .loc _, h => by cases n <;> cases h
  | n, .ref _, h => by cases n <;> cases h
  | n, .ty _, h => by cases n <;> cases h
theorem okA_py : ∀ (n : Nat) (ds : List D), okA n ds = true → ∃ ps, toPyA ds = some ps ∧ PyData.canLayAll0 ps = true ∧ PyData.depthAll ps ≤ n
  | n, [], _ => ⟨[], rfl, by simp [PyData.canLayAll0], by simp [PyData.depthAll]⟩
  | n, d :: ds, h => by
    simp only [okA, Bool.and_eq_true] at h
    obtain ⟨p, h1, h2, h3⟩ := ok_py n d h.1
    obtain ⟨ps, h4, h5, h6⟩ := okA_py n ds h.2
    exact ⟨p :: ps, by simp [toPyA, h1, h4], by simp [PyData.canLayAll0, h2, h5], by simp [PyData.depthAll]; omega⟩
end
theorem d_eq {n : Nat} {x y : D} {μ : Mu} {P : KD} (hx : ok n x = true) (hy : ok n y = true) (hn : n ≤ 64) : dEq x y μ P = P (.bl (deq x y)) μ := by
  obtain ⟨p, h1, h2, h3⟩ := ok_py n x hx
  obtain ⟨q, h4, h5, h6⟩ := ok_py n y hy
  have s1 : SeqAt.shaped p = true := by simp [SeqAt.shaped, h2]; omega
  have s2 : SeqAt.shaped q = true := by simp [SeqAt.shaped, h5]; omega
  simp only [dEq, h1, h4, s1, s2, and_self, true_and, eqv_deq x y p q h1 h4]
theorem d_ne {n : Nat} {x y : D} {μ : Mu} {P : KD} (hx : ok n x = true) (hy : ok n y = true) (hn : n ≤ 64) : dNe x y μ P = P (.bl (!deq x y)) μ := by
  obtain ⟨p, h1, h2, h3⟩ := ok_py n x hx
  obtain ⟨q, h4, h5, h6⟩ := ok_py n y hy
  have s1 : SeqAt.shaped p = true := by simp [SeqAt.shaped, h2]; omega
  have s2 : SeqAt.shaped q = true := by simp [SeqAt.shaped, h5]; omega
  simp only [dNe, h1, h4, s1, s2, and_self, true_and, eqv_deq x y p q h1 h4]
mutual
theorem deq_self : ∀ (n : Nat) (d : D), ok n d = true → deq d d = true
  | _, .non, _ => by simp [deq]
  | _, .bl b, _ => by simp [deq]
  | _, .int b, _ => by simp [deq]
  | n, .str b, h => by simp [deq]
  | 0, .lst _, h => by simp [ok] at h
  | 0, .tup _, h => by simp [ok] at h
  | n + 1, .lst xs, h => by
    simp only [ok, Bool.and_eq_true] at h
    simp only [deq]
    exact deqA_self n xs h.1
  | n + 1, .tup xs, h => by
    simp only [ok, Bool.and_eq_true] at h
    simp only [deq]
    exact deqA_self n xs h.1
  | n, .fz _, h => by cases n <;> cases h
  | n, .dT _ _, h => by cases n <;> cases h
  | n, .dK _ _, h => by cases n <;> cases h
  | n, .ins _ _ _, h => by cases n <;> cases h
  | n, .exc _ _ _, h => by cases n <;> cases h
  | n, .loc _, h => by cases n <;> cases h
  | n, .ref _, h => by cases n <;> cases h
  | n, .ty _, h => by cases n <;> cases h
theorem deqA_self : ∀ (n : Nat) (ds : List D), okA n ds = true → deqA ds ds = true
  | n, [], _ => by simp [deqA]
  | n, d :: ds, h => by
    simp only [okA, Bool.and_eq_true] at h
    simp only [deqA, deq_self n d h.1, deqA_self n ds h.2, Bool.and_self]
end
@[simp] theorem deq_int {i j : Int} : deq (.int i) (.int j) = (i == j) := by simp only [deq]
@[simp] theorem deq_str {i j : Str} : deq (.str i) (.str j) = (i == j) := by simp only [deq]
@[simp] theorem deq_bl {i j : Bool} : deq (.bl i) (.bl j) = (i == j) := by simp only [deq]
@[simp] theorem deq_non : deq .non .non = true := by simp only [deq]
@[simp] theorem deq_lst {i j : List D} : deq (.lst i) (.lst j) = deqA i j := by simp only [deq]
@[simp] theorem deq_tup {i j : List D} : deq (.tup i) (.tup j) = deqA i j := by simp only [deq]
@[simp] theorem deqA_nil : deqA [] [] = true := by simp only [deqA]
@[simp] theorem deqA_cons {x y : D} {xs ys : List D} : deqA (x :: xs) (y :: ys) = (deq x y && deqA xs ys) := by simp only [deqA]
end Tr
set_option Elab.async false
set_option linter.all false
set_option maxRecDepth 100000
set_option maxHeartbeats 2000000
namespace Tr
open PySem PySem.Spec PyProof.Rows L2 RZ
/-! ### except (C, D) as n -/
theorem fly_keeps {B h g : Heap} {l : List PySem.Env} {a : Addr} {Z : Obj → Prop} (k : ∀ b o, h.get? b = some o → g.get? b = some o) (x : HandSPX.FlyingZ B l a Z h) : HandSPX.FlyingZ B l a Z g := by
  obtain ⟨y1, y2, y3, oe, vs, T, oT, ts, z1, z2, z3, z4, z5, z6, z7, z8, z9⟩ := x
  exact ⟨fun b o e => k b o (y1 b o e), y2, y3.of_keeps fun b o e _ => ⟨o, k b o e, rfl⟩, oe, vs, T, oT, ts, k _ _ z1, z2, z3, z4, z5, z6, k _ _ z7, z8, z9⟩
/-- the clause's word of classes, looked up in the suite, takes an exception of the class cls as T says -/
def Tests (X : Cx) (t : Expr) (T : Value → Option Bool) : Prop := ∀ (a : Addr) (pn pins : List (Addr × Obj)) (σ : L2.St) (H : Hp) (s : Shared) (cls : Value) (b : Bool), Inv (X.suite a pn) pins σ H s →
  PySem.W.Looks (model X.prog X.w) s.heap (typeOf (.ref a)) cls → T cls = some b → ∀ (Q : Bool → Shared → Prop) (E1 E2 : Value → Shared → Prop),
    (∀ g, (∀ c o, s.heap.get? c = some o → g.get? c = some o) → Q b { s with heap := g }) →
    wpAny (model X.prog X.w) (X.A.mark (some (.ref a))) (eval t X.env) (fun c s1 => wpAny (model X.prog X.w) (X.A.mark (some (.ref a))) (excMatches (.ref a) c) Q E1 s1) E2 s
theorem name_is {X : Cx} {a : Addr} {pn pins : List (Addr × Obj)} {σ : L2.St} {H : Hp} {s : Shared} {x : Str} {c : Value} {p : Pos} {Q : Value → Shared → Prop} {E : Value → Shared → Prop} (hc : Names X x c) (I : Inv (X.suite a pn) pins σ H s) (h : Q c s) :
    wpAny (model X.prog X.w) (X.A.mark (some (.ref a))) (eval (.Name x p) X.env) Q E s := by
  rcases hc with ⟨g, nd, m | ⟨m, v, nn⟩⟩
  · exact ld_glob (X := X.suite a pn) I g m h nd
  · exact ld_blt (X := X.suite a pn) I g m v h nn nd
theorem tests_two {X : Cx} {x y : Str} {c d : Value} {p q r : Pos} {k : Nat} (hc : Names X x c) (hd : Names X y d)
    (h1 : starEach [.Name x p, .Name y q] X.env = (false, eval (.Name x p) X.env) :: starEach [.Name y q] X.env := by rfl) (h2 : starEach [.Name y q] X.env = (false, eval (.Name y q) X.env) :: starEach [] X.env := by rfl) :
    Tests X (.Tuple [.Name x p, .Name y q] k r) (fun cls => PySem.W.exmAny X.K cls [c, d]) := by
  intro a pn pins σ H s cls b I LT hT Q E1 E2 h
  refine wpAny_Tuple_spliced ?_
  rw [h1, h2]
  show wpAny _ _ (spliced ((false, eval (.Name x p) X.env) :: (false, eval (.Name y q) X.env) :: backTo r (starEach [] X.env))) _ _ s
  refine Calls.spliced_cons (name_is hc I (Calls.spliced_cons (name_is hd I ?_)))
  show wpAny _ _ (spliced []) _ _ s
  refine Calls.spliced_nil ⟨by simp [sizeLine_eq], ?_⟩
  have k : ∀ e o, s.heap.get? e = some o → (s.heap.push { cls := .type "tuple", data := .seq [c, d].toArray }).get? e = some o := fun e o q => Heap.get?_push_of_some _ q
  exact (PySem.W.exm_tup2 (I.kIn.keeps k) (LT.keeps k) (Heap.get?_push_size _ rfl) hT).here (h _ k)
/-- what the body's exceptions must meet -/
def wAsT (T : Value → Option Bool) (i : Nat) (ts : Addr → Value → Option Addr → TS) (Wout : WX) (D : Ends) : WX := fun cls d σ H => ∃ b, T cls = some b ∧
  (b = true → ∀ a : Addr, H a = none → ts a cls d { nx := fun σ' H' => D.nx (σ'.set i none) H', rt := D.rt, bk := fun σ' H' => D.bk (σ'.set i none) H', ct := fun σ' H' => D.ct (σ'.set i none) H' } (σ.set i (some (.ref a))) H) ∧
  (b = false → Wout cls d σ H)
section
variable {X : Cx} {t : Expr} {T : Value → Option Bool} {n : Str} {i : Nat} {body suite : List Stmt} {b0 : Stmt} {pos pos' : Pos} {tb : WX → TS} {ts : Addr → Value → Option Addr → TS} {Wout : WX}
/-- the suite has ended: the name goes -/
theorem suite_end {a : Addr} {q : Addr × Obj} {pins : List (Addr × Obj)} {D : Ends} {f : Flow} {s : Shared} (ok : X.Ok) (hN : X.N.Nodup) (hi : X.N[i]? = some n) (hl : X.env.kindOf n = some .local)
    (h : SP (X.suite a (q :: (X.pn ++ pins))) [] { nx := fun σ' H' => D.nx (σ'.set i none) H', rt := D.rt, bk := fun σ' H' => D.bk (σ'.set i none) H', ct := fun σ' H' => D.ct (σ'.set i none) H' } f s) :
    wpAny (model X.prog X.w) X.A (do bindName X.env n .none; unbindBehindTheSuite X.env n pos') (fun _ s7 => SP X pins D f s7) X.xe s := by
  rcases f with u | _ | _ | _
  all_goals first
    | (obtain ⟨v, σ6, H6, S6, r6, q6⟩ := h
       exact gone_ok (S6.unsuite ok) hN hi hl fun s7 J7 => ⟨v, _, _, J7, r6, q6⟩)
    | (obtain ⟨σ6, H6, S6, q6⟩ := h
       exact gone_ok (S6.unsuite ok) hN hi hl fun s7 J7 => ⟨_, _, J7, q6⟩)
theorem ps_try_asT (hs : X.stack = X.env :: X.outer) (hf : X.env.frame = some X.env.locals) (hN : X.N.Nodup) (hi : X.N[i]? = some n) (hl : X.env.kindOf n = some .local) (ht : Tests X t T) (tk : L2N.Takes X Wout)
    (hb : ∀ (W : WX) (pn : List (Addr × Obj)) (xe : Value → Shared → Prop), L2N.Takes (X.tr pn xe) W → PassesOwn (model X.prog X.w) X.A X.env xe → PSs (X.tr pn xe) body (tb W))
    (hu : ∀ (a : Addr) (oe : Obj) (cls : Value) (d : Option Addr) (pn : List (Addr × Obj)), L2N.Zn cls d oe → (∃ vs, oe.data = .fields vs) → PSs (X.suite a ((a, oe) :: pn)) (b0 :: suite) (ts a cls d)) :
    PS X (.Try body [.ExceptHandler (some t) (some n) (b0 :: suite) pos'] [] [] pos) (fun D σ H => tb (wAsT T i ts Wout D) D σ H) := by
  constructor
  intro pins s σ H D I h
  have ok := I.ok
  have fr : X.A.frames = some (X.env :: X.outer) := by rw [ok.frames, hs]
  apply wpAny_Try_except
  let catch_ : Value → Shared → Prop := fun e s1 => wpAny (model X.prog X.w) X.A (noteFrame e X.env) (fun _ s2 => wpAny (model X.prog X.w) X.A (setFlight e none)
    (fun _ s3 => wpAny (model X.prog X.w) X.A (handleBy e X.env [.ExceptHandler (some t) (some n) (b0 :: suite) pos']) (SP X pins D) X.xe s3) X.xe s2) X.xe s1
  have hbody := hb (wAsT T i ts Wout D) (X.pn ++ pins) catch_ ?take PassesOwn.looking
  case take =>
    rintro u s1 ⟨a, B, sI, pins1, σ1, H1, cls, d, rfl, J0, nb, up, sky, na, os, ag, b, hT, hyes, hno⟩
    have J : Inv X pins σ1 H1 sI := J0.ofTry ok
    rw [show (X.tr (X.pn ++ pins) catch_).stack = X.env :: X.outer from hs] at sky
    refine L2N.Sky.land L2N.Zn.steady fr hf sky fun h3 fl3 up3 => ?_
    have away : ∀ {g : Heap} {o : Obj} {vs : Array Value}, g.FunFrames B (X.env :: X.outer) → g.get? a = some o → o.data = .fields vs → a ∉ frs (X.env :: X.outer) := by
      intro g o vs ff e dd hm
      obtain ⟨_, o1, e1, nf⟩ := ff.mem hm
      rw [e] at e1
      exact nf _ ((Option.some.inj e1) ▸ dd)
    have fit : ∀ {g : Heap}, HandSPX.FlyingZ B (X.env :: X.outer) a (L2N.Zn cls d) g → sI.heap.UpToSlots g → ∃ oe vs, g.get? a = some oe ∧ L2N.Zn cls d oe ∧ oe.data = .fields vs ∧ Inv X pins σ1 H1 { s1 with heap := g } ∧ Inv (X.suite a ((a, oe) :: (X.pn ++ pins))) [] σ1 H1 { s1 with heap := g } := by
      intro g fl u
      obtain ⟨oe, vs, e1, e2, e3⟩ := fl.there
      have out := away fl.2.2.1 e1 e3
      have J1 : Inv X pins σ1 H1 { s1 with heap := g } := J.landed nb fl.1 u os ag
      refine ⟨oe, vs, e1, e2, e3, J1, J1.suite e1 e3 na (fun z => out ?_) fun z => out ?_⟩
      · exact List.mem_filterMap.mpr ⟨X.env, List.mem_cons_self, by rw [hf, z]⟩
      · obtain ⟨v, hv, hq⟩ := List.mem_filterMap.mp z
        exact List.mem_filterMap.mpr ⟨v, List.mem_cons_of_mem _ hv, hq⟩
    obtain ⟨oe3, vs3, e3, z3, d3, J3, S3⟩ := fit fl3 (up.trans up3)
    refine wpAny_handleBy_cons (codeAny_handlers_test ?_) (by intro q; cases q)
    have LT : PySem.W.Looks (model X.prog X.w) h3 (typeOf (.ref a)) cls := fun A Q E z k q => wpAny_typeOf_ref (k _ _ e3) (by rw [z3.1]; exact q)
    refine ht a _ _ σ1 H1 _ cls b S3 LT hT _ _ _ fun g kg => ?_
    have flg := fly_keeps kg fl3
    have upg : sI.heap.UpToSlots g := (up.trans up3).trans fun c o e _ => ⟨o.slots, kg c o e⟩
    cases b
    · show wpAny _ X.A (handleBy (.ref a) X.env []) _ _ _
      refine wpAny_handleBy_nil ?_
      obtain ⟨_, _, _, oe, vs, T0, _, _, q1, _, q3, q4, _⟩ := id flg
      unfold PySem.passOn
      refine wpAny_bind (wpAny_field q1 q3 q4 ?_)
      rw [if_neg (show ¬ ((Value.ref T0 == Value.none) = true) by simp)]
      have last : wpAny (model X.prog X.w) X.A (setFlight (.ref a) X.env.frame) (fun _ s4 => wpAny (model X.prog X.w) X.A (throw (.ref a) : Sem Flow) (SP X pins D) X.xe s4) X.xe { s1 with heap := g } := by
        rw [hf]
        refine HandSPX.setFlight_upZ flg fun h4 hh up4 => wpAny_throw (tk _ _ ?_)
        exact ⟨a, B, sI, pins, σ1, H1, cls, d, rfl, J, nb, upg.trans up4, .inr (.inr (by rw [hs]; exact hh)), na, os, ag, hno rfl⟩
      first
        | exact wpAny_bind (wpAny_pure (wpAny_bind last))
        | exact wpAny_bind last
    · refine codeAny_handlers_suite_as (HandSPX.lands_againZ flg fun h4 fl4 up4 => ?_)
      obtain ⟨oe4, vs4, _, z4, d4, J4, S4⟩ := fit fl4 (upg.trans up4)
      refine store_ok (X := X.suite a ((a, oe4) :: (X.pn ++ pins))) (v := .ref a) S4 hN hi (.inl hl) rfl (fun s5 S5 => ?_) (.inr hl)
      have ran := (hu a oe4 cls d (X.pn ++ pins) z4 ⟨_, d4⟩).run [] s5 _ H1 _ S5 (hyes rfl a na)
      exact wpAny_mono ran (fun f s6 q => suite_end ok hN hi hl q) fun _ _ z => z.elim
  refine wpAny_mono (hbody.run [] s σ H D (I.toTry _) h) (fun f s1 q => ?_) fun _ _ z => z
  rcases f with u | _ | _ | _
  all_goals first
    | (obtain ⟨v, σ6, H6, S6, r6, q6⟩ := q
       exact ⟨v, _, _, S6.ofTry ok, r6, q6⟩)
    | (obtain ⟨σ6, H6, S6, q6⟩ := q
       first
       | exact ⟨_, _, S6.ofTry ok, q6⟩
       | exact wpAny_execs_nil ⟨_, _, S6.ofTry ok, q6⟩)
end
end Tr
set_option Elab.async false
set_option linter.all false
set_option maxRecDepth 100000
set_option maxHeartbeats 2000000
namespace Tr
open PySem PySem.Spec PyProof.Rows L2 RZ
/-! ### exceptions of a class of one's own with an __init__, over any base -/
structure ExC (K : PySem.W.Frag) (C : Addr) (B newId initId : String) (bmB : List Value) : Prop where
  F : ExcBaseFacts B newId initId bmB
  SF : StoreFacts B bmB "object.__setattr__" "object"
  ini : PySem.W.excInitIn K C bmB newId = true
  ov : PySem.W.excOver K C bmB = true
  hd : PySem.W.hasDictIn K C = true
  sa : PySem.W.findIn K (.ref C) "__setattr__" = some (some (.builtin "object.__setattr__"))
  exC : PySem.W.subIn K (.ref C) (.type "BaseException") = some true
  tyC : PySem.W.typeIn K (.ref C) = some (.type "type")
  kC : PySem.W.keepIn K (.ref C) = true
section
variable {X : Cx} {pins : List (Addr × Obj)} {σ : L2.St} {H : Hp} {s : Shared} {a C dx : Addr} {f : Str} {y : V} {u : Value} {fs : List (Str × V)} {B newId initId : String} {bmB : List Value}
/-- the run of C(..), C's __init__ keeping sp -/
theorem run_exc {CX : CXT} {fI : Addr} {k : Nat} {fd : FuncData} {ps : List Str} {sp : Sp} {us : List Value} {vs : List V} {Q : VK} (T : ExC X.K C B newId initId bmB) (iC : PySem.W.findIn X.K (.ref C) "__init__" = some (some (.ref fI)))
    (tI : PySem.W.typeIn X.K (.ref fI) = some (.type "function")) (G : FnOk X.prog X.w X.K X.mg X.base CX k fI fd ps sp) (hr : Room (k + 1) X.A) (hb : Binds X.K fd ps []) (hx : Passes CX X E0) (I : Inv X pins σ H s) (r : Vals vs us) (hz : vs.length ≤ 1000)
    (h : ∀ a, H a = none → sp (.ref a :: vs) (upd H a (exo a C none)) (fun v H2 => v = .non ∧ Q (.ref a) H2) E0) : wpAny (model X.prog X.w) X.A (call (.ref C) us) (EP X pins σ Q) X.xe s := by
  obtain ⟨nm, N, qn, bs, bm, hdct, sn, sub, ab, col, dd, k0, k1, k2, k3, k5, hC, hT⟩ := PySem.W.excInit_of I.kIn T.ini
  rcases s with ⟨hp, g, dr, tk, os⟩
  let p : Addr := hp.objs.size + 1
  let hp2 : Heap := (hp.push (PySem.W.kdv_tup us)).push (PySem.HandSPX.excO C hp.objs.size)
  have up : ∀ b o, hp.get? b = some o → hp2.get? b = some o := fun b o e => Heap.get?_push_of_some _ (Heap.get?_push_of_some _ e)
  have new : hp.objs.size ≤ p := Nat.le_succ _
  have at_ : hp2.get? p = some (PySem.HandSPX.excO C hp.objs.size) := by
    show ((hp.push (PySem.W.kdv_tup us)).push (PySem.HandSPX.excO C hp.objs.size)).get? (hp.objs.size + 1) = _
    heap_get
  have none_ : H p = none := I.hok.fresh new
  have J : Inv X pins σ (upd H p (exo p C none)) ⟨hp2, g, dr, tk, os⟩ := I.laid (t' := tk) (a := p) (o := exo p C none) (h' := hp2) up new (exo_ok at_)
  have now := h p none_
  have vals : Vals (V.ref p :: vs) (Value.ref p :: us) := .cons rfl r
  have len : (Value.ref p :: us ++ []).length = ps.length := by rw [List.append_nil, ← vals.length, G.len _ _ _ _ now]
  have few : us.length ≤ sizeLine := by rw [← Paired.length r, sizeLine_eq]; omega
  have bind := hb _ (Value.ref p :: us) J.kIn len
  rw [List.append_nil] at bind
  have ran := G.run _ X.stack _ _ ⟨Value.ref p :: us, []⟩ (Value.ref p :: us) _ _ E0 (hr.make C us []) (J.env0.make C us []) bind vals now
  refine wpAny_call (PySem.HandSPX.call_own T.F hT hC (PySem.W.looks_findIn I.kIn iC) (fun self => PySem.W.bind_fn I.kIn self tI) few (codeAny_mono ran fun res s' q => ?_))
  cases res with
  | error er => exact hx pins σ _ _ er s' J q
  | ok fl =>
    cases fl with
    | ret u =>
      obtain ⟨v, H2, J2, rv, ev, q2⟩ := J.after q
      subst ev
      exact ⟨rv, .ref p, H2, J2, rfl, q2⟩
    | _ => exact q.elim
def tExn (C : Addr) (sp : Sp) (ta : TA) : TE := fun σ H Q => ta σ H fun vs H1 => vs.length ≤ 1000 ∧ ∀ a, H1 a = none → sp (.ref a :: vs) (upd H1 a (exo a C none)) (fun v H2 => v = .non ∧ Q (.ref a) H2) E0
theorem pe_exn {CX : CXT} {x : Str} {fI : Addr} {k : Nat} {fd : FuncData} {ps : List Str} {sp : Sp} {e : Expr} {es : List Expr} {ta : TA} {p pos : Pos} (T : ExC X.K C B newId initId bmB) (iC : PySem.W.findIn X.K (.ref C) "__init__" = some (some (.ref fI)))
    (tI : PySem.W.typeIn X.K (.ref fI) = some (.type "function")) (G : FnOk X.prog X.w X.K X.mg X.base CX k fI fd ps sp) (hr : Room (k + 1) X.A) (hb : Binds X.K fd ps []) (hx : Passes CX X E0) (hg : Gl X x) (hm : X.mg x = some (.ref C)) (ha : PA X (e :: es) ta)
    (hdb : (x == ("__debug__" : Str)) = false := by decide) (he : starEach (e :: es) X.env = (false, eval e X.env) :: starEach es X.env := by rfl) (hpl : (backTo pos (starEach es X.env)).any (·.1) = false := by rfl) :
    PE X (.Call (.Name x p) (e :: es) [] pos) (tExn C sp ta) :=
  ⟨fun pins s σ H Q I h => wpAny_Call_Name_kw (ld_glob I hg hm (PySem.W.callWith_K (h₀ := X.base) I.ok.mod.kin T.kC
    (thn (ha.run pos pins s σ H _ I h) fun us s1 ⟨vs, H1, I1, r1, hz, q1⟩ => ⟨I1.kIn, run_exc T iC tI G hr hb hx I1 r1 hz q1⟩) he hpl) hdb)⟩
/-! self.f = y there -/
theorem xst_new {Q : Unit → Shared → Prop} {E : Value → Shared → Prop} {A : Around} (T : ExC X.K C B newId initId bmB) (I : Inv X pins σ H s) (e : H a = some (exo a C none)) (hno : PySem.W.findIn X.K (.ref C) f = some none) (ry : RelV y u)
    (h : ∀ d s', H d = none → d ≠ a → Inv X pins σ (upd (upd H d (exd d [(f, y)])) a (exo a C (some d))) s' → Q () s') : wpAny (model X.prog X.w) A (setAttr (.ref a) f u) Q E s := by
  obtain ⟨t1, ho⟩ := exo_at I.hok e
  have tk : PySem.W.takerIn X.K C f = some none := by unfold PySem.W.takerIn; rw [hno]; rfl
  obtain ⟨cd, hc, hd⟩ := PySem.W.any_some T.hd
  rcases s with ⟨hp, g, dr, t, os⟩
  refine PySem.W.set_plain (od := none) I.kIn ⟨ho, rfl, rfl, trivial⟩ T.sa ?_
  refine PySem.W.osa_openX (od := none) T.SF I.kIn ⟨ho, rfl, rfl, trivial⟩ T.ov tk fun b => ?_
  refine wpAny_bind (wpAny_pure (wpAny_bind (PySem.W.instanceDict_exc (t := t1) (c2 := .none) ho (PySem.W.looks_clsIn I.kIn hc) hd ?_)))
  let D : Addr := hp.objs.size
  let h1 : Heap := hp.push (PySem.W.dictOf [] 0)
  let h2 : Heap := h1.update a fun o => { o with dict := some D }
  have nD : H D = none := I.hok.fresh (Nat.le_refl _)
  have neq : D ≠ a := Nat.ne_of_gt (Heap.lt_size ho)
  have k1 : ∀ c o, hp.get? c = some o → h1.get? c = some o := fun c o q => Heap.get?_push_of_some _ q
  have e1 : h1.get? D = some (PySem.W.dictOf [] 0) := Heap.get?_push_at rfl rfl
  have e2 : h2.get? D = some (PySem.W.dictOf [] 0) := (Heap.get?_update_ne _ _ _ _ neq).trans e1
  have empty : ∀ {g : Heap}, g.get? D = some (PySem.W.dictOf [] 0) → g.Ns D fun _ => none := fun {g} q => ⟨_, #[], _, q, rfl, fun e he => absurd he (by simp), fun _ => rfl⟩
  have J1 : Inv X pins σ (upd H D (exd D [])) ⟨h1, g, dr, t, os⟩ := I.laid (t' := t) (a := D) (o := exd D []) (h' := h1) k1 (Nat.le_refl _) (exd_ok (Heap.Ns1.of_empty (empty e1)) fun _ => True.intro)
  have at2 : h2.get? a = some { cls := .ref C, dict := some D, data := .fields #[.ref t1, .none, .none, .none, .bool false, .none] } := Heap.get?_update_self _ (k1 _ _ ho) rfl
  have J2 : Inv X pins σ (upd (upd H D (exd D [])) a (exo a C (some D))) ⟨h2, g, dr, t, os⟩ :=
    J1.write (t' := t) (x := a) (e := a) (o := exo a C (some D)) (h' := h2) (by rw [upd_ne neq.symm, e]; exact True.intro) (.inl rfl) (fun c o hne q => (Heap.get?_update_ne _ _ _ _ hne).trans q) ⟨_, at2⟩ (exo_ok at2)
  show wpAny _ _ (Builtin.ObjectAttr.storeInDict D (.str f t) f u) _ _ (⟨h2, g, dr, t + 1, os⟩ : Shared)
  refine PySem.HandSPX.store_in_new (empty e2) fun h3 tk' hn hs => ?_
  have there : ∃ o, h3.get? D = some o := let ⟨o, _, _, q, _⟩ := hn; ⟨o, q⟩
  have J3 := J2.write (t' := tk') (x := D) (e := D) (o := exd D [(f, y)]) (h' := h3) (by rw [upd_ne neq, upd_same]; exact True.intro) (.inl rfl) (fun c o hne q => (hs.2 c hne).trans q) there (exd_ok hn (relO_put (fs := []) ry fun _ => True.intro))
  have same : upd (upd (upd H D (exd D [])) a (exo a C (some D))) D (exd D [(f, y)]) = upd (upd H D (exd D [(f, y)])) a (exo a C (some D)) := by
    funext c
    by_cases c1 : c = D
    · subst c1
      rw [upd_same, upd_ne neq, upd_same]
    · rw [upd_ne c1]
      by_cases c2 : c = a
      · subst c2
        rw [upd_same, upd_same]
      · rw [upd_ne c2, upd_ne c2, upd_ne c1, upd_ne c1]
  rw [same] at J3
  exact h D _ nD neq J3
/-- a further one -/
theorem xst_old {Q : Unit → Shared → Prop} {E : Value → Shared → Prop} {A : Around} (T : ExC X.K C B newId initId bmB) (I : Inv X pins σ H s) (e : H a = some (exo a C (some dx))) (ed : H dx = some (exd dx fs)) (hl : fs.length ≤ 900) (hno : PySem.W.findIn X.K (.ref C) f = some none) (ry : RelV y u)
    (h : ∀ s', Inv X pins σ (upd H dx (exd dx ((f, y) :: fs))) s' → Q () s') : wpAny (model X.prog X.w) A (setAttr (.ref a) f u) Q E s := by
  obtain ⟨t1, ho⟩ := exo_at I.hok e
  obtain ⟨mA, ns, rel⟩ := exd_at I.hok ed
  have wi := within_of rel
  have tk : PySem.W.takerIn X.K C f = some none := by unfold PySem.W.takerIn; rw [hno]; rfl
  obtain ⟨cd, hc, hd⟩ := PySem.W.any_some T.hd
  rcases s with ⟨hp, g, dr, t, os⟩
  obtain ⟨oD, _, _, od, _, _⟩ := ns.count wi
  refine PySem.W.set_plain (od := some oD) I.kIn ⟨ho, rfl, rfl, od⟩ T.sa ?_
  refine PySem.W.osa_openX (od := some oD) T.SF I.kIn ⟨ho, rfl, rfl, od⟩ T.ov tk fun b => ?_
  refine wpAny_bind (wpAny_pure (wpAny_bind (wpAny_bind (wpAny_loadPart ho (wpAny_bind ((PySem.W.looks_clsIn (M := model X.prog X.w) I.kIn hc).at ?_))))))
  rw [hd]
  refine wpAny_pure (a := some dx) ?_
  show wpAny _ _ (Builtin.ObjectAttr.storeInDict dx (.str f t) f u) _ _ (⟨hp, g, dr, t + 1, os⟩ : Shared)
  refine PySem.OEX.store_in_old ns wi (by rw [List.length_map]; omega) fun h' tk' hn hs => ?_
  have there : ∃ o, h'.get? dx = some o := let ⟨o, _, _, q, _⟩ := hn; ⟨o, q⟩
  exact h _ (I.write (t' := tk') (x := dx) (e := dx) (o := exd dx ((f, y) :: fs)) (h' := h') (by rw [ed]; exact True.intro) (.inl rfl) (fun c o hne q => (hs.2 c hne).trans q) there (exd_ok hn (relO_put ry rel)))
/-- the facts of a class of exceptions, its base left open -/
def XC (K : PySem.W.Frag) (C : Addr) : Prop := ∃ B newId initId bmB, ExC K C B newId initId bmB
def tXst (K : PySem.W.Frag) (f : Str) (to te : TE) : TS := fun D σ H => te σ H fun y H1 => to σ H1 fun x H2 => ∃ a C : Addr, x = .ref a ∧ XC K C ∧ PySem.W.findIn K (.ref C) f = some none ∧
  ((H2 a = some (exo a C none) ∧ ∀ d, H2 d = none → d ≠ a → D.nx σ (upd (upd H2 d (exd d [(f, y)])) a (exo a C (some d)))) ∨
    ∃ (d : Addr) (fs : List (Str × V)), H2 a = some (exo a C (some d)) ∧ H2 d = some (exd d fs) ∧ fs.length ≤ 900 ∧ D.nx σ (upd H2 d (exd d ((f, y) :: fs))))
theorem ps_xst {o e : Expr} {to te : TE} {p' pos : Pos} (ho : PE X o to) (he : PE X e te) (hs : swapsWith e (some (.Attribute o f p')) pos.line X.env = pure false := by rfl) : PS X (.Assign [.Attribute o f p'] e pos) (tXst X.K f to te) := by
  constructor
  intro pins s σ H D I h
  apply plainObj_wpAny_Assign_Attribute _ hs
  apply thn (he.run pins s σ H _ I h)
  rintro v s1 ⟨y, H1, I1, r1, q1⟩
  apply thn (ho.run pins s1 σ H1 _ I1 q1)
  rintro u s2 ⟨x, H2, I2, r2, a, C, ex, ⟨_, _, _, _, T⟩, hno, q⟩
  subst ex
  cases (show u = Value.ref a from r2)
  rcases q with ⟨ea, q⟩ | ⟨d, fs, ea, ed, hl, q⟩
  · exact xst_new T I2 ea hno r1 fun d s' n ne J => ⟨σ, _, J, q d n ne⟩
  · exact xst_old T I2 ea ed hl hno r1 fun s' J => ⟨σ, _, J, q⟩
/-! e.f, e at hand -/
def tXgt (K : PySem.W.Frag) (f : Str) (te : TE) : TE := fun σ H Q => te σ H fun x H1 => ∃ (a C d : Addr) (fs : List (Str × V)) (v : V), x = .ref a ∧ XfC K C ∧ PySem.W.findIn K (.ref C) f = some none ∧ H1 a = some (exo a C (some d)) ∧ H1 d = some (exd d fs) ∧ fs.lookup f = some v ∧ Q v H1
theorem pe_xgt {e : Expr} {te : TE} {pos : Pos} (he : PE X e te) (hb : attributeBase e f X.env (eval e X.env) = eval e X.env := by rfl) : PE X (.Attribute e f pos) (tXgt X.K f te) := by
  constructor
  intro pins s σ H Q I h
  apply attr_of hb
  apply thn (he.run pins s σ H _ I h)
  rintro u s1 ⟨x, H1, I1, rx, a, C, d, fs, v, ex, T, hno, ea, ed, l, q⟩
  subst ex
  cases (show u = Value.ref a from rx)
  obtain ⟨t1, ho⟩ := exo_at I1.hok ea
  obtain ⟨mA, ns, rel⟩ := exd_at I1.hok ed
  obtain ⟨oD, hD, hl⟩ := lookIn_ns ns
  obtain ⟨z, hz, rz⟩ := RelO.some_of (v := v) (o := mA f) (by rw [← l]; exact rel f)
  have J : PySem.W.InstAt s1.heap a _ C (some oD) := ⟨ho, rfl, rfl, hD⟩
  exact HandSPX.exc_get I1.kIn J T.ga T.gg T.exC (PySem.W.findObj_own T.hdC hno rfl (by rw [hl, hz])) (handed_of rz) ⟨v, H1, I1.tok _, rz, q⟩
/-! e.f, e handled -/
def tXpn (a C d : Addr) (f : Str) (te : TE) : TE := fun σ H Q => te σ H fun x H1 => ∃ (fs : List (Str × V)) (v : V), x = .ref a ∧ H1 d = some (exd d fs) ∧ fs.lookup f = some v ∧ Q v H1
theorem pe_xpn {oe : Obj} {d : Addr} {e : Expr} {te : TE} {pos : Pos} (hp : (a, oe) ∈ X.pn) (hc : oe.cls = .ref C) (hd : oe.dict = some d) (hf : ∃ vs, oe.data = .fields vs) (T : XfC X.K C) (hno : PySem.W.findIn X.K (.ref C) f = some none)
    (he : PE X e te) (hb : attributeBase e f X.env (eval e X.env) = eval e X.env := by rfl) : PE X (.Attribute e f pos) (tXpn a C d f te) := by
  constructor
  intro pins s σ H Q I h
  apply attr_of hb
  apply thn (he.run pins s σ H _ I h)
  rintro u s1 ⟨x, H1, I1, rx, fs, v, ex, ed, l, q⟩
  subst ex
  cases (show u = Value.ref a from rx)
  obtain ⟨vs, hf⟩ := hf
  have ho := (I1.pin (a, oe) (List.mem_append_left _ hp)).1
  obtain ⟨mA, ns, rel⟩ := exd_at I1.hok ed
  obtain ⟨oD, hD, hl⟩ := lookIn_ns ns
  obtain ⟨z, hz, rz⟩ := RelO.some_of (v := v) (o := mA f) (by rw [← l]; exact rel f)
  have J : PySem.W.InstAt s1.heap a oe C (some oD) := ⟨ho, hc, by unfold PySem.W.notCls; rw [hf] <;> rfl, by rw [hd]; exact hD⟩
  exact HandSPX.exc_get I1.kIn J T.ga T.gg T.exC (PySem.W.findObj_own T.hdC hno rfl (by rw [hl, hz])) (handed_of rz) ⟨v, H1, I1.tok _, rz, q⟩
/-! raise e, e made here -/
theorem pmk_exo {e : Expr} {te : TE} (hx : X.ex = []) (he : PE X e te) : L2N.PMk X e fun σ H Q => te σ H fun x H1 => ∃ (a C : Addr) (d : Option Addr), x = .ref a ∧ H1 a = some (exo a C d) ∧ Fr0 X.H_0 a ∧ Raises X (.ref C) ∧ Q (.ref C) d (delH H1 a) := by
  intro pins s σ H Q I h
  apply thn (he.run pins s σ H _ I h)
  rintro u s1 ⟨x, H1, I1, rx, a, C, d, ex, ea, h0, hr, q⟩
  subst ex
  cases (show u = Value.ref a from rx)
  obtain ⟨t1, ho⟩ := exo_at I1.hok ea
  obtain ⟨G, kG, nG, J⟩ := I1.untrack ea h0 hx
  exact ⟨a, _, _, { s1 with heap := G }, delH H1 a, .ref C, d, rfl, J, kG, nG, ho, ⟨rfl, rfl, fun vs z => by cases z; rfl⟩, rfl, rfl, delH_same, rfl, I1.bare, hr, q⟩
end
end Tr
set_option Elab.async false
set_option linter.all false
set_option maxRecDepth 100000
set_option maxHeartbeats 2000000
namespace Tr
open PySem PySem.Spec PyProof.Rows L2 RZ
/-! ### C(k = v) for an exception class: its base's __new__ takes the keywords and lets them lie -/
section
open Builtin Builtin.ObjectAttr
variable {M : Model} {prog : Program} {w : World} {A : Around} {E : Value → Shared → Prop} {R : Result → Shared → Prop} {h : Heap} {g : Array GenState} {d : Drawn} {t : Nat} {os : OsState}
variable {nm q : Str} {C N : Addr} {bs bm bmB : List Value} {hdct : Bool} {sn : List Str} {sub : List Value} {ab : Bool} {col : Option Bool} {dd : Option Addr} {k0 k1 k2 k3 k5 : Option Value} {B newId initId : String} {xs : List Value} {kw : List (Str × Value)}
theorem kw_check (F : ExcBaseFacts B newId initId bmB) (hT : ∀ Y : String, bm.contains (.type Y) = bmB.contains (.type Y)) {Q : Unit → Shared → Prop}
    (at_ : h.get? C = some (excClassObj nm q C N bs bm hdct sn sub ab col dd k0 k1 k2 k3 k5 newId)) (hq : Q () ⟨h, g, d, t, os⟩) : wpAny M A (checkBuiltinCall newId ⟨.ref C :: xs, kw⟩) Q E ⟨h, g, d, t, os⟩ := by
  have isB : (Value.ref C :: bm).contains (.type B) = true := by rw [List.contains_cons, hT, F.hasB, Bool.or_true]
  have star := F.noStar
  simp only [checkBuiltinCall, F.newKind, F.newSplit, F.newRow]
  repeat (first
    | refine wpAny_loadPart_at at_ ?_
    | (refine wpAny_isSubtype_exc at_ ?_
       rw [isB])
    | refine wpAny_staticBase_exc at_ ?_
    | refine wpAny_madeBy_exc at_ ?_
    | simp only [bne_self_eq_false, Bool.false_eq_true, if_false]
    | wp_step)
  exact hq
theorem kw_new (F : ExcBaseFacts B newId initId bmB) (hT : ∀ Y : String, bm.contains (.type Y) = bmB.contains (.type Y)) (at_ : h.get? C = some (excClassObj nm q C N bs bm hdct sn sub ab col dd k0 k1 k2 k3 k5 newId))
    (hq : R (.ok (.ret (.ref (h.objs.size + 1)))) ⟨(h.push (PySem.W.kdv_tup xs)).push (PySem.HandSPX.excO C h.objs.size), g, d, t, os⟩) (few : xs.length ≤ sizeLine) :
    codeAny (model prog w) A (.builtin newId ⟨.ref C :: xs, kw⟩) R ⟨h, g, d, t, os⟩ := by
  have ends := F.ends
  have isB : (Value.ref C :: bm).contains (.type B) = true := by rw [List.contains_cons, hT, F.hasB, Bool.or_true]
  have noA : (Value.ref C :: bm).contains (.type "AttributeError") = false := by rw [List.contains_cons, hT, F.noAttr]; rfl
  have noN : (Value.ref C :: bm).contains (.type "NameError") = false := by rw [List.contains_cons, hT, F.noName]; rfl
  refine codeAny_builtinAt F.entry ?_
  unfold Builtin.«BaseException.__new__»
  refine PySem.wpAt_bind ?_
  show PySem.wpAt _ _ _ (PySem.stack >>= _) _ _ _
  refine PySem.wpAt_bind (PySem.wpAt_stack fun p below => PySem.wpAt_of_wpAny ?_)
  wp_walk
  refine PySem.wpAt_of_wpAny ?_
  rw [F.owner]
  repeat (first
    | with_reducible refine wpAny_madeHere_exc F.canon at_ ?_
    | with_reducible refine wpAny_loadPart_at at_ ?_
    | (with_reducible refine wpAny_isSubtype_exc at_ ?_
       first | rw [isB] | rw [noA] | rw [noN])
    | wp_step)
  show R _ _
  rw [Heap.size_push]
  exact hq
theorem kw_type (F : ExcBaseFacts B newId initId bmB) (hT : ∀ Y : String, bm.contains (.type Y) = bmB.contains (.type Y)) {fI : Addr} {Q : PySem.Fin → Shared → Prop} (at_ : h.get? C = some (excClassObj nm q C N bs bm hdct sn sub ab col dd k0 k1 k2 k3 k5 newId))
    (li : PySem.W.Looks (model prog w) h (typeLookup (.ref C) "__init__") (some (.ref fI))) (lb : ∀ self, PySem.W.Looks (model prog w) h (bindSpecial (.ref fI) self) (.ref fI, [self])) (few : xs.length ≤ sizeLine)
    (hq : codeAny (model prog w) A (.call (.ref fI) ⟨.ref (h.objs.size + 1) :: xs, kw⟩) (fun r s' => match r with | .ok (.ret v) => v = .none ∧ Q (.done (.ret (.ref (h.objs.size + 1)))) s' | .ok _ => False | .error e => E e s')
      ⟨(h.push (PySem.W.kdv_tup xs)).push (PySem.HandSPX.excO C h.objs.size), g, d, t, os⟩) :
    wpAny (model prog w) A (Builtin.«type.__call__» ⟨.ref C :: xs, kw⟩) Q E ⟨h, g, d, t, os⟩ := by
  repeat (first
    | with_reducible refine wpAny_loadPart_at at_ ?_
    | with_reducible refine wpAny_madeBy_exc at_ ?_
    | wp_step)
  refine codeAny_call_builtin_code (Code.quiet_builtin _ F.quiet) (kw_check F hT at_ ?_)
  refine kw_new F hT at_ ?_ few
  show wpAny _ _ _ _ _ _
  have up : ∀ b o, h.get? b = some o → ((h.push (PySem.W.kdv_tup xs)).push (PySem.HandSPX.excO C h.objs.size)).get? b = some o := fun b o e => Heap.get?_push_of_some _ (Heap.get?_push_of_some _ e)
  have at2 := up _ _ at_
  have new : ((h.push (PySem.W.kdv_tup xs)).push (PySem.HandSPX.excO C h.objs.size)).get? (h.objs.size + 1) = some (PySem.HandSPX.excO C h.objs.size) := by heap_get
  have self : (Value.ref C :: bm).contains (.ref C) = true := by simp
  have li2 := li.keeps up
  have lb2 := (lb (.ref (h.objs.size + 1))).keeps up
  unfold isInstance
  repeat (first
    | with_reducible refine wpAny_loadPart_at new ?_
    | (with_reducible refine wpAny_isSubtype_exc at2 ?_
       rw [self])
    | wp_step)
  show wpAny _ _ (typeLookup (.ref C) _) _ _ _
  refine li2.at ?_
  refine wpAny_holding (wpAny_bind (lb2.at ?_))
  refine wpAny_bind (wpAny_call (codeAny_mono hq fun r s' z => ?_))
  rcases r with e | (v | _ | _ | _)
  all_goals first
    | exact z
    | exact z.elim
    | skip
  obtain ⟨rfl, z⟩ := z
  first
    | exact wpAny_pure (wpAny_pure z)
    | (wp_walk; exact z)
theorem kw_call (F : ExcBaseFacts B newId initId bmB) (hT : ∀ Y : String, bm.contains (.type Y) = bmB.contains (.type Y)) {fI : Addr} (at_ : h.get? C = some (excClassObj nm q C N bs bm hdct sn sub ab col dd k0 k1 k2 k3 k5 newId))
    (li : PySem.W.Looks (model prog w) h (typeLookup (.ref C) "__init__") (some (.ref fI))) (lb : ∀ self, PySem.W.Looks (model prog w) h (bindSpecial (.ref fI) self) (.ref fI, [self])) (few : xs.length ≤ sizeLine)
    (hq : codeAny (model prog w) (A.under (.builtin "type.__call__" ⟨.ref C :: xs, kw⟩)) (.call (.ref fI) ⟨.ref (h.objs.size + 1) :: xs, kw⟩) (PySem.W.InitBack (h.objs.size + 1) R)
      ⟨(h.push (PySem.W.kdv_tup xs)).push (PySem.HandSPX.excO C h.objs.size), g, d, t, os⟩) :
    codeAny (model prog w) A (.call (.ref C) ⟨xs, kw⟩) R ⟨h, g, d, t, os⟩ := by
  have f1 := tc_lookup
  have f2 := tc_bind (.ref C)
  have tyIs : (⟨h, g, d, t, os⟩ : Shared).TypeIs (.ref C) "type" := ⟨_, at_, rfl⟩
  refine codeAny_of_tree ?_
  show wpAny _ _ (callAny (.ref C) _) _ _ _
  repeat (any_goals (first
    | assumption
    | with_reducible refine wpAny_loadPart_at at_ ?_
    | wp_step))
  refine ⟨rfl, ?_⟩
  refine codeAny_call_builtin_at (Code.quiet_builtin _ (by decide +kernel)) entry_typeCall (wpAny_check_type_call_sub at_ (kw_type F hT at_ li lb few ?_))
  refine codeAny_mono hq fun r s' z => ?_
  rcases r with e | (v | _ | _ | _)
  all_goals exact z
end
end Tr
set_option Elab.async false
set_option linter.all false
set_option maxRecDepth 100000
set_option maxHeartbeats 2000000
namespace Tr
open PySem PySem.Spec PyProof.Rows L2 RZ
/-! ### exceptions as values -/
section
variable {K : PySem.W.Frag} {w : Wo} {H H' : Hp}
theorem more_ev (g : Gd K w H) (k : ∀ b o, H b = some o → H' b = some o) : Ev w H w H' := by
  refine ⟨⟨⟨[], by simp⟩, fun a o e l => ⟨k a o e, l⟩⟩, rfl, fun a ha => ?_⟩
  cases e : H a with
  | none => exact absurd e (g.trk a (List.mem_append_right _ ha))
  | some o => exact k a o e
theorem more_gd (g : Gd K w H) (k : ∀ b o, H b = some o → H' b = some o) : Gd K w H' := by
  have same : ∀ a, H a ≠ none → H' a = H a := fun a n => by
    cases e : H a with
    | none => exact absurd e n
    | some o => exact k a o e
  refine ⟨g.len, g.nd, fun a ha => by rw [same a (g.trk a ha)]; exact g.trk a ha, g.apart, fun n a c e1 e2 => ?_⟩
  exact (g.cell n a c e1 e2).mono (more_ev g k).toKp (same a (g.trk a (List.mem_append_left _ (List.mem_of_getElem? e1))))
theorem RpAll.snoc {ds : List D} {vs : List V} {d : D} {v : V} (h : RpAll K w H ds vs) (r : Rp K w H d v) : RpAll K w H (ds ++ [d]) (vs ++ [v]) := h.append ⟨v, [], rfl, r, rfl⟩
theorem RpAll.rev : ∀ {ds : List D} {vs : List V}, RpAll K w H ds vs → RpAll K w H ds.reverse vs.reverse
  | [], _, h => by rw [show _ = [] from h]; exact rfl
  | d :: ds, _, ⟨v, r, e, h1, h2⟩ => by
    subst e
    rw [List.reverse_cons, List.reverse_cons]
    exact RpAll.snoc (RpAll.rev h2) h1
end
/-- what stands in the dict of an exception whose __init__ stores its parameters ns and then its code -/
def fsX (code : Str) (ns : List Str) (vs : List V) : List (Str × V) := ("code", .str code) :: (ns.zip vs).reverse
def spX (C : Addr) (ns : List Str) (code : Str) : Sp := fun vs H Q _ => ∃ a args, vs = .ref a :: args ∧ args.length = ns.length ∧ H a = some (exo a C none) ∧ ∀ H' d, (∀ b o, H b = some o → b ≠ a → H' b = some o) → H d = none → H' a = some (exo a C (some d)) →
  H' d = some (exd d (fsX code ns args)) → Q .non H'
def dXn (C : Addr) (ns : List Str) (code : Str) : RAD := fun ds μ P => ds.length = ns.length ∧ ds.length ≤ 1000 ∧ P (.exc C ("code" :: ns.reverse) (.str code :: ds.reverse)) μ
theorem d_xn {C : Addr} {ns : List Str} {code : Str} {ds : List D} {μ : Mu} {P : KD} : dXn C ns code ds μ P = (ds.length = ns.length ∧ ds.length ≤ 1000 ∧ P (.exc C ("code" :: ns.reverse) (.str code :: ds.reverse)) μ) := id rfl
theorem xn_sp {K : PySem.W.Frag} {w : Wo} {H : Hp} {C : Addr} {ns : List Str} {code : Str} {ds : List D} {vs : List V} {P : KD} {Q : VK} (g : Gd K w H) (r : RpAll K w H ds vs) (t : dXn C ns code ds w.mu P) (f : Fin K w H P Q) (a : Addr) (ha : H a = none) :
    spX C ns code (.ref a :: vs) (upd H a (exo a C none)) (fun v H2 => v = .non ∧ Q (.ref a) H2) E0 := by
  obtain ⟨hl, _, t⟩ := t
  have hv : vs.length = ns.length := by rw [r.length, hl]
  refine ⟨a, vs, rfl, hv, upd_same, fun H' d kp nd ea ed => ⟨rfl, ?_⟩⟩
  have nda : d ≠ a := fun z => by
    rw [z, upd_same] at nd
    cases nd
  rw [upd_ne nda] at nd
  have k : ∀ b o, H b = some o → H' b = some o := fun b o e => by
    have ne : b ≠ a := fun z => by rw [z, ha] at e; cases e
    exact kp b o (by rw [upd_ne ne]; exact e) ne
  refine f (.exc C ("code" :: ns.reverse) (.str code :: ds.reverse)) _ w H' (more_ev g k) (more_gd g k) ⟨a, some d, fsX code ns vs, rfl, g.dead ha, ea, ⟨g.dead nd, ed⟩, ?_, _, _, rfl, rfl, ?_⟩ t
  · unfold fsX
    rw [List.map_cons, List.map_reverse, List.map_fst_zip (by omega)]
  · have := RpAll.mono (more_ev g k).toKp _ _ r.rev
    rw [List.map_reverse, List.map_snd_zip (by omega)]
    exact this
/-- a class x of exceptions at C, whose __init__ stores its parameters ns and its code -/
structure XnI (P : Program) (wd : World) (K : PySem.W.Frag) (mg : Str → Option Value) (base : Heap) (x : Str) (C : Addr) (st : Stmt) (k : Nat) (ns : List Str) (code : Str) : Prop where
  ex : ∃ (f : Addr) (fd : FuncData) (qual B newId initId : String) (bmB : List Value), FnOk P wd K mg base CX0 k f fd ("self" :: ns) (spX C ns code) ∧ Fun K "__init__" qual st f fd ∧ PySem.W.findIn K (.ref C) "__init__" = some (some (.ref f)) ∧
    PySem.W.typeIn K (.ref f) = some (.type "function") ∧ ExC K C B newId initId bmB ∧ mg x = some (.ref C) ∧ Binds K fd ("self" :: ns) []
section
variable {X : Cx} {e : Expr} {es : List Expr} {pos p : Pos} {t : ET} {sa : AT} {x : Str} {C : Addr} {st : Stmt} {k j : Nat} {ns : List Str} {code : Str}
theorem te_xn (G : XnI X.prog X.w X.K X.mg X.base x C st k ns code) (hr : Room j X.A) (hg : Gl X x) (ha : PA X (e :: es) (LA X.K sa)) (hk : k + 1 ≤ j := by first | decide | omega) (hdb : (x == ("__debug__" : Str)) = false := by decide)
    (he : starEach (e :: es) X.env = (false, eval e X.env) :: starEach es X.env := by rfl) (hpl : (backTo pos (starEach es X.env)).any (·.1) = false := by rfl) : PE X (.Call (.Name x p) (e :: es) [] pos) (LE X.K (eCall (dXn C ns code) sa)) := by
  obtain ⟨f, fd, qual, B, n1, n2, bm, F, _, iC, tI, T, hm, hb⟩ := G.ex
  exact te_of (pe_exn T iC tI F (hr.mono hk) hb pass0 hg hm ha hdb he hpl) fun σ H Q ⟨w, ρ, P, g, er, t, fn⟩ => ⟨w, ρ, _, g, er, t, fun ds vs w1 H1 e1 g1 r1 t1 => ⟨by rw [r1.length]; exact t1.2.1, xn_sp g1 r1 t1 (fn.mono e1)⟩⟩
/-! a field -/
def XfdC (K : PySem.W.Frag) (f : Str) (Cs : List Addr) : Prop := ∀ C, C ∈ Cs → XfC K C ∧ PySem.W.findIn K (.ref C) f = some none
def eXf (Cs : List Addr) (f : Str) (t : ET) : ET := fun ρ μ P => t ρ μ fun d μ1 => match d with
  | .exc C ns ds => C ∈ Cs ∧ match lookD f ns ds with
    | some y => P y μ1
    | none => False
  | _ => False
theorem te_xf {Cs : List Addr} {f : Str} (hc : XfdC X.K f Cs) (h : PE X e (LE X.K t)) (hb : attributeBase e f X.env (eval e X.env) = eval e X.env := by rfl) : PE X (.Attribute e f pos) (LE X.K (eXf Cs f t)) :=
  te_of (pe_xgt h hb) fun σ H Q ⟨w, ρ, P, g, er, t, fn⟩ => ⟨w, ρ, _, g, er, t, fun d v w1 H1 e1 g1 r1 t1 => by
    split at t1
    · rename_i C ns ds
      obtain ⟨hC, t1⟩ := t1
      split at t1
      · rename_i y hy
        obtain ⟨a, od, fs, h1, h2, h3, h4, h5, h6⟩ := r1
        subst h5
        obtain ⟨u, l, r⟩ := look_rp h6 hy
        cases od with
        | none =>
          rw [show fs = [] from h4] at l
          cases l
        | some d => exact ⟨a, C, d, fs, u, h1, (hc C hC).1, (hc C hC).2, h3, h4.2, l, (fn.mono e1).now g1 r t1⟩
      · exact t1.elim
    · exact t1.elim⟩
/-! isinstance -/
structure ExX (K : PySem.W.Frag) (C : Addr) : Prop where
  cl : (PySem.W.clsIn K C).isSome = true
  ga : PySem.W.findIn K (.ref C) "__getattribute__" = some (some (.builtin "BaseException.__getattribute__"))
  gg : PySem.W.findIn K (.ref C) "__getattr__" = some none
  ex : PySem.W.subIn K (.ref C) (.type "BaseException") = some true
  ca : PySem.W.findIn K (.ref C) "__class__" = some (some (.builtin "object.__class__"))
  ob : PySem.W.mroIn K C (.type "object") = some true
/-- what the built-in __class__ says of itself -/
structure ClD (K : PySem.W.Frag) : Prop where
  g : PySem.W.specialIn K (.builtin "object.__class__") "__get__" = some (some (.builtin "getset_descriptor.__get__"))
  t : PySem.W.takesIn K (.builtin "object.__class__") = some true
def rIsX (K : PySem.W.Frag) : List V → Hp → VK → Prop := fun xs H Q => ∃ (a C : Addr) (od : Option Addr) (c : V) (u : Value) (b : Bool), xs = [.ref a, c] ∧ ClsV c u ∧ H a = some (exo a C od) ∧ (∀ d, od = some d → ∃ fs, H d = some (exd d fs)) ∧ ExX K C ∧ ClD K ∧ PySem.W.kitOne K (.ref C) u = some b ∧ Q (.bl b) H
theorem call_isX : CallR X (.builtin "isinstance") (rIsX X.K) := by
  intro pins s σ H xs us Q I r h
  obtain ⟨a, C, od, c, u, b, rfl, kc, ea, ed, T, D, e, q⟩ := h
  obtain ⟨u1, u2, rfl, r1, r2⟩ := vals2 r
  have e2 := kc.eq r2
  subst e2
  cases (show u1 = Value.ref a from r1)
  obtain ⟨t1, ho⟩ := exo_at I.hok ea
  have J : ∃ oD, PySem.W.InstAt s.heap a { cls := .ref C, dict := od, data := .fields #[.ref t1, .none, .none, .none, .bool false, .none] } C oD := by
    cases od with
    | none => exact ⟨none, ho, rfl, rfl, trivial⟩
    | some d =>
      obtain ⟨fs, z⟩ := ed d rfl
      obtain ⟨mA, nsx, rel⟩ := exd_at I.hok z
      obtain ⟨oD, hD, _⟩ := lookIn_ns nsx
      exact ⟨some oD, ho, rfl, rfl, hD⟩
  obtain ⟨oD, J⟩ := J
  exact PySem.W.kia_one (PySem.W.kitx_exc T.cl T.ga T.gg T.ex T.ca D.g D.t T.ob) I.kIn J e (fun z => nomatch z) fun tk => ⟨.bl b, H, I.tok tk, rfl, q⟩
end
/-- isinstance of an exception, by a table -/
def dIsX (T : Addr → D → Option Bool) : RAD := fun ds μ P => match ds with
  | [.exc C _ _, c] => match T C c with
    | some b => P (.bl b) μ
    | none => False
  | _ => False
def clsD : D → Option Value
  | .ref a => some (.ref a)
  | .ty n => some (.type n)
  | _ => none
def IsXT (K : PySem.W.Frag) (T : Addr → D → Option Bool) : Prop := ClD K ∧ ∀ C c b, T C c = some b → ExX K C ∧ ∃ u, clsD c = some u ∧ PySem.W.kitOne K (.ref C) u = some b
theorem cls_rp {K : PySem.W.Frag} {w : Wo} {H : Hp} {c : D} {v : V} {u : Value} (h : clsD c = some u) (r : Rp K w H c v) : ClsV v u := by
  unfold clsD at h
  split at h
  · cases h
    rw [show v = _ from r]
    exact .own _
  · cases h
    rw [show v = _ from r]
    exact .ty _
  · cases h
theorem cd_isX {K : PySem.W.Frag} {T : Addr → D → Option Bool} (hT : IsXT K T) : CallD K (rIsX K) (dIsX T) := by
  intro w H vs ds P Q g r t f
  unfold dIsX at t
  split at t
  · obtain ⟨x, y, rfl, h1, h2⟩ := rpAll2 r
    split at t
    · rename_i b hb
      obtain ⟨tx, u, hu, hk⟩ := hT.2 _ _ _ hb
      obtain ⟨a, od, fs, e1, e2, e3, e4, e5, e6⟩ := h1
      subst e1
      refine ⟨a, _, od, y, u, b, rfl, cls_rp hu h2, e3, fun d z => ?_, tx, hT.1, hk, f.bl g t⟩
      subst z
      exact ⟨fs, e4.2⟩
    · exact t.elim
  · exact t.elim
end Tr
namespace Tr
open PySem PySem.Spec PyProof.Rows L2 RZ
section
variable {P : Program} {wd : World} {K : PySem.W.Frag} {mg : Str → Option Value} {base : Heap} {C f : Addr} {fd : FuncData} {st : Stmt} {qual n m code : Str}
/-- a parameter may be read -/
structure NmOk (st : Stmt) (n : Str) : Prop where
  vis : Vis (defScope st) n
  d1 : (n == ("__debug__" : Str)) = false
  d2 : (n == ("__classdict__" : Str)) = false
theorem ok_init0 {p5 p6 p7 p8 : Pos} {k : Nat} (S : FnScope ["self"] ["self"] (defScope st)) (v0 : NmOk st "self") (hb : defBody st = [.Assign [.Attribute (.Name "self" p5) "code" p6] (.Constant (.str code) k p7) p8])
    (F : Fun K "__init__" qual st f fd) (T : XC K C) (h2 : PySem.W.findIn K (.ref C) "code" = some none) : FnOk P wd K mg base CX0 1 f fd ["self"] (spX C [] code) := by
  refine F.ok S (fun vs H Q E h => ?_) (fun cdv A outer s H vs Q E hr h => ?_)
  · obtain ⟨a, args, rfl, l, _⟩ := h
    simp [l]
  · obtain ⟨a, args, rfl, l, ea, kk⟩ := h
    match args, l with
    | [], _ =>
      rw [hb]
      refine ⟨_, pss_one (ps_xst (pv 0 rfl v0.vis) pe_str), ?_⟩
      refine ⟨_, rfl, a, C, rfl, T, h2, .inl ⟨ea, fun d nd ne => ?_⟩⟩
      exact kk _ d (fun b o e nb => by rw [upd_ne nb, upd_ne (ne_of_none e nd)]; exact e) nd upd_same (by rw [upd_ne ne, upd_same]; rfl)
theorem ok_init1 {p1 p2 p3 p4 p5 p6 p7 p8 : Pos} {k : Nat} (S : FnScope ["self", n] ["self", n] (defScope st)) (v0 : NmOk st "self") (v1 : NmOk st n) (hb : defBody st = [.Assign [.Attribute (.Name "self" p1) n p2] (.Name n p3) p4, .Assign [.Attribute (.Name "self" p5) "code" p6] (.Constant (.str code) k p7) p8])
    (F : Fun K "__init__" qual st f fd) (T : XC K C) (h1 : PySem.W.findIn K (.ref C) n = some none) (h2 : PySem.W.findIn K (.ref C) "code" = some none) : FnOk P wd K mg base CX0 1 f fd ["self", n] (spX C [n] code) := by
  refine F.ok S (fun vs H Q E h => ?_) (fun cdv A outer s H vs Q E hr h => ?_)
  · obtain ⟨a, args, rfl, l, _⟩ := h
    simp [l]
  · obtain ⟨a, args, rfl, l, ea, kk⟩ := h
    match args, l with
    | [v], _ =>
      rw [hb]
      refine ⟨_, pss_cons (ps_xst (pv 0 rfl v0.vis) (pv 1 rfl v1.vis v1.d1 v1.d2)) (pss_one (ps_xst (pv 0 rfl v0.vis) pe_str)), ?_⟩
      refine ⟨_, rfl, _, rfl, a, C, rfl, T, h1, .inl ⟨ea, fun d nd ne => ?_⟩⟩
      have had : a ≠ d := Ne.symm ne
      refine ⟨_, rfl, a, C, rfl, T, h2, .inr ⟨d, _, upd_same, by rw [upd_ne ne, upd_same], by simp, ?_⟩⟩
      exact kk _ d (fun b o e nb => by rw [upd_ne (ne_of_none e nd), upd_ne nb, upd_ne (ne_of_none e nd)]; exact e) nd (by rw [upd_ne had, upd_same]) (by rw [upd_same]; rfl)
theorem ok_init2 {p1 p2 p3 p4 q1 q2 q3 q4 p5 p6 p7 p8 : Pos} {k : Nat} (S : FnScope ["self", n, m] ["self", n, m] (defScope st)) (v0 : NmOk st "self") (v1 : NmOk st n) (v2 : NmOk st m)
    (hb : defBody st = [.Assign [.Attribute (.Name "self" p1) n p2] (.Name n p3) p4, .Assign [.Attribute (.Name "self" q1) m q2] (.Name m q3) q4, .Assign [.Attribute (.Name "self" p5) "code" p6] (.Constant (.str code) k p7) p8])
    (F : Fun K "__init__" qual st f fd) (T : XC K C) (h1 : PySem.W.findIn K (.ref C) n = some none) (h3 : PySem.W.findIn K (.ref C) m = some none) (h2 : PySem.W.findIn K (.ref C) "code" = some none) : FnOk P wd K mg base CX0 1 f fd ["self", n, m] (spX C [n, m] code) := by
  refine F.ok S (fun vs H Q E h => ?_) (fun cdv A outer s H vs Q E hr h => ?_)
  · obtain ⟨a, args, rfl, l, _⟩ := h
    simp [l]
  · obtain ⟨a, args, rfl, l, ea, kk⟩ := h
    match args, l with
    | [v, u], _ =>
      rw [hb]
      refine ⟨_, pss_cons (ps_xst (pv 0 rfl v0.vis) (pv 1 rfl v1.vis v1.d1 v1.d2)) (pss_cons (ps_xst (pv 0 rfl v0.vis) (pv 2 rfl v2.vis v2.d1 v2.d2)) (pss_one (ps_xst (pv 0 rfl v0.vis) pe_str))), ?_⟩
      refine ⟨_, rfl, _, rfl, a, C, rfl, T, h1, .inl ⟨ea, fun d nd ne => ?_⟩⟩
      have had : a ≠ d := Ne.symm ne
      refine ⟨_, rfl, _, rfl, a, C, rfl, T, h3, .inr ⟨d, _, upd_same, by rw [upd_ne ne, upd_same], by simp, ?_⟩⟩
      refine ⟨_, rfl, a, C, rfl, T, h2, .inr ⟨d, _, by rw [upd_ne had, upd_same], upd_same, by simp, ?_⟩⟩
      exact kk _ d (fun b o e nb => by rw [upd_ne (ne_of_none e nd), upd_ne (ne_of_none e nd), upd_ne nb, upd_ne (ne_of_none e nd)]; exact e) nd (by rw [upd_ne had, upd_ne had, upd_same]) (by rw [upd_same]; rfl)
end
end Tr
set_option Elab.async false
set_option linter.all false
set_option maxRecDepth 100000
set_option maxHeartbeats 2000000
namespace Tr
open PySem PySem.Spec PyProof.Rows L2 RZ
section
variable {X : Cx} {pins : List (Addr × Obj)} {σ : L2.St} {H : Hp} {s : Shared} {C : Addr} {B newId initId : String} {bmB : List Value}
/-- C(k = v, ..), all by keywords -/
theorem run_excK {fI : Addr} {k : Nat} {fd : FuncData} {ps : List Str} {sp : Sp} {kw : List (Str × Value)} {vs : List V} {us : List Value} {Q : VK} (T : ExC X.K C B newId initId bmB) (iC : PySem.W.findIn X.K (.ref C) "__init__" = some (some (.ref fI)))
    (tI : PySem.W.typeIn X.K (.ref fI) = some (.type "function")) (G : FnOk X.prog X.w X.K X.mg X.base CX0 k fI fd ps sp) (hr : Room (k + 1) X.A) (I : Inv X pins σ H s) (r : Vals vs us) (hb : ∀ (s' : Shared) (p : Addr), BindsTo s' fd ⟨[.ref p], kw⟩ (ps.zip (.ref p :: us)))
    (h : ∀ a, H a = none → sp (.ref a :: vs) (upd H a (exo a C none)) (fun v H2 => v = .non ∧ Q (.ref a) H2) E0) : wpAny (model X.prog X.w) X.A (call (.ref C) [] kw) (EP X pins σ Q) X.xe s := by
  obtain ⟨nm, N, qn, bs, bm, hdct, sn, sub, ab, col, dd, k0, k1, k2, k3, k5, hC, hT⟩ := PySem.W.excInit_of I.kIn T.ini
  rcases s with ⟨hp, g, dr, tk, os⟩
  let p : Addr := hp.objs.size + 1
  let hp2 : Heap := (hp.push (PySem.W.kdv_tup [])).push (PySem.HandSPX.excO C hp.objs.size)
  have up : ∀ b o, hp.get? b = some o → hp2.get? b = some o := fun b o e => Heap.get?_push_of_some _ (Heap.get?_push_of_some _ e)
  have new : hp.objs.size ≤ p := Nat.le_succ _
  have at_ : hp2.get? p = some (PySem.HandSPX.excO C hp.objs.size) := by
    show ((hp.push (PySem.W.kdv_tup [])).push (PySem.HandSPX.excO C hp.objs.size)).get? (hp.objs.size + 1) = _
    heap_get
  have none_ : H p = none := I.hok.fresh new
  have J : Inv X pins σ (upd H p (exo p C none)) ⟨hp2, g, dr, tk, os⟩ := I.laid (t' := tk) (a := p) (o := exo p C none) (h' := hp2) up new (exo_ok at_)
  have now := h p none_
  have vals : Vals (V.ref p :: vs) (Value.ref p :: us) := .cons rfl r
  have ran := G.run _ X.stack _ _ ⟨[Value.ref p], kw⟩ (Value.ref p :: us) _ _ E0 (hr.make C [] kw) (J.env0.make C [] kw) (hb _ p) vals now
  refine wpAny_call (kw_call T.F hT hC (PySem.W.looks_findIn I.kIn iC) (fun self => PySem.W.bind_fn I.kIn self tI) (by rw [sizeLine_eq]; decide) (codeAny_mono ran fun res s' q => ?_))
  cases res with
  | error er => exact q.elim
  | ok fl =>
    cases fl with
    | ret u =>
      obtain ⟨v, H2, J2, rv, ev, q2⟩ := J.after q
      subst ev
      exact ⟨rv, .ref p, H2, J2, rfl, q2⟩
    | _ => exact q.elim
/-- C() -/
theorem pe_exn0 {x : Str} {fI : Addr} {k : Nat} {fd : FuncData} {ps : List Str} {sp : Sp} {p pos : Pos} (T : ExC X.K C B newId initId bmB) (iC : PySem.W.findIn X.K (.ref C) "__init__" = some (some (.ref fI)))
    (tI : PySem.W.typeIn X.K (.ref fI) = some (.type "function")) (G : FnOk X.prog X.w X.K X.mg X.base CX0 k fI fd ps sp) (hr : Room (k + 1) X.A) (hb : Binds X.K fd ps []) (hg : Gl X x) (hm : X.mg x = some (.ref C))
    (hdb : (x == ("__debug__" : Str)) = false := by decide) : PE X (.Call (.Name x p) [] [] pos) (tExn C sp tNil) := by
  constructor
  intro pins s σ H Q I h
  refine wpAny_Call_Name_kw (ld_glob I hg hm ?_ hdb)
  exact PySem.W.callWith_K0 I.kIn T.kC (run_exc (us := []) T iC tI G hr hb pass0 I .nil h.1 h.2)
variable {x : Str} {st : Stmt} {k j : Nat} {ns : List Str} {code : Str} {p pos : Pos}
theorem te_xn0 (G : XnI X.prog X.w X.K X.mg X.base x C st k ns code) (hr : Room j X.A) (hg : Gl X x) (hk : k + 1 ≤ j := by first | decide | omega) (hdb : (x == ("__debug__" : Str)) = false := by decide) :
    PE X (.Call (.Name x p) [] [] pos) (LE X.K (eCall (dXn C ns code) aNil)) := by
  obtain ⟨f, fd, qual, B, n1, n2, bm, F, _, iC, tI, T, hm, hb⟩ := G.ex
  exact te_of (pe_exn0 T iC tI F (hr.mono hk) hb hg hm hdb) fun σ H Q ⟨w, ρ, P, g, er, t, fn⟩ => ⟨by show (0 : Nat) ≤ 1000; decide, xn_sp (ds := []) (vs := []) g (show RpAll X.K w H [] [] from rfl) t fn⟩
/-- C(k = v, ..), names ks as they are written; pm: which of them stands at each parameter -/
theorem te_xnK {sa : AT} {kws : List Keyword} {ks : List Str} (pm : List Nat) (G : XnI X.prog X.w X.K X.mg X.base x C st k ns code) (hr : Room j X.A) (hg : Gl X x) (hkw : PK X kws (LA X.K sa))
    (hbn : ∀ (qual : Str) (kV doc pmm : Value) (an : Option Addr) (cdv ct self : Value) (ws : List Value), ws.length = ks.length → bindArgs (PySem.W.fnOf "__init__" qual (defArgs st) (defBody st) (defScope st) .none kV doc pmm an cdv ct) ⟨[self], ks.zip ws⟩ = pure ((("self" : Str) :: ns).zip (self :: pm.map fun i => ws.getD i .none)))
    (hpm : ∀ i, i ∈ pm → i < ks.length := by decide) (hk : k + 1 ≤ j := by first | decide | omega) (hall : (backToKw pos (keywordEach kws X.env)).all (·.1.isSome) = true := by rfl) (hks : (backToKw pos (keywordEach kws X.env)).filterMap (·.1) = ks := by rfl)
    (hdb : (x == ("__debug__" : Str)) = false := by decide) (hpl : ((backTo pos (starEach [] X.env)).any (·.1) || (backToKw pos (keywordEach kws X.env)).any (·.1.isNone)) = false := by rfl) :
    PE X (.Call (.Name x p) [] kws pos) (LE X.K (eCallP (dXn C ns code) pm ks.length sa)) := by
  obtain ⟨f, fd, qual, B, n1, n2, bm, F, U, iC, tI, T, hm, hb⟩ := G.ex
  refine ⟨fun pins s σ H Q I ⟨w, ρ, P, g, er, t, f'⟩ => ?_⟩
  refine wpAny_Call_Name_kw (ld_glob I hg hm ?_ hdb)
  refine PySem.W.callWith_KW0 (h₀ := X.base) I.ok.mod.kin T.kC hall ?_ hpl
  refine thn (hkw.run pos pins s σ H (fun vs H1 => ∃ w1 ds, Gd X.K w1 H1 ∧ RpAll X.K w1 H1 ds vs ∧ ds.length = ks.length ∧ dXn C ns code (pick pm ds) w1.mu P ∧ Fin X.K w1 H1 P Q) I ⟨w, ρ, _, g, er, t, fun ds vs w1 H1 e1 g1 r1 ⟨hl, t1⟩ => ⟨w1, ds, g1, r1, hl, t1, f'.mono e1⟩⟩) ?_
  rintro ws s2 ⟨zs, H2, I2, rz, w1, ds, g1, r1, hl, t1, f1⟩
  refine ⟨I2.kIn, ?_⟩
  rw [hks]
  have hz : ws.length = ks.length := by rw [← rz.length, r1.length, hl]
  have r3 := pick_rel r1 (pm := pm) (fun i hi => by rw [hl]; exact hpm i hi)
  obtain ⟨oc, od, kV, doc, pmv, an, cdv, ct, osl, rfl, lk, hcd⟩ := U.ex
  exact run_excK T iC tI F (hr.mono hk) I2 (vals_pick rz (pm := pm)) (fun s' q => .of_eq (hbn qual kV doc pmv an cdv ct _ ws hz)) (xn_sp g1 r3 t1 f1)
/-! C(), a class of exceptions without an __init__ of its own -/
theorem te_xb0 {B newId initId : String} {bmB : List Value} (F : ExcBaseFacts B newId initId bmB) (q : PySem.W.excIn X.K C bmB newId = true) (gC : X.mg x = some (.ref C)) (kC : PySem.W.keepIn X.K (.ref C) = true) (hg : Gl X x) (hdb : (x == ("__debug__" : Str)) = false := by decide) :
    PE X (.Call (.Name x p) [] [] pos) (LE X.K (eC (.exc C [] []))) := by
  constructor
  intro pins s σ H Q I ⟨w, ρ, P, g, er, t, fn⟩
  refine wpAny_Call_Name_kw (ld_glob I hg gC ?_ hdb)
  refine PySem.W.callWith_K0 I.kIn kC ?_
  obtain ⟨bm, N, nm, qn, bs, hdct, sn, sub, ab, col, dd, k0, k1, k2, k3, k5, mN, hC, hN, hni, T⟩ := exc_obj I.kIn q
  refine wpAny_call_exc_subT F T hC hN hni (fun h' a hm => ?_) (by rw [sizeLine_eq]; decide)
  have hn : H a = none := I.hok.gone hm.new
  obtain ⟨t0, ht, _, _⟩ := hm.there
  refine ⟨.ref a, upd H a (exo a C none), I.laidN hm.keeps hm.new hn (exo_ok ht), rfl, ?_⟩
  exact fn (.exc C [] []) _ w _ (Ev.new g hn) (g.new hn) ⟨a, none, [], rfl, g.dead hn, upd_same, rfl, rfl, rfl⟩ t
end
/-! a list times a number -/
def dRep : R2D := fun x y μ P => match x, y with
  | .lst xs, .int k => 0 ≤ k ∧ k < 1000 ∧ xs.length * k.toNat ≤ 1000 ∧ P (.lst (List.replicate k.toNat xs).flatten) μ
  | _, _ => False
theorem RpAll.rep {K : PySem.W.Frag} {w : Wo} {H : Hp} {ds : List D} {vs : List V} (r : RpAll K w H ds vs) : ∀ n : Nat, RpAll K w H (List.replicate n ds).flatten (List.replicate n vs).flatten
  | 0 => rfl
  | n + 1 => by
    rw [List.replicate_succ, List.replicate_succ, List.flatten_cons, List.flatten_cons]
    exact r.append (RpAll.rep r n)
theorem od_rep {K : PySem.W.Frag} : OpD K rRep dRep := by
  intro w H x y dx dy P Q g rx ry t f
  unfold dRep at t
  split at t
  · obtain ⟨a, vs, e1, h1, r1⟩ := rx
    obtain ⟨t1, t2, t3, t4⟩ := t
    exact ⟨a, _, vs, e1, ry, h1.2, by omega, by omega, by rw [r1.length, sizeLine_eq]; omega, fun p hp => f.lst g hp (r1.rep _) t4⟩
  · exact t.elim
/-! classes by number -/
def cA (cs : List Addr) (i : Nat) : Addr := cs.getD i 0
def cAs (cs : List Addr) (l : List Nat) : List Addr := l.map (cA cs)
end Tr
set_option Elab.async false
set_option linter.all false
set_option maxRecDepth 100000
namespace W00
open PySem PySem.Spec PyProof.Rows L2 RZ Tr
/-! ### the classes by number -/
def nmL : List Str := List.map Str.ofString ["SkyError", "Missing", "InvalidNumber", "InvalidGauge", "InvalidPlace", "InvalidChart", "InvalidWind", "InvalidTop", "InvalidText", "InvalidRegion", "InvalidPath", "InvalidSquall", "InvalidHeights", "InvalidMirror", "InvalidSaying", "OffChart", "OtherChart", "TooMany", "NotForced", "InvalidPaper", "NoSky", "HasSky", "NotPlain", "Unkept", "InvalidStation", "NoBranch", "OnLand", "InvalidWay", "InvalidMeasure", "NoWay", "NoCase", "Impossible", "InvalidDeed", "NoDraft", "Ended", "UnknownPlace", "UnknownSaying", "UnknownGauge", "UnknownCase", "UnknownReport", "UnknownWatch", "NothingLeft"]
def nm (i : Nat) : Str := nmL.getD i ""
/-- the parent by number: 42 and on the built-in ones -/
def par : List Nat := [100, 101, 0, 0, 0, 0, 0, 0, 0, 0, 0, 0, 0, 0, 0, 0, 0, 0, 0, 0, 0, 0, 0, 0, 0, 0, 0, 0, 0, 0, 0, 0, 0, 0, 0, 1, 1, 1, 1, 1, 1, 102]
def up : Nat → List Nat
  | 100 => [100]
  | 101 => [101]
  | 102 => [102, 101]
  | i => i :: (match par.getD i 0 with
    | 100 => [100]
    | 101 => [101]
    | 102 => [102, 101]
    | j => j :: (match par.getD j 0 with
      | 100 => [100]
      | 101 => [101]
      | 102 => [102, 101]
      | k => [k]))
def sub (i j : Nat) : Bool := (up i).contains j
def nOf (cs : List Addr) (a : Addr) : Option Nat := if cs.idxOf a < cs.length then some (cs.idxOf a) else none
def tbl (cs : List Addr) (C : Addr) (c : D) : Option Bool := match nOf cs C with
  | none => none
  | some i => match c with
    | .ref a => (nOf cs a).map (sub i)
    | .ty "ValueError" => some (sub i 100)
    | .ty "LookupError" => some (sub i 101)
    | .ty "IndexError" => some (sub i 102)
    | _ => none
/-! ### what each def promises -/
def xv (cs : List Addr) (i : Nat) (ns : List Str) (ds : List D) : D := .exc (cA cs i) ("code" :: ns.reverse) (.str (nm i) :: ds.reverse)
def okX : Nat → D → Prop := fun n d => ok n d = true
/-- a list of exceptions of the classes is, each with the one field f worth x -/
def xs1 (cs : List Addr) (is : List Nat) (f : Str) (x : D) : List D := is.map fun i => xv cs i [f] [x]
def isV : List Nat := [2, 3, 4, 7, 13, 25, 26, 28, 35, 36, 37, 38, 39, 40]
def isA : List Nat := [6, 9, 10, 11, 14, 18, 22, 23, 24, 27, 32]
def isN : List Nat := [12, 16, 19, 21, 29, 30, 33, 34, 41]
def isO : List Nat := [5, 8, 15, 17, 20, 31]
def sp_by_value (cs : List Addr) : RAD := fun ds μ P => ∃ x, ds = [x] ∧ P (.lst (xs1 cs isV "value" x)) μ
def sp_by_value_too (cs : List Addr) : RAD := sp_by_value cs
def sp_by_at (cs : List Addr) : RAD := fun ds μ P => ∃ x, ds = [x] ∧ P (.lst (xs1 cs isA "at" x)) μ
def sp_by_at_too (cs : List Addr) : RAD := sp_by_at cs
def sp_by_none (cs : List Addr) : RAD := fun ds μ P => ds = [] ∧ P (.lst (isN.map fun i => xv cs i [] [])) μ
def pairX (cs : List Addr) (i : Nat) (ns : List Str) (ds : List D) : D := .tup [xv cs i ns ds, xv cs i ns ds]
def sp_others (cs : List Addr) : RAD := fun ds μ P => ∃ x y, ds = [x, y] ∧ P (.lst [pairX cs 5 ["row", "column"] [x, y], pairX cs 8 ["line", "why"] [x, y], pairX cs 15 ["place"] [x], pairX cs 17 ["most"] [x], pairX cs 20 ["grounds"] [x], pairX cs 31 ["core"] [x]]) μ
/-- isinstance of an exception of the class i with each of the classes js -/
def kinds (i : Nat) (js : List Nat) : D := .lst (js.map fun j => .bl (sub i j))
def spKinds (cs : List Addr) (js : List Nat) : RAD := fun ds μ P => ∃ i ns vs, ds = [.exc (cA cs i) ns vs] ∧ i < 42 ∧ P (kinds i js) μ
def sp_first_kinds (cs : List Addr) : RAD := spKinds cs isV
def sp_next_kinds (cs : List Addr) : RAD := spKinds cs isA
def sp_last_kinds (cs : List Addr) : RAD := spKinds cs (isN ++ isO)
def titlesL : List Nat := isV ++ isA ++ isN ++ isO
def sp_titles : RAD := fun ds μ P => ds = [] ∧ P (.lst (titlesL.map fun i => .str (nm i))) μ
def sp_is (cs : List Addr) : RAD := fun ds μ P => ∃ i ns vs, ds = [.exc (cA cs i) ("code" :: ns) (.str (nm i) :: vs), .str (nm i)] ∧ i ∈ titlesL ∧ P (.bl true) μ
def sp_worth : RAD := fun ds μ P => ∃ n, ds = [.loc n] ∧ BagAt μ n ∧ ∀ d μ', ok 1 d = true → Dr n μ μ' → P d μ'
def sp_law (cs : List Addr) : RAD := fun ds μ P => ∃ ns : List Int, ds = [.fz (ns.map D.int)] ∧ ns.length ≤ 63 ∧ ∀ μ', P (.bl true) μ'
/-! ### the text by places -/
def topS (i : Nat) : Stmt := PySem.Challenge.pw_highestsky_k00_errors_by_themselves.main.body.getD i (.Pass ⟨0, 0, 0, 0⟩)
abbrev s_InvalidNumber : Stmt := inClass (topS 3) 0
abbrev s_InvalidGauge : Stmt := inClass (topS 4) 0
abbrev s_InvalidPlace : Stmt := inClass (topS 5) 0
abbrev s_InvalidChart : Stmt := inClass (topS 6) 0
abbrev s_InvalidWind : Stmt := inClass (topS 7) 0
abbrev s_InvalidTop : Stmt := inClass (topS 8) 0
abbrev s_InvalidText : Stmt := inClass (topS 9) 0
abbrev s_InvalidRegion : Stmt := inClass (topS 10) 0
abbrev s_InvalidPath : Stmt := inClass (topS 11) 0
abbrev s_InvalidSquall : Stmt := inClass (topS 12) 0
abbrev s_InvalidHeights : Stmt := inClass (topS 13) 0
abbrev s_InvalidMirror : Stmt := inClass (topS 14) 0
abbrev s_InvalidSaying : Stmt := inClass (topS 15) 0
abbrev s_OffChart : Stmt := inClass (topS 16) 0
abbrev s_OtherChart : Stmt := inClass (topS 17) 0
abbrev s_TooMany : Stmt := inClass (topS 18) 0
abbrev s_NotForced : Stmt := inClass (topS 19) 0
abbrev s_InvalidPaper : Stmt := inClass (topS 20) 0
abbrev s_NoSky : Stmt := inClass (topS 21) 0
abbrev s_HasSky : Stmt := inClass (topS 22) 0
abbrev s_NotPlain : Stmt := inClass (topS 23) 0
abbrev s_Unkept : Stmt := inClass (topS 24) 0
abbrev s_InvalidStation : Stmt := inClass (topS 25) 0
abbrev s_NoBranch : Stmt := inClass (topS 26) 0
abbrev s_OnLand : Stmt := inClass (topS 27) 0
abbrev s_InvalidWay : Stmt := inClass (topS 28) 0
abbrev s_InvalidMeasure : Stmt := inClass (topS 29) 0
abbrev s_NoWay : Stmt := inClass (topS 30) 0
abbrev s_NoCase : Stmt := inClass (topS 31) 0
abbrev s_Impossible : Stmt := inClass (topS 32) 0
abbrev s_InvalidDeed : Stmt := inClass (topS 33) 0
abbrev s_NoDraft : Stmt := inClass (topS 34) 0
abbrev s_Ended : Stmt := inClass (topS 35) 0
abbrev s_UnknownPlace : Stmt := inClass (topS 36) 0
abbrev s_UnknownSaying : Stmt := inClass (topS 37) 0
abbrev s_UnknownGauge : Stmt := inClass (topS 38) 0
abbrev s_UnknownCase : Stmt := inClass (topS 39) 0
abbrev s_UnknownReport : Stmt := inClass (topS 40) 0
abbrev s_UnknownWatch : Stmt := inClass (topS 41) 0
abbrev s_NothingLeft : Stmt := inClass (topS 42) 0
structure Txt (K : PySem.W.Frag) (mg : Str → Option Value) (cs : List Addr) : Prop where
  len : cs.length = 42
  nd : cs.Nodup
  n_IndexError : mg "IndexError" = none
  n_LookupError : mg "LookupError" = none
  n_ValueError : mg "ValueError" = none
  n_all : mg "all" = none
  n_any : mg "any" = none
  n_bool : mg "bool" = none
  n_enumerate : mg "enumerate" = none
  n_int : mg "int" = none
  n_isinstance : mg "isinstance" = none
  n_len : mg "len" = none
  n_list : mg "list" = none
  n_range : mg "range" = none
  n_str : mg "str" = none
  n_tuple : mg "tuple" = none
  n_zip : mg "zip" = none
  m_SkyError : mg "SkyError" = some (.ref (cA cs 0))
  m_Missing : mg "Missing" = some (.ref (cA cs 1))
  m_InvalidNumber : mg "InvalidNumber" = some (.ref (cA cs 2))
  m_InvalidGauge : mg "InvalidGauge" = some (.ref (cA cs 3))
  m_InvalidPlace : mg "InvalidPlace" = some (.ref (cA cs 4))
  m_InvalidChart : mg "InvalidChart" = some (.ref (cA cs 5))
  m_InvalidWind : mg "InvalidWind" = some (.ref (cA cs 6))
  m_InvalidTop : mg "InvalidTop" = some (.ref (cA cs 7))
  m_InvalidText : mg "InvalidText" = some (.ref (cA cs 8))
  m_InvalidRegion : mg "InvalidRegion" = some (.ref (cA cs 9))
  m_InvalidPath : mg "InvalidPath" = some (.ref (cA cs 10))
  m_InvalidSquall : mg "InvalidSquall" = some (.ref (cA cs 11))
  m_InvalidHeights : mg "InvalidHeights" = some (.ref (cA cs 12))
  m_InvalidMirror : mg "InvalidMirror" = some (.ref (cA cs 13))
  m_InvalidSaying : mg "InvalidSaying" = some (.ref (cA cs 14))
  m_OffChart : mg "OffChart" = some (.ref (cA cs 15))
  m_OtherChart : mg "OtherChart" = some (.ref (cA cs 16))
  m_TooMany : mg "TooMany" = some (.ref (cA cs 17))
  m_NotForced : mg "NotForced" = some (.ref (cA cs 18))
  m_InvalidPaper : mg "InvalidPaper" = some (.ref (cA cs 19))
  m_NoSky : mg "NoSky" = some (.ref (cA cs 20))
  m_HasSky : mg "HasSky" = some (.ref (cA cs 21))
  m_NotPlain : mg "NotPlain" = some (.ref (cA cs 22))
  m_Unkept : mg "Unkept" = some (.ref (cA cs 23))
  m_InvalidStation : mg "InvalidStation" = some (.ref (cA cs 24))
  m_NoBranch : mg "NoBranch" = some (.ref (cA cs 25))
  m_OnLand : mg "OnLand" = some (.ref (cA cs 26))
  m_InvalidWay : mg "InvalidWay" = some (.ref (cA cs 27))
  m_InvalidMeasure : mg "InvalidMeasure" = some (.ref (cA cs 28))
  m_NoWay : mg "NoWay" = some (.ref (cA cs 29))
  m_NoCase : mg "NoCase" = some (.ref (cA cs 30))
  m_Impossible : mg "Impossible" = some (.ref (cA cs 31))
  m_InvalidDeed : mg "InvalidDeed" = some (.ref (cA cs 32))
  m_NoDraft : mg "NoDraft" = some (.ref (cA cs 33))
  m_Ended : mg "Ended" = some (.ref (cA cs 34))
  m_UnknownPlace : mg "UnknownPlace" = some (.ref (cA cs 35))
  m_UnknownSaying : mg "UnknownSaying" = some (.ref (cA cs 36))
  m_UnknownGauge : mg "UnknownGauge" = some (.ref (cA cs 37))
  m_UnknownCase : mg "UnknownCase" = some (.ref (cA cs 38))
  m_UnknownReport : mg "UnknownReport" = some (.ref (cA cs 39))
  m_UnknownWatch : mg "UnknownWatch" = some (.ref (cA cs 40))
  m_NothingLeft : mg "NothingLeft" = some (.ref (cA cs 41))
  fd_value : XfdC K "value" (cAs cs [2, 3, 4, 7, 13, 25, 26, 28, 35, 36, 37, 38, 39, 40])
  fd_code : XfdC K "code" (cAs cs [2, 3, 4, 5, 6, 7, 8, 9, 10, 11, 12, 13, 14, 15, 16, 17, 18, 19, 20, 21, 22, 23, 24, 25, 26, 27, 28, 29, 30, 31, 32, 33, 34, 35, 36, 37, 38, 39, 40, 41])
  fd_row : XfdC K "row" (cAs cs [5])
  fd_column : XfdC K "column" (cAs cs [5])
  fd_at : XfdC K "at" (cAs cs [6, 9, 10, 11, 14, 18, 22, 23, 24, 27, 32])
  fd_line : XfdC K "line" (cAs cs [8])
  fd_why : XfdC K "why" (cAs cs [8])
  fd_place : XfdC K "place" (cAs cs [15])
  fd_most : XfdC K "most" (cAs cs [17])
  fd_grounds : XfdC K "grounds" (cAs cs [20])
  fd_core : XfdC K "core" (cAs cs [31])
  isx : IsXT K (tbl cs)
  q_SkyError : PySem.W.excIn K (cA cs 0) [.type "ValueError", .type "Exception", .type "BaseException", .type "object"] "ValueError.__new__" = true
  k_SkyError : PySem.W.keepIn K (.ref (cA cs 0)) = true
  q_Missing : PySem.W.excIn K (cA cs 1) [.type "LookupError", .type "Exception", .type "BaseException", .type "object"] "LookupError.__new__" = true
  k_Missing : PySem.W.keepIn K (.ref (cA cs 1)) = true
structure Xns (P : Program) (wd : World) (K : PySem.W.Frag) (mg : Str → Option Value) (base : Heap) (cs : List Addr) : Prop where
  x_InvalidNumber : XnI P wd K mg base "InvalidNumber" (cA cs 2) s_InvalidNumber 1 ["value"] "InvalidNumber"
  x_InvalidGauge : XnI P wd K mg base "InvalidGauge" (cA cs 3) s_InvalidGauge 1 ["value"] "InvalidGauge"
  x_InvalidPlace : XnI P wd K mg base "InvalidPlace" (cA cs 4) s_InvalidPlace 1 ["value"] "InvalidPlace"
  x_InvalidChart : XnI P wd K mg base "InvalidChart" (cA cs 5) s_InvalidChart 1 ["row", "column"] "InvalidChart"
  x_InvalidWind : XnI P wd K mg base "InvalidWind" (cA cs 6) s_InvalidWind 1 ["at"] "InvalidWind"
  x_InvalidTop : XnI P wd K mg base "InvalidTop" (cA cs 7) s_InvalidTop 1 ["value"] "InvalidTop"
  x_InvalidText : XnI P wd K mg base "InvalidText" (cA cs 8) s_InvalidText 1 ["line", "why"] "InvalidText"
  x_InvalidRegion : XnI P wd K mg base "InvalidRegion" (cA cs 9) s_InvalidRegion 1 ["at"] "InvalidRegion"
  x_InvalidPath : XnI P wd K mg base "InvalidPath" (cA cs 10) s_InvalidPath 1 ["at"] "InvalidPath"
  x_InvalidSquall : XnI P wd K mg base "InvalidSquall" (cA cs 11) s_InvalidSquall 1 ["at"] "InvalidSquall"
  x_InvalidHeights : XnI P wd K mg base "InvalidHeights" (cA cs 12) s_InvalidHeights 1 [] "InvalidHeights"
  x_InvalidMirror : XnI P wd K mg base "InvalidMirror" (cA cs 13) s_InvalidMirror 1 ["value"] "InvalidMirror"
  x_InvalidSaying : XnI P wd K mg base "InvalidSaying" (cA cs 14) s_InvalidSaying 1 ["at"] "InvalidSaying"
  x_OffChart : XnI P wd K mg base "OffChart" (cA cs 15) s_OffChart 1 ["place"] "OffChart"
  x_OtherChart : XnI P wd K mg base "OtherChart" (cA cs 16) s_OtherChart 1 [] "OtherChart"
  x_TooMany : XnI P wd K mg base "TooMany" (cA cs 17) s_TooMany 1 ["most"] "TooMany"
  x_NotForced : XnI P wd K mg base "NotForced" (cA cs 18) s_NotForced 1 ["at"] "NotForced"
  x_InvalidPaper : XnI P wd K mg base "InvalidPaper" (cA cs 19) s_InvalidPaper 1 [] "InvalidPaper"
  x_NoSky : XnI P wd K mg base "NoSky" (cA cs 20) s_NoSky 1 ["grounds"] "NoSky"
  x_HasSky : XnI P wd K mg base "HasSky" (cA cs 21) s_HasSky 1 [] "HasSky"
  x_NotPlain : XnI P wd K mg base "NotPlain" (cA cs 22) s_NotPlain 1 ["at"] "NotPlain"
  x_Unkept : XnI P wd K mg base "Unkept" (cA cs 23) s_Unkept 1 ["at"] "Unkept"
  x_InvalidStation : XnI P wd K mg base "InvalidStation" (cA cs 24) s_InvalidStation 1 ["at"] "InvalidStation"
  x_NoBranch : XnI P wd K mg base "NoBranch" (cA cs 25) s_NoBranch 1 ["value"] "NoBranch"
  x_OnLand : XnI P wd K mg base "OnLand" (cA cs 26) s_OnLand 1 ["value"] "OnLand"
  x_InvalidWay : XnI P wd K mg base "InvalidWay" (cA cs 27) s_InvalidWay 1 ["at"] "InvalidWay"
  x_InvalidMeasure : XnI P wd K mg base "InvalidMeasure" (cA cs 28) s_InvalidMeasure 1 ["value"] "InvalidMeasure"
  x_NoWay : XnI P wd K mg base "NoWay" (cA cs 29) s_NoWay 1 [] "NoWay"
  x_NoCase : XnI P wd K mg base "NoCase" (cA cs 30) s_NoCase 1 [] "NoCase"
  x_Impossible : XnI P wd K mg base "Impossible" (cA cs 31) s_Impossible 1 ["core"] "Impossible"
  x_InvalidDeed : XnI P wd K mg base "InvalidDeed" (cA cs 32) s_InvalidDeed 1 ["at"] "InvalidDeed"
  x_NoDraft : XnI P wd K mg base "NoDraft" (cA cs 33) s_NoDraft 1 [] "NoDraft"
  x_Ended : XnI P wd K mg base "Ended" (cA cs 34) s_Ended 1 [] "Ended"
  x_UnknownPlace : XnI P wd K mg base "UnknownPlace" (cA cs 35) s_UnknownPlace 1 ["value"] "UnknownPlace"
  x_UnknownSaying : XnI P wd K mg base "UnknownSaying" (cA cs 36) s_UnknownSaying 1 ["value"] "UnknownSaying"
  x_UnknownGauge : XnI P wd K mg base "UnknownGauge" (cA cs 37) s_UnknownGauge 1 ["value"] "UnknownGauge"
  x_UnknownCase : XnI P wd K mg base "UnknownCase" (cA cs 38) s_UnknownCase 1 ["value"] "UnknownCase"
  x_UnknownReport : XnI P wd K mg base "UnknownReport" (cA cs 39) s_UnknownReport 1 ["value"] "UnknownReport"
  x_UnknownWatch : XnI P wd K mg base "UnknownWatch" (cA cs 40) s_UnknownWatch 1 ["value"] "UnknownWatch"
  x_NothingLeft : XnI P wd K mg base "NothingLeft" (cA cs 41) s_NothingLeft 1 [] "NothingLeft"
section
variable {P : Program} {wd : World} {K : PySem.W.Frag} {mg : Str → Option Value} {base : Heap}

abbrev s_bag : Stmt := topS 44
def n_bag : List Str := ["_law_script", "_law_cells_z", "_law_mark", "_law_cell_z"]
theorem sc_bag : FnScope ["_law_script", "_law_cells_z", "_law_mark", "_law_cell_z"] ["_law_script"] (defScope s_bag) := ⟨rfl, rfl, rfl, by decide +kernel, rfl, by decide +kernel, by decide +kernel⟩
def b_bag (cs : List Addr) : ST :=
  (sSeq (sSet 1 (eComp (itAny (eSl (eVar 0) oNo (oYes (eC (.int 63))))) (.nm 3) bYes (eCall dIntOf (aCons (eVar 3) aNil)) [3]))
  (sSeq (sSet 2 (eOp dAdd (eC (.int 120310)) (eOp dMul (eC (.int 61)) (eCall dLen (aCons (eVar 1) aNil)))))
  (sSeq (sFor (itAny (eVar 1)) (.nm 3)
  (sSet 2 (eOp dMod (eCall dIntOf (aCons (eOp dAdd (eOp dMul (eVar 2) (eC (.int 6947))) (eVar 3)) aNil)) (eC (.int 2147483423)))))
  (sRet (eLstL (aCons (eVar 1) (aCons (eC (.int 0)) (aCons (eC (.int 0)) (aCons (eVar 2) aNil)))))))))
theorem pb_bag (cs : List Addr) {fa : Addr} (T : Txt K mg cs) (XX : Xns P wd K mg base cs) 
    (cdv : Value) (A : Around) (outer : List PySem.Env) (s : Shared) (H : Hp) (E : XK) (hr : Room (0) (A.deeper (envOfC "_law_bag" (defScope s_bag) s.heap.objs.size fa cdv))) :
    PSs (cxOf CX0 P wd K mg base ["_law_script", "_law_cells_z", "_law_mark", "_law_cell_z"] "_law_bag" (defScope s_bag) fa cdv A outer s H E).nox (defBody s_bag) (LS K (b_bag cs)) :=
  (ss_cons (ss_comp (i := 1) rfl sc_bag.nd rfl rfl (sw_true rfl rfl rfl (by decide +kernel)) (ti_any (te_sl (te_var (pv 0)) to_no (to_yes te_int))) (blkOk_by (own := [("_law_cell_z", 3)]) (N := n_bag) (sc := defScope s_bag) (by decide +kernel)) (fun _ _ _ _ _ => (tg_nm (i := 3) sc_bag.nd rfl (Or.inl rfl))) (fun _ _ _ _ _ => tts_nil) (fun _ _ _ _ _ => (te_callTy call_intA cd_int (by rfl) T.n_int (by decide +kernel) (ta_cons (te_var (pv 3)) ta_nil))) (by decide))
  (ss_cons (ss_set (i := 2) sc_bag.nd rfl (Or.inl rfl) (te_op op_addA od_add te_int (te_op op_mul od_mul te_int (te_callB call_len cd_len (by rfl) T.n_len (by decide +kernel) (ta_cons (te_var (pv 1)) ta_nil)))))
  (ss_cons (ss_for PassesOwn.never rfl (ti_any (te_var (pv 1))) (tg_nm (i := 3) sc_bag.nd rfl (Or.inl rfl))
  (ss_one (ss_set (i := 2) sc_bag.nd rfl (Or.inl rfl) (te_op op_mod od_mod (te_callTy call_intA cd_int (by rfl) T.n_int (by decide +kernel) (ta_cons (te_op op_addA od_add (te_op op_mul od_mul (te_var (pv 2)) te_int) (te_var (pv 3))) ta_nil)) te_int))))
  (ss_one (ss_ret (te_lstL (ta_cons (te_var (pv 1)) (ta_cons te_int (ta_cons te_int (ta_cons (te_var (pv 2)) ta_nil))))))))))
abbrev s_draw : Stmt := topS 45
def n_draw : List Str := ["_law_bag_here", "_law_many", "_law_cell_z", "_law_mixed", "_law_second", "_law_digit"]
theorem sc_draw : FnScope ["_law_bag_here", "_law_many", "_law_cell_z", "_law_mixed", "_law_second", "_law_digit"] ["_law_bag_here", "_law_many"] (defScope s_draw) := ⟨rfl, rfl, rfl, by decide +kernel, rfl, by decide +kernel, by decide +kernel⟩
def b_draw (cs : List Addr) : ST :=
  (sSeq (sIf (bB (eOp dLt (eOp dIx (eVar 0) (eC (.int 2))) (eC (.int 2))))
  (sSeq (sPut (eOp dAdd (eOp dIx (eVar 0) (eC (.int 1))) (eC (.int 1))) (eVar 0) (eC (.int 1)))
  (sSeq (sSet 2 (eOp dAdd (eOp dIx (eVar 0) (eC (.int 3))) (eOp dMul (eOp dIx (eVar 0) (eC (.int 1))) (eC (.int 9241)))))
  (sSeq (sIf (bB (eOp dLe (eOp dIx (eVar 0) (eC (.int 1))) (eCall dLen (aCons (eOp dIx (eVar 0) (eC (.int 0))) aNil))))
  (sSet 2 (eOp dIx (eOp dIx (eVar 0) (eC (.int 0))) (eOp dSub (eOp dIx (eVar 0) (eC (.int 1))) (eC (.int 1))))) sNext)
  (sSeq (sIf (bOr (bB (eOp dGt (eOp dIx (eVar 0) (eC (.int 1))) (eCall dLen (aCons (eOp dIx (eVar 0) (eC (.int 0))) aNil)))) (bB (eOp dLt (eVar 2) (eOp dPow (eC (.int 10)) (eC (.int 18))))))
  (sSeq (sSet 3 (eOp dMod (eCall dIntOf (aCons (eOp dAdd (eOp dAdd (eOp dMul (eVar 2) (eC (.int 43051))) (eOp dMul (eOp dIx (eVar 0) (eC (.int 1))) (eC (.int 39119)))) (eOp dIx (eVar 0) (eC (.int 3)))) aNil)) (eC (.int 2147483587))))
  (sSeq (sSet 4 (eOp dMod (eCall dIntOf (aCons (eOp dAdd (eOp dMul (eVar 3) (eVar 3)) (eOp dMul (eOp dIx (eVar 0) (eC (.int 1))) (eC (.int 60607)))) aNil)) (eC (.int 998244353))))
  (sRet (eOp dMod (eOp dFdiv (eOp dMod (eCall dIntOf (aCons (eOp dAdd (eOp dMul (eVar 4) (eC (.int 46819))) (eVar 3)) aNil)) (eC (.int 2147483549))) (eC (.int 23))) (eVar 1))))) sNext)
  (sPut (eVar 2) (eVar 0) (eC (.int 2))))))) sNext)
  (sSeq (sSet 5 (eOp dMod (eCall dIntOf (aCons (eOp dIx (eVar 0) (eC (.int 2))) aNil)) (eVar 1)))
  (sSeq (sPut (eOp dFdiv (eCall dIntOf (aCons (eOp dIx (eVar 0) (eC (.int 2))) aNil)) (eVar 1)) (eVar 0) (eC (.int 2)))
  (sRet (eVar 5)))))
theorem pb_draw (cs : List Addr) {fa : Addr} (T : Txt K mg cs) (XX : Xns P wd K mg base cs) 
    (cdv : Value) (A : Around) (outer : List PySem.Env) (s : Shared) (H : Hp) (E : XK) (hr : Room (0) (A.deeper (envOfC "_law_draw" (defScope s_draw) s.heap.objs.size fa cdv))) :
    PSs (cxOf CX0 P wd K mg base ["_law_bag_here", "_law_many", "_law_cell_z", "_law_mixed", "_law_second", "_law_digit"] "_law_draw" (defScope s_draw) fa cdv A outer s H E).nox (defBody s_draw) (LS K (b_draw cs)) :=
  (ss_cons (ss_if (tb_cmp op_ltA od_lt (te_ix (te_var (pv 0)) te_int (fun _ _ => rfl)) te_int (nomark _))
  (ss_cons (ss_put (te_op op_addA od_add (te_ix (te_var (pv 0)) te_int (fun _ _ => rfl)) te_int) (te_var (pv 0)) te_int (pg_sub (te_var (pv 0)) te_int set_list))
  (ss_cons (ss_set (i := 2) sc_draw.nd rfl (Or.inl rfl) (te_op op_addA od_add (te_ix (te_var (pv 0)) te_int (fun _ _ => rfl)) (te_op op_mul od_mul (te_ix (te_var (pv 0)) te_int (fun _ _ => rfl)) te_int)))
  (ss_cons (ss_if (tb_cmp op_leA od_le (te_ix (te_var (pv 0)) te_int (fun _ _ => rfl)) (te_callB call_len cd_len (by rfl) T.n_len (by decide +kernel) (ta_cons (te_ix (te_var (pv 0)) te_int (fun _ _ => rfl)) ta_nil)) (nomark _))
  (ss_one (ss_set (i := 2) sc_draw.nd rfl (Or.inl rfl) (te_ix (te_ix (te_var (pv 0)) te_int (fun _ _ => rfl)) (te_op op_sub od_sub (te_ix (te_var (pv 0)) te_int (fun _ _ => rfl)) te_int) (fun _ _ => rfl)))) ss_nil)
  (ss_cons (ss_if (PW.pt (tw_or (tb_cmp op_gtA od_gt (te_ix (te_var (pv 0)) te_int (fun _ _ => rfl)) (te_callB call_len cd_len (by rfl) T.n_len (by decide +kernel) (ta_cons (te_ix (te_var (pv 0)) te_int (fun _ _ => rfl)) ta_nil)) (nomark _)) (tw_or1 (tb_cmp op_ltA od_lt (te_var (pv 2)) (te_op op_pow od_pow te_int te_int) (nomark _)))))
  (ss_cons (ss_set (i := 3) sc_draw.nd rfl (Or.inl rfl) (te_op op_mod od_mod (te_callTy call_intA cd_int (by rfl) T.n_int (by decide +kernel) (ta_cons (te_op op_addA od_add (te_op op_addA od_add (te_op op_mul od_mul (te_var (pv 2)) te_int) (te_op op_mul od_mul (te_ix (te_var (pv 0)) te_int (fun _ _ => rfl)) te_int)) (te_ix (te_var (pv 0)) te_int (fun _ _ => rfl))) ta_nil)) te_int))
  (ss_cons (ss_set (i := 4) sc_draw.nd rfl (Or.inl rfl) (te_op op_mod od_mod (te_callTy call_intA cd_int (by rfl) T.n_int (by decide +kernel) (ta_cons (te_op op_addA od_add (te_op op_mul od_mul (te_var (pv 3)) (te_var (pv 3))) (te_op op_mul od_mul (te_ix (te_var (pv 0)) te_int (fun _ _ => rfl)) te_int)) ta_nil)) te_int))
  (ss_one (ss_ret (te_op op_mod od_mod (te_op op_fdiv od_fdiv (te_op op_mod od_mod (te_callTy call_intA cd_int (by rfl) T.n_int (by decide +kernel) (ta_cons (te_op op_addA od_add (te_op op_mul od_mul (te_var (pv 4)) te_int) (te_var (pv 3))) ta_nil)) te_int) te_int) (te_var (pv 1))))))) ss_nil)
  (ss_one (ss_put (te_var (pv 2)) (te_var (pv 0)) te_int (pg_sub (te_var (pv 0)) te_int set_list))))))) ss_nil)
  (ss_cons (ss_set (i := 5) sc_draw.nd rfl (Or.inl rfl) (te_op op_mod od_mod (te_callTy call_intA cd_int (by rfl) T.n_int (by decide +kernel) (ta_cons (te_ix (te_var (pv 0)) te_int (fun _ _ => rfl)) ta_nil)) (te_var (pv 1))))
  (ss_cons (ss_put (te_op op_fdiv od_fdiv (te_callTy call_intA cd_int (by rfl) T.n_int (by decide +kernel) (ta_cons (te_ix (te_var (pv 0)) te_int (fun _ _ => rfl)) ta_nil)) (te_var (pv 1))) (te_var (pv 0)) te_int (pg_sub (te_var (pv 0)) te_int set_list))
  (ss_one (ss_ret (te_var (pv 5)))))))
abbrev s_pick : Stmt := topS 46
def n_pick : List Str := ["_law_bag_here", "_law_some"]
theorem sc_pick : FnScope ["_law_bag_here", "_law_some"] ["_law_bag_here", "_law_some"] (defScope s_pick) := ⟨rfl, rfl, rfl, by decide +kernel, rfl, by decide +kernel, by decide +kernel⟩
def b_pick (cs : List Addr) : ST :=
  (sRet (eOp dIx (eVar 1) (eCall sp_draw (aCons (eVar 0) (aCons (eCall dLen (aCons (eVar 1) aNil)) aNil)))))
theorem pb_pick (cs : List Addr) {fa : Addr} (T : Txt K mg cs) (XX : Xns P wd K mg base cs) (G_draw : FnI P wd K mg base "_law_draw" s_draw 1 ["_law_bag_here", "_law_many"] sp_draw)
    (cdv : Value) (A : Around) (outer : List PySem.Env) (s : Shared) (H : Hp) (E : XK) (hr : Room (1) (A.deeper (envOfC "_law_pick" (defScope s_pick) s.heap.objs.size fa cdv))) :
    PSs (cxOf CX0 P wd K mg base ["_law_bag_here", "_law_some"] "_law_pick" (defScope s_pick) fa cdv A outer s H E).nox (defBody s_pick) (LS K (b_pick cs)) :=
  (ss_one (ss_ret (te_ix (te_var (pv 1)) (te_fn G_draw hr rfl (ta_cons (te_var (pv 0)) (ta_cons (te_callB call_len cd_len (by rfl) T.n_len (by decide +kernel) (ta_cons (te_var (pv 1)) ta_nil)) ta_nil))) (fun _ _ => rfl))))
abbrev s_same : Stmt := topS 47
def n_same : List Str := ["_law_found", "_law_due", "_law_one", "_law_two"]
theorem sc_same : FnScope ["_law_found", "_law_due", "_law_one", "_law_two"] ["_law_found", "_law_due"] (defScope s_same) := ⟨rfl, rfl, rfl, by decide +kernel, rfl, by decide +kernel, by decide +kernel⟩
def b_same (cs : List Addr) (n : Nat) : ST :=
  (sSeq (sIf (bOr (bB (eOp dIs (eVar 1) (eC .non))) (bB (eOp dIs (eVar 0) (eC .non))))
  (sRet (eAnd (eOp dIs (eVar 1) (eC .non)) (eOp dIs (eVar 0) (eC .non)))) sNext)
  (sSeq (sIf (bOr (bT (eCall dIsi (aCons (eVar 1) (aCons (eTup (aCons (eC (.ty "list")) (aCons (eC (.ty "tuple")) aNil))) aNil)))) (bT (eCall dIsi (aCons (eVar 0) (aCons (eTup (aCons (eC (.ty "list")) (aCons (eC (.ty "tuple")) aNil))) aNil)))))
  (sSeq (sIf (bOr (bB (eOp dNe (eCall dIsi (aCons (eVar 1) (aCons (eC (.ty "list")) aNil))) (eCall dIsi (aCons (eVar 0) (aCons (eC (.ty "list")) aNil))))) (bB (eOp dNe (eCall dIsi (aCons (eVar 1) (aCons (eC (.ty "tuple")) aNil))) (eCall dIsi (aCons (eVar 0) (aCons (eC (.ty "tuple")) aNil))))))
  (sRet (eC (.bl false))) sNext)
  (sRet (eAnd (eOp dEq (eCall dLen (aCons (eVar 0) aNil)) (eCall dLen (aCons (eVar 1) aNil))) (eCall dAll (aCons (eComp (itZip (aCons (eVar 0) (aCons (eVar 1) aNil))) (.tp [(.nm 2), (.nm 3)]) bYes (eCall (sp_same n) (aCons (eVar 2) (aCons (eVar 3) aNil))) [2, 3]) aNil))))) sNext)
  (sSeq (sIf (bOr (bB (eOp dNe (eCall dIsi (aCons (eVar 1) (aCons (eC (.ty "bool")) aNil))) (eCall dIsi (aCons (eVar 0) (aCons (eC (.ty "bool")) aNil))))) (bB (eOp dNe (eCall dIsi (aCons (eVar 1) (aCons (eC (.ty "str")) aNil))) (eCall dIsi (aCons (eVar 0) (aCons (eC (.ty "str")) aNil))))))
  (sRet (eC (.bl false))) sNext)
  (sRet (eAnd (eOp dEq (eCall dIsi (aCons (eVar 1) (aCons (eC (.ty "int")) aNil))) (eCall dIsi (aCons (eVar 0) (aCons (eC (.ty "int")) aNil)))) (eOp dEq (eVar 0) (eVar 1)))))))
theorem pb_same (cs : List Addr) (n : Nat) {fa : Addr} (T : Txt K mg cs) (XX : Xns P wd K mg base cs) (G_same : FnI P wd K mg base "_law_same" s_same (n + 1) ["_law_found", "_law_due"] (sp_same n))
    (cdv : Value) (A : Around) (outer : List PySem.Env) (s : Shared) (H : Hp) (E : XK) (hr : Room (n + 1) (A.deeper (envOfC "_law_same" (defScope s_same) s.heap.objs.size fa cdv))) :
    PSs (cxOf CX0 P wd K mg base ["_law_found", "_law_due", "_law_one", "_law_two"] "_law_same" (defScope s_same) fa cdv A outer s H E).nox (defBody s_same) (LS K (b_same cs n)) :=
  (ss_cons (ss_if (PW.pt (tw_or (tb_cmp op_isN od_is (te_var (pv 1)) te_non (nomark _)) (tw_or1 (tb_cmp op_isN od_is (te_var (pv 0)) te_non (nomark _)))))
  (ss_one (ss_ret (te_and (te_cmp op_isN od_is (te_var (pv 1)) te_non (nomark _)) (te_one (te_cmp op_isN od_is (te_var (pv 0)) te_non (nomark _)))))) ss_nil)
  (ss_cons (ss_if (PW.pt (tw_or (tb_truth (te_callB call_isiA cd_isi (by rfl) T.n_isinstance (by decide +kernel) (ta_cons (te_var (pv 1)) (ta_cons (te_tup (ta_cons (te_ty (by rfl) T.n_list (by decide +kernel)) (ta_cons (te_ty (by rfl) T.n_tuple (by decide +kernel)) ta_nil))) ta_nil)))) (tw_or1 (tb_truth (te_callB call_isiA cd_isi (by rfl) T.n_isinstance (by decide +kernel) (ta_cons (te_var (pv 0)) (ta_cons (te_tup (ta_cons (te_ty (by rfl) T.n_list (by decide +kernel)) (ta_cons (te_ty (by rfl) T.n_tuple (by decide +kernel)) ta_nil))) ta_nil)))))))
  (ss_cons (ss_if (PW.pt (tw_or (tb_cmp (op_neD (hu64 hr)) od_ne (te_callB call_isiA cd_isi (by rfl) T.n_isinstance (by decide +kernel) (ta_cons (te_var (pv 1)) (ta_cons (te_ty (by rfl) T.n_list (by decide +kernel)) ta_nil))) (te_callB call_isiA cd_isi (by rfl) T.n_isinstance (by decide +kernel) (ta_cons (te_var (pv 0)) (ta_cons (te_ty (by rfl) T.n_list (by decide +kernel)) ta_nil))) (nomark _)) (tw_or1 (tb_cmp (op_neD (hu64 hr)) od_ne (te_callB call_isiA cd_isi (by rfl) T.n_isinstance (by decide +kernel) (ta_cons (te_var (pv 1)) (ta_cons (te_ty (by rfl) T.n_tuple (by decide +kernel)) ta_nil))) (te_callB call_isiA cd_isi (by rfl) T.n_isinstance (by decide +kernel) (ta_cons (te_var (pv 0)) (ta_cons (te_ty (by rfl) T.n_tuple (by decide +kernel)) ta_nil))) (nomark _)))))
  (ss_one (ss_ret te_bl)) ss_nil)
  (ss_one (ss_ret (te_and (te_cmp (op_eqD (hu64 hr)) od_eq (te_callB call_len cd_len (by rfl) T.n_len (by decide +kernel) (ta_cons (te_var (pv 0)) ta_nil)) (te_callB call_len cd_len (by rfl) T.n_len (by decide +kernel) (ta_cons (te_var (pv 1)) ta_nil)) (nomark _)) (te_one (te_callB (cr_all rfl) cd_all (by rfl) T.n_all (by decide +kernel) (ta_cons (te_comp rfl sc_same.nd (ti_zip rfl T.n_zip (ta_cons (te_var (pv 0)) (ta_cons (te_var (pv 1)) ta_nil))) (blkOk_by (own := [("_law_one", 2), ("_law_two", 3)]) (N := n_same) (sc := defScope s_same) (by decide +kernel)) (fun _ _ _ _ _ => (tg_tp rfl (tgs_cons (tg_nm (i := 2) sc_same.nd rfl (Or.inl rfl)) (tgs_cons (tg_nm (i := 3) sc_same.nd rfl (Or.inl rfl)) tgs_nil)))) (fun _ _ _ _ _ => tts_nil) (fun _ _ _ _ _ => (te_fn G_same hr rfl (ta_cons (te_var (pv 2)) (ta_cons (te_var (pv 3)) ta_nil)))) (by decide)) ta_nil))))))) ss_nil)
  (ss_cons (ss_if (PW.pt (tw_or (tb_cmp (op_neD (hu64 hr)) od_ne (te_callB call_isiA cd_isi (by rfl) T.n_isinstance (by decide +kernel) (ta_cons (te_var (pv 1)) (ta_cons (te_ty (by rfl) T.n_bool (by decide +kernel)) ta_nil))) (te_callB call_isiA cd_isi (by rfl) T.n_isinstance (by decide +kernel) (ta_cons (te_var (pv 0)) (ta_cons (te_ty (by rfl) T.n_bool (by decide +kernel)) ta_nil))) (nomark _)) (tw_or1 (tb_cmp (op_neD (hu64 hr)) od_ne (te_callB call_isiA cd_isi (by rfl) T.n_isinstance (by decide +kernel) (ta_cons (te_var (pv 1)) (ta_cons (te_ty (by rfl) T.n_str (by decide +kernel)) ta_nil))) (te_callB call_isiA cd_isi (by rfl) T.n_isinstance (by decide +kernel) (ta_cons (te_var (pv 0)) (ta_cons (te_ty (by rfl) T.n_str (by decide +kernel)) ta_nil))) (nomark _)))))
  (ss_one (ss_ret te_bl)) ss_nil)
  (ss_one (ss_ret (te_and (te_cmp (op_eqD (hu64 hr)) od_eq (te_callB call_isiA cd_isi (by rfl) T.n_isinstance (by decide +kernel) (ta_cons (te_var (pv 1)) (ta_cons (te_ty (by rfl) T.n_int (by decide +kernel)) ta_nil))) (te_callB call_isiA cd_isi (by rfl) T.n_isinstance (by decide +kernel) (ta_cons (te_var (pv 0)) (ta_cons (te_ty (by rfl) T.n_int (by decide +kernel)) ta_nil))) (nomark _)) (te_one (te_cmp (op_eqD (hu64 hr)) od_eq (te_var (pv 0)) (te_var (pv 1)) (nomark _)))))))))
abbrev s_by_value : Stmt := topS 48
def n_by_value : List Str := ["_law_x", "_law_found"]
theorem sc_by_value : FnScope ["_law_x", "_law_found"] ["_law_x"] (defScope s_by_value) := ⟨rfl, rfl, rfl, by decide +kernel, rfl, by decide +kernel, by decide +kernel⟩
def b_by_value (cs : List Addr) : ST :=
  (sSeq (sSet 1 (eLst (aCons (eCall (dXn (cA cs 2) ["value"] "InvalidNumber") (aCons (eVar 0) aNil)) (aCons (eCall (dXn (cA cs 3) ["value"] "InvalidGauge") (aCons (eVar 0) aNil)) (aCons (eCallP (dXn (cA cs 4) ["value"] "InvalidPlace") [0] 1 (aCons (eVar 0) aNil)) (aCons (eCall (dXn (cA cs 7) ["value"] "InvalidTop") (aCons (eVar 0) aNil)) (aCons (eCallP (dXn (cA cs 13) ["value"] "InvalidMirror") [0] 1 (aCons (eVar 0) aNil)) (aCons (eCall (dXn (cA cs 25) ["value"] "NoBranch") (aCons (eVar 0) aNil)) aNil))))))))
  (sSeq (sSet 1 (eOp dAdd (eVar 1) (eLst (aCons (eCall (dXn (cA cs 26) ["value"] "OnLand") (aCons (eVar 0) aNil)) (aCons (eCallP (dXn (cA cs 28) ["value"] "InvalidMeasure") [0] 1 (aCons (eVar 0) aNil)) (aCons (eCall (dXn (cA cs 35) ["value"] "UnknownPlace") (aCons (eVar 0) aNil)) (aCons (eCallP (dXn (cA cs 36) ["value"] "UnknownSaying") [0] 1 (aCons (eVar 0) aNil)) (aCons (eCall (dXn (cA cs 37) ["value"] "UnknownGauge") (aCons (eVar 0) aNil)) aNil))))))))
  (sRet (eOp dAdd (eVar 1) (eLst (aCons (eCallP (dXn (cA cs 38) ["value"] "UnknownCase") [0] 1 (aCons (eVar 0) aNil)) (aCons (eCall (dXn (cA cs 39) ["value"] "UnknownReport") (aCons (eVar 0) aNil)) (aCons (eCallP (dXn (cA cs 40) ["value"] "UnknownWatch") [0] 1 (aCons (eVar 0) aNil)) aNil))))))))
theorem pb_by_value (cs : List Addr) {fa : Addr} (T : Txt K mg cs) (XX : Xns P wd K mg base cs) 
    (cdv : Value) (A : Around) (outer : List PySem.Env) (s : Shared) (H : Hp) (E : XK) (hr : Room (2) (A.deeper (envOfC "_law_by_value" (defScope s_by_value) s.heap.objs.size fa cdv))) :
    PSs (cxOf CX0 P wd K mg base ["_law_x", "_law_found"] "_law_by_value" (defScope s_by_value) fa cdv A outer s H E).nox (defBody s_by_value) (LS K (b_by_value cs)) :=
  (ss_cons (ss_set (i := 1) sc_by_value.nd rfl (Or.inl rfl) (te_lst (ta_cons (te_xn XX.x_InvalidNumber hr rfl (ta_cons (te_var (pv 0)) ta_nil)) (ta_cons (te_xn XX.x_InvalidGauge hr rfl (ta_cons (te_var (pv 0)) ta_nil)) (ta_cons (te_xnK (ks := ["value"]) [0] XX.x_InvalidPlace hr rfl (tk_cons (te_var (pv 0)) tk_nil) (fun _ _ _ _ _ _ _ _ ws hl => match ws, hl with | [_], _ => rfl)) (ta_cons (te_xn XX.x_InvalidTop hr rfl (ta_cons (te_var (pv 0)) ta_nil)) (ta_cons (te_xnK (ks := ["value"]) [0] XX.x_InvalidMirror hr rfl (tk_cons (te_var (pv 0)) tk_nil) (fun _ _ _ _ _ _ _ _ ws hl => match ws, hl with | [_], _ => rfl)) (ta_cons (te_xn XX.x_NoBranch hr rfl (ta_cons (te_var (pv 0)) ta_nil)) ta_nil))))))))
  (ss_cons (ss_set (i := 1) sc_by_value.nd rfl (Or.inl rfl) (te_op op_addA od_add (te_var (pv 1)) (te_lst (ta_cons (te_xn XX.x_OnLand hr rfl (ta_cons (te_var (pv 0)) ta_nil)) (ta_cons (te_xnK (ks := ["value"]) [0] XX.x_InvalidMeasure hr rfl (tk_cons (te_var (pv 0)) tk_nil) (fun _ _ _ _ _ _ _ _ ws hl => match ws, hl with | [_], _ => rfl)) (ta_cons (te_xn XX.x_UnknownPlace hr rfl (ta_cons (te_var (pv 0)) ta_nil)) (ta_cons (te_xnK (ks := ["value"]) [0] XX.x_UnknownSaying hr rfl (tk_cons (te_var (pv 0)) tk_nil) (fun _ _ _ _ _ _ _ _ ws hl => match ws, hl with | [_], _ => rfl)) (ta_cons (te_xn XX.x_UnknownGauge hr rfl (ta_cons (te_var (pv 0)) ta_nil)) ta_nil))))))))
  (ss_one (ss_ret (te_op op_addA od_add (te_var (pv 1)) (te_lst (ta_cons (te_xnK (ks := ["value"]) [0] XX.x_UnknownCase hr rfl (tk_cons (te_var (pv 0)) tk_nil) (fun _ _ _ _ _ _ _ _ ws hl => match ws, hl with | [_], _ => rfl)) (ta_cons (te_xn XX.x_UnknownReport hr rfl (ta_cons (te_var (pv 0)) ta_nil)) (ta_cons (te_xnK (ks := ["value"]) [0] XX.x_UnknownWatch hr rfl (tk_cons (te_var (pv 0)) tk_nil) (fun _ _ _ _ _ _ _ _ ws hl => match ws, hl with | [_], _ => rfl)) ta_nil)))))))))
abbrev s_by_value_too : Stmt := topS 49
def n_by_value_too : List Str := ["_law_x", "_law_found"]
theorem sc_by_value_too : FnScope ["_law_x", "_law_found"] ["_law_x"] (defScope s_by_value_too) := ⟨rfl, rfl, rfl, by decide +kernel, rfl, by decide +kernel, by decide +kernel⟩
def b_by_value_too (cs : List Addr) : ST :=
  (sSeq (sSet 1 (eLst (aCons (eCallP (dXn (cA cs 2) ["value"] "InvalidNumber") [0] 1 (aCons (eVar 0) aNil)) (aCons (eCallP (dXn (cA cs 3) ["value"] "InvalidGauge") [0] 1 (aCons (eVar 0) aNil)) (aCons (eCall (dXn (cA cs 4) ["value"] "InvalidPlace") (aCons (eVar 0) aNil)) (aCons (eCallP (dXn (cA cs 7) ["value"] "InvalidTop") [0] 1 (aCons (eVar 0) aNil)) (aCons (eCall (dXn (cA cs 13) ["value"] "InvalidMirror") (aCons (eVar 0) aNil)) aNil)))))))
  (sSeq (sSet 1 (eOp dAdd (eVar 1) (eLst (aCons (eCallP (dXn (cA cs 25) ["value"] "NoBranch") [0] 1 (aCons (eVar 0) aNil)) (aCons (eCallP (dXn (cA cs 26) ["value"] "OnLand") [0] 1 (aCons (eVar 0) aNil)) (aCons (eCall (dXn (cA cs 28) ["value"] "InvalidMeasure") (aCons (eVar 0) aNil)) (aCons (eCallP (dXn (cA cs 35) ["value"] "UnknownPlace") [0] 1 (aCons (eVar 0) aNil)) (aCons (eCall (dXn (cA cs 36) ["value"] "UnknownSaying") (aCons (eVar 0) aNil)) aNil))))))))
  (sRet (eOp dAdd (eVar 1) (eLst (aCons (eCallP (dXn (cA cs 37) ["value"] "UnknownGauge") [0] 1 (aCons (eVar 0) aNil)) (aCons (eCall (dXn (cA cs 38) ["value"] "UnknownCase") (aCons (eVar 0) aNil)) (aCons (eCallP (dXn (cA cs 39) ["value"] "UnknownReport") [0] 1 (aCons (eVar 0) aNil)) (aCons (eCall (dXn (cA cs 40) ["value"] "UnknownWatch") (aCons (eVar 0) aNil)) aNil)))))))))
theorem pb_by_value_too (cs : List Addr) {fa : Addr} (T : Txt K mg cs) (XX : Xns P wd K mg base cs) 
    (cdv : Value) (A : Around) (outer : List PySem.Env) (s : Shared) (H : Hp) (E : XK) (hr : Room (2) (A.deeper (envOfC "_law_by_value_too" (defScope s_by_value_too) s.heap.objs.size fa cdv))) :
    PSs (cxOf CX0 P wd K mg base ["_law_x", "_law_found"] "_law_by_value_too" (defScope s_by_value_too) fa cdv A outer s H E).nox (defBody s_by_value_too) (LS K (b_by_value_too cs)) :=
  (ss_cons (ss_set (i := 1) sc_by_value_too.nd rfl (Or.inl rfl) (te_lst (ta_cons (te_xnK (ks := ["value"]) [0] XX.x_InvalidNumber hr rfl (tk_cons (te_var (pv 0)) tk_nil) (fun _ _ _ _ _ _ _ _ ws hl => match ws, hl with | [_], _ => rfl)) (ta_cons (te_xnK (ks := ["value"]) [0] XX.x_InvalidGauge hr rfl (tk_cons (te_var (pv 0)) tk_nil) (fun _ _ _ _ _ _ _ _ ws hl => match ws, hl with | [_], _ => rfl)) (ta_cons (te_xn XX.x_InvalidPlace hr rfl (ta_cons (te_var (pv 0)) ta_nil)) (ta_cons (te_xnK (ks := ["value"]) [0] XX.x_InvalidTop hr rfl (tk_cons (te_var (pv 0)) tk_nil) (fun _ _ _ _ _ _ _ _ ws hl => match ws, hl with | [_], _ => rfl)) (ta_cons (te_xn XX.x_InvalidMirror hr rfl (ta_cons (te_var (pv 0)) ta_nil)) ta_nil)))))))
  (ss_cons (ss_set (i := 1) sc_by_value_too.nd rfl (Or.inl rfl) (te_op op_addA od_add (te_var (pv 1)) (te_lst (ta_cons (te_xnK (ks := ["value"]) [0] XX.x_NoBranch hr rfl (tk_cons (te_var (pv 0)) tk_nil) (fun _ _ _ _ _ _ _ _ ws hl => match ws, hl with | [_], _ => rfl)) (ta_cons (te_xnK (ks := ["value"]) [0] XX.x_OnLand hr rfl (tk_cons (te_var (pv 0)) tk_nil) (fun _ _ _ _ _ _ _ _ ws hl => match ws, hl with | [_], _ => rfl)) (ta_cons (te_xn XX.x_InvalidMeasure hr rfl (ta_cons (te_var (pv 0)) ta_nil)) (ta_cons (te_xnK (ks := ["value"]) [0] XX.x_UnknownPlace hr rfl (tk_cons (te_var (pv 0)) tk_nil) (fun _ _ _ _ _ _ _ _ ws hl => match ws, hl with | [_], _ => rfl)) (ta_cons (te_xn XX.x_UnknownSaying hr rfl (ta_cons (te_var (pv 0)) ta_nil)) ta_nil))))))))
  (ss_one (ss_ret (te_op op_addA od_add (te_var (pv 1)) (te_lst (ta_cons (te_xnK (ks := ["value"]) [0] XX.x_UnknownGauge hr rfl (tk_cons (te_var (pv 0)) tk_nil) (fun _ _ _ _ _ _ _ _ ws hl => match ws, hl with | [_], _ => rfl)) (ta_cons (te_xn XX.x_UnknownCase hr rfl (ta_cons (te_var (pv 0)) ta_nil)) (ta_cons (te_xnK (ks := ["value"]) [0] XX.x_UnknownReport hr rfl (tk_cons (te_var (pv 0)) tk_nil) (fun _ _ _ _ _ _ _ _ ws hl => match ws, hl with | [_], _ => rfl)) (ta_cons (te_xn XX.x_UnknownWatch hr rfl (ta_cons (te_var (pv 0)) ta_nil)) ta_nil))))))))))
abbrev s_by_at : Stmt := topS 50
def n_by_at : List Str := ["_law_x", "_law_found"]
theorem sc_by_at : FnScope ["_law_x", "_law_found"] ["_law_x"] (defScope s_by_at) := ⟨rfl, rfl, rfl, by decide +kernel, rfl, by decide +kernel, by decide +kernel⟩
def b_by_at (cs : List Addr) : ST :=
  (sSeq (sSet 1 (eLst (aCons (eCall (dXn (cA cs 6) ["at"] "InvalidWind") (aCons (eVar 0) aNil)) (aCons (eCallP (dXn (cA cs 9) ["at"] "InvalidRegion") [0] 1 (aCons (eVar 0) aNil)) (aCons (eCall (dXn (cA cs 10) ["at"] "InvalidPath") (aCons (eVar 0) aNil)) (aCons (eCallP (dXn (cA cs 11) ["at"] "InvalidSquall") [0] 1 (aCons (eVar 0) aNil)) (aCons (eCall (dXn (cA cs 14) ["at"] "InvalidSaying") (aCons (eVar 0) aNil)) (aCons (eCallP (dXn (cA cs 18) ["at"] "NotForced") [0] 1 (aCons (eVar 0) aNil)) aNil))))))))
  (sRet (eOp dAdd (eVar 1) (eLst (aCons (eCall (dXn (cA cs 22) ["at"] "NotPlain") (aCons (eVar 0) aNil)) (aCons (eCallP (dXn (cA cs 23) ["at"] "Unkept") [0] 1 (aCons (eVar 0) aNil)) (aCons (eCall (dXn (cA cs 24) ["at"] "InvalidStation") (aCons (eVar 0) aNil)) (aCons (eCallP (dXn (cA cs 27) ["at"] "InvalidWay") [0] 1 (aCons (eVar 0) aNil)) (aCons (eCall (dXn (cA cs 32) ["at"] "InvalidDeed") (aCons (eVar 0) aNil)) aNil)))))))))
theorem pb_by_at (cs : List Addr) {fa : Addr} (T : Txt K mg cs) (XX : Xns P wd K mg base cs) 
    (cdv : Value) (A : Around) (outer : List PySem.Env) (s : Shared) (H : Hp) (E : XK) (hr : Room (2) (A.deeper (envOfC "_law_by_at" (defScope s_by_at) s.heap.objs.size fa cdv))) :
    PSs (cxOf CX0 P wd K mg base ["_law_x", "_law_found"] "_law_by_at" (defScope s_by_at) fa cdv A outer s H E).nox (defBody s_by_at) (LS K (b_by_at cs)) :=
  (ss_cons (ss_set (i := 1) sc_by_at.nd rfl (Or.inl rfl) (te_lst (ta_cons (te_xn XX.x_InvalidWind hr rfl (ta_cons (te_var (pv 0)) ta_nil)) (ta_cons (te_xnK (ks := ["at"]) [0] XX.x_InvalidRegion hr rfl (tk_cons (te_var (pv 0)) tk_nil) (fun _ _ _ _ _ _ _ _ ws hl => match ws, hl with | [_], _ => rfl)) (ta_cons (te_xn XX.x_InvalidPath hr rfl (ta_cons (te_var (pv 0)) ta_nil)) (ta_cons (te_xnK (ks := ["at"]) [0] XX.x_InvalidSquall hr rfl (tk_cons (te_var (pv 0)) tk_nil) (fun _ _ _ _ _ _ _ _ ws hl => match ws, hl with | [_], _ => rfl)) (ta_cons (te_xn XX.x_InvalidSaying hr rfl (ta_cons (te_var (pv 0)) ta_nil)) (ta_cons (te_xnK (ks := ["at"]) [0] XX.x_NotForced hr rfl (tk_cons (te_var (pv 0)) tk_nil) (fun _ _ _ _ _ _ _ _ ws hl => match ws, hl with | [_], _ => rfl)) ta_nil))))))))
  (ss_one (ss_ret (te_op op_addA od_add (te_var (pv 1)) (te_lst (ta_cons (te_xn XX.x_NotPlain hr rfl (ta_cons (te_var (pv 0)) ta_nil)) (ta_cons (te_xnK (ks := ["at"]) [0] XX.x_Unkept hr rfl (tk_cons (te_var (pv 0)) tk_nil) (fun _ _ _ _ _ _ _ _ ws hl => match ws, hl with | [_], _ => rfl)) (ta_cons (te_xn XX.x_InvalidStation hr rfl (ta_cons (te_var (pv 0)) ta_nil)) (ta_cons (te_xnK (ks := ["at"]) [0] XX.x_InvalidWay hr rfl (tk_cons (te_var (pv 0)) tk_nil) (fun _ _ _ _ _ _ _ _ ws hl => match ws, hl with | [_], _ => rfl)) (ta_cons (te_xn XX.x_InvalidDeed hr rfl (ta_cons (te_var (pv 0)) ta_nil)) ta_nil))))))))))
abbrev s_by_at_too : Stmt := topS 51
def n_by_at_too : List Str := ["_law_x", "_law_found"]
theorem sc_by_at_too : FnScope ["_law_x", "_law_found"] ["_law_x"] (defScope s_by_at_too) := ⟨rfl, rfl, rfl, by decide +kernel, rfl, by decide +kernel, by decide +kernel⟩
def b_by_at_too (cs : List Addr) : ST :=
  (sSeq (sSet 1 (eLst (aCons (eCallP (dXn (cA cs 6) ["at"] "InvalidWind") [0] 1 (aCons (eVar 0) aNil)) (aCons (eCall (dXn (cA cs 9) ["at"] "InvalidRegion") (aCons (eVar 0) aNil)) (aCons (eCallP (dXn (cA cs 10) ["at"] "InvalidPath") [0] 1 (aCons (eVar 0) aNil)) (aCons (eCall (dXn (cA cs 11) ["at"] "InvalidSquall") (aCons (eVar 0) aNil)) (aCons (eCallP (dXn (cA cs 14) ["at"] "InvalidSaying") [0] 1 (aCons (eVar 0) aNil)) (aCons (eCall (dXn (cA cs 18) ["at"] "NotForced") (aCons (eVar 0) aNil)) aNil))))))))
  (sRet (eOp dAdd (eVar 1) (eLst (aCons (eCallP (dXn (cA cs 22) ["at"] "NotPlain") [0] 1 (aCons (eVar 0) aNil)) (aCons (eCall (dXn (cA cs 23) ["at"] "Unkept") (aCons (eVar 0) aNil)) (aCons (eCallP (dXn (cA cs 24) ["at"] "InvalidStation") [0] 1 (aCons (eVar 0) aNil)) (aCons (eCall (dXn (cA cs 27) ["at"] "InvalidWay") (aCons (eVar 0) aNil)) (aCons (eCallP (dXn (cA cs 32) ["at"] "InvalidDeed") [0] 1 (aCons (eVar 0) aNil)) aNil)))))))))
theorem pb_by_at_too (cs : List Addr) {fa : Addr} (T : Txt K mg cs) (XX : Xns P wd K mg base cs) 
    (cdv : Value) (A : Around) (outer : List PySem.Env) (s : Shared) (H : Hp) (E : XK) (hr : Room (2) (A.deeper (envOfC "_law_by_at_too" (defScope s_by_at_too) s.heap.objs.size fa cdv))) :
    PSs (cxOf CX0 P wd K mg base ["_law_x", "_law_found"] "_law_by_at_too" (defScope s_by_at_too) fa cdv A outer s H E).nox (defBody s_by_at_too) (LS K (b_by_at_too cs)) :=
  (ss_cons (ss_set (i := 1) sc_by_at_too.nd rfl (Or.inl rfl) (te_lst (ta_cons (te_xnK (ks := ["at"]) [0] XX.x_InvalidWind hr rfl (tk_cons (te_var (pv 0)) tk_nil) (fun _ _ _ _ _ _ _ _ ws hl => match ws, hl with | [_], _ => rfl)) (ta_cons (te_xn XX.x_InvalidRegion hr rfl (ta_cons (te_var (pv 0)) ta_nil)) (ta_cons (te_xnK (ks := ["at"]) [0] XX.x_InvalidPath hr rfl (tk_cons (te_var (pv 0)) tk_nil) (fun _ _ _ _ _ _ _ _ ws hl => match ws, hl with | [_], _ => rfl)) (ta_cons (te_xn XX.x_InvalidSquall hr rfl (ta_cons (te_var (pv 0)) ta_nil)) (ta_cons (te_xnK (ks := ["at"]) [0] XX.x_InvalidSaying hr rfl (tk_cons (te_var (pv 0)) tk_nil) (fun _ _ _ _ _ _ _ _ ws hl => match ws, hl with | [_], _ => rfl)) (ta_cons (te_xn XX.x_NotForced hr rfl (ta_cons (te_var (pv 0)) ta_nil)) ta_nil))))))))
  (ss_one (ss_ret (te_op op_addA od_add (te_var (pv 1)) (te_lst (ta_cons (te_xnK (ks := ["at"]) [0] XX.x_NotPlain hr rfl (tk_cons (te_var (pv 0)) tk_nil) (fun _ _ _ _ _ _ _ _ ws hl => match ws, hl with | [_], _ => rfl)) (ta_cons (te_xn XX.x_Unkept hr rfl (ta_cons (te_var (pv 0)) ta_nil)) (ta_cons (te_xnK (ks := ["at"]) [0] XX.x_InvalidStation hr rfl (tk_cons (te_var (pv 0)) tk_nil) (fun _ _ _ _ _ _ _ _ ws hl => match ws, hl with | [_], _ => rfl)) (ta_cons (te_xn XX.x_InvalidWay hr rfl (ta_cons (te_var (pv 0)) ta_nil)) (ta_cons (te_xnK (ks := ["at"]) [0] XX.x_InvalidDeed hr rfl (tk_cons (te_var (pv 0)) tk_nil) (fun _ _ _ _ _ _ _ _ ws hl => match ws, hl with | [_], _ => rfl)) ta_nil))))))))))
abbrev s_by_none : Stmt := topS 52
def n_by_none : List Str := []
theorem sc_by_none : FnScope [] [] (defScope s_by_none) := ⟨rfl, rfl, rfl, by decide +kernel, rfl, by decide +kernel, by decide +kernel⟩
def b_by_none (cs : List Addr) : ST :=
  (sRet (eLst (aCons (eCall (dXn (cA cs 12) [] "InvalidHeights") aNil) (aCons (eCall (dXn (cA cs 16) [] "OtherChart") aNil) (aCons (eCall (dXn (cA cs 19) [] "InvalidPaper") aNil) (aCons (eCall (dXn (cA cs 21) [] "HasSky") aNil) (aCons (eCall (dXn (cA cs 29) [] "NoWay") aNil) (aCons (eCall (dXn (cA cs 30) [] "NoCase") aNil) (aCons (eCall (dXn (cA cs 33) [] "NoDraft") aNil) (aCons (eCall (dXn (cA cs 34) [] "Ended") aNil) (aCons (eCall (dXn (cA cs 41) [] "NothingLeft") aNil) aNil)))))))))))
theorem pb_by_none (cs : List Addr) {fa : Addr} (T : Txt K mg cs) (XX : Xns P wd K mg base cs) 
    (cdv : Value) (A : Around) (outer : List PySem.Env) (s : Shared) (H : Hp) (E : XK) (hr : Room (2) (A.deeper (envOfC "_law_by_none" (defScope s_by_none) s.heap.objs.size fa cdv))) :
    PSs (cxOf CX0 P wd K mg base [] "_law_by_none" (defScope s_by_none) fa cdv A outer s H E).nox (defBody s_by_none) (LS K (b_by_none cs)) :=
  (ss_one (ss_ret (te_lst (ta_cons (te_xn0 XX.x_InvalidHeights hr rfl) (ta_cons (te_xn0 XX.x_OtherChart hr rfl) (ta_cons (te_xn0 XX.x_InvalidPaper hr rfl) (ta_cons (te_xn0 XX.x_HasSky hr rfl) (ta_cons (te_xn0 XX.x_NoWay hr rfl) (ta_cons (te_xn0 XX.x_NoCase hr rfl) (ta_cons (te_xn0 XX.x_NoDraft hr rfl) (ta_cons (te_xn0 XX.x_Ended hr rfl) (ta_cons (te_xn0 XX.x_NothingLeft hr rfl) ta_nil))))))))))))
abbrev s_others : Stmt := topS 53
def n_others : List Str := ["_law_x", "_law_y", "_law_found"]
theorem sc_others : FnScope ["_law_x", "_law_y", "_law_found"] ["_law_x", "_law_y"] (defScope s_others) := ⟨rfl, rfl, rfl, by decide +kernel, rfl, by decide +kernel, by decide +kernel⟩
def b_others (cs : List Addr) : ST :=
  (sSeq (sSet 2 (eLst (aCons (eTup (aCons (eCall (dXn (cA cs 5) ["row", "column"] "InvalidChart") (aCons (eVar 0) (aCons (eVar 1) aNil))) (aCons (eCallP (dXn (cA cs 5) ["row", "column"] "InvalidChart") [1, 0] 2 (aCons (eVar 1) (aCons (eVar 0) aNil))) aNil))) (aCons (eTup (aCons (eCall (dXn (cA cs 8) ["line", "why"] "InvalidText") (aCons (eVar 0) (aCons (eVar 1) aNil))) (aCons (eCallP (dXn (cA cs 8) ["line", "why"] "InvalidText") [1, 0] 2 (aCons (eVar 1) (aCons (eVar 0) aNil))) aNil))) aNil))))
  (sSeq (sSet 2 (eOp dAdd (eVar 2) (eLst (aCons (eTup (aCons (eCall (dXn (cA cs 15) ["place"] "OffChart") (aCons (eVar 0) aNil)) (aCons (eCallP (dXn (cA cs 15) ["place"] "OffChart") [0] 1 (aCons (eVar 0) aNil)) aNil))) (aCons (eTup (aCons (eCall (dXn (cA cs 17) ["most"] "TooMany") (aCons (eVar 0) aNil)) (aCons (eCallP (dXn (cA cs 17) ["most"] "TooMany") [0] 1 (aCons (eVar 0) aNil)) aNil))) (aCons (eTup (aCons (eCall (dXn (cA cs 20) ["grounds"] "NoSky") (aCons (eVar 0) aNil)) (aCons (eCallP (dXn (cA cs 20) ["grounds"] "NoSky") [0] 1 (aCons (eVar 0) aNil)) aNil))) aNil))))))
  (sRet (eOp dAdd (eVar 2) (eLst (aCons (eTup (aCons (eCall (dXn (cA cs 31) ["core"] "Impossible") (aCons (eVar 0) aNil)) (aCons (eCallP (dXn (cA cs 31) ["core"] "Impossible") [0] 1 (aCons (eVar 0) aNil)) aNil))) aNil))))))
theorem pb_others (cs : List Addr) {fa : Addr} (T : Txt K mg cs) (XX : Xns P wd K mg base cs) 
    (cdv : Value) (A : Around) (outer : List PySem.Env) (s : Shared) (H : Hp) (E : XK) (hr : Room (2) (A.deeper (envOfC "_law_others" (defScope s_others) s.heap.objs.size fa cdv))) :
    PSs (cxOf CX0 P wd K mg base ["_law_x", "_law_y", "_law_found"] "_law_others" (defScope s_others) fa cdv A outer s H E).nox (defBody s_others) (LS K (b_others cs)) :=
  (ss_cons (ss_set (i := 2) sc_others.nd rfl (Or.inl rfl) (te_lst (ta_cons (te_tup (ta_cons (te_xn XX.x_InvalidChart hr rfl (ta_cons (te_var (pv 0)) (ta_cons (te_var (pv 1)) ta_nil))) (ta_cons (te_xnK (ks := ["column", "row"]) [1, 0] XX.x_InvalidChart hr rfl (tk_cons (te_var (pv 1)) (tk_cons (te_var (pv 0)) tk_nil)) (fun _ _ _ _ _ _ _ _ ws hl => match ws, hl with | [_, _], _ => rfl)) ta_nil))) (ta_cons (te_tup (ta_cons (te_xn XX.x_InvalidText hr rfl (ta_cons (te_var (pv 0)) (ta_cons (te_var (pv 1)) ta_nil))) (ta_cons (te_xnK (ks := ["why", "line"]) [1, 0] XX.x_InvalidText hr rfl (tk_cons (te_var (pv 1)) (tk_cons (te_var (pv 0)) tk_nil)) (fun _ _ _ _ _ _ _ _ ws hl => match ws, hl with | [_, _], _ => rfl)) ta_nil))) ta_nil))))
  (ss_cons (ss_set (i := 2) sc_others.nd rfl (Or.inl rfl) (te_op op_addA od_add (te_var (pv 2)) (te_lst (ta_cons (te_tup (ta_cons (te_xn XX.x_OffChart hr rfl (ta_cons (te_var (pv 0)) ta_nil)) (ta_cons (te_xnK (ks := ["place"]) [0] XX.x_OffChart hr rfl (tk_cons (te_var (pv 0)) tk_nil) (fun _ _ _ _ _ _ _ _ ws hl => match ws, hl with | [_], _ => rfl)) ta_nil))) (ta_cons (te_tup (ta_cons (te_xn XX.x_TooMany hr rfl (ta_cons (te_var (pv 0)) ta_nil)) (ta_cons (te_xnK (ks := ["most"]) [0] XX.x_TooMany hr rfl (tk_cons (te_var (pv 0)) tk_nil) (fun _ _ _ _ _ _ _ _ ws hl => match ws, hl with | [_], _ => rfl)) ta_nil))) (ta_cons (te_tup (ta_cons (te_xn XX.x_NoSky hr rfl (ta_cons (te_var (pv 0)) ta_nil)) (ta_cons (te_xnK (ks := ["grounds"]) [0] XX.x_NoSky hr rfl (tk_cons (te_var (pv 0)) tk_nil) (fun _ _ _ _ _ _ _ _ ws hl => match ws, hl with | [_], _ => rfl)) ta_nil))) ta_nil))))))
  (ss_one (ss_ret (te_op op_addA od_add (te_var (pv 2)) (te_lst (ta_cons (te_tup (ta_cons (te_xn XX.x_Impossible hr rfl (ta_cons (te_var (pv 0)) ta_nil)) (ta_cons (te_xnK (ks := ["core"]) [0] XX.x_Impossible hr rfl (tk_cons (te_var (pv 0)) tk_nil) (fun _ _ _ _ _ _ _ _ ws hl => match ws, hl with | [_], _ => rfl)) ta_nil))) ta_nil)))))))
abbrev s_first_kinds : Stmt := topS 54
def n_first_kinds : List Str := ["_law_e", "_law_found"]
theorem sc_first_kinds : FnScope ["_law_e", "_law_found"] ["_law_e"] (defScope s_first_kinds) := ⟨rfl, rfl, rfl, by decide +kernel, rfl, by decide +kernel, by decide +kernel⟩
def b_first_kinds (cs : List Addr) : ST :=
  (sSeq (sSet 1 (eLst (aCons (eCall (dIsX (tbl cs)) (aCons (eVar 0) (aCons (eC (.ref (cA cs 2))) aNil))) (aCons (eCall (dIsX (tbl cs)) (aCons (eVar 0) (aCons (eC (.ref (cA cs 3))) aNil))) (aCons (eCall (dIsX (tbl cs)) (aCons (eVar 0) (aCons (eC (.ref (cA cs 4))) aNil))) aNil)))))
  (sSeq (sSet 1 (eOp dAdd (eVar 1) (eLst (aCons (eCall (dIsX (tbl cs)) (aCons (eVar 0) (aCons (eC (.ref (cA cs 7))) aNil))) (aCons (eCall (dIsX (tbl cs)) (aCons (eVar 0) (aCons (eC (.ref (cA cs 13))) aNil))) (aCons (eCall (dIsX (tbl cs)) (aCons (eVar 0) (aCons (eC (.ref (cA cs 25))) aNil))) aNil))))))
  (sSeq (sSet 1 (eOp dAdd (eVar 1) (eLst (aCons (eCall (dIsX (tbl cs)) (aCons (eVar 0) (aCons (eC (.ref (cA cs 26))) aNil))) (aCons (eCall (dIsX (tbl cs)) (aCons (eVar 0) (aCons (eC (.ref (cA cs 28))) aNil))) (aCons (eCall (dIsX (tbl cs)) (aCons (eVar 0) (aCons (eC (.ref (cA cs 35))) aNil))) aNil))))))
  (sSeq (sSet 1 (eOp dAdd (eVar 1) (eLst (aCons (eCall (dIsX (tbl cs)) (aCons (eVar 0) (aCons (eC (.ref (cA cs 36))) aNil))) (aCons (eCall (dIsX (tbl cs)) (aCons (eVar 0) (aCons (eC (.ref (cA cs 37))) aNil))) (aCons (eCall (dIsX (tbl cs)) (aCons (eVar 0) (aCons (eC (.ref (cA cs 38))) aNil))) aNil))))))
  (sRet (eOp dAdd (eVar 1) (eLst (aCons (eCall (dIsX (tbl cs)) (aCons (eVar 0) (aCons (eC (.ref (cA cs 39))) aNil))) (aCons (eCall (dIsX (tbl cs)) (aCons (eVar 0) (aCons (eC (.ref (cA cs 40))) aNil))) aNil)))))))))
theorem pb_first_kinds (cs : List Addr) {fa : Addr} (T : Txt K mg cs) (XX : Xns P wd K mg base cs) 
    (cdv : Value) (A : Around) (outer : List PySem.Env) (s : Shared) (H : Hp) (E : XK) (hr : Room (0) (A.deeper (envOfC "_law_first_kinds" (defScope s_first_kinds) s.heap.objs.size fa cdv))) :
    PSs (cxOf CX0 P wd K mg base ["_law_e", "_law_found"] "_law_first_kinds" (defScope s_first_kinds) fa cdv A outer s H E).nox (defBody s_first_kinds) (LS K (b_first_kinds cs)) :=
  (ss_cons (ss_set (i := 1) sc_first_kinds.nd rfl (Or.inl rfl) (te_lst (ta_cons (te_callB call_isX (cd_isX T.isx) (by rfl) T.n_isinstance (by decide +kernel) (ta_cons (te_var (pv 0)) (ta_cons (te_ref rfl T.m_InvalidNumber) ta_nil))) (ta_cons (te_callB call_isX (cd_isX T.isx) (by rfl) T.n_isinstance (by decide +kernel) (ta_cons (te_var (pv 0)) (ta_cons (te_ref rfl T.m_InvalidGauge) ta_nil))) (ta_cons (te_callB call_isX (cd_isX T.isx) (by rfl) T.n_isinstance (by decide +kernel) (ta_cons (te_var (pv 0)) (ta_cons (te_ref rfl T.m_InvalidPlace) ta_nil))) ta_nil)))))
  (ss_cons (ss_set (i := 1) sc_first_kinds.nd rfl (Or.inl rfl) (te_op op_addA od_add (te_var (pv 1)) (te_lst (ta_cons (te_callB call_isX (cd_isX T.isx) (by rfl) T.n_isinstance (by decide +kernel) (ta_cons (te_var (pv 0)) (ta_cons (te_ref rfl T.m_InvalidTop) ta_nil))) (ta_cons (te_callB call_isX (cd_isX T.isx) (by rfl) T.n_isinstance (by decide +kernel) (ta_cons (te_var (pv 0)) (ta_cons (te_ref rfl T.m_InvalidMirror) ta_nil))) (ta_cons (te_callB call_isX (cd_isX T.isx) (by rfl) T.n_isinstance (by decide +kernel) (ta_cons (te_var (pv 0)) (ta_cons (te_ref rfl T.m_NoBranch) ta_nil))) ta_nil))))))
  (ss_cons (ss_set (i := 1) sc_first_kinds.nd rfl (Or.inl rfl) (te_op op_addA od_add (te_var (pv 1)) (te_lst (ta_cons (te_callB call_isX (cd_isX T.isx) (by rfl) T.n_isinstance (by decide +kernel) (ta_cons (te_var (pv 0)) (ta_cons (te_ref rfl T.m_OnLand) ta_nil))) (ta_cons (te_callB call_isX (cd_isX T.isx) (by rfl) T.n_isinstance (by decide +kernel) (ta_cons (te_var (pv 0)) (ta_cons (te_ref rfl T.m_InvalidMeasure) ta_nil))) (ta_cons (te_callB call_isX (cd_isX T.isx) (by rfl) T.n_isinstance (by decide +kernel) (ta_cons (te_var (pv 0)) (ta_cons (te_ref rfl T.m_UnknownPlace) ta_nil))) ta_nil))))))
  (ss_cons (ss_set (i := 1) sc_first_kinds.nd rfl (Or.inl rfl) (te_op op_addA od_add (te_var (pv 1)) (te_lst (ta_cons (te_callB call_isX (cd_isX T.isx) (by rfl) T.n_isinstance (by decide +kernel) (ta_cons (te_var (pv 0)) (ta_cons (te_ref rfl T.m_UnknownSaying) ta_nil))) (ta_cons (te_callB call_isX (cd_isX T.isx) (by rfl) T.n_isinstance (by decide +kernel) (ta_cons (te_var (pv 0)) (ta_cons (te_ref rfl T.m_UnknownGauge) ta_nil))) (ta_cons (te_callB call_isX (cd_isX T.isx) (by rfl) T.n_isinstance (by decide +kernel) (ta_cons (te_var (pv 0)) (ta_cons (te_ref rfl T.m_UnknownCase) ta_nil))) ta_nil))))))
  (ss_one (ss_ret (te_op op_addA od_add (te_var (pv 1)) (te_lst (ta_cons (te_callB call_isX (cd_isX T.isx) (by rfl) T.n_isinstance (by decide +kernel) (ta_cons (te_var (pv 0)) (ta_cons (te_ref rfl T.m_UnknownReport) ta_nil))) (ta_cons (te_callB call_isX (cd_isX T.isx) (by rfl) T.n_isinstance (by decide +kernel) (ta_cons (te_var (pv 0)) (ta_cons (te_ref rfl T.m_UnknownWatch) ta_nil))) ta_nil))))))))))
abbrev s_next_kinds : Stmt := topS 55
def n_next_kinds : List Str := ["_law_e", "_law_found"]
theorem sc_next_kinds : FnScope ["_law_e", "_law_found"] ["_law_e"] (defScope s_next_kinds) := ⟨rfl, rfl, rfl, by decide +kernel, rfl, by decide +kernel, by decide +kernel⟩
def b_next_kinds (cs : List Addr) : ST :=
  (sSeq (sSet 1 (eLst (aCons (eCall (dIsX (tbl cs)) (aCons (eVar 0) (aCons (eC (.ref (cA cs 6))) aNil))) (aCons (eCall (dIsX (tbl cs)) (aCons (eVar 0) (aCons (eC (.ref (cA cs 9))) aNil))) (aCons (eCall (dIsX (tbl cs)) (aCons (eVar 0) (aCons (eC (.ref (cA cs 10))) aNil))) aNil)))))
  (sSeq (sSet 1 (eOp dAdd (eVar 1) (eLst (aCons (eCall (dIsX (tbl cs)) (aCons (eVar 0) (aCons (eC (.ref (cA cs 11))) aNil))) (aCons (eCall (dIsX (tbl cs)) (aCons (eVar 0) (aCons (eC (.ref (cA cs 14))) aNil))) (aCons (eCall (dIsX (tbl cs)) (aCons (eVar 0) (aCons (eC (.ref (cA cs 18))) aNil))) aNil))))))
  (sSeq (sSet 1 (eOp dAdd (eVar 1) (eLst (aCons (eCall (dIsX (tbl cs)) (aCons (eVar 0) (aCons (eC (.ref (cA cs 22))) aNil))) (aCons (eCall (dIsX (tbl cs)) (aCons (eVar 0) (aCons (eC (.ref (cA cs 23))) aNil))) (aCons (eCall (dIsX (tbl cs)) (aCons (eVar 0) (aCons (eC (.ref (cA cs 24))) aNil))) aNil))))))
  (sRet (eOp dAdd (eVar 1) (eLst (aCons (eCall (dIsX (tbl cs)) (aCons (eVar 0) (aCons (eC (.ref (cA cs 27))) aNil))) (aCons (eCall (dIsX (tbl cs)) (aCons (eVar 0) (aCons (eC (.ref (cA cs 32))) aNil))) aNil))))))))
theorem pb_next_kinds (cs : List Addr) {fa : Addr} (T : Txt K mg cs) (XX : Xns P wd K mg base cs) 
    (cdv : Value) (A : Around) (outer : List PySem.Env) (s : Shared) (H : Hp) (E : XK) (hr : Room (0) (A.deeper (envOfC "_law_next_kinds" (defScope s_next_kinds) s.heap.objs.size fa cdv))) :
    PSs (cxOf CX0 P wd K mg base ["_law_e", "_law_found"] "_law_next_kinds" (defScope s_next_kinds) fa cdv A outer s H E).nox (defBody s_next_kinds) (LS K (b_next_kinds cs)) :=
  (ss_cons (ss_set (i := 1) sc_next_kinds.nd rfl (Or.inl rfl) (te_lst (ta_cons (te_callB call_isX (cd_isX T.isx) (by rfl) T.n_isinstance (by decide +kernel) (ta_cons (te_var (pv 0)) (ta_cons (te_ref rfl T.m_InvalidWind) ta_nil))) (ta_cons (te_callB call_isX (cd_isX T.isx) (by rfl) T.n_isinstance (by decide +kernel) (ta_cons (te_var (pv 0)) (ta_cons (te_ref rfl T.m_InvalidRegion) ta_nil))) (ta_cons (te_callB call_isX (cd_isX T.isx) (by rfl) T.n_isinstance (by decide +kernel) (ta_cons (te_var (pv 0)) (ta_cons (te_ref rfl T.m_InvalidPath) ta_nil))) ta_nil)))))
  (ss_cons (ss_set (i := 1) sc_next_kinds.nd rfl (Or.inl rfl) (te_op op_addA od_add (te_var (pv 1)) (te_lst (ta_cons (te_callB call_isX (cd_isX T.isx) (by rfl) T.n_isinstance (by decide +kernel) (ta_cons (te_var (pv 0)) (ta_cons (te_ref rfl T.m_InvalidSquall) ta_nil))) (ta_cons (te_callB call_isX (cd_isX T.isx) (by rfl) T.n_isinstance (by decide +kernel) (ta_cons (te_var (pv 0)) (ta_cons (te_ref rfl T.m_InvalidSaying) ta_nil))) (ta_cons (te_callB call_isX (cd_isX T.isx) (by rfl) T.n_isinstance (by decide +kernel) (ta_cons (te_var (pv 0)) (ta_cons (te_ref rfl T.m_NotForced) ta_nil))) ta_nil))))))
  (ss_cons (ss_set (i := 1) sc_next_kinds.nd rfl (Or.inl rfl) (te_op op_addA od_add (te_var (pv 1)) (te_lst (ta_cons (te_callB call_isX (cd_isX T.isx) (by rfl) T.n_isinstance (by decide +kernel) (ta_cons (te_var (pv 0)) (ta_cons (te_ref rfl T.m_NotPlain) ta_nil))) (ta_cons (te_callB call_isX (cd_isX T.isx) (by rfl) T.n_isinstance (by decide +kernel) (ta_cons (te_var (pv 0)) (ta_cons (te_ref rfl T.m_Unkept) ta_nil))) (ta_cons (te_callB call_isX (cd_isX T.isx) (by rfl) T.n_isinstance (by decide +kernel) (ta_cons (te_var (pv 0)) (ta_cons (te_ref rfl T.m_InvalidStation) ta_nil))) ta_nil))))))
  (ss_one (ss_ret (te_op op_addA od_add (te_var (pv 1)) (te_lst (ta_cons (te_callB call_isX (cd_isX T.isx) (by rfl) T.n_isinstance (by decide +kernel) (ta_cons (te_var (pv 0)) (ta_cons (te_ref rfl T.m_InvalidWay) ta_nil))) (ta_cons (te_callB call_isX (cd_isX T.isx) (by rfl) T.n_isinstance (by decide +kernel) (ta_cons (te_var (pv 0)) (ta_cons (te_ref rfl T.m_InvalidDeed) ta_nil))) ta_nil)))))))))
abbrev s_last_kinds : Stmt := topS 56
def n_last_kinds : List Str := ["_law_e", "_law_found"]
theorem sc_last_kinds : FnScope ["_law_e", "_law_found"] ["_law_e"] (defScope s_last_kinds) := ⟨rfl, rfl, rfl, by decide +kernel, rfl, by decide +kernel, by decide +kernel⟩
def b_last_kinds (cs : List Addr) : ST :=
  (sSeq (sSet 1 (eLst (aCons (eCall (dIsX (tbl cs)) (aCons (eVar 0) (aCons (eC (.ref (cA cs 12))) aNil))) (aCons (eCall (dIsX (tbl cs)) (aCons (eVar 0) (aCons (eC (.ref (cA cs 16))) aNil))) (aCons (eCall (dIsX (tbl cs)) (aCons (eVar 0) (aCons (eC (.ref (cA cs 19))) aNil))) (aCons (eCall (dIsX (tbl cs)) (aCons (eVar 0) (aCons (eC (.ref (cA cs 21))) aNil))) aNil))))))
  (sSeq (sSet 1 (eOp dAdd (eVar 1) (eLst (aCons (eCall (dIsX (tbl cs)) (aCons (eVar 0) (aCons (eC (.ref (cA cs 29))) aNil))) (aCons (eCall (dIsX (tbl cs)) (aCons (eVar 0) (aCons (eC (.ref (cA cs 30))) aNil))) (aCons (eCall (dIsX (tbl cs)) (aCons (eVar 0) (aCons (eC (.ref (cA cs 33))) aNil))) (aCons (eCall (dIsX (tbl cs)) (aCons (eVar 0) (aCons (eC (.ref (cA cs 34))) aNil))) aNil)))))))
  (sSeq (sSet 1 (eOp dAdd (eVar 1) (eLst (aCons (eCall (dIsX (tbl cs)) (aCons (eVar 0) (aCons (eC (.ref (cA cs 41))) aNil))) (aCons (eCall (dIsX (tbl cs)) (aCons (eVar 0) (aCons (eC (.ref (cA cs 5))) aNil))) (aCons (eCall (dIsX (tbl cs)) (aCons (eVar 0) (aCons (eC (.ref (cA cs 8))) aNil))) aNil))))))
  (sRet (eOp dAdd (eVar 1) (eLst (aCons (eCall (dIsX (tbl cs)) (aCons (eVar 0) (aCons (eC (.ref (cA cs 15))) aNil))) (aCons (eCall (dIsX (tbl cs)) (aCons (eVar 0) (aCons (eC (.ref (cA cs 17))) aNil))) (aCons (eCall (dIsX (tbl cs)) (aCons (eVar 0) (aCons (eC (.ref (cA cs 20))) aNil))) (aCons (eCall (dIsX (tbl cs)) (aCons (eVar 0) (aCons (eC (.ref (cA cs 31))) aNil))) aNil))))))))))
theorem pb_last_kinds (cs : List Addr) {fa : Addr} (T : Txt K mg cs) (XX : Xns P wd K mg base cs) 
    (cdv : Value) (A : Around) (outer : List PySem.Env) (s : Shared) (H : Hp) (E : XK) (hr : Room (0) (A.deeper (envOfC "_law_last_kinds" (defScope s_last_kinds) s.heap.objs.size fa cdv))) :
    PSs (cxOf CX0 P wd K mg base ["_law_e", "_law_found"] "_law_last_kinds" (defScope s_last_kinds) fa cdv A outer s H E).nox (defBody s_last_kinds) (LS K (b_last_kinds cs)) :=
  (ss_cons (ss_set (i := 1) sc_last_kinds.nd rfl (Or.inl rfl) (te_lst (ta_cons (te_callB call_isX (cd_isX T.isx) (by rfl) T.n_isinstance (by decide +kernel) (ta_cons (te_var (pv 0)) (ta_cons (te_ref rfl T.m_InvalidHeights) ta_nil))) (ta_cons (te_callB call_isX (cd_isX T.isx) (by rfl) T.n_isinstance (by decide +kernel) (ta_cons (te_var (pv 0)) (ta_cons (te_ref rfl T.m_OtherChart) ta_nil))) (ta_cons (te_callB call_isX (cd_isX T.isx) (by rfl) T.n_isinstance (by decide +kernel) (ta_cons (te_var (pv 0)) (ta_cons (te_ref rfl T.m_InvalidPaper) ta_nil))) (ta_cons (te_callB call_isX (cd_isX T.isx) (by rfl) T.n_isinstance (by decide +kernel) (ta_cons (te_var (pv 0)) (ta_cons (te_ref rfl T.m_HasSky) ta_nil))) ta_nil))))))
  (ss_cons (ss_set (i := 1) sc_last_kinds.nd rfl (Or.inl rfl) (te_op op_addA od_add (te_var (pv 1)) (te_lst (ta_cons (te_callB call_isX (cd_isX T.isx) (by rfl) T.n_isinstance (by decide +kernel) (ta_cons (te_var (pv 0)) (ta_cons (te_ref rfl T.m_NoWay) ta_nil))) (ta_cons (te_callB call_isX (cd_isX T.isx) (by rfl) T.n_isinstance (by decide +kernel) (ta_cons (te_var (pv 0)) (ta_cons (te_ref rfl T.m_NoCase) ta_nil))) (ta_cons (te_callB call_isX (cd_isX T.isx) (by rfl) T.n_isinstance (by decide +kernel) (ta_cons (te_var (pv 0)) (ta_cons (te_ref rfl T.m_NoDraft) ta_nil))) (ta_cons (te_callB call_isX (cd_isX T.isx) (by rfl) T.n_isinstance (by decide +kernel) (ta_cons (te_var (pv 0)) (ta_cons (te_ref rfl T.m_Ended) ta_nil))) ta_nil)))))))
  (ss_cons (ss_set (i := 1) sc_last_kinds.nd rfl (Or.inl rfl) (te_op op_addA od_add (te_var (pv 1)) (te_lst (ta_cons (te_callB call_isX (cd_isX T.isx) (by rfl) T.n_isinstance (by decide +kernel) (ta_cons (te_var (pv 0)) (ta_cons (te_ref rfl T.m_NothingLeft) ta_nil))) (ta_cons (te_callB call_isX (cd_isX T.isx) (by rfl) T.n_isinstance (by decide +kernel) (ta_cons (te_var (pv 0)) (ta_cons (te_ref rfl T.m_InvalidChart) ta_nil))) (ta_cons (te_callB call_isX (cd_isX T.isx) (by rfl) T.n_isinstance (by decide +kernel) (ta_cons (te_var (pv 0)) (ta_cons (te_ref rfl T.m_InvalidText) ta_nil))) ta_nil))))))
  (ss_one (ss_ret (te_op op_addA od_add (te_var (pv 1)) (te_lst (ta_cons (te_callB call_isX (cd_isX T.isx) (by rfl) T.n_isinstance (by decide +kernel) (ta_cons (te_var (pv 0)) (ta_cons (te_ref rfl T.m_OffChart) ta_nil))) (ta_cons (te_callB call_isX (cd_isX T.isx) (by rfl) T.n_isinstance (by decide +kernel) (ta_cons (te_var (pv 0)) (ta_cons (te_ref rfl T.m_TooMany) ta_nil))) (ta_cons (te_callB call_isX (cd_isX T.isx) (by rfl) T.n_isinstance (by decide +kernel) (ta_cons (te_var (pv 0)) (ta_cons (te_ref rfl T.m_NoSky) ta_nil))) (ta_cons (te_callB call_isX (cd_isX T.isx) (by rfl) T.n_isinstance (by decide +kernel) (ta_cons (te_var (pv 0)) (ta_cons (te_ref rfl T.m_Impossible) ta_nil))) ta_nil)))))))))))
abbrev s_titles : Stmt := topS 57
def n_titles : List Str := ["_law_found"]
theorem sc_titles : FnScope ["_law_found"] [] (defScope s_titles) := ⟨rfl, rfl, rfl, by decide +kernel, rfl, by decide +kernel, by decide +kernel⟩
def b_titles (cs : List Addr) : ST :=
  (sSeq (sSet 0 (eLst (aCons (eC (.str "InvalidNumber")) (aCons (eC (.str "InvalidGauge")) (aCons (eC (.str "InvalidPlace")) (aCons (eC (.str "InvalidTop")) (aCons (eC (.str "InvalidMirror")) (aCons (eC (.str "NoBranch")) (aCons (eC (.str "OnLand")) aNil)))))))))
  (sSeq (sSet 0 (eOp dAdd (eVar 0) (eLst (aCons (eC (.str "InvalidMeasure")) (aCons (eC (.str "UnknownPlace")) (aCons (eC (.str "UnknownSaying")) (aCons (eC (.str "UnknownGauge")) (aCons (eC (.str "UnknownCase")) (aCons (eC (.str "UnknownReport")) aNil)))))))))
  (sSeq (sSet 0 (eOp dAdd (eVar 0) (eLst (aCons (eC (.str "UnknownWatch")) (aCons (eC (.str "InvalidWind")) (aCons (eC (.str "InvalidRegion")) (aCons (eC (.str "InvalidPath")) (aCons (eC (.str "InvalidSquall")) (aCons (eC (.str "InvalidSaying")) aNil)))))))))
  (sSeq (sSet 0 (eOp dAdd (eVar 0) (eLst (aCons (eC (.str "NotForced")) (aCons (eC (.str "NotPlain")) (aCons (eC (.str "Unkept")) (aCons (eC (.str "InvalidStation")) (aCons (eC (.str "InvalidWay")) (aCons (eC (.str "InvalidDeed")) (aCons (eC (.str "InvalidHeights")) aNil))))))))))
  (sSeq (sSet 0 (eOp dAdd (eVar 0) (eLst (aCons (eC (.str "OtherChart")) (aCons (eC (.str "InvalidPaper")) (aCons (eC (.str "HasSky")) (aCons (eC (.str "NoWay")) (aCons (eC (.str "NoCase")) (aCons (eC (.str "NoDraft")) (aCons (eC (.str "Ended")) (aCons (eC (.str "NothingLeft")) aNil)))))))))))
  (sRet (eOp dAdd (eVar 0) (eLst (aCons (eC (.str "InvalidChart")) (aCons (eC (.str "InvalidText")) (aCons (eC (.str "OffChart")) (aCons (eC (.str "TooMany")) (aCons (eC (.str "NoSky")) (aCons (eC (.str "Impossible")) aNil))))))))))))))
theorem pb_titles (cs : List Addr) {fa : Addr} (T : Txt K mg cs) (XX : Xns P wd K mg base cs) 
    (cdv : Value) (A : Around) (outer : List PySem.Env) (s : Shared) (H : Hp) (E : XK) (hr : Room (0) (A.deeper (envOfC "_law_titles" (defScope s_titles) s.heap.objs.size fa cdv))) :
    PSs (cxOf CX0 P wd K mg base ["_law_found"] "_law_titles" (defScope s_titles) fa cdv A outer s H E).nox (defBody s_titles) (LS K (b_titles cs)) :=
  (ss_cons (ss_set (i := 0) sc_titles.nd rfl (Or.inl rfl) (te_lst (ta_cons te_str (ta_cons te_str (ta_cons te_str (ta_cons te_str (ta_cons te_str (ta_cons te_str (ta_cons te_str ta_nil)))))))))
  (ss_cons (ss_set (i := 0) sc_titles.nd rfl (Or.inl rfl) (te_op op_addA od_add (te_var (pv 0)) (te_lst (ta_cons te_str (ta_cons te_str (ta_cons te_str (ta_cons te_str (ta_cons te_str (ta_cons te_str ta_nil)))))))))
  (ss_cons (ss_set (i := 0) sc_titles.nd rfl (Or.inl rfl) (te_op op_addA od_add (te_var (pv 0)) (te_lst (ta_cons te_str (ta_cons te_str (ta_cons te_str (ta_cons te_str (ta_cons te_str (ta_cons te_str ta_nil)))))))))
  (ss_cons (ss_set (i := 0) sc_titles.nd rfl (Or.inl rfl) (te_op op_addA od_add (te_var (pv 0)) (te_lst (ta_cons te_str (ta_cons te_str (ta_cons te_str (ta_cons te_str (ta_cons te_str (ta_cons te_str (ta_cons te_str ta_nil))))))))))
  (ss_cons (ss_set (i := 0) sc_titles.nd rfl (Or.inl rfl) (te_op op_addA od_add (te_var (pv 0)) (te_lst (ta_cons te_str (ta_cons te_str (ta_cons te_str (ta_cons te_str (ta_cons te_str (ta_cons te_str (ta_cons te_str (ta_cons te_str ta_nil)))))))))))
  (ss_one (ss_ret (te_op op_addA od_add (te_var (pv 0)) (te_lst (ta_cons te_str (ta_cons te_str (ta_cons te_str (ta_cons te_str (ta_cons te_str (ta_cons te_str ta_nil)))))))))))))))
abbrev s_is : Stmt := topS 58
def n_is : List Str := ["_law_e", "_law_title", "_law_kinds", "_law_lost", "_law_left", "_law_bases", "_law_one"]
theorem sc_is : FnScope ["_law_e", "_law_title", "_law_kinds", "_law_lost", "_law_left", "_law_bases", "_law_one"] ["_law_e", "_law_title"] (defScope s_is) := ⟨rfl, rfl, rfl, by decide +kernel, rfl, by decide +kernel, by decide +kernel⟩
def b_is (cs : List Addr) : ST :=
  (sSeq (sSet 2 (eOp dAdd (eOp dAdd (eCall (sp_first_kinds cs) (aCons (eVar 0) aNil)) (eCall (sp_next_kinds cs) (aCons (eVar 0) aNil))) (eCall (sp_last_kinds cs) (aCons (eVar 0) aNil))))
  (sSeq (sIf (bOr (bNot (bT (eCall (sp_same 8) (aCons (eXf (cAs cs [2, 3, 4, 5, 6, 7, 8, 9, 10, 11, 12, 13, 14, 15, 16, 17, 18, 19, 20, 21, 22, 23, 24, 25, 26, 27, 28, 29, 30, 31, 32, 33, 34, 35, 36, 37, 38, 39, 40, 41]) "code" (eVar 0)) (aCons (eVar 1) aNil))))) (bB (eOp dNe (eVar 2) (eComp (itAny (eCall sp_titles aNil)) (.nm 6) bYes (eOp dEq (eVar 6) (eVar 1)) [6]))))
  (sRet (eC (.bl false))) sNext)
  (sSeq (sPar 3 4 (aCons (eOp dEq (eSl (eVar 1) oNo (oYes (eC (.int 7)))) (eC (.str "Unknown"))) (aCons (eOp dEq (eVar 1) (eC (.str "NothingLeft"))) aNil)))
  (sSeq (sSet 5 (eLst (aCons (eCall (dIsX (tbl cs)) (aCons (eVar 0) (aCons (eC (.ref (cA cs 0))) aNil))) (aCons (eCall (dIsX (tbl cs)) (aCons (eVar 0) (aCons (eC (.ty "ValueError")) aNil))) (aCons (eCall (dIsX (tbl cs)) (aCons (eVar 0) (aCons (eC (.ref (cA cs 1))) aNil))) (aCons (eCall (dIsX (tbl cs)) (aCons (eVar 0) (aCons (eC (.ty "LookupError")) aNil))) aNil))))))
  (sRet (eOp dEq (eOp dAdd (eVar 5) (eLst (aCons (eCall (dIsX (tbl cs)) (aCons (eVar 0) (aCons (eC (.ty "IndexError")) aNil))) aNil))) (eOp dAdd (eOp dRep (eLst (aCons (eAnd (eNot (eVar 3)) (eNot (eVar 4))) aNil)) (eC (.int 2))) (eLst (aCons (eVar 3) (aCons (eOr (eVar 3) (eVar 4)) (aCons (eVar 4) aNil)))))))))))
theorem pb_is (cs : List Addr) {fa : Addr} (T : Txt K mg cs) (XX : Xns P wd K mg base cs) (G_first_kinds : FnI P wd K mg base "_law_first_kinds" s_first_kinds 1 ["_law_e"] (sp_first_kinds cs)) (G_next_kinds : FnI P wd K mg base "_law_next_kinds" s_next_kinds 1 ["_law_e"] (sp_next_kinds cs)) (G_last_kinds : FnI P wd K mg base "_law_last_kinds" s_last_kinds 1 ["_law_e"] (sp_last_kinds cs)) (G_same : FnI P wd K mg base "_law_same" s_same 9 ["_law_found", "_law_due"] (sp_same 8)) (G_titles : FnI P wd K mg base "_law_titles" s_titles 1 [] sp_titles)
    (cdv : Value) (A : Around) (outer : List PySem.Env) (s : Shared) (H : Hp) (E : XK) (hr : Room (9) (A.deeper (envOfC "_law_is" (defScope s_is) s.heap.objs.size fa cdv))) :
    PSs (cxOf CX0 P wd K mg base ["_law_e", "_law_title", "_law_kinds", "_law_lost", "_law_left", "_law_bases", "_law_one"] "_law_is" (defScope s_is) fa cdv A outer s H E).nox (defBody s_is) (LS K (b_is cs)) :=
  (ss_cons (ss_set (i := 2) sc_is.nd rfl (Or.inl rfl) (te_op op_addA od_add (te_op op_addA od_add (te_fn G_first_kinds hr rfl (ta_cons (te_var (pv 0)) ta_nil)) (te_fn G_next_kinds hr rfl (ta_cons (te_var (pv 0)) ta_nil))) (te_fn G_last_kinds hr rfl (ta_cons (te_var (pv 0)) ta_nil))))
  (ss_cons (ss_if (PW.pt (tw_or (tb_not (tb_truth (te_fn G_same hr rfl (ta_cons (te_xf T.fd_code (te_var (pv 0))) (ta_cons (te_var (pv 1)) ta_nil))))) (tw_or1 (tb_cmp (op_neD (hu64 hr)) od_ne (te_var (pv 2)) (te_comp rfl sc_is.nd (ti_any (te_fn0 G_titles hr rfl)) (blkOk_by (own := [("_law_one", 6)]) (N := n_is) (sc := defScope s_is) (by decide +kernel)) (fun _ _ _ _ _ => (tg_nm (i := 6) sc_is.nd rfl (Or.inl rfl))) (fun _ _ _ _ _ => tts_nil) (fun _ _ _ _ _ => (te_cmp (op_eqD (hu64 hr)) od_eq (te_var (pv 6)) (te_var (pv 1)) (nomark _))) (by decide)) (nomark _)))))
  (ss_one (ss_ret te_bl)) ss_nil)
  (ss_cons (ss_par (i := 3) (j := 4) rfl sc_is.nd rfl rfl (by decide) rfl rfl (ta_cons (te_cmp (op_eqD (hu64 hr)) od_eq (te_sl (te_var (pv 1)) to_no (to_yes te_int)) te_str (nomark _)) (ta_cons (te_cmp (op_eqD (hu64 hr)) od_eq (te_var (pv 1)) te_str (nomark _)) ta_nil)) (by rfl))
  (ss_cons (ss_set (i := 5) sc_is.nd rfl (Or.inl rfl) (te_lst (ta_cons (te_callB call_isX (cd_isX T.isx) (by rfl) T.n_isinstance (by decide +kernel) (ta_cons (te_var (pv 0)) (ta_cons (te_ref rfl T.m_SkyError) ta_nil))) (ta_cons (te_callB call_isX (cd_isX T.isx) (by rfl) T.n_isinstance (by decide +kernel) (ta_cons (te_var (pv 0)) (ta_cons (te_ty (by rfl) T.n_ValueError (by decide +kernel)) ta_nil))) (ta_cons (te_callB call_isX (cd_isX T.isx) (by rfl) T.n_isinstance (by decide +kernel) (ta_cons (te_var (pv 0)) (ta_cons (te_ref rfl T.m_Missing) ta_nil))) (ta_cons (te_callB call_isX (cd_isX T.isx) (by rfl) T.n_isinstance (by decide +kernel) (ta_cons (te_var (pv 0)) (ta_cons (te_ty (by rfl) T.n_LookupError (by decide +kernel)) ta_nil))) ta_nil))))))
  (ss_one (ss_ret (te_cmp (op_eqD (hu64 hr)) od_eq (te_op op_addA od_add (te_var (pv 5)) (te_lst (ta_cons (te_callB call_isX (cd_isX T.isx) (by rfl) T.n_isinstance (by decide +kernel) (ta_cons (te_var (pv 0)) (ta_cons (te_ty (by rfl) T.n_IndexError (by decide +kernel)) ta_nil))) ta_nil))) (te_op op_addA od_add (te_op op_rep od_rep (te_lst (ta_cons (te_and (te_not (te_var (pv 3))) (te_one (te_not (te_var (pv 4))))) ta_nil)) te_int) (te_lst (ta_cons (te_var (pv 3)) (ta_cons (te_or (te_var (pv 3)) (te_one (te_var (pv 4)))) (ta_cons (te_var (pv 4)) ta_nil))))) (nomark _))))))))
abbrev s_worth : Stmt := topS 59
def n_worth : List Str := ["_law_bag_here"]
theorem sc_worth : FnScope ["_law_bag_here"] ["_law_bag_here"] (defScope s_worth) := ⟨rfl, rfl, rfl, by decide +kernel, rfl, by decide +kernel, by decide +kernel⟩
def b_worth (cs : List Addr) : ST :=
  (sRet (eCall sp_pick (aCons (eVar 0) (aCons (eLst (aCons (eC .non) (aCons (eC (.bl true)) (aCons (eC (.bl false)) (aCons (eC (.int 0)) (aCons (eUn dNeg (eC (.int 1))) (aCons (eC (.str "x")) (aCons (eC (.str "")) (aCons (eTup (aCons (eC (.int 1)) (aCons (eC (.int 2)) aNil))) (aCons (eLst (aCons (eC (.int 3)) aNil)) (aCons (eTup (aCons (eC (.str "a")) (aCons (eC .non) aNil))) (aCons (eC (.int 999999999)) (aCons (eCall sp_draw (aCons (eVar 0) (aCons (eOp dPow (eC (.int 10)) (eC (.int 6))) aNil))) aNil))))))))))))) aNil))))
theorem pb_worth (cs : List Addr) {fa : Addr} (T : Txt K mg cs) (XX : Xns P wd K mg base cs) (G_pick : FnI P wd K mg base "_law_pick" s_pick 2 ["_law_bag_here", "_law_some"] sp_pick) (G_draw : FnI P wd K mg base "_law_draw" s_draw 1 ["_law_bag_here", "_law_many"] sp_draw)
    (cdv : Value) (A : Around) (outer : List PySem.Env) (s : Shared) (H : Hp) (E : XK) (hr : Room (2) (A.deeper (envOfC "_law_worth" (defScope s_worth) s.heap.objs.size fa cdv))) :
    PSs (cxOf CX0 P wd K mg base ["_law_bag_here"] "_law_worth" (defScope s_worth) fa cdv A outer s H E).nox (defBody s_worth) (LS K (b_worth cs)) :=
  (ss_one (ss_ret (te_fn G_pick hr rfl (ta_cons (te_var (pv 0)) (ta_cons (te_lst (ta_cons te_non (ta_cons te_bl (ta_cons te_bl (ta_cons te_int (ta_cons (te_neg te_int) (ta_cons te_str (ta_cons te_str (ta_cons (te_tup (ta_cons te_int (ta_cons te_int ta_nil))) (ta_cons (te_lst (ta_cons te_int ta_nil)) (ta_cons (te_tup (ta_cons te_str (ta_cons te_non ta_nil))) (ta_cons te_int (ta_cons (te_fn G_draw hr rfl (ta_cons (te_var (pv 0)) (ta_cons (te_op op_pow od_pow te_int te_int) ta_nil))) ta_nil))))))))))))) ta_nil)))))
abbrev s_law : Stmt := topS 60
def n_law : List Str := ["_law_script", "_law_bag_here", "_law_titles_here", "_law_turn", "_law_x", "_law_y", "_law_k", "_law_e", "_law_chart_e", "_law_text_e", "_law_off_e", "_law_many_e", "_law_none_e", "_law_core_e", "_law_told", "_law_row_z", "_law_bases", "_law_kinds", "_law_title"]
theorem sc_law : FnScope ["_law_script", "_law_bag_here", "_law_titles_here", "_law_turn", "_law_x", "_law_y", "_law_k", "_law_e", "_law_chart_e", "_law_text_e", "_law_off_e", "_law_many_e", "_law_none_e", "_law_core_e", "_law_told", "_law_row_z", "_law_bases", "_law_kinds", "_law_title"] ["_law_script"] (defScope s_law) := ⟨rfl, rfl, rfl, by decide +kernel, rfl, by decide +kernel, by decide +kernel⟩
def b_law (cs : List Addr) : ST :=
  (sSeq (sPar 1 2 (aCons (eCall sp_bag (aCons (eVar 0) aNil)) (aCons (eCall sp_titles aNil) aNil)))
  (sSeq (sFor (itRange1 (aCons (eC (.int 2)) aNil)) (.nm 3)
  (sSeq (sPar 4 5 (aCons (eCall sp_worth (aCons (eVar 1) aNil)) (aCons (eCall sp_worth (aCons (eVar 1) aNil)) aNil)))
  (sSeq (sFor (itEnum (aCons (eOp dAdd (eCall (sp_by_value cs) (aCons (eVar 4) aNil)) (eCall (sp_by_value_too cs) (aCons (eVar 4) aNil))) aNil)) (.tp [(.nm 6), (.nm 7)])
  (sIf (bOr (bNot (bT (eCall (sp_is cs) (aCons (eVar 7) (aCons (eOp dIx (eVar 2) (eOp dMod (eCall dIntOf (aCons (eVar 6) aNil)) (eC (.int 14)))) aNil))))) (bNot (bT (eCall (sp_same 8) (aCons (eXf (cAs cs [2, 3, 4, 7, 13, 25, 26, 28, 35, 36, 37, 38, 39, 40]) "value" (eVar 7)) (aCons (eVar 4) aNil))))))
  (sRet (eC (.bl false))) sNext))
  (sSeq (sFor (itEnum (aCons (eOp dAdd (eCall (sp_by_at cs) (aCons (eVar 4) aNil)) (eCall (sp_by_at_too cs) (aCons (eVar 4) aNil))) aNil)) (.tp [(.nm 6), (.nm 7)])
  (sIf (bOr (bNot (bT (eCall (sp_is cs) (aCons (eVar 7) (aCons (eOp dIx (eVar 2) (eOp dAdd (eC (.int 14)) (eOp dMod (eCall dIntOf (aCons (eVar 6) aNil)) (eC (.int 11))))) aNil))))) (bNot (bT (eCall (sp_same 8) (aCons (eXf (cAs cs [6, 9, 10, 11, 14, 18, 22, 23, 24, 27, 32]) "at" (eVar 7)) (aCons (eVar 4) aNil))))))
  (sRet (eC (.bl false))) sNext))
  (sSeq (sFor (itEnum (aCons (eCall (sp_by_none cs) aNil) aNil)) (.tp [(.nm 6), (.nm 7)])
  (sIf (bNot (bT (eCall (sp_is cs) (aCons (eVar 7) (aCons (eOp dIx (eVar 2) (eOp dAdd (eC (.int 25)) (eVar 6))) aNil)))))
  (sRet (eC (.bl false))) sNext))
  (sSeq (sAsg (.tp [(.nm 8), (.nm 9), (.nm 10), (.nm 11), (.nm 12), (.nm 13)]) (eCall (sp_others cs) (aCons (eVar 4) (aCons (eVar 5) aNil))))
  (sFor (itRange1 (aCons (eC (.int 2)) aNil)) (.nm 6)
  (sSeq (sSet 14 (eLst (aCons (eXf (cAs cs [5]) "row" (eOp dIx (eVar 8) (eVar 6))) (aCons (eXf (cAs cs [5]) "column" (eOp dIx (eVar 8) (eVar 6))) (aCons (eXf (cAs cs [8]) "line" (eOp dIx (eVar 9) (eVar 6))) (aCons (eXf (cAs cs [8]) "why" (eOp dIx (eVar 9) (eVar 6))) (aCons (eXf (cAs cs [15]) "place" (eOp dIx (eVar 10) (eVar 6))) (aCons (eXf (cAs cs [17]) "most" (eOp dIx (eVar 11) (eVar 6))) aNil))))))))
  (sSeq (sIf (bNot (bT (eCall (sp_same 8) (aCons (eOp dAdd (eVar 14) (eLst (aCons (eXf (cAs cs [20]) "grounds" (eOp dIx (eVar 12) (eVar 6))) (aCons (eXf (cAs cs [31]) "core" (eOp dIx (eVar 13) (eVar 6))) aNil)))) (aCons (eLst (aCons (eVar 4) (aCons (eVar 5) (aCons (eVar 4) (aCons (eVar 5) (aCons (eVar 4) (aCons (eVar 4) (aCons (eVar 4) (aCons (eVar 4) aNil))))))))) aNil)))))
  (sRet (eC (.bl false))) sNext)
  (sSeq (sSet 15 (eLst (aCons (eOp dIx (eVar 8) (eVar 6)) (aCons (eOp dIx (eVar 9) (eVar 6)) (aCons (eOp dIx (eVar 10) (eVar 6)) (aCons (eOp dIx (eVar 11) (eVar 6)) (aCons (eOp dIx (eVar 12) (eVar 6)) (aCons (eOp dIx (eVar 13) (eVar 6)) aNil))))))))
  (sIf (bB (eOp dNe (eComp (itZip (aCons (eVar 15) (aCons (eSl (eVar 2) (oYes (eC (.int 34))) oNo) aNil))) (.tp [(.nm 7), (.nm 18)]) (bNot (bT (eCall (sp_is cs) (aCons (eVar 7) (aCons (eVar 18) aNil))))) (eVar 18) [7, 18]) (eLst aNil)))
  (sRet (eC (.bl false))) sNext)))))))))))
  (sSeq (sSet 16 (eLst (aCons (eC (.exc (cA cs 0) [] [])) (aCons (eC (.exc (cA cs 1) [] [])) aNil))))
  (sSeq (sSet 17 (eComp (itAny (eVar 16)) (.nm 7) bYes (eLst (aCons (eCall (dIsX (tbl cs)) (aCons (eVar 7) (aCons (eC (.ty "ValueError")) aNil))) (aCons (eCall (dIsX (tbl cs)) (aCons (eVar 7) (aCons (eC (.ty "LookupError")) aNil))) (aCons (eCall (dIsX (tbl cs)) (aCons (eVar 7) (aCons (eC (.ty "IndexError")) aNil))) aNil)))) [7]))
  (sRet (eAnd (eOp dEq (eVar 17) (eLst (aCons (eLst (aCons (eC (.bl true)) (aCons (eC (.bl false)) (aCons (eC (.bl false)) aNil)))) (aCons (eLst (aCons (eC (.bl false)) (aCons (eC (.bl true)) (aCons (eC (.bl false)) aNil)))) aNil)))) (eNot (eCall dAny (aCons (eComp (itAny (eVar 16)) (.nm 7) bYes (eCall dAny (aCons (eCall (sp_first_kinds cs) (aCons (eVar 7) aNil)) aNil)) [7]) aNil)))))))))
theorem pb_law (cs : List Addr) {fa : Addr} (T : Txt K mg cs) (XX : Xns P wd K mg base cs) (G_titles : FnI P wd K mg base "_law_titles" s_titles 1 [] sp_titles) (G_bag : FnI P wd K mg base "_law_bag" s_bag 1 ["_law_script"] sp_bag) (G_worth : FnI P wd K mg base "_law_worth" s_worth 3 ["_law_bag_here"] sp_worth) (G_by_value : FnI P wd K mg base "_law_by_value" s_by_value 3 ["_law_x"] (sp_by_value cs)) (G_by_value_too : FnI P wd K mg base "_law_by_value_too" s_by_value_too 3 ["_law_x"] (sp_by_value_too cs)) (G_is : FnI P wd K mg base "_law_is" s_is 10 ["_law_e", "_law_title"] (sp_is cs)) (G_same : FnI P wd K mg base "_law_same" s_same 9 ["_law_found", "_law_due"] (sp_same 8)) (G_by_at : FnI P wd K mg base "_law_by_at" s_by_at 3 ["_law_x"] (sp_by_at cs)) (G_by_at_too : FnI P wd K mg base "_law_by_at_too" s_by_at_too 3 ["_law_x"] (sp_by_at_too cs)) (G_by_none : FnI P wd K mg base "_law_by_none" s_by_none 3 [] (sp_by_none cs)) (G_others : FnI P wd K mg base "_law_others" s_others 3 ["_law_x", "_law_y"] (sp_others cs)) (G_first_kinds : FnI P wd K mg base "_law_first_kinds" s_first_kinds 1 ["_law_e"] (sp_first_kinds cs))
    (cdv : Value) (A : Around) (outer : List PySem.Env) (s : Shared) (H : Hp) (E : XK) (hr : Room (10) (A.deeper (envOfC "law" (defScope s_law) s.heap.objs.size fa cdv))) :
    PSs (cxOf CX0 P wd K mg base ["_law_script", "_law_bag_here", "_law_titles_here", "_law_turn", "_law_x", "_law_y", "_law_k", "_law_e", "_law_chart_e", "_law_text_e", "_law_off_e", "_law_many_e", "_law_none_e", "_law_core_e", "_law_told", "_law_row_z", "_law_bases", "_law_kinds", "_law_title"] "law" (defScope s_law) fa cdv A outer s H E).nox (defBody s_law) (LS K (b_law cs)) :=
  (ss_cons (ss_par (i := 1) (j := 2) rfl sc_law.nd rfl rfl (by decide) rfl rfl (ta_cons (te_fn G_bag hr rfl (ta_cons (te_var (pv 0)) ta_nil)) (ta_cons (te_fn0 G_titles hr rfl) ta_nil)) (by rfl))
  (ss_cons (ss_for PassesOwn.never rfl (ti_range1 rfl T.n_range (ta_cons te_int ta_nil)) (tg_nm (i := 3) sc_law.nd rfl (Or.inl rfl))
  (ss_cons (ss_par (i := 4) (j := 5) rfl sc_law.nd rfl rfl (by decide) rfl rfl (ta_cons (te_fn G_worth hr rfl (ta_cons (te_var (pv 1)) ta_nil)) (ta_cons (te_fn G_worth hr rfl (ta_cons (te_var (pv 1)) ta_nil)) ta_nil)) (by rfl))
  (ss_cons (ss_for PassesOwn.never rfl (ti_enum rfl T.n_enumerate (ta_cons (te_op op_addA od_add (te_fn G_by_value hr rfl (ta_cons (te_var (pv 4)) ta_nil)) (te_fn G_by_value_too hr rfl (ta_cons (te_var (pv 4)) ta_nil))) ta_nil)) (tg_tp rfl (tgs_cons (tg_nm (i := 6) sc_law.nd rfl (Or.inl rfl)) (tgs_cons (tg_nm (i := 7) sc_law.nd rfl (Or.inl rfl)) tgs_nil)))
  (ss_one (ss_if (PW.pt (tw_or (tb_not (tb_truth (te_fn G_is hr rfl (ta_cons (te_var (pv 7)) (ta_cons (te_ix (te_var (pv 2)) (te_op op_mod od_mod (te_callTy call_intA cd_int (by rfl) T.n_int (by decide +kernel) (ta_cons (te_var (pv 6)) ta_nil)) te_int) (fun _ _ => rfl)) ta_nil))))) (tw_or1 (tb_not (tb_truth (te_fn G_same hr rfl (ta_cons (te_xf T.fd_value (te_var (pv 7))) (ta_cons (te_var (pv 4)) ta_nil))))))))
  (ss_one (ss_ret te_bl)) ss_nil)))
  (ss_cons (ss_for PassesOwn.never rfl (ti_enum rfl T.n_enumerate (ta_cons (te_op op_addA od_add (te_fn G_by_at hr rfl (ta_cons (te_var (pv 4)) ta_nil)) (te_fn G_by_at_too hr rfl (ta_cons (te_var (pv 4)) ta_nil))) ta_nil)) (tg_tp rfl (tgs_cons (tg_nm (i := 6) sc_law.nd rfl (Or.inl rfl)) (tgs_cons (tg_nm (i := 7) sc_law.nd rfl (Or.inl rfl)) tgs_nil)))
  (ss_one (ss_if (PW.pt (tw_or (tb_not (tb_truth (te_fn G_is hr rfl (ta_cons (te_var (pv 7)) (ta_cons (te_ix (te_var (pv 2)) (te_op op_addA od_add te_int (te_op op_mod od_mod (te_callTy call_intA cd_int (by rfl) T.n_int (by decide +kernel) (ta_cons (te_var (pv 6)) ta_nil)) te_int)) (fun _ _ => rfl)) ta_nil))))) (tw_or1 (tb_not (tb_truth (te_fn G_same hr rfl (ta_cons (te_xf T.fd_at (te_var (pv 7))) (ta_cons (te_var (pv 4)) ta_nil))))))))
  (ss_one (ss_ret te_bl)) ss_nil)))
  (ss_cons (ss_for PassesOwn.never rfl (ti_enum rfl T.n_enumerate (ta_cons (te_fn0 G_by_none hr rfl) ta_nil)) (tg_tp rfl (tgs_cons (tg_nm (i := 6) sc_law.nd rfl (Or.inl rfl)) (tgs_cons (tg_nm (i := 7) sc_law.nd rfl (Or.inl rfl)) tgs_nil)))
  (ss_one (ss_if (tb_not (tb_truth (te_fn G_is hr rfl (ta_cons (te_var (pv 7)) (ta_cons (te_ix (te_var (pv 2)) (te_op op_addA od_add te_int (te_var (pv 6))) (fun _ _ => rfl)) ta_nil)))))
  (ss_one (ss_ret te_bl)) ss_nil)))
  (ss_cons (ss_asg (te_fn G_others hr rfl (ta_cons (te_var (pv 4)) (ta_cons (te_var (pv 5)) ta_nil))) (tg_tp rfl (tgs_cons (tg_nm (i := 8) sc_law.nd rfl (Or.inl rfl)) (tgs_cons (tg_nm (i := 9) sc_law.nd rfl (Or.inl rfl)) (tgs_cons (tg_nm (i := 10) sc_law.nd rfl (Or.inl rfl)) (tgs_cons (tg_nm (i := 11) sc_law.nd rfl (Or.inl rfl)) (tgs_cons (tg_nm (i := 12) sc_law.nd rfl (Or.inl rfl)) (tgs_cons (tg_nm (i := 13) sc_law.nd rfl (Or.inl rfl)) tgs_nil))))))))
  (ss_one (ss_for PassesOwn.never rfl (ti_range1 rfl T.n_range (ta_cons te_int ta_nil)) (tg_nm (i := 6) sc_law.nd rfl (Or.inl rfl))
  (ss_cons (ss_set (i := 14) sc_law.nd rfl (Or.inl rfl) (te_lst (ta_cons (te_xf T.fd_row (te_ix (te_var (pv 8)) (te_var (pv 6)) (fun _ _ => rfl))) (ta_cons (te_xf T.fd_column (te_ix (te_var (pv 8)) (te_var (pv 6)) (fun _ _ => rfl))) (ta_cons (te_xf T.fd_line (te_ix (te_var (pv 9)) (te_var (pv 6)) (fun _ _ => rfl))) (ta_cons (te_xf T.fd_why (te_ix (te_var (pv 9)) (te_var (pv 6)) (fun _ _ => rfl))) (ta_cons (te_xf T.fd_place (te_ix (te_var (pv 10)) (te_var (pv 6)) (fun _ _ => rfl))) (ta_cons (te_xf T.fd_most (te_ix (te_var (pv 11)) (te_var (pv 6)) (fun _ _ => rfl))) ta_nil))))))))
  (ss_cons (ss_if (tb_not (tb_truth (te_fn G_same hr rfl (ta_cons (te_op op_addA od_add (te_var (pv 14)) (te_lst (ta_cons (te_xf T.fd_grounds (te_ix (te_var (pv 12)) (te_var (pv 6)) (fun _ _ => rfl))) (ta_cons (te_xf T.fd_core (te_ix (te_var (pv 13)) (te_var (pv 6)) (fun _ _ => rfl))) ta_nil)))) (ta_cons (te_lst (ta_cons (te_var (pv 4)) (ta_cons (te_var (pv 5)) (ta_cons (te_var (pv 4)) (ta_cons (te_var (pv 5)) (ta_cons (te_var (pv 4)) (ta_cons (te_var (pv 4)) (ta_cons (te_var (pv 4)) (ta_cons (te_var (pv 4)) ta_nil))))))))) ta_nil)))))
  (ss_one (ss_ret te_bl)) ss_nil)
  (ss_cons (ss_set (i := 15) sc_law.nd rfl (Or.inl rfl) (te_lst (ta_cons (te_ix (te_var (pv 8)) (te_var (pv 6)) (fun _ _ => rfl)) (ta_cons (te_ix (te_var (pv 9)) (te_var (pv 6)) (fun _ _ => rfl)) (ta_cons (te_ix (te_var (pv 10)) (te_var (pv 6)) (fun _ _ => rfl)) (ta_cons (te_ix (te_var (pv 11)) (te_var (pv 6)) (fun _ _ => rfl)) (ta_cons (te_ix (te_var (pv 12)) (te_var (pv 6)) (fun _ _ => rfl)) (ta_cons (te_ix (te_var (pv 13)) (te_var (pv 6)) (fun _ _ => rfl)) ta_nil))))))))
  (ss_one (ss_if (tb_cmp (op_neD (hu64 hr)) od_ne (te_comp rfl sc_law.nd (ti_zip rfl T.n_zip (ta_cons (te_var (pv 15)) (ta_cons (te_sl (te_var (pv 2)) (to_yes te_int) to_no) ta_nil))) (blkOk_by (own := [("_law_e", 7), ("_law_title", 18)]) (N := n_law) (sc := defScope s_law) (by decide +kernel)) (fun _ _ _ _ _ => (tg_tp rfl (tgs_cons (tg_nm (i := 7) sc_law.nd rfl (Or.inl rfl)) (tgs_cons (tg_nm (i := 18) sc_law.nd rfl (Or.inl rfl)) tgs_nil)))) (fun _ _ _ _ _ => (tts_one (tb_not (tb_truth (te_fn G_is hr rfl (ta_cons (te_var (pv 7)) (ta_cons (te_var (pv 18)) ta_nil))))))) (fun _ _ _ _ _ => (te_var (pv 18))) (by decide)) (te_lst ta_nil) (nomark _))
  (ss_one (ss_ret te_bl)) ss_nil)))))))))))))
  (ss_cons (ss_set (i := 16) sc_law.nd rfl (Or.inl rfl) (te_lst (ta_cons (te_xb0 PySem.F.excBase_ValueError T.q_SkyError T.m_SkyError T.k_SkyError rfl) (ta_cons (te_xb0 PySem.F.excBase_LookupError T.q_Missing T.m_Missing T.k_Missing rfl) ta_nil))))
  (ss_cons (ss_comp (i := 17) rfl sc_law.nd rfl rfl (sw_true rfl rfl rfl (by decide +kernel)) (ti_any (te_var (pv 16))) (blkOk_by (own := [("_law_e", 7)]) (N := n_law) (sc := defScope s_law) (by decide +kernel)) (fun _ _ _ _ _ => (tg_nm (i := 7) sc_law.nd rfl (Or.inl rfl))) (fun _ _ _ _ _ => tts_nil) (fun _ _ _ _ _ => (te_lst (ta_cons (te_callB call_isX (cd_isX T.isx) (by rfl) T.n_isinstance (by decide +kernel) (ta_cons (te_var (pv 7)) (ta_cons (te_ty (by rfl) T.n_ValueError (by decide +kernel)) ta_nil))) (ta_cons (te_callB call_isX (cd_isX T.isx) (by rfl) T.n_isinstance (by decide +kernel) (ta_cons (te_var (pv 7)) (ta_cons (te_ty (by rfl) T.n_LookupError (by decide +kernel)) ta_nil))) (ta_cons (te_callB call_isX (cd_isX T.isx) (by rfl) T.n_isinstance (by decide +kernel) (ta_cons (te_var (pv 7)) (ta_cons (te_ty (by rfl) T.n_IndexError (by decide +kernel)) ta_nil))) ta_nil))))) (by decide))
  (ss_one (ss_ret (te_and (te_cmp (op_eqD (hu64 hr)) od_eq (te_var (pv 17)) (te_lst (ta_cons (te_lst (ta_cons te_bl (ta_cons te_bl (ta_cons te_bl ta_nil)))) (ta_cons (te_lst (ta_cons te_bl (ta_cons te_bl (ta_cons te_bl ta_nil)))) ta_nil))) (nomark _)) (te_one (te_not (te_callB (cr_any rfl) cd_any (by rfl) T.n_any (by decide +kernel) (ta_cons (te_comp rfl sc_law.nd (ti_any (te_var (pv 16))) (blkOk_by (own := [("_law_e", 7)]) (N := n_law) (sc := defScope s_law) (by decide +kernel)) (fun _ _ _ _ _ => (tg_nm (i := 7) sc_law.nd rfl (Or.inl rfl))) (fun _ _ _ _ _ => tts_nil) (fun _ _ _ _ _ => (te_callB (cr_any rfl) cd_any (by rfl) T.n_any (by decide +kernel) (ta_cons (te_fn G_first_kinds hr rfl (ta_cons (te_var (pv 7)) ta_nil)) ta_nil))) (by decide)) ta_nil)))))))))))
end
end W00
set_option Elab.async false
set_option linter.all false
set_option maxRecDepth 100000
namespace W00
open PySem PySem.Spec PyProof.Rows L2 RZ Tr
theorem small {k : Nat} (h : k ≤ 1000) : k ≤ sizeLine := by rw [sizeLine_eq]; omega
theorem le_sl {k : Nat} (h : k ≤ 1000) : (k ≤ sizeLine) = True := eq_true (small h)
/-! the names -/
theorem nm_0 : nm 0 = Str.ofString "SkyError" := by unfold nm nmL; rfl
theorem nm_1 : nm 1 = Str.ofString "Missing" := by unfold nm nmL; rfl
theorem nm_2 : nm 2 = Str.ofString "InvalidNumber" := by unfold nm nmL; rfl
theorem nm_3 : nm 3 = Str.ofString "InvalidGauge" := by unfold nm nmL; rfl
theorem nm_4 : nm 4 = Str.ofString "InvalidPlace" := by unfold nm nmL; rfl
theorem nm_5 : nm 5 = Str.ofString "InvalidChart" := by unfold nm nmL; rfl
theorem nm_6 : nm 6 = Str.ofString "InvalidWind" := by unfold nm nmL; rfl
theorem nm_7 : nm 7 = Str.ofString "InvalidTop" := by unfold nm nmL; rfl
theorem nm_8 : nm 8 = Str.ofString "InvalidText" := by unfold nm nmL; rfl
theorem nm_9 : nm 9 = Str.ofString "InvalidRegion" := by unfold nm nmL; rfl
theorem nm_10 : nm 10 = Str.ofString "InvalidPath" := by unfold nm nmL; rfl
theorem nm_11 : nm 11 = Str.ofString "InvalidSquall" := by unfold nm nmL; rfl
theorem nm_12 : nm 12 = Str.ofString "InvalidHeights" := by unfold nm nmL; rfl
theorem nm_13 : nm 13 = Str.ofString "InvalidMirror" := by unfold nm nmL; rfl
theorem nm_14 : nm 14 = Str.ofString "InvalidSaying" := by unfold nm nmL; rfl
theorem nm_15 : nm 15 = Str.ofString "OffChart" := by unfold nm nmL; rfl
theorem nm_16 : nm 16 = Str.ofString "OtherChart" := by unfold nm nmL; rfl
theorem nm_17 : nm 17 = Str.ofString "TooMany" := by unfold nm nmL; rfl
theorem nm_18 : nm 18 = Str.ofString "NotForced" := by unfold nm nmL; rfl
theorem nm_19 : nm 19 = Str.ofString "InvalidPaper" := by unfold nm nmL; rfl
theorem nm_20 : nm 20 = Str.ofString "NoSky" := by unfold nm nmL; rfl
theorem nm_21 : nm 21 = Str.ofString "HasSky" := by unfold nm nmL; rfl
theorem nm_22 : nm 22 = Str.ofString "NotPlain" := by unfold nm nmL; rfl
theorem nm_23 : nm 23 = Str.ofString "Unkept" := by unfold nm nmL; rfl
theorem nm_24 : nm 24 = Str.ofString "InvalidStation" := by unfold nm nmL; rfl
theorem nm_25 : nm 25 = Str.ofString "NoBranch" := by unfold nm nmL; rfl
theorem nm_26 : nm 26 = Str.ofString "OnLand" := by unfold nm nmL; rfl
theorem nm_27 : nm 27 = Str.ofString "InvalidWay" := by unfold nm nmL; rfl
theorem nm_28 : nm 28 = Str.ofString "InvalidMeasure" := by unfold nm nmL; rfl
theorem nm_29 : nm 29 = Str.ofString "NoWay" := by unfold nm nmL; rfl
theorem nm_30 : nm 30 = Str.ofString "NoCase" := by unfold nm nmL; rfl
theorem nm_31 : nm 31 = Str.ofString "Impossible" := by unfold nm nmL; rfl
theorem nm_32 : nm 32 = Str.ofString "InvalidDeed" := by unfold nm nmL; rfl
theorem nm_33 : nm 33 = Str.ofString "NoDraft" := by unfold nm nmL; rfl
theorem nm_34 : nm 34 = Str.ofString "Ended" := by unfold nm nmL; rfl
theorem nm_35 : nm 35 = Str.ofString "UnknownPlace" := by unfold nm nmL; rfl
theorem nm_36 : nm 36 = Str.ofString "UnknownSaying" := by unfold nm nmL; rfl
theorem nm_37 : nm 37 = Str.ofString "UnknownGauge" := by unfold nm nmL; rfl
theorem nm_38 : nm 38 = Str.ofString "UnknownCase" := by unfold nm nmL; rfl
theorem nm_39 : nm 39 = Str.ofString "UnknownReport" := by unfold nm nmL; rfl
theorem nm_40 : nm 40 = Str.ofString "UnknownWatch" := by unfold nm nmL; rfl
theorem nm_41 : nm 41 = Str.ofString "NothingLeft" := by unfold nm nmL; rfl
/-! the bag, the draws, the same: as in every law of this kind -/
theorem hs_bag (cs : List Addr) : ∀ ds μ Pd, sp_bag ds μ Pd → b_bag cs { nx := fun _ μ' => Pd .non μ', rt := Pd } (startD n_bag ds) μ := by
  rintro ds μ Pd ⟨ns, rfl, hl, hP⟩
  exact Tr.hs_bag ns μ Pd hl hP
theorem hs_draw (cs : List Addr) : ∀ ds μ Pd, sp_draw ds μ Pd → b_draw cs { nx := fun _ μ' => Pd .non μ', rt := Pd } (startD n_draw ds) μ := by
  rintro ds μ Pd ⟨n, many, rfl, hb, h0, h1, hP⟩
  exact Tr.hs_draw n many μ Pd hb h0 h1 hP
theorem hs_pick (cs : List Addr) : ∀ ds μ Pd, sp_pick ds μ Pd → b_pick cs { nx := fun _ μ' => Pd .non μ', rt := Pd } (startD n_pick ds) μ := by
  rintro ds μ Pd ⟨n, x, rfl, hb, h0, h1, hP⟩
  exact Tr.hs_pick n x μ Pd hb h0 h1 hP
theorem hs_same (cs : List Addr) (n : Nat) : ∀ ds μ Pd, sp_same (n + 1) ds μ Pd → b_same cs n { nx := fun _ μ' => Pd .non μ', rt := Pd } (startD n_same ds) μ := by
  rintro ds μ Pd ⟨x, rfl, hx, hP⟩
  exact Tr.hs_same n x μ Pd hx hP
/-! what is made -/
theorem hs_by_value (cs : List Addr) : ∀ ds μ Pd, sp_by_value cs ds μ Pd → b_by_value cs { nx := fun _ μ' => Pd .non μ', rt := Pd } (startD n_by_value ds) μ := by
  rintro ds μ Pd ⟨x, rfl, hP⟩
  change b_by_value cs _ [some x, none] μ
  unfold b_by_value
  simp only [s_seq, s_set, s_ret, e_lst, e_op, e_call, e_callP, pck_n, pck_0, pck_1, a_cons, a_nil, e_v0, e_v1, d_xn, d_add_lst, List.length_cons, List.length_nil, List.length_append, List.set_cons_succ, List.set_cons_zero, true_and]
  simp (disch := decide) only [Nat.reduceAdd, Nat.reduceLeDiff, le_sl, true_and]
  simp only [xs1, xv, pairX, isV, isA, isN, titlesL, isO, List.map_cons, List.map_nil, List.cons_append, List.nil_append, List.reverse_cons, List.reverse_nil, nm_0, nm_1, nm_2, nm_3, nm_4, nm_5, nm_6, nm_7, nm_8, nm_9, nm_10, nm_11, nm_12, nm_13, nm_14, nm_15, nm_16, nm_17, nm_18, nm_19, nm_20, nm_21, nm_22, nm_23, nm_24, nm_25, nm_26, nm_27, nm_28, nm_29, nm_30, nm_31, nm_32, nm_33, nm_34, nm_35, nm_36, nm_37, nm_38, nm_39, nm_40, nm_41] at hP ⊢
  exact hP
theorem hs_by_value_too (cs : List Addr) : ∀ ds μ Pd, sp_by_value_too cs ds μ Pd → b_by_value_too cs { nx := fun _ μ' => Pd .non μ', rt := Pd } (startD n_by_value_too ds) μ := by
  rintro ds μ Pd ⟨x, rfl, hP⟩
  change b_by_value_too cs _ [some x, none] μ
  unfold b_by_value_too
  simp only [s_seq, s_set, s_ret, e_lst, e_op, e_call, e_callP, pck_n, pck_0, pck_1, a_cons, a_nil, e_v0, e_v1, d_xn, d_add_lst, List.length_cons, List.length_nil, List.length_append, List.set_cons_succ, List.set_cons_zero, true_and]
  simp (disch := decide) only [Nat.reduceAdd, Nat.reduceLeDiff, le_sl, true_and]
  simp only [xs1, xv, pairX, isV, isA, isN, titlesL, isO, List.map_cons, List.map_nil, List.cons_append, List.nil_append, List.reverse_cons, List.reverse_nil, nm_0, nm_1, nm_2, nm_3, nm_4, nm_5, nm_6, nm_7, nm_8, nm_9, nm_10, nm_11, nm_12, nm_13, nm_14, nm_15, nm_16, nm_17, nm_18, nm_19, nm_20, nm_21, nm_22, nm_23, nm_24, nm_25, nm_26, nm_27, nm_28, nm_29, nm_30, nm_31, nm_32, nm_33, nm_34, nm_35, nm_36, nm_37, nm_38, nm_39, nm_40, nm_41] at hP ⊢
  exact hP
theorem hs_by_at (cs : List Addr) : ∀ ds μ Pd, sp_by_at cs ds μ Pd → b_by_at cs { nx := fun _ μ' => Pd .non μ', rt := Pd } (startD n_by_at ds) μ := by
  rintro ds μ Pd ⟨x, rfl, hP⟩
  change b_by_at cs _ [some x, none] μ
  unfold b_by_at
  simp only [s_seq, s_set, s_ret, e_lst, e_op, e_call, e_callP, pck_n, pck_0, pck_1, a_cons, a_nil, e_v0, e_v1, d_xn, d_add_lst, List.length_cons, List.length_nil, List.length_append, List.set_cons_succ, List.set_cons_zero, true_and]
  simp (disch := decide) only [Nat.reduceAdd, Nat.reduceLeDiff, le_sl, true_and]
  simp only [xs1, xv, pairX, isV, isA, isN, titlesL, isO, List.map_cons, List.map_nil, List.cons_append, List.nil_append, List.reverse_cons, List.reverse_nil, nm_0, nm_1, nm_2, nm_3, nm_4, nm_5, nm_6, nm_7, nm_8, nm_9, nm_10, nm_11, nm_12, nm_13, nm_14, nm_15, nm_16, nm_17, nm_18, nm_19, nm_20, nm_21, nm_22, nm_23, nm_24, nm_25, nm_26, nm_27, nm_28, nm_29, nm_30, nm_31, nm_32, nm_33, nm_34, nm_35, nm_36, nm_37, nm_38, nm_39, nm_40, nm_41] at hP ⊢
  exact hP
theorem hs_by_at_too (cs : List Addr) : ∀ ds μ Pd, sp_by_at_too cs ds μ Pd → b_by_at_too cs { nx := fun _ μ' => Pd .non μ', rt := Pd } (startD n_by_at_too ds) μ := by
  rintro ds μ Pd ⟨x, rfl, hP⟩
  change b_by_at_too cs _ [some x, none] μ
  unfold b_by_at_too
  simp only [s_seq, s_set, s_ret, e_lst, e_op, e_call, e_callP, pck_n, pck_0, pck_1, a_cons, a_nil, e_v0, e_v1, d_xn, d_add_lst, List.length_cons, List.length_nil, List.length_append, List.set_cons_succ, List.set_cons_zero, true_and]
  simp (disch := decide) only [Nat.reduceAdd, Nat.reduceLeDiff, le_sl, true_and]
  simp only [xs1, xv, pairX, isV, isA, isN, titlesL, isO, List.map_cons, List.map_nil, List.cons_append, List.nil_append, List.reverse_cons, List.reverse_nil, nm_0, nm_1, nm_2, nm_3, nm_4, nm_5, nm_6, nm_7, nm_8, nm_9, nm_10, nm_11, nm_12, nm_13, nm_14, nm_15, nm_16, nm_17, nm_18, nm_19, nm_20, nm_21, nm_22, nm_23, nm_24, nm_25, nm_26, nm_27, nm_28, nm_29, nm_30, nm_31, nm_32, nm_33, nm_34, nm_35, nm_36, nm_37, nm_38, nm_39, nm_40, nm_41] at hP ⊢
  exact hP
theorem hs_by_none (cs : List Addr) : ∀ ds μ Pd, sp_by_none cs ds μ Pd → b_by_none cs { nx := fun _ μ' => Pd .non μ', rt := Pd } (startD n_by_none ds) μ := by
  rintro ds μ Pd ⟨rfl, hP⟩
  change b_by_none cs _ [] μ
  unfold b_by_none
  simp only [s_ret, e_lst, e_call, a_cons, a_nil, d_xn, List.length_cons, List.length_nil, true_and]
  simp (disch := decide) only [Nat.reduceAdd, Nat.reduceLeDiff, le_sl, true_and]
  simp only [xs1, xv, pairX, isV, isA, isN, titlesL, isO, List.map_cons, List.map_nil, List.cons_append, List.nil_append, List.reverse_cons, List.reverse_nil, nm_0, nm_1, nm_2, nm_3, nm_4, nm_5, nm_6, nm_7, nm_8, nm_9, nm_10, nm_11, nm_12, nm_13, nm_14, nm_15, nm_16, nm_17, nm_18, nm_19, nm_20, nm_21, nm_22, nm_23, nm_24, nm_25, nm_26, nm_27, nm_28, nm_29, nm_30, nm_31, nm_32, nm_33, nm_34, nm_35, nm_36, nm_37, nm_38, nm_39, nm_40, nm_41] at hP ⊢
  exact hP
theorem hs_others (cs : List Addr) : ∀ ds μ Pd, sp_others cs ds μ Pd → b_others cs { nx := fun _ μ' => Pd .non μ', rt := Pd } (startD n_others ds) μ := by
  rintro ds μ Pd ⟨x, y, rfl, hP⟩
  change b_others cs _ [some x, some y, none] μ
  unfold b_others
  simp only [s_seq, s_set, s_ret, e_lst, e_tup, e_op, e_call, e_callP, pck_n, pck_0, pck_1, a_cons, a_nil, e_v0, e_v1, e_v2, d_xn, d_add_lst, List.length_cons, List.length_nil, List.length_append, List.set_cons_succ, List.set_cons_zero, true_and]
  simp (disch := decide) only [Nat.reduceAdd, Nat.reduceLeDiff, le_sl, true_and]
  simp only [xs1, xv, pairX, isV, isA, isN, titlesL, isO, List.map_cons, List.map_nil, List.cons_append, List.nil_append, List.reverse_cons, List.reverse_nil, nm_0, nm_1, nm_2, nm_3, nm_4, nm_5, nm_6, nm_7, nm_8, nm_9, nm_10, nm_11, nm_12, nm_13, nm_14, nm_15, nm_16, nm_17, nm_18, nm_19, nm_20, nm_21, nm_22, nm_23, nm_24, nm_25, nm_26, nm_27, nm_28, nm_29, nm_30, nm_31, nm_32, nm_33, nm_34, nm_35, nm_36, nm_37, nm_38, nm_39, nm_40, nm_41] at hP ⊢
  exact hP
theorem hs_titles (cs : List Addr) : ∀ ds μ Pd, sp_titles ds μ Pd → b_titles cs { nx := fun _ μ' => Pd .non μ', rt := Pd } (startD n_titles ds) μ := by
  rintro ds μ Pd ⟨rfl, hP⟩
  change b_titles cs _ [none] μ
  unfold b_titles
  simp only [s_seq, s_set, s_ret, e_lst, e_op, a_cons, a_nil, e_v0, e_c, d_add_lst, List.length_cons, List.length_nil, List.length_append, List.set_cons_succ, List.set_cons_zero, true_and]
  simp (disch := decide) only [Nat.reduceAdd, Nat.reduceLeDiff, le_sl, true_and]
  simp only [xs1, xv, pairX, isV, isA, isN, titlesL, isO, List.map_cons, List.map_nil, List.cons_append, List.nil_append, List.reverse_cons, List.reverse_nil, nm_0, nm_1, nm_2, nm_3, nm_4, nm_5, nm_6, nm_7, nm_8, nm_9, nm_10, nm_11, nm_12, nm_13, nm_14, nm_15, nm_16, nm_17, nm_18, nm_19, nm_20, nm_21, nm_22, nm_23, nm_24, nm_25, nm_26, nm_27, nm_28, nm_29, nm_30, nm_31, nm_32, nm_33, nm_34, nm_35, nm_36, nm_37, nm_38, nm_39, nm_40, nm_41] at hP ⊢
  exact hP
/-! kinds -/
theorem idx_of {cs : List Addr} (nd : cs.Nodup) {i : Nat} (h : i < cs.length) : cs.idxOf (cA cs i) = i := by
  have e : cA cs i = cs[i] := by unfold cA; rw [List.getD_eq_getElem?_getD, List.getElem?_eq_getElem h]; rfl
  rw [e]
  exact nd.idxOf_getElem i h
theorem n_of {cs : List Addr} (nd : cs.Nodup) (hl : cs.length = 42) {i : Nat} (h : i < 42) : nOf cs (cA cs i) = some i := by
  unfold nOf
  rw [idx_of nd (by omega), if_pos (by omega)]
theorem d_isx {cs : List Addr} (nd : cs.Nodup) (hl : cs.length = 42) {i j : Nat} (hi : i < 42) (hj : j < 42) {ns : List Str} {vs : List D} {μ : Mu} {P : KD} : dIsX (tbl cs) [.exc (cA cs i) ns vs, .ref (cA cs j)] μ P = P (.bl (sub i j)) μ := by
  unfold dIsX tbl
  simp only [n_of nd hl hi, n_of nd hl hj, Option.map_some]
theorem hs_first_kinds (cs : List Addr) (nd : cs.Nodup) (hl : cs.length = 42) : ∀ ds μ Pd, sp_first_kinds cs ds μ Pd → b_first_kinds cs { nx := fun _ μ' => Pd .non μ', rt := Pd } (startD n_first_kinds ds) μ := by
  rintro ds μ Pd ⟨i, ns, vs, rfl, hi, hP⟩
  change b_first_kinds cs _ [some _, none] μ
  unfold b_first_kinds
  simp (disch := first | exact hi | decide) only [d_isx nd hl, s_seq, s_set, s_ret, e_lst, e_op, e_call, a_cons, a_nil, e_v0, e_v1, e_c, d_add_lst, List.length_cons, List.length_nil, List.length_append, List.set_cons_succ, List.set_cons_zero, true_and]
  simp (disch := decide) only [Nat.reduceAdd, Nat.reduceLeDiff, le_sl, true_and]
  exact hP
theorem hs_next_kinds (cs : List Addr) (nd : cs.Nodup) (hl : cs.length = 42) : ∀ ds μ Pd, sp_next_kinds cs ds μ Pd → b_next_kinds cs { nx := fun _ μ' => Pd .non μ', rt := Pd } (startD n_next_kinds ds) μ := by
  rintro ds μ Pd ⟨i, ns, vs, rfl, hi, hP⟩
  change b_next_kinds cs _ [some _, none] μ
  unfold b_next_kinds
  simp (disch := first | exact hi | decide) only [d_isx nd hl, s_seq, s_set, s_ret, e_lst, e_op, e_call, a_cons, a_nil, e_v0, e_v1, e_c, d_add_lst, List.length_cons, List.length_nil, List.length_append, List.set_cons_succ, List.set_cons_zero, true_and]
  simp (disch := decide) only [Nat.reduceAdd, Nat.reduceLeDiff, le_sl, true_and]
  exact hP
theorem hs_last_kinds (cs : List Addr) (nd : cs.Nodup) (hl : cs.length = 42) : ∀ ds μ Pd, sp_last_kinds cs ds μ Pd → b_last_kinds cs { nx := fun _ μ' => Pd .non μ', rt := Pd } (startD n_last_kinds ds) μ := by
  rintro ds μ Pd ⟨i, ns, vs, rfl, hi, hP⟩
  change b_last_kinds cs _ [some _, none] μ
  unfold b_last_kinds
  simp (disch := first | exact hi | decide) only [d_isx nd hl, s_seq, s_set, s_ret, e_lst, e_op, e_call, a_cons, a_nil, e_v0, e_v1, e_c, d_add_lst, List.length_cons, List.length_nil, List.length_append, List.set_cons_succ, List.set_cons_zero, true_and]
  simp (disch := decide) only [Nat.reduceAdd, Nat.reduceLeDiff, le_sl, true_and]
  exact hP
end W00
set_option Elab.async false
set_option linter.all false
set_option maxRecDepth 100000
namespace W00
open PySem PySem.Spec PyProof.Rows L2 RZ Tr
theorem hs_worth (cs : List Addr) : ∀ ds μ Pd, sp_worth ds μ Pd → b_worth cs { nx := fun _ μ' => Pd .non μ', rt := Pd } (startD n_worth ds) μ := by
  rintro ds μ Pd ⟨n, rfl, hb, hP⟩
  change b_worth cs _ [some (.loc n)] μ
  unfold b_worth
  simp only [s_ret, e_lst, e_tup, e_op, e_un, e_call, a_cons, a_nil, e_v0, e_c, d_neg, d_pow, List.length_cons, List.length_nil]
  repeat (refine And.intro (small (by decide)) ?_)
  first
    | refine ⟨⟨by decide, by decide, by decide⟩, ?_⟩
    | skip
  refine ⟨n, 1000000, rfl, hb, by decide, by decide, fun r μ1 h0 h1 hd => ?_⟩
  refine ⟨small (by decide), n, _, rfl, hd.at hb, by simp [picks], by simp [picks], fun d μ' hm hr => hP d μ' ?_ (hd.trans hr)⟩
  simp only [picks, List.mem_cons, List.not_mem_nil, or_false] at hm
  rcases hm with h | h | h | h | h | h | h | h | h | h | h | h
  all_goals
    subst h
    first
      | exact ok_int
      | rfl
      | decide +kernel
end W00
set_option Elab.async false
set_option linter.all false
set_option maxRecDepth 100000
namespace W00
open PySem PySem.Spec PyProof.Rows L2 RZ Tr
theorem factA : ∀ i, i ∈ titlesL → titlesL.map (sub i) = titlesL.map (fun j => nm j == nm i) := by decide +kernel
theorem factB : ∀ i, i ∈ titlesL → i < 42 ∧ PyData.strOk (nm i) = true ∧ (nm i).length ≤ 100 := by decide +kernel
theorem factC : ∀ i, i ∈ titlesL → [sub i 0, sub i 100, sub i 1, sub i 101, sub i 102] = [!(cutS (nm i) none (some 7) == Str.ofString "Unknown") && !(nm i == Str.ofString "NothingLeft"), !(cutS (nm i) none (some 7) == Str.ofString "Unknown") && !(nm i == Str.ofString "NothingLeft"), cutS (nm i) none (some 7) == Str.ofString "Unknown", (cutS (nm i) none (some 7) == Str.ofString "Unknown") || (nm i == Str.ofString "NothingLeft"), nm i == Str.ofString "NothingLeft"] := by decide +kernel
theorem factD : ∀ i, i ∈ titlesL → PyData.strOk (cutS (nm i) none (some 7)) = true ∧ (cutS (nm i) none (some 7)).length ≤ 100 := by decide +kernel
theorem d_isy {cs : List Addr} (nd : cs.Nodup) (hl : cs.length = 42) {i : Nat} (hi : i < 42) {ns : List Str} {vs : List D} {μ : Mu} {P : KD} : dIsX (tbl cs) [.exc (cA cs i) ns vs, .ty "ValueError"] μ P = P (.bl (sub i 100)) μ ∧ dIsX (tbl cs) [.exc (cA cs i) ns vs, .ty "LookupError"] μ P = P (.bl (sub i 101)) μ ∧ dIsX (tbl cs) [.exc (cA cs i) ns vs, .ty "IndexError"] μ P = P (.bl (sub i 102)) μ := by
  unfold dIsX tbl
  simp [n_of nd hl hi]
theorem ok_bls {α : Type} {f : α → Bool} {n : Nat} : ∀ l : List α, okA n (l.map fun j => D.bl (f j)) = true
  | [] => rfl
  | a :: l => by simp only [List.map_cons, okA, ok_bl, ok_bls l, Bool.and_self]
theorem deq_bls : ∀ (l m : List Bool), deqA (l.map D.bl) (m.map D.bl) = (l == m)
  | [], [] => by simp
  | [], _ :: _ => by simp [deqA]
  | _ :: _, [] => by simp [deqA]
  | a :: l, b :: m => by
    simp only [List.map_cons, deqA_cons, deq_bl, deq_bls l m]
    rfl
theorem e_xf {Cs : List Addr} {f : Str} {t : ET} {ρ : Tr.Env} {μ : Mu} {P : KD} : eXf Cs f t ρ μ P = t ρ μ fun d μ1 => match d with
  | .exc C ns ds => C ∈ Cs ∧ match lookD f ns ds with
    | some y => P y μ1
    | none => False
  | _ => False := id rfl
theorem factE : ∀ i, i ∈ titlesL → i ∈ [2, 3, 4, 5, 6, 7, 8, 9, 10, 11, 12, 13, 14, 15, 16, 17, 18, 19, 20, 21, 22, 23, 24, 25, 26, 27, 28, 29, 30, 31, 32, 33, 34, 35, 36, 37, 38, 39, 40, 41] := by decide
theorem ok_s {x : Str} (h : PyData.strOk x = true) (hl : x.length ≤ 100) {n : Nat} : ok n (.str x) = true := by
  have : x.length ≤ 1000 := by omega
  cases n <;> simp [ok, h, this]
theorem hs_is (cs : List Addr) (nd : cs.Nodup) (hl : cs.length = 42) : ∀ ds μ Pd, sp_is cs ds μ Pd → b_is cs { nx := fun _ μ' => Pd .non μ', rt := Pd } (startD n_is ds) μ := by
  rintro ds μ Pd ⟨i, ns, vs, rfl, hi, hP⟩
  obtain ⟨h42, hok, hlen⟩ := factB i hi
  change b_is cs _ [some _, some _, none, none, none, none, none] μ
  unfold b_is
  simp only [s_seq, s_set, e_op, e_call, a_cons, a_nil, e_v0]
  refine ⟨i, _, _, rfl, h42, ⟨i, _, _, rfl, h42, ?_⟩⟩
  simp only [kinds, d_add_lst, List.length_map]
  refine ⟨small (by decide), ⟨i, _, _, rfl, h42, ?_⟩⟩
  simp only [kinds, d_add_lst, List.length_map, List.length_append]
  refine ⟨small (by decide), ?_⟩
  rw [← List.map_append, ← List.map_append]
  have ht : isV ++ isA ++ (isN ++ isO) = titlesL := rfl
  rw [ht]
  simp only [List.set_cons_succ, List.set_cons_zero, s_if, b_or, b_not, b_t, b_b, e_call, a_cons, a_nil, e_xf, e_v0, e_v1]
  refine ⟨?_, ?_⟩
  · unfold cAs
    exact List.mem_map_of_mem (factE i hi)
  · simp only [lookD, if_true]
    refine ⟨.str (nm i), rfl, (show ok 7 _ = true from ok_s hok hlen), ?_⟩
    simp only [sized_bl, tru_bl, true_and, Bool.not_true, Bool.false_eq_true, if_false, e_op, e_v2, e_comp, it_any, e_call, a_nil, wipe_cons, wipe_nil, List.set_cons_succ, List.set_cons_zero]
    refine ⟨rfl, ?_⟩
    simp only
    refine comp_mapG (fun j => .str (nm j)) (fun j => .bl (nm j == nm i)) titlesL [] μ _ (by decide) (fun j hj P h => ?_) ?_
    · obtain ⟨_, hok2, hlen2⟩ := factB j hj
      simp only [g_nm, List.set_cons_succ, List.set_cons_zero, e_op, e_v6, e_v1]
      rw [d_eq (n := 0) (ok_s hok2 hlen2) (ok_s hok hlen) (by decide), deq_str]
      exact h
    · rw [List.nil_append, d_ne (n := 1) (ok_lst (ok_bls _) (by rw [List.length_map]; decide)) (ok_lst (ok_bls _) (by rw [List.length_map]; decide)) (by decide)]
      have e1 : deq (.lst (titlesL.map fun j => D.bl (sub i j))) (.lst (titlesL.map fun j => D.bl (nm j == nm i))) = true := by
        have a := factA i hi
        have b : (titlesL.map fun j => D.bl (sub i j)) = (titlesL.map (sub i)).map D.bl := by rw [List.map_map]; rfl
        have c : (titlesL.map fun j => D.bl (nm j == nm i)) = (titlesL.map (fun j => nm j == nm i)).map D.bl := by rw [List.map_map]; rfl
        rw [b, c, a, deq_lst, deq_bls]
        exact beq_self_eq_true _
      rw [e1]
      have sz : ((nm i).length ≤ sizeLine) = True := eq_true (small (by omega))
      obtain ⟨hok3, hlen3⟩ := factD i hi
      simp only [onB_bl, Bool.not_true, Bool.false_eq_true, if_false, s_next, s_seq, s_par, a_cons, a_nil, e_op, e_sl, e_v1, e_v0, e_c, o_no, o_yes, dSl, sz, true_and]
      rw [d_eq (n := 0) (ok_s hok3 hlen3) (by decide +kernel) (by decide), d_eq (n := 0) (ok_s hok hlen) (by decide +kernel) (by decide)]
      simp only [deq_str, List.set_cons_succ, List.set_cons_zero, s_set, e_lst, a_cons, a_nil, e_call, e_v0, e_c, d_isx nd hl h42 (show 0 < 42 by decide), d_isx nd hl h42 (show 1 < 42 by decide), (d_isy nd hl h42).1, (d_isy nd hl h42).2.1, (d_isy nd hl h42).2.2, s_ret, e_op, e_v5, e_v3, e_v4, d_add_lst, e_and, e_or, e_not, onB_bl]
      refine ⟨small (by simp), small (by simp), small (by simp), ?_⟩
      have c := factC i hi
      generalize (cutS (nm i) none (some 7) == Str.ofString "Unknown") = lost at c ⊢
      generalize (nm i == Str.ofString "NothingLeft") = left at c ⊢
      have one : ∀ bs : List Bool, bs.length ≤ 100 → Pd (.bl (bs == bs)) μ → dEq (.lst (bs.map D.bl)) (.lst (bs.map D.bl)) μ Pd := fun bs hb h => by
        rw [d_eq (n := 1) (ok_lst (ok_bls bs) (by rw [List.length_map]; omega)) (ok_lst (ok_bls bs) (by rw [List.length_map]; omega)) (by decide), deq_lst, deq_bls]
        exact h
      have fin : ∀ bs : List Bool, [sub i 0, sub i 100, sub i 1, sub i 101, sub i 102] = bs → dEq (.lst ([D.bl (sub i 0), D.bl (sub i 100), D.bl (sub i 1), D.bl (sub i 101)] ++ [D.bl (sub i 102)])) (.lst (bs.map D.bl)) μ Pd := fun bs e => by
        subst e
        exact one [sub i 0, sub i 100, sub i 1, sub i 101, sub i 102] (by simp) (by rw [beq_self_eq_true]; exact hP)
      have fin2 := fin _ c
      cases lost <;> cases left <;> simp [dRep, small] at fin2 ⊢ <;> exact fin2
end W00
set_option Elab.async false
set_option linter.all false
set_option maxRecDepth 100000
namespace W00
open PySem PySem.Spec PyProof.Rows L2 RZ Tr
theorem atI_map {α β : Type} (f : α → β) (l : List α) (i : Int) : atI (l.map f) i = (atI l i).map f := by
  unfold atI
  rw [List.length_map]
  cases ixN l.length i with
  | none => rfl
  | some j => simp
def titlesD : D := .lst (titlesL.map fun i => .str (nm i))
def LV : List Nat := isV ++ isV
def LA2 : List Nat := isA ++ isA
theorem tV : ∀ k : Nat, k < 28 → atI titlesL (((k : Nat) : Int) % 14) = LV[k]? ∧ ∀ i, LV[k]? = some i → i ∈ titlesL ∧ i ∈ [2, 3, 4, 7, 13, 25, 26, 28, 35, 36, 37, 38, 39, 40] := by decide +kernel
theorem tA : ∀ k : Nat, k < 22 → atI titlesL (14 + ((k : Nat) : Int) % 11) = LA2[k]? ∧ ∀ i, LA2[k]? = some i → i ∈ titlesL ∧ i ∈ [6, 9, 10, 11, 14, 18, 22, 23, 24, 27, 32] := by decide +kernel
theorem tN : ∀ k : Nat, k < 9 → atI titlesL (25 + ((k : Nat) : Int)) = isN[k]? ∧ ∀ i, isN[k]? = some i → i ∈ titlesL := by decide +kernel
/-- what is left of an enumeration -/
theorem enum_cons {L : List Nat} {f : Nat → D} {k : Nat} {d : D} {ds : List D} (h : d :: ds = enumD k ((L.drop k).map f)) : ∃ i, L[k]? = some i ∧ d = .tup [.int (k : Int), f i] ∧ ds = enumD (k + 1) ((L.drop (k + 1)).map f) := by
  by_cases hk : k < L.length
  · rw [List.drop_eq_getElem_cons hk, List.map_cons] at h
    simp only [enumD, List.cons.injEq] at h
    exact ⟨L[k], List.getElem?_eq_getElem hk, h.1, h.2⟩
  · rw [List.drop_eq_nil_of_le (by omega)] at h
    cases h

theorem ne_value : (Str.ofString "value" = Str.ofString "code") = False := eq_false (by decide +kernel)
theorem ne_at : (Str.ofString "at" = Str.ofString "code") = False := eq_false (by decide +kernel)
theorem nq_row_code : (Str.ofString "row" = Str.ofString "code") = False := eq_false (by decide +kernel)
theorem nq_row_column : (Str.ofString "row" = Str.ofString "column") = False := eq_false (by decide +kernel)
theorem nq_column_code : (Str.ofString "column" = Str.ofString "code") = False := eq_false (by decide +kernel)
theorem nq_line_code : (Str.ofString "line" = Str.ofString "code") = False := eq_false (by decide +kernel)
theorem nq_line_why : (Str.ofString "line" = Str.ofString "why") = False := eq_false (by decide +kernel)
theorem nq_why_code : (Str.ofString "why" = Str.ofString "code") = False := eq_false (by decide +kernel)
theorem nq_place_code : (Str.ofString "place" = Str.ofString "code") = False := eq_false (by decide +kernel)
theorem nq_most_code : (Str.ofString "most" = Str.ofString "code") = False := eq_false (by decide +kernel)
theorem nq_grounds_code : (Str.ofString "grounds" = Str.ofString "code") = False := eq_false (by decide +kernel)
theorem nq_core_code : (Str.ofString "core" = Str.ofString "code") = False := eq_false (by decide +kernel)
theorem mem_1 {cs : List Addr} {i : Nat} : (cA cs i ∈ cAs cs [i]) = True := eq_true (List.mem_map_of_mem List.mem_cons_self)
theorem v_12 {μ : Mu} {P : KD} {a0 a1 a2 a3 a4 a5 a6 a7 a8 a9 a10 a11 : Option D} {d : D} {r : Tr.Env} : eVar 12 (a0 :: a1 :: a2 :: a3 :: a4 :: a5 :: a6 :: a7 :: a8 :: a9 :: a10 :: a11 :: some d :: r) μ P = P d μ := id rfl
theorem v_13 {μ : Mu} {P : KD} {a0 a1 a2 a3 a4 a5 a6 a7 a8 a9 a10 a11 a12 : Option D} {d : D} {r : Tr.Env} : eVar 13 (a0 :: a1 :: a2 :: a3 :: a4 :: a5 :: a6 :: a7 :: a8 :: a9 :: a10 :: a11 :: a12 :: some d :: r) μ P = P d μ := id rfl
theorem v_14 {μ : Mu} {P : KD} {a0 a1 a2 a3 a4 a5 a6 a7 a8 a9 a10 a11 a12 a13 : Option D} {d : D} {r : Tr.Env} : eVar 14 (a0 :: a1 :: a2 :: a3 :: a4 :: a5 :: a6 :: a7 :: a8 :: a9 :: a10 :: a11 :: a12 :: a13 :: some d :: r) μ P = P d μ := id rfl
theorem v_15 {μ : Mu} {P : KD} {a0 a1 a2 a3 a4 a5 a6 a7 a8 a9 a10 a11 a12 a13 a14 : Option D} {d : D} {r : Tr.Env} : eVar 15 (a0 :: a1 :: a2 :: a3 :: a4 :: a5 :: a6 :: a7 :: a8 :: a9 :: a10 :: a11 :: a12 :: a13 :: a14 :: some d :: r) μ P = P d μ := id rfl
theorem v_16 {μ : Mu} {P : KD} {a0 a1 a2 a3 a4 a5 a6 a7 a8 a9 a10 a11 a12 a13 a14 a15 : Option D} {d : D} {r : Tr.Env} : eVar 16 (a0 :: a1 :: a2 :: a3 :: a4 :: a5 :: a6 :: a7 :: a8 :: a9 :: a10 :: a11 :: a12 :: a13 :: a14 :: a15 :: some d :: r) μ P = P d μ := id rfl
theorem v_17 {μ : Mu} {P : KD} {a0 a1 a2 a3 a4 a5 a6 a7 a8 a9 a10 a11 a12 a13 a14 a15 a16 : Option D} {d : D} {r : Tr.Env} : eVar 17 (a0 :: a1 :: a2 :: a3 :: a4 :: a5 :: a6 :: a7 :: a8 :: a9 :: a10 :: a11 :: a12 :: a13 :: a14 :: a15 :: a16 :: some d :: r) μ P = P d μ := id rfl
theorem v_18 {μ : Mu} {P : KD} {a0 a1 a2 a3 a4 a5 a6 a7 a8 a9 a10 a11 a12 a13 a14 a15 a16 a17 : Option D} {d : D} {r : Tr.Env} : eVar 18 (a0 :: a1 :: a2 :: a3 :: a4 :: a5 :: a6 :: a7 :: a8 :: a9 :: a10 :: a11 :: a12 :: a13 :: a14 :: a15 :: a16 :: a17 :: some d :: r) μ P = P d μ := id rfl
theorem is_1 {cs : List Addr} {i : Nat} {f : List Str} {x : List D} {μ : Mu} {P : KD} (hi : i ∈ titlesL) (h : P (.bl true) μ) : sp_is cs [xv cs i f x, .str (nm i)] μ P := ⟨i, _, _, rfl, hi, h⟩
theorem ix {j : Int} {i : Nat} (h : atI titlesL j = some i) (P : KD) {μ : Mu} : dIx titlesD (.int j) μ P = P (.str (nm i)) μ := by
  unfold titlesD
  rw [d_ix_lst, atI_map, h]
  rfl
theorem tl34 {μ : Mu} {P : KD} : dSl titlesD (some 34) none μ P = P (.lst (isO.map fun i => .str (nm i))) μ := by
  have e : Tr.cutD (titlesL.map fun i => D.str (nm i)) (some 34) none = isO.map fun i => .str (nm i) := by
    unfold Tr.cutD
    rw [List.length_map, show HT.sIx titlesL.length 0 (some 34) = 34 by decide +kernel, show HT.sIx titlesL.length titlesL.length none = 40 by decide +kernel]
    rfl
  show P (.lst (Tr.cutD (titlesL.map fun i => D.str (nm i)) (some 34) none)) μ = _
  rw [e]
theorem cp_is {cs : List Addr} {i : Nat} {ms : List Str} {es : List D} (hi : i ∈ titlesL) {a0 a1 a2 a3 a4 a5 a6 a7 a8 a9 a10 a11 a12 a13 a14 a15 a16 a17 a18 : Option D} {dsr acc : List D} {μ : Mu} {P : KA}
    (h : compD (.tp [.nm 7, .nm 18]) (bNot (bT (eCall (sp_is cs) (aCons (eVar 7) (aCons (eVar 18) aNil))))) (eVar 18) [a0, a1, a2, a3, a4, a5, a6, a7, a8, a9, a10, a11, a12, a13, a14, a15, a16, a17, a18] dsr acc μ P) :
    compD (.tp [.nm 7, .nm 18]) (bNot (bT (eCall (sp_is cs) (aCons (eVar 7) (aCons (eVar 18) aNil))))) (eVar 18) [a0, a1, a2, a3, a4, a5, a6, a7, a8, a9, a10, a11, a12, a13, a14, a15, a16, a17, a18] (.tup [xv cs i ms es, .str (nm i)] :: dsr) acc μ P := by
  rw [cp_cons]
  simp only [g_tp, gs_cons, gs_nil, g_nm, List.length_cons, List.length_nil, true_and, b_not, b_t, e_call, a_cons, a_nil, e_v7, v_18, List.set_cons_succ, List.set_cons_zero]
  refine is_1 hi ?_
  simp only [sized_bl, tru_bl, true_and, Bool.not_true, Bool.false_eq_true, if_false]
  exact h
set_option maxHeartbeats 4000000 in
theorem hs_law (cs : List Addr) (nd : cs.Nodup) (hl42 : cs.length = 42) : ∀ ds μ Pd, sp_law cs ds μ Pd → b_law cs { nx := fun _ μ' => Pd .non μ', rt := Pd } (startD n_law ds) μ := by
  rintro ds μ Pd ⟨ns, rfl, hl, hP⟩
  change b_law cs _ [some (.fz (ns.map D.int)), none, none, none, none, none, none, none, none, none, none, none, none, none, none, none, none, none, none] μ
  unfold b_law
  simp only [s_seq, s_par, e_call, a_cons, a_nil, e_v0]
  refine ⟨ns, rfl, hl, fun c hc => ⟨rfl, ?_⟩⟩
  have hb0 : BagAt (μ ++ [some c]) μ.length := ⟨c, by simp, hc⟩
  generalize hn : μ.length = n at hb0
  generalize μ ++ [some c] = μ0 at hb0
  clear hn hc
  simp only [s_seq, s_for, it_range1, e_c, a_cons, a_nil, List.set_cons_succ, List.set_cons_zero]
  refine ⟨⟨by decide, by decide⟩, ?_⟩
  refine loop_inv (fun _ ρ μ' => BagAt μ' n ∧ ∃ l : List (Option D), l.length = 16 ∧ ρ = some (.fz (ns.map D.int)) :: some (.loc n) :: some titlesD :: l) _ _ _ ⟨hb0, _, rfl, rfl⟩ ?_ ?_
  · rintro d ds ρ μ1 nx ⟨hb, l, hl16, rfl⟩ hnx
    obtain ⟨o3, o4, o5, o6, o7, o8, o9, o10, o11, o12, o13, o14, o15, o16, o17, o18, rfl⟩ : ∃ o3 o4 o5 o6 o7 o8 o9 o10 o11 o12 o13 o14 o15 o16 o17 o18, l = [o3, o4, o5, o6, o7, o8, o9, o10, o11, o12, o13, o14, o15, o16, o17, o18] := by
      match l, hl16 with
      | [o1, o2, o3, o4, o5, o6, o7, o8, o9, o10, o11, o12, o13, o14, o15, o16], _ => exact ⟨_, _, _, _, _, _, _, _, _, _, _, _, _, _, _, _, rfl⟩
    simp only [g_nm, s_seq, s_par, e_call, a_cons, a_nil, e_v1, List.set_cons_succ, List.set_cons_zero]
    refine ⟨n, rfl, hb, fun x μ2 hx hd2 => ⟨n, rfl, hd2.at hb, fun y μ3 hy hd3 => ?_⟩⟩
    have hb3 : BagAt μ3 n := hd3.at (hd2.at hb)
    simp only [s_for, it_enum, a_cons, a_nil, e_op, e_call, e_v4, List.set_cons_succ, List.set_cons_zero]
    refine ⟨x, rfl, ⟨x, rfl, ?_⟩⟩
    simp only [d_add_lst, xs1, ← List.map_append, List.length_map]
    refine ⟨small (by decide), ?_⟩
    refine loop_inv (fun ds ρ μ' => μ3 = μ' ∧ ∃ (k : Nat) (o6 o7 : Option D), ds = enumD k ((LV.drop k).map fun i => xv cs i ["value"] [x]) ∧ ρ = [some (.fz (ns.map D.int)), some (.loc n), some titlesD, some d, some x, some y, o6, o7, o8, o9, o10, o11, o12, o13, o14, o15, o16, o17, o18]) _ _ _ ⟨rfl, 0, _, _, rfl, rfl⟩ ?_ ?_
    · rintro d' ds' ρ' μ' nx' ⟨rfl, k, p6, p7, hds, rfl⟩ hnx'
      obtain ⟨i, hi, rfl, rfl⟩ := enum_cons hds
      have hk := (List.getElem?_eq_some_iff.mp hi).1
      obtain ⟨t1, t2⟩ := tV k hk
      obtain ⟨t3, t4⟩ := t2 i hi
      rw [hi] at t1
      simp only [g_tp, gs_cons, gs_nil, g_nm, List.length_cons, List.length_nil, true_and, s_if, b_or, b_not, b_t, e_call, a_cons, a_nil, e_v7, e_op, e_v2, e_v6, e_c, e_v4, e_xf, d_int_int, d_mod, d_add_int, List.set_cons_succ, List.set_cons_zero]
      refine ⟨by decide, ?_⟩
      rw [ix t1]
      refine is_1 t3 ?_
      simp only [sized_bl, tru_bl, true_and, Bool.not_true, Bool.false_eq_true, if_false]
      simp only [xv, List.reverse_cons, List.reverse_nil, List.nil_append, lookD, ne_value, if_false, if_true]
      refine ⟨List.mem_map_of_mem t4, x, rfl, ok_le (show 1 ≤ 7 by decide) hx, ?_⟩
      simp only [sized_bl, tru_bl, true_and, Bool.not_true, Bool.false_eq_true, if_false, s_next]
      exact hnx' _ _ ⟨rfl, k + 1, _, _, rfl, rfl⟩
    rintro _ μ' ⟨rfl, k1, a61, a71, -, rfl⟩
    generalize a61 = o6
    generalize a71 = o7
    simp only [s_seq, s_for, it_enum, a_cons, a_nil, e_op, e_call, e_v4, List.set_cons_succ, List.set_cons_zero]
    refine ⟨x, rfl, ⟨x, rfl, ?_⟩⟩
    simp only [d_add_lst, xs1, ← List.map_append, List.length_map]
    refine ⟨small (by decide), ?_⟩
    refine loop_inv (fun ds ρ μ' => μ3 = μ' ∧ ∃ (k : Nat) (o6 o7 : Option D), ds = enumD k ((LA2.drop k).map fun i => xv cs i ["at"] [x]) ∧ ρ = [some (.fz (ns.map D.int)), some (.loc n), some titlesD, some d, some x, some y, o6, o7, o8, o9, o10, o11, o12, o13, o14, o15, o16, o17, o18]) _ _ _ ⟨rfl, 0, _, _, rfl, rfl⟩ ?_ ?_
    · rintro d' ds' ρ' μ' nx' ⟨rfl, k, p6, p7, hds, rfl⟩ hnx'
      obtain ⟨i, hi, rfl, rfl⟩ := enum_cons hds
      have hk := (List.getElem?_eq_some_iff.mp hi).1
      obtain ⟨t1, t2⟩ := tA k hk
      obtain ⟨t3, t4⟩ := t2 i hi
      rw [hi] at t1
      simp only [g_tp, gs_cons, gs_nil, g_nm, List.length_cons, List.length_nil, true_and, s_if, b_or, b_not, b_t, e_call, a_cons, a_nil, e_v7, e_op, e_v2, e_v6, e_c, e_v4, e_xf, d_int_int, d_mod, d_add_int, List.set_cons_succ, List.set_cons_zero]
      refine ⟨by decide, ?_⟩
      rw [ix t1]
      refine is_1 t3 ?_
      simp only [sized_bl, tru_bl, true_and, Bool.not_true, Bool.false_eq_true, if_false]
      simp only [xv, List.reverse_cons, List.reverse_nil, List.nil_append, lookD, ne_at, if_false, if_true]
      refine ⟨List.mem_map_of_mem t4, x, rfl, ok_le (show 1 ≤ 7 by decide) hx, ?_⟩
      simp only [sized_bl, tru_bl, true_and, Bool.not_true, Bool.false_eq_true, if_false, s_next]
      exact hnx' _ _ ⟨rfl, k + 1, _, _, rfl, rfl⟩
    rintro _ μ' ⟨rfl, k2, a62, a72, -, rfl⟩
    generalize a62 = o6
    generalize a72 = o7
    simp only [s_seq, s_for, it_enum, a_cons, a_nil, e_op, e_call, e_v4, List.set_cons_succ, List.set_cons_zero]
    refine ⟨rfl, ?_⟩
    refine loop_inv (fun ds ρ μ' => μ3 = μ' ∧ ∃ (k : Nat) (o6 o7 : Option D), ds = enumD k ((isN.drop k).map fun i => xv cs i [] []) ∧ ρ = [some (.fz (ns.map D.int)), some (.loc n), some titlesD, some d, some x, some y, o6, o7, o8, o9, o10, o11, o12, o13, o14, o15, o16, o17, o18]) _ _ _ ⟨rfl, 0, _, _, rfl, rfl⟩ ?_ ?_
    · rintro d' ds' ρ' μ' nx' ⟨rfl, k, p6, p7, hds, rfl⟩ hnx'
      obtain ⟨i, hi, rfl, rfl⟩ := enum_cons hds
      have hk := (List.getElem?_eq_some_iff.mp hi).1
      obtain ⟨t1, t2⟩ := tN k hk
      have t3 := t2 i hi
      rw [hi] at t1
      simp only [g_tp, gs_cons, gs_nil, g_nm, List.length_cons, List.length_nil, true_and, s_if, b_or, b_not, b_t, e_call, a_cons, a_nil, e_v7, e_op, e_v2, e_v6, e_c, e_v4, e_xf, d_int_int, d_mod, d_add_int, List.set_cons_succ, List.set_cons_zero]
      rw [ix t1]
      refine is_1 t3 ?_
      simp only [sized_bl, tru_bl, true_and, Bool.not_true, Bool.false_eq_true, if_false, s_next]
      exact hnx' _ _ ⟨rfl, k + 1, _, _, rfl, rfl⟩
    rintro _ μ' ⟨rfl, k3, a63, a73, -, rfl⟩
    generalize a63 = o6
    generalize a73 = o7
    simp only [s_seq, s_asg, e_call, a_cons, a_nil, e_v4, e_v5]
    refine ⟨x, y, rfl, ?_⟩
    simp only [g_tpl, gs_cons, gs_nil, g_nm, List.length_cons, List.length_nil, true_and, s_for, it_range1, e_c, a_cons, a_nil, List.set_cons_succ, List.set_cons_zero]
    refine ⟨⟨by decide, by decide⟩, ?_⟩
    refine loop_inv (fun ds ρ μ' => μ3 = μ' ∧ (∀ d, d ∈ ds → d = .int 0 ∨ d = .int 1) ∧ ∃ o6 o7 o14 o15 : Option D, ρ = [some (.fz (ns.map D.int)), some (.loc n), some titlesD, some d, some x, some y, o6, o7, some (pairX cs 5 ["row", "column"] [x, y]), some (pairX cs 8 ["line", "why"] [x, y]), some (pairX cs 15 ["place"] [x]), some (pairX cs 17 ["most"] [x]), some (pairX cs 20 ["grounds"] [x]), some (pairX cs 31 ["core"] [x]), o14, o15, o16, o17, o18]) _ _ _ ⟨rfl, ?_, _, _, _, _, rfl⟩ ?_ ?_
    · intro d' hd'
      have hr : rangeD 0 (2 : Int).toNat = [.int 0, .int 1] := rfl
      rw [hr] at hd'
      simpa using hd'
    · rintro d' ds' ρ' μ' nx' ⟨rfl, hds, p6, p7, p14, p15, rfl⟩ hnx'
      have h01 := hds d' List.mem_cons_self
      have next : ∀ q6 q7 q14 q15, nx' [some (.fz (ns.map D.int)), some (.loc n), some titlesD, some d, some x, some y, q6, q7, some (pairX cs 5 ["row", "column"] [x, y]), some (pairX cs 8 ["line", "why"] [x, y]), some (pairX cs 15 ["place"] [x]), some (pairX cs 17 ["most"] [x]), some (pairX cs 20 ["grounds"] [x]), some (pairX cs 31 ["core"] [x]), q14, q15, o16, o17, o18] μ3 :=
        fun q6 q7 q14 q15 => hnx' _ _ ⟨rfl, fun e he => hds e (List.mem_cons_of_mem _ he), q6, q7, q14, q15, rfl⟩
      have ixp : ∀ (i : Nat) (ms : List Str) (es : List D) (P : KD), dIx (pairX cs i ms es) d' μ3 P = P (xv cs i ms es) μ3 := fun i ms es P => by
        unfold pairX
        rcases h01 with rfl | rfl
        · rw [d_ix_tup, atI0]
        · rw [d_ix_tup, atI1]
      simp only [g_nm, s_seq, s_set, e_lst, a_cons, a_nil, e_xf, e_op, e_v8, e_v9, e_v10, e_v11, e_v6, ixp, List.set_cons_succ, List.set_cons_zero]
      simp only [xv, List.reverse_cons, List.reverse_nil, List.nil_append, List.cons_append, lookD, nq_row_code, nq_row_column, nq_column_code, nq_line_code, nq_line_why, nq_why_code, nq_place_code, nq_most_code, nq_grounds_code, nq_core_code, mem_1, if_false, if_true, true_and, List.length_cons, List.length_nil]
      refine ⟨small (by decide), ?_⟩
      simp only [s_seq, s_set, s_if, b_not, b_t, b_b, e_call, a_cons, a_nil, e_op, e_lst, e_xf, e_v4, e_v5, e_v6, e_v8, e_v9, e_v10, e_v11, v_12, v_13, v_14, ixp, List.set_cons_succ, List.set_cons_zero]
      simp only [xv, List.reverse_cons, List.reverse_nil, List.nil_append, List.cons_append, lookD, nq_row_code, nq_row_column, nq_column_code, nq_line_code, nq_line_why, nq_why_code, nq_place_code, nq_most_code, nq_grounds_code, nq_core_code, mem_1, if_false, if_true, true_and, List.length_cons, List.length_nil, d_add_lst]
      refine ⟨small (by decide), small (by decide), small (by decide), ⟨_, rfl, ?_, ?_⟩⟩
      · have hx7 := ok_le (show 1 ≤ 6 by decide) hx
        have hy7 := ok_le (show 1 ≤ 6 by decide) hy
        exact ok_lst (by simp [okA, hx7, hy7]) (by simp)
      · simp only [sized_bl, tru_bl, true_and, Bool.not_true, Bool.false_eq_true, if_false, s_next]
        simp only [s_seq, s_set, s_if, b_b, e_lst, a_cons, a_nil, e_op, e_v2, e_v6, e_v8, e_v9, e_v10, e_v11, v_12, v_13, ixp, List.set_cons_succ, List.set_cons_zero, List.length_cons, List.length_nil]
        refine ⟨small (by decide), ?_⟩
        simp only [e_comp, it_zip, a_cons, a_nil, v_15, e_sl, e_v2, o_yes, o_no, e_c, tl34, isO, List.map_cons, List.map_nil, zipD, wipe_cons, wipe_nil, List.set_cons_succ, List.set_cons_zero]
        refine cp_is (by decide) (cp_is (by decide) (cp_is (by decide) (cp_is (by decide) (cp_is (by decide) (cp_is (by decide) ?_)))))
        simp only [cp_nil, e_lst, a_nil, List.length_nil]
        refine ⟨sl_0, ?_⟩
        rw [d_ne (n := 1) (by rfl) (by rfl) (by decide)]
        simp only [deq_lst, deqA_nil, Bool.not_true, onB_bl, Bool.false_eq_true, if_false, s_next]
        exact next _ _ _ _
    · rintro _ μ' ⟨rfl, -, p6, p7, p14, p15, rfl⟩
      exact hnx _ _ ⟨hb3, _, rfl, rfl⟩
  · rintro _ μ1 ⟨hb, l, hl16, rfl⟩
    obtain ⟨o3, o4, o5, o6, o7, o8, o9, o10, o11, o12, o13, o14, o15, o16, o17, o18, rfl⟩ : ∃ o3 o4 o5 o6 o7 o8 o9 o10 o11 o12 o13 o14 o15 o16 o17 o18, l = [o3, o4, o5, o6, o7, o8, o9, o10, o11, o12, o13, o14, o15, o16, o17, o18] := by
      match l, hl16 with
      | [o1, o2, o3, o4, o5, o6, o7, o8, o9, o10, o11, o12, o13, o14, o15, o16], _ => exact ⟨_, _, _, _, _, _, _, _, _, _, _, _, _, _, _, _, rfl⟩
    simp only [s_seq, s_set, e_lst, a_cons, a_nil, e_c, List.length_cons, List.length_nil]
    refine ⟨small (by decide), ?_⟩
    have i0 : ∀ {μ : Mu} {P : KD}, dIsX (tbl cs) [.exc (cA cs 0) [] [], .ty "ValueError"] μ P = P (.bl true) μ ∧ dIsX (tbl cs) [.exc (cA cs 0) [] [], .ty "LookupError"] μ P = P (.bl false) μ ∧ dIsX (tbl cs) [.exc (cA cs 0) [] [], .ty "IndexError"] μ P = P (.bl false) μ := fun {μ P} => d_isy nd hl42 (show 0 < 42 by decide)
    have i1 : ∀ {μ : Mu} {P : KD}, dIsX (tbl cs) [.exc (cA cs 1) [] [], .ty "ValueError"] μ P = P (.bl false) μ ∧ dIsX (tbl cs) [.exc (cA cs 1) [] [], .ty "LookupError"] μ P = P (.bl true) μ ∧ dIsX (tbl cs) [.exc (cA cs 1) [] [], .ty "IndexError"] μ P = P (.bl false) μ := fun {μ P} => d_isy nd hl42 (show 1 < 42 by decide)
    simp only [e_comp, it_any, v_16, cp_cons, cp_nil, g_nm, b_yes, if_true, e_lst, e_call, a_cons, a_nil, e_v7, e_c, i0, i1, wipe_cons, wipe_nil, List.set_cons_succ, List.set_cons_zero, List.length_cons, List.length_nil, List.nil_append, List.cons_append]
    refine ⟨small (by decide), Nat.lt_of_lt_of_le (by decide : 0 < 1) (small (by decide)), small (by decide), Nat.lt_of_lt_of_le (by decide : 1 < 2) (small (by decide)), ?_⟩
    simp only [s_ret, e_and, e_op, e_not, v_17, v_16, e_lst, e_comp, it_any, cp_cons, cp_nil, g_nm, b_yes, if_true, e_call, a_cons, a_nil, e_v7, e_c, wipe_cons, wipe_nil, List.set_cons_succ, List.set_cons_zero, List.length_cons, List.length_nil, List.nil_append, List.cons_append]
    refine ⟨small (by decide), small (by decide), small (by decide), ?_⟩
    rw [d_eq (n := 2) (by rfl) (by rfl) (by decide)]
    have e : deq (D.lst [D.lst [D.bl true, D.bl false, D.bl false], D.lst [D.bl false, D.bl true, D.bl false]]) (D.lst [D.lst [D.bl true, D.bl false, D.bl false], D.lst [D.bl false, D.bl true, D.bl false]]) = true := by simp
    rw [e]
    simp only [onB_bl, if_true]
    refine ⟨0, _, _, rfl, by decide, ?_⟩
    refine any_bl isV (sub 0) μ1 _ ⟨small (by decide), 1, _, _, rfl, by decide, ?_⟩
    refine any_bl isV (sub 1) μ1 _ ⟨small (by decide), ?_⟩
    have z0 : isV.any (sub 0) = false := by decide +kernel
    have z1 : isV.any (sub 1) = false := by decide +kernel
    rw [z0, z1]
    exact hP μ1
end W00
set_option Elab.async false
set_option linter.all false
set_option maxRecDepth 100000
namespace W00
open PySem PySem.Spec PyProof.Rows L2 RZ Tr
section
variable {P : Program} {wd : World} {K : PySem.W.Frag} {mg : Str → Option Value} {base : Heap}
theorem G_bag (cs : List Addr) (T : Txt K mg cs) (XX : Xns P wd K mg base cs) (S_bag : Sn K mg "_law_bag" s_bag)  : FnI P wd K mg base "_law_bag" s_bag 1 ["_law_script"] sp_bag :=
  S_bag.fni (fun f fd F => fn_ok F sc_bag (fun cdv A outer s H E hr => pb_bag cs T XX  cdv A outer s H E hr) (fun ds μ Pd h => by first | (obtain ⟨_, rfl, _⟩ := h; rfl) | (obtain ⟨_, _, rfl, _⟩ := h; rfl) | (obtain ⟨_, _, _, rfl, _⟩ := h; rfl) | (obtain ⟨_, _, _, _, rfl, _⟩ := h; rfl) | (obtain ⟨rfl, _⟩ := h; rfl)) (hs_bag cs)) (fun _ _ _ _ _ _ us hl => match us, hl with | [_], _ => rfl)
theorem G_draw (cs : List Addr) (T : Txt K mg cs) (XX : Xns P wd K mg base cs) (S_draw : Sn K mg "_law_draw" s_draw)  : FnI P wd K mg base "_law_draw" s_draw 1 ["_law_bag_here", "_law_many"] sp_draw :=
  S_draw.fni (fun f fd F => fn_ok F sc_draw (fun cdv A outer s H E hr => pb_draw cs T XX  cdv A outer s H E hr) (fun ds μ Pd h => by first | (obtain ⟨_, rfl, _⟩ := h; rfl) | (obtain ⟨_, _, rfl, _⟩ := h; rfl) | (obtain ⟨_, _, _, rfl, _⟩ := h; rfl) | (obtain ⟨_, _, _, _, rfl, _⟩ := h; rfl) | (obtain ⟨rfl, _⟩ := h; rfl)) (hs_draw cs)) (fun _ _ _ _ _ _ us hl => match us, hl with | [_, _], _ => rfl)
theorem G_pick (cs : List Addr) (T : Txt K mg cs) (XX : Xns P wd K mg base cs) (S_pick : Sn K mg "_law_pick" s_pick) (G_draw : FnI P wd K mg base "_law_draw" s_draw 1 ["_law_bag_here", "_law_many"] sp_draw) : FnI P wd K mg base "_law_pick" s_pick 2 ["_law_bag_here", "_law_some"] sp_pick :=
  S_pick.fni (fun f fd F => fn_ok F sc_pick (fun cdv A outer s H E hr => pb_pick cs T XX G_draw cdv A outer s H E hr) (fun ds μ Pd h => by first | (obtain ⟨_, rfl, _⟩ := h; rfl) | (obtain ⟨_, _, rfl, _⟩ := h; rfl) | (obtain ⟨_, _, _, rfl, _⟩ := h; rfl) | (obtain ⟨_, _, _, _, rfl, _⟩ := h; rfl) | (obtain ⟨rfl, _⟩ := h; rfl)) (hs_pick cs)) (fun _ _ _ _ _ _ us hl => match us, hl with | [_, _], _ => rfl)
theorem G_same (cs : List Addr) (T : Txt K mg cs) (XX : Xns P wd K mg base cs) (S_same : Sn K mg "_law_same" s_same)  : ∀ n, FnI P wd K mg base "_law_same" s_same (n + 1) ["_law_found", "_law_due"] (sp_same n)
  | 0 => S_same.none (fun ds μ P ⟨_, _, h, _⟩ => nomatch h) (fun _ _ _ _ _ _ us hl => match us, hl with | [_, _], _ => rfl)
  | n + 1 => S_same.fni (fun f fd F => fn_ok F sc_same (fun cdv A outer s H E hr => pb_same cs n T XX (G_same cs T XX S_same n) cdv A outer s H E hr) (fun ds μ Pd h => by first | (obtain ⟨_, rfl, _⟩ := h; rfl) | (obtain ⟨_, _, rfl, _⟩ := h; rfl) | (obtain ⟨_, _, _, rfl, _⟩ := h; rfl) | (obtain ⟨_, _, _, _, rfl, _⟩ := h; rfl) | (obtain ⟨rfl, _⟩ := h; rfl)) (hs_same cs n)) (fun _ _ _ _ _ _ us hl => match us, hl with | [_, _], _ => rfl)
theorem G_by_value (cs : List Addr) (T : Txt K mg cs) (XX : Xns P wd K mg base cs) (S_by_value : Sn K mg "_law_by_value" s_by_value)  : FnI P wd K mg base "_law_by_value" s_by_value 3 ["_law_x"] (sp_by_value cs) :=
  S_by_value.fni (fun f fd F => fn_ok F sc_by_value (fun cdv A outer s H E hr => pb_by_value cs T XX  cdv A outer s H E hr) (fun ds μ Pd h => by first | (obtain ⟨_, rfl, _⟩ := h; rfl) | (obtain ⟨_, _, rfl, _⟩ := h; rfl) | (obtain ⟨_, _, _, rfl, _⟩ := h; rfl) | (obtain ⟨_, _, _, _, rfl, _⟩ := h; rfl) | (obtain ⟨rfl, _⟩ := h; rfl)) (hs_by_value cs)) (fun _ _ _ _ _ _ us hl => match us, hl with | [_], _ => rfl)
theorem G_by_value_too (cs : List Addr) (T : Txt K mg cs) (XX : Xns P wd K mg base cs) (S_by_value_too : Sn K mg "_law_by_value_too" s_by_value_too)  : FnI P wd K mg base "_law_by_value_too" s_by_value_too 3 ["_law_x"] (sp_by_value_too cs) :=
  S_by_value_too.fni (fun f fd F => fn_ok F sc_by_value_too (fun cdv A outer s H E hr => pb_by_value_too cs T XX  cdv A outer s H E hr) (fun ds μ Pd h => by first | (obtain ⟨_, rfl, _⟩ := h; rfl) | (obtain ⟨_, _, rfl, _⟩ := h; rfl) | (obtain ⟨_, _, _, rfl, _⟩ := h; rfl) | (obtain ⟨_, _, _, _, rfl, _⟩ := h; rfl) | (obtain ⟨rfl, _⟩ := h; rfl)) (hs_by_value_too cs)) (fun _ _ _ _ _ _ us hl => match us, hl with | [_], _ => rfl)
theorem G_by_at (cs : List Addr) (T : Txt K mg cs) (XX : Xns P wd K mg base cs) (S_by_at : Sn K mg "_law_by_at" s_by_at)  : FnI P wd K mg base "_law_by_at" s_by_at 3 ["_law_x"] (sp_by_at cs) :=
  S_by_at.fni (fun f fd F => fn_ok F sc_by_at (fun cdv A outer s H E hr => pb_by_at cs T XX  cdv A outer s H E hr) (fun ds μ Pd h => by first | (obtain ⟨_, rfl, _⟩ := h; rfl) | (obtain ⟨_, _, rfl, _⟩ := h; rfl) | (obtain ⟨_, _, _, rfl, _⟩ := h; rfl) | (obtain ⟨_, _, _, _, rfl, _⟩ := h; rfl) | (obtain ⟨rfl, _⟩ := h; rfl)) (hs_by_at cs)) (fun _ _ _ _ _ _ us hl => match us, hl with | [_], _ => rfl)
theorem G_by_at_too (cs : List Addr) (T : Txt K mg cs) (XX : Xns P wd K mg base cs) (S_by_at_too : Sn K mg "_law_by_at_too" s_by_at_too)  : FnI P wd K mg base "_law_by_at_too" s_by_at_too 3 ["_law_x"] (sp_by_at_too cs) :=
  S_by_at_too.fni (fun f fd F => fn_ok F sc_by_at_too (fun cdv A outer s H E hr => pb_by_at_too cs T XX  cdv A outer s H E hr) (fun ds μ Pd h => by first | (obtain ⟨_, rfl, _⟩ := h; rfl) | (obtain ⟨_, _, rfl, _⟩ := h; rfl) | (obtain ⟨_, _, _, rfl, _⟩ := h; rfl) | (obtain ⟨_, _, _, _, rfl, _⟩ := h; rfl) | (obtain ⟨rfl, _⟩ := h; rfl)) (hs_by_at_too cs)) (fun _ _ _ _ _ _ us hl => match us, hl with | [_], _ => rfl)
theorem G_by_none (cs : List Addr) (T : Txt K mg cs) (XX : Xns P wd K mg base cs) (S_by_none : Sn K mg "_law_by_none" s_by_none)  : FnI P wd K mg base "_law_by_none" s_by_none 3 [] (sp_by_none cs) :=
  S_by_none.fni (fun f fd F => fn_ok F sc_by_none (fun cdv A outer s H E hr => pb_by_none cs T XX  cdv A outer s H E hr) (fun ds μ Pd h => by first | (obtain ⟨_, rfl, _⟩ := h; rfl) | (obtain ⟨_, _, rfl, _⟩ := h; rfl) | (obtain ⟨_, _, _, rfl, _⟩ := h; rfl) | (obtain ⟨_, _, _, _, rfl, _⟩ := h; rfl) | (obtain ⟨rfl, _⟩ := h; rfl)) (hs_by_none cs)) (fun _ _ _ _ _ _ us hl => match us, hl with | [], _ => rfl)
theorem G_others (cs : List Addr) (T : Txt K mg cs) (XX : Xns P wd K mg base cs) (S_others : Sn K mg "_law_others" s_others)  : FnI P wd K mg base "_law_others" s_others 3 ["_law_x", "_law_y"] (sp_others cs) :=
  S_others.fni (fun f fd F => fn_ok F sc_others (fun cdv A outer s H E hr => pb_others cs T XX  cdv A outer s H E hr) (fun ds μ Pd h => by first | (obtain ⟨_, rfl, _⟩ := h; rfl) | (obtain ⟨_, _, rfl, _⟩ := h; rfl) | (obtain ⟨_, _, _, rfl, _⟩ := h; rfl) | (obtain ⟨_, _, _, _, rfl, _⟩ := h; rfl) | (obtain ⟨rfl, _⟩ := h; rfl)) (hs_others cs)) (fun _ _ _ _ _ _ us hl => match us, hl with | [_, _], _ => rfl)
theorem G_first_kinds (cs : List Addr) (T : Txt K mg cs) (XX : Xns P wd K mg base cs) (S_first_kinds : Sn K mg "_law_first_kinds" s_first_kinds)  : FnI P wd K mg base "_law_first_kinds" s_first_kinds 1 ["_law_e"] (sp_first_kinds cs) :=
  S_first_kinds.fni (fun f fd F => fn_ok F sc_first_kinds (fun cdv A outer s H E hr => pb_first_kinds cs T XX  cdv A outer s H E hr) (fun ds μ Pd h => by first | (obtain ⟨_, rfl, _⟩ := h; rfl) | (obtain ⟨_, _, rfl, _⟩ := h; rfl) | (obtain ⟨_, _, _, rfl, _⟩ := h; rfl) | (obtain ⟨_, _, _, _, rfl, _⟩ := h; rfl) | (obtain ⟨rfl, _⟩ := h; rfl)) (hs_first_kinds cs T.nd T.len)) (fun _ _ _ _ _ _ us hl => match us, hl with | [_], _ => rfl)
theorem G_next_kinds (cs : List Addr) (T : Txt K mg cs) (XX : Xns P wd K mg base cs) (S_next_kinds : Sn K mg "_law_next_kinds" s_next_kinds)  : FnI P wd K mg base "_law_next_kinds" s_next_kinds 1 ["_law_e"] (sp_next_kinds cs) :=
  S_next_kinds.fni (fun f fd F => fn_ok F sc_next_kinds (fun cdv A outer s H E hr => pb_next_kinds cs T XX  cdv A outer s H E hr) (fun ds μ Pd h => by first | (obtain ⟨_, rfl, _⟩ := h; rfl) | (obtain ⟨_, _, rfl, _⟩ := h; rfl) | (obtain ⟨_, _, _, rfl, _⟩ := h; rfl) | (obtain ⟨_, _, _, _, rfl, _⟩ := h; rfl) | (obtain ⟨rfl, _⟩ := h; rfl)) (hs_next_kinds cs T.nd T.len)) (fun _ _ _ _ _ _ us hl => match us, hl with | [_], _ => rfl)
theorem G_last_kinds (cs : List Addr) (T : Txt K mg cs) (XX : Xns P wd K mg base cs) (S_last_kinds : Sn K mg "_law_last_kinds" s_last_kinds)  : FnI P wd K mg base "_law_last_kinds" s_last_kinds 1 ["_law_e"] (sp_last_kinds cs) :=
  S_last_kinds.fni (fun f fd F => fn_ok F sc_last_kinds (fun cdv A outer s H E hr => pb_last_kinds cs T XX  cdv A outer s H E hr) (fun ds μ Pd h => by first | (obtain ⟨_, rfl, _⟩ := h; rfl) | (obtain ⟨_, _, rfl, _⟩ := h; rfl) | (obtain ⟨_, _, _, rfl, _⟩ := h; rfl) | (obtain ⟨_, _, _, _, rfl, _⟩ := h; rfl) | (obtain ⟨rfl, _⟩ := h; rfl)) (hs_last_kinds cs T.nd T.len)) (fun _ _ _ _ _ _ us hl => match us, hl with | [_], _ => rfl)
theorem G_titles (cs : List Addr) (T : Txt K mg cs) (XX : Xns P wd K mg base cs) (S_titles : Sn K mg "_law_titles" s_titles)  : FnI P wd K mg base "_law_titles" s_titles 1 [] sp_titles :=
  S_titles.fni (fun f fd F => fn_ok F sc_titles (fun cdv A outer s H E hr => pb_titles cs T XX  cdv A outer s H E hr) (fun ds μ Pd h => by first | (obtain ⟨_, rfl, _⟩ := h; rfl) | (obtain ⟨_, _, rfl, _⟩ := h; rfl) | (obtain ⟨_, _, _, rfl, _⟩ := h; rfl) | (obtain ⟨_, _, _, _, rfl, _⟩ := h; rfl) | (obtain ⟨rfl, _⟩ := h; rfl)) (hs_titles cs)) (fun _ _ _ _ _ _ us hl => match us, hl with | [], _ => rfl)
theorem G_is (cs : List Addr) (T : Txt K mg cs) (XX : Xns P wd K mg base cs) (S_is : Sn K mg "_law_is" s_is) (G_first_kinds : FnI P wd K mg base "_law_first_kinds" s_first_kinds 1 ["_law_e"] (sp_first_kinds cs)) (G_next_kinds : FnI P wd K mg base "_law_next_kinds" s_next_kinds 1 ["_law_e"] (sp_next_kinds cs)) (G_last_kinds : FnI P wd K mg base "_law_last_kinds" s_last_kinds 1 ["_law_e"] (sp_last_kinds cs)) (G_same : FnI P wd K mg base "_law_same" s_same 9 ["_law_found", "_law_due"] (sp_same 8)) (G_titles : FnI P wd K mg base "_law_titles" s_titles 1 [] sp_titles) : FnI P wd K mg base "_law_is" s_is 10 ["_law_e", "_law_title"] (sp_is cs) :=
  S_is.fni (fun f fd F => fn_ok F sc_is (fun cdv A outer s H E hr => pb_is cs T XX G_first_kinds G_next_kinds G_last_kinds G_same G_titles cdv A outer s H E hr) (fun ds μ Pd h => by first | (obtain ⟨_, rfl, _⟩ := h; rfl) | (obtain ⟨_, _, rfl, _⟩ := h; rfl) | (obtain ⟨_, _, _, rfl, _⟩ := h; rfl) | (obtain ⟨_, _, _, _, rfl, _⟩ := h; rfl) | (obtain ⟨rfl, _⟩ := h; rfl)) (hs_is cs T.nd T.len)) (fun _ _ _ _ _ _ us hl => match us, hl with | [_, _], _ => rfl)
theorem G_worth (cs : List Addr) (T : Txt K mg cs) (XX : Xns P wd K mg base cs) (S_worth : Sn K mg "_law_worth" s_worth) (G_pick : FnI P wd K mg base "_law_pick" s_pick 2 ["_law_bag_here", "_law_some"] sp_pick) (G_draw : FnI P wd K mg base "_law_draw" s_draw 1 ["_law_bag_here", "_law_many"] sp_draw) : FnI P wd K mg base "_law_worth" s_worth 3 ["_law_bag_here"] sp_worth :=
  S_worth.fni (fun f fd F => fn_ok F sc_worth (fun cdv A outer s H E hr => pb_worth cs T XX G_pick G_draw cdv A outer s H E hr) (fun ds μ Pd h => by first | (obtain ⟨_, rfl, _⟩ := h; rfl) | (obtain ⟨_, _, rfl, _⟩ := h; rfl) | (obtain ⟨_, _, _, rfl, _⟩ := h; rfl) | (obtain ⟨_, _, _, _, rfl, _⟩ := h; rfl) | (obtain ⟨rfl, _⟩ := h; rfl)) (hs_worth cs)) (fun _ _ _ _ _ _ us hl => match us, hl with | [_], _ => rfl)
theorem ok_law (cs : List Addr) (T : Txt K mg cs) (XX : Xns P wd K mg base cs) {f : Addr} {fd : FuncData} (F : Fun K "law" "law" s_law f fd) (G_titles : FnI P wd K mg base "_law_titles" s_titles 1 [] sp_titles) (G_bag : FnI P wd K mg base "_law_bag" s_bag 1 ["_law_script"] sp_bag) (G_worth : FnI P wd K mg base "_law_worth" s_worth 3 ["_law_bag_here"] sp_worth) (G_by_value : FnI P wd K mg base "_law_by_value" s_by_value 3 ["_law_x"] (sp_by_value cs)) (G_by_value_too : FnI P wd K mg base "_law_by_value_too" s_by_value_too 3 ["_law_x"] (sp_by_value_too cs)) (G_is : FnI P wd K mg base "_law_is" s_is 10 ["_law_e", "_law_title"] (sp_is cs)) (G_same : FnI P wd K mg base "_law_same" s_same 9 ["_law_found", "_law_due"] (sp_same 8)) (G_by_at : FnI P wd K mg base "_law_by_at" s_by_at 3 ["_law_x"] (sp_by_at cs)) (G_by_at_too : FnI P wd K mg base "_law_by_at_too" s_by_at_too 3 ["_law_x"] (sp_by_at_too cs)) (G_by_none : FnI P wd K mg base "_law_by_none" s_by_none 3 [] (sp_by_none cs)) (G_others : FnI P wd K mg base "_law_others" s_others 3 ["_law_x", "_law_y"] (sp_others cs)) (G_first_kinds : FnI P wd K mg base "_law_first_kinds" s_first_kinds 1 ["_law_e"] (sp_first_kinds cs)) : FnD P wd K mg base 11 f fd ["_law_script"] (sp_law cs) :=
  fn_ok F sc_law (fun cdv A outer s H E hr => pb_law cs T XX G_titles G_bag G_worth G_by_value G_by_value_too G_is G_same G_by_at G_by_at_too G_by_none G_others G_first_kinds cdv A outer s H E hr) (fun ds μ Pd h => by first | (obtain ⟨_, rfl, _⟩ := h; rfl) | (obtain ⟨_, _, rfl, _⟩ := h; rfl) | (obtain ⟨_, _, _, rfl, _⟩ := h; rfl) | (obtain ⟨_, _, _, _, rfl, _⟩ := h; rfl) | (obtain ⟨rfl, _⟩ := h; rfl)) (hs_law cs T.nd T.len)
end
/-! ### what is read off the top -/
def csK (K : PySem.W.Frag) : List Addr := nmL.map (He.ga K)
def tailV : List Value := [.type "ValueError", .type "Exception", .type "BaseException", .type "object"]
def iniV : List (Str × List Str) := [(("InvalidNumber" : Str), (["value"] : List Str)), (("InvalidGauge" : Str), (["value"] : List Str)), (("InvalidPlace" : Str), (["value"] : List Str)), (("InvalidChart" : Str), (["row", "column"] : List Str)), (("InvalidWind" : Str), (["at"] : List Str)), (("InvalidTop" : Str), (["value"] : List Str)), (("InvalidText" : Str), (["line", "why"] : List Str)), (("InvalidRegion" : Str), (["at"] : List Str)), (("InvalidPath" : Str), (["at"] : List Str)), (("InvalidSquall" : Str), (["at"] : List Str)), (("InvalidHeights" : Str), ([] : List Str)), (("InvalidMirror" : Str), (["value"] : List Str)), (("InvalidSaying" : Str), (["at"] : List Str)), (("OffChart" : Str), (["place"] : List Str)), (("OtherChart" : Str), ([] : List Str)), (("TooMany" : Str), (["most"] : List Str)), (("NotForced" : Str), (["at"] : List Str)), (("InvalidPaper" : Str), ([] : List Str)), (("NoSky" : Str), (["grounds"] : List Str)), (("HasSky" : Str), ([] : List Str)), (("NotPlain" : Str), (["at"] : List Str)), (("Unkept" : Str), (["at"] : List Str)), (("InvalidStation" : Str), (["at"] : List Str)), (("NoBranch" : Str), (["value"] : List Str)), (("OnLand" : Str), (["value"] : List Str)), (("InvalidWay" : Str), (["at"] : List Str)), (("InvalidMeasure" : Str), (["value"] : List Str)), (("NoWay" : Str), ([] : List Str)), (("NoCase" : Str), ([] : List Str)), (("Impossible" : Str), (["core"] : List Str)), (("InvalidDeed" : Str), (["at"] : List Str)), (("NoDraft" : Str), ([] : List Str)), (("Ended" : Str), ([] : List Str))]
def tailL : List Value := [.type "LookupError", .type "Exception", .type "BaseException", .type "object"]
def iniL : List (Str × List Str) := [(("UnknownPlace" : Str), (["value"] : List Str)), (("UnknownSaying" : Str), (["value"] : List Str)), (("UnknownGauge" : Str), (["value"] : List Str)), (("UnknownCase" : Str), (["value"] : List Str)), (("UnknownReport" : Str), (["value"] : List Str)), (("UnknownWatch" : Str), (["value"] : List Str))]
def tailI : List Value := [.type "IndexError", .type "LookupError", .type "Exception", .type "BaseException", .type "object"]
def iniI : List (Str × List Str) := [(("NothingLeft" : Str), ([] : List Str))]
def clsC (K : PySem.W.Frag) (bm : List Value) (newId : String) (p : Str × List Str) : Bool :=
  PySem.W.excInitIn K (He.ga K p.1) bm newId && (PySem.W.excOver K (He.ga K p.1) bm && (PySem.W.hasDictIn K (He.ga K p.1) && (He.eqO (PySem.W.findIn K (.ref (He.ga K p.1)) "__setattr__") (some (some (.builtin "object.__setattr__"))) &&
  (decide (PySem.W.subIn K (.ref (He.ga K p.1)) (.type "BaseException") = some true) && (decide (PySem.W.typeIn K (.ref (He.ga K p.1)) = some (.type "type")) && (PySem.W.keepIn K (.ref (He.ga K p.1)) &&
  (He.eqO (PySem.W.findIn K (.ref (He.ga K p.1)) "__init__") (some (some (.ref (He.ma K (He.ga K p.1) "__init__")))) && (decide (PySem.W.typeIn K (.ref (He.ma K (He.ga K p.1) "__init__")) = some (.type "function")) &&
  (xfB K (He.ga K p.1) && ((("code" : Str) :: p.2)).all fun f => He.eqO (PySem.W.findIn K (.ref (He.ga K p.1)) f) (some none))))))))))
def exB (K : PySem.W.Frag) (C : Addr) : Bool := (PySem.W.clsIn K C).isSome && (He.eqO (PySem.W.findIn K (.ref C) "__getattribute__") (some (some (.builtin "BaseException.__getattribute__"))) && (He.eqO (PySem.W.findIn K (.ref C) "__getattr__") (some none) &&
  (decide (PySem.W.subIn K (.ref C) (.type "BaseException") = some true) && (He.eqO (PySem.W.findIn K (.ref C) "__class__") (some (some (.builtin "object.__class__"))) && decide (PySem.W.mroIn K C (.type "object") = some true)))))
def tblB (K : PySem.W.Frag) (i : Nat) : Bool := ((List.range 42).all fun j => decide (PySem.W.kitOne K (.ref (cA (csK K) i)) (.ref (cA (csK K) j)) = some (sub i j))) && (decide (PySem.W.kitOne K (.ref (cA (csK K) i)) (.type "ValueError") = some (sub i 100)) &&
  (decide (PySem.W.kitOne K (.ref (cA (csK K) i)) (.type "LookupError") = some (sub i 101)) && decide (PySem.W.kitOne K (.ref (cA (csK K) i)) (.type "IndexError") = some (sub i 102))))
def clD (K : PySem.W.Frag) : Bool := He.eqO (PySem.W.specialIn K (.builtin "object.__class__") "__get__") (some (some (.builtin "getset_descriptor.__get__"))) && decide (PySem.W.takesIn K (.builtin "object.__class__") = some true)
def bare (K : PySem.W.Frag) : Bool := PySem.W.excIn K (cA (csK K) 0) tailV "ValueError.__new__" && (PySem.W.excIn K (cA (csK K) 1) tailL "LookupError.__new__" && (PySem.W.keepIn K (.ref (cA (csK K) 0)) && PySem.W.keepIn K (.ref (cA (csK K) 1))))
def nodupB : List Addr → Bool
  | [] => true
  | a :: l => !l.contains a && nodupB l
def ex (K : PySem.W.Frag) : Bool := iniV.all (clsC K tailV "ValueError.__new__") && (iniL.all (clsC K tailL "LookupError.__new__") && (iniI.all (clsC K tailI "IndexError.__new__") && ((csK K).all (exB K) && ((List.range 42).all (tblB K) && (clD K && (bare K && nodupB (csK K)))))))
def dLaw : He.DefD := ⟨("law", none), "law", "law", defArgs s_law, defBody s_law, defScope s_law, [], []⟩
def fnL : List He.DefD := dLaw :: [⟨("_law_bag", none), "_law_bag", "_law_bag", defArgs s_bag, defBody s_bag, defScope s_bag, [], []⟩, ⟨("_law_draw", none), "_law_draw", "_law_draw", defArgs s_draw, defBody s_draw, defScope s_draw, [], []⟩, ⟨("_law_pick", none), "_law_pick", "_law_pick", defArgs s_pick, defBody s_pick, defScope s_pick, [], []⟩, ⟨("_law_same", none), "_law_same", "_law_same", defArgs s_same, defBody s_same, defScope s_same, [], []⟩, ⟨("_law_by_value", none), "_law_by_value", "_law_by_value", defArgs s_by_value, defBody s_by_value, defScope s_by_value, [], []⟩, ⟨("_law_by_value_too", none), "_law_by_value_too", "_law_by_value_too", defArgs s_by_value_too, defBody s_by_value_too, defScope s_by_value_too, [], []⟩, ⟨("_law_by_at", none), "_law_by_at", "_law_by_at", defArgs s_by_at, defBody s_by_at, defScope s_by_at, [], []⟩, ⟨("_law_by_at_too", none), "_law_by_at_too", "_law_by_at_too", defArgs s_by_at_too, defBody s_by_at_too, defScope s_by_at_too, [], []⟩, ⟨("_law_by_none", none), "_law_by_none", "_law_by_none", defArgs s_by_none, defBody s_by_none, defScope s_by_none, [], []⟩, ⟨("_law_others", none), "_law_others", "_law_others", defArgs s_others, defBody s_others, defScope s_others, [], []⟩, ⟨("_law_first_kinds", none), "_law_first_kinds", "_law_first_kinds", defArgs s_first_kinds, defBody s_first_kinds, defScope s_first_kinds, [], []⟩, ⟨("_law_next_kinds", none), "_law_next_kinds", "_law_next_kinds", defArgs s_next_kinds, defBody s_next_kinds, defScope s_next_kinds, [], []⟩, ⟨("_law_last_kinds", none), "_law_last_kinds", "_law_last_kinds", defArgs s_last_kinds, defBody s_last_kinds, defScope s_last_kinds, [], []⟩, ⟨("_law_titles", none), "_law_titles", "_law_titles", defArgs s_titles, defBody s_titles, defScope s_titles, [], []⟩, ⟨("_law_is", none), "_law_is", "_law_is", defArgs s_is, defBody s_is, defScope s_is, [], []⟩, ⟨("_law_worth", none), "_law_worth", "_law_worth", defArgs s_worth, defBody s_worth, defScope s_worth, [], []⟩] ++ [⟨("InvalidNumber", some "__init__"), "__init__", "InvalidNumber.__init__", defArgs s_InvalidNumber, defBody s_InvalidNumber, defScope s_InvalidNumber, [], []⟩, ⟨("InvalidGauge", some "__init__"), "__init__", "InvalidGauge.__init__", defArgs s_InvalidGauge, defBody s_InvalidGauge, defScope s_InvalidGauge, [], []⟩, ⟨("InvalidPlace", some "__init__"), "__init__", "InvalidPlace.__init__", defArgs s_InvalidPlace, defBody s_InvalidPlace, defScope s_InvalidPlace, [], []⟩, ⟨("InvalidChart", some "__init__"), "__init__", "InvalidChart.__init__", defArgs s_InvalidChart, defBody s_InvalidChart, defScope s_InvalidChart, [], []⟩, ⟨("InvalidWind", some "__init__"), "__init__", "InvalidWind.__init__", defArgs s_InvalidWind, defBody s_InvalidWind, defScope s_InvalidWind, [], []⟩, ⟨("InvalidTop", some "__init__"), "__init__", "InvalidTop.__init__", defArgs s_InvalidTop, defBody s_InvalidTop, defScope s_InvalidTop, [], []⟩, ⟨("InvalidText", some "__init__"), "__init__", "InvalidText.__init__", defArgs s_InvalidText, defBody s_InvalidText, defScope s_InvalidText, [], []⟩, ⟨("InvalidRegion", some "__init__"), "__init__", "InvalidRegion.__init__", defArgs s_InvalidRegion, defBody s_InvalidRegion, defScope s_InvalidRegion, [], []⟩, ⟨("InvalidPath", some "__init__"), "__init__", "InvalidPath.__init__", defArgs s_InvalidPath, defBody s_InvalidPath, defScope s_InvalidPath, [], []⟩, ⟨("InvalidSquall", some "__init__"), "__init__", "InvalidSquall.__init__", defArgs s_InvalidSquall, defBody s_InvalidSquall, defScope s_InvalidSquall, [], []⟩, ⟨("InvalidHeights", some "__init__"), "__init__", "InvalidHeights.__init__", defArgs s_InvalidHeights, defBody s_InvalidHeights, defScope s_InvalidHeights, [], []⟩, ⟨("InvalidMirror", some "__init__"), "__init__", "InvalidMirror.__init__", defArgs s_InvalidMirror, defBody s_InvalidMirror, defScope s_InvalidMirror, [], []⟩, ⟨("InvalidSaying", some "__init__"), "__init__", "InvalidSaying.__init__", defArgs s_InvalidSaying, defBody s_InvalidSaying, defScope s_InvalidSaying, [], []⟩, ⟨("OffChart", some "__init__"), "__init__", "OffChart.__init__", defArgs s_OffChart, defBody s_OffChart, defScope s_OffChart, [], []⟩, ⟨("OtherChart", some "__init__"), "__init__", "OtherChart.__init__", defArgs s_OtherChart, defBody s_OtherChart, defScope s_OtherChart, [], []⟩, ⟨("TooMany", some "__init__"), "__init__", "TooMany.__init__", defArgs s_TooMany, defBody s_TooMany, defScope s_TooMany, [], []⟩, ⟨("NotForced", some "__init__"), "__init__", "NotForced.__init__", defArgs s_NotForced, defBody s_NotForced, defScope s_NotForced, [], []⟩, ⟨("InvalidPaper", some "__init__"), "__init__", "InvalidPaper.__init__", defArgs s_InvalidPaper, defBody s_InvalidPaper, defScope s_InvalidPaper, [], []⟩, ⟨("NoSky", some "__init__"), "__init__", "NoSky.__init__", defArgs s_NoSky, defBody s_NoSky, defScope s_NoSky, [], []⟩, ⟨("HasSky", some "__init__"), "__init__", "HasSky.__init__", defArgs s_HasSky, defBody s_HasSky, defScope s_HasSky, [], []⟩, ⟨("NotPlain", some "__init__"), "__init__", "NotPlain.__init__", defArgs s_NotPlain, defBody s_NotPlain, defScope s_NotPlain, [], []⟩, ⟨("Unkept", some "__init__"), "__init__", "Unkept.__init__", defArgs s_Unkept, defBody s_Unkept, defScope s_Unkept, [], []⟩, ⟨("InvalidStation", some "__init__"), "__init__", "InvalidStation.__init__", defArgs s_InvalidStation, defBody s_InvalidStation, defScope s_InvalidStation, [], []⟩, ⟨("NoBranch", some "__init__"), "__init__", "NoBranch.__init__", defArgs s_NoBranch, defBody s_NoBranch, defScope s_NoBranch, [], []⟩, ⟨("OnLand", some "__init__"), "__init__", "OnLand.__init__", defArgs s_OnLand, defBody s_OnLand, defScope s_OnLand, [], []⟩, ⟨("InvalidWay", some "__init__"), "__init__", "InvalidWay.__init__", defArgs s_InvalidWay, defBody s_InvalidWay, defScope s_InvalidWay, [], []⟩, ⟨("InvalidMeasure", some "__init__"), "__init__", "InvalidMeasure.__init__", defArgs s_InvalidMeasure, defBody s_InvalidMeasure, defScope s_InvalidMeasure, [], []⟩, ⟨("NoWay", some "__init__"), "__init__", "NoWay.__init__", defArgs s_NoWay, defBody s_NoWay, defScope s_NoWay, [], []⟩, ⟨("NoCase", some "__init__"), "__init__", "NoCase.__init__", defArgs s_NoCase, defBody s_NoCase, defScope s_NoCase, [], []⟩, ⟨("Impossible", some "__init__"), "__init__", "Impossible.__init__", defArgs s_Impossible, defBody s_Impossible, defScope s_Impossible, [], []⟩, ⟨("InvalidDeed", some "__init__"), "__init__", "InvalidDeed.__init__", defArgs s_InvalidDeed, defBody s_InvalidDeed, defScope s_InvalidDeed, [], []⟩, ⟨("NoDraft", some "__init__"), "__init__", "NoDraft.__init__", defArgs s_NoDraft, defBody s_NoDraft, defScope s_NoDraft, [], []⟩, ⟨("Ended", some "__init__"), "__init__", "Ended.__init__", defArgs s_Ended, defBody s_Ended, defScope s_Ended, [], []⟩, ⟨("UnknownPlace", some "__init__"), "__init__", "UnknownPlace.__init__", defArgs s_UnknownPlace, defBody s_UnknownPlace, defScope s_UnknownPlace, [], []⟩, ⟨("UnknownSaying", some "__init__"), "__init__", "UnknownSaying.__init__", defArgs s_UnknownSaying, defBody s_UnknownSaying, defScope s_UnknownSaying, [], []⟩, ⟨("UnknownGauge", some "__init__"), "__init__", "UnknownGauge.__init__", defArgs s_UnknownGauge, defBody s_UnknownGauge, defScope s_UnknownGauge, [], []⟩, ⟨("UnknownCase", some "__init__"), "__init__", "UnknownCase.__init__", defArgs s_UnknownCase, defBody s_UnknownCase, defScope s_UnknownCase, [], []⟩, ⟨("UnknownReport", some "__init__"), "__init__", "UnknownReport.__init__", defArgs s_UnknownReport, defBody s_UnknownReport, defScope s_UnknownReport, [], []⟩, ⟨("UnknownWatch", some "__init__"), "__init__", "UnknownWatch.__init__", defArgs s_UnknownWatch, defBody s_UnknownWatch, defScope s_UnknownWatch, [], []⟩, ⟨("NothingLeft", some "__init__"), "__init__", "NothingLeft.__init__", defArgs s_NothingLeft, defBody s_NothingLeft, defScope s_NothingLeft, [], []⟩]
def faL : List He.Fa := [.free "IndexError", .free "LookupError", .free "ValueError", .free "all", .free "any", .free "bool", .free "enumerate", .free "int", .free "isinstance", .free "len", .free "list", .free "range", .free "str", .free "tuple", .free "zip"] ++ nmL.map He.Fa.glo ++ [.glo "_law_bag", .glo "_law_draw", .glo "_law_pick", .glo "_law_same", .glo "_law_by_value", .glo "_law_by_value_too", .glo "_law_by_at", .glo "_law_by_at_too", .glo "_law_by_none", .glo "_law_others", .glo "_law_first_kinds", .glo "_law_next_kinds", .glo "_law_last_kinds", .glo "_law_titles", .glo "_law_is", .glo "_law_worth", .glo "law"]
abbrev R : PySem.W.OpenRow := PySem.W.OpenLaw.row PySem.Challenge.rw_highestsky_k00_errors_by_themselves
abbrev hk : PySem.W.Hook := He.hookX 4 faL fnL [] [] ex
def ob (s : PySem.W.SharedT) : He.AlX := He.obsX 4 faL fnL [] [] ex (HandSHeadRun.getT s)
theorem ob_eq (s : PySem.W.SharedT) : ob s = hk.obs s.abs := He.obsX_eq (HandSHeadRun.getT_eq s)
def namesL : List Str := (["__name__", "SkyError", "Missing", "InvalidNumber", "InvalidGauge", "InvalidPlace", "InvalidChart", "InvalidWind", "InvalidTop", "InvalidText", "InvalidRegion", "InvalidPath", "InvalidSquall", "InvalidHeights", "InvalidMirror", "InvalidSaying", "OffChart", "OtherChart", "TooMany", "NotForced", "InvalidPaper", "NoSky", "HasSky", "NotPlain", "Unkept", "InvalidStation", "NoBranch", "OnLand", "InvalidWay", "InvalidMeasure"] : List Str) ++ (["NoWay", "NoCase", "Impossible", "InvalidDeed", "NoDraft", "Ended", "UnknownPlace", "UnknownSaying", "UnknownGauge", "UnknownCase", "UnknownReport", "UnknownWatch", "NothingLeft", "_law_bag", "_law_draw", "_law_pick", "_law_same", "_law_by_value", "_law_by_value_too", "_law_by_at", "_law_by_at_too", "_law_by_none", "_law_others", "_law_first_kinds", "_law_next_kinds", "_law_last_kinds", "_law_titles", "_law_is", "_law_worth"] : List Str)
noncomputable abbrev Xr (w : PySem.World) (os : OsState) := HandSHeadRun.endF (HandSHeadRun.stepQ (HandSHeadRun.denQ HandSHeadRun.tabQ) R.prog w) 12000 R.prog w os
noncomputable abbrev Kr (s : PySem.W.SharedT) : PySem.W.Frag := He.frT (HandSHeadRun.getT s) (He.asD (HandSHeadRun.getT s) 4)
open PySem.W in
theorem run_a (w : PySem.World) (os : OsState) : (Xr w os).map (fun s => (HandSHeadRun.looksF R.prog (boot_heap w.params) s.abs, HandSHeadRun.seenQ (PySem.W.view R.prog [60]) namesL (importedModules R.prog.main.body) (fun s => PySem.W.xlAt (PySem.W.view R.prog [60]) [] s && PySem.W.recOk R.toRowW.records s) s.abs)) = some (true, PySem.W.openGood (PySem.W.view R.prog [60]) namesL) := by kernel_rfl
theorem run_b (w : PySem.World) (os : OsState) : (Xr w os).map (fun s => ((faL.all fun f => f.ok (Kr s)) && fnL.all fun d => d.ok (Kr s))) = some true := by kernel_rfl
theorem run_c (w : PySem.World) (os : OsState) : (Xr w os).map (fun s => fnL.map fun d => He.fnW (Kr s) d.at_) = some (fnL.map He.DefD.val) := by kernel_rfl
theorem run_d (w : PySem.World) (os : OsState) : (Xr w os).map (fun s => (ex (Kr s) && He.tabsB (HandSHeadRun.getT s) [] (Kr s))) = some true := by kernel_rfl
theorem run_comb {α β γ δ : Type} {X : Option α} {l : α → Bool} {sn : α → β} {bo : α → Bool} {fm : α → γ} {tm : δ} {e : α → Bool} {g : β} {v : γ} (h1 : X.map (fun s => (l s, sn s)) = some (true, g)) (h2 : X.map bo = some true) (h3 : X.map fm = some v) (h4 : X.map e = some true) :
    X.map (fun s => (l s, sn s, (((bo s, fm s), tm), e s))) = some (true, g, (((true, v), tm), true)) := by
  cases X with
  | none => cases h1
  | some s =>
    simp only [Option.map_some, Option.some.injEq, Prod.mk.injEq] at h1 h2 h3 h4 ⊢
    exact ⟨h1.1, h1.2, ⟨⟨h2, h3⟩, trivial⟩, h4⟩
theorem ob_pair (s : PySem.W.SharedT) : ob s = (((((faL.all fun f => f.ok (Kr s)) && fnL.all fun d => d.ok (Kr s)), fnL.map fun d => He.fnW (Kr s) d.at_), []), (ex (Kr s) && He.tabsB (HandSHeadRun.getT s) [] (Kr s))) := rfl
theorem val_pair (w : PySem.World) : hk.val w = (((true, fnL.map He.DefD.val), []), true) := rfl
theorem run (w : PySem.World) : HandSHeadRun.RunEq R (PySem.W.view R.prog [60]) hk ob 12000 namesL w := by
  intro os
  rw [val_pair]
  simp only [ob_pair]
  exact run_comb (run_a w os) (run_b w os) (run_c w os) (run_d w os)
end W00
set_option Elab.async false
set_option linter.all false
set_option maxRecDepth 100000
set_option maxHeartbeats 4000000
namespace W00
open PySem PySem.Spec PyProof.Rows L2 RZ Tr
theorem ba2 {a b : Bool} (h : (a && b) = true) : a = true ∧ b = true := Bool.and_eq_true_iff.mp h
structure ClsF (K : PySem.W.Frag) (bm : List Value) (newId : String) (p : Str × List Str) : Prop where
  ini : PySem.W.excInitIn K (He.ga K p.1) bm newId = true
  ov : PySem.W.excOver K (He.ga K p.1) bm = true
  hd : PySem.W.hasDictIn K (He.ga K p.1) = true
  sa : PySem.W.findIn K (.ref (He.ga K p.1)) "__setattr__" = some (some (.builtin "object.__setattr__"))
  exC : PySem.W.subIn K (.ref (He.ga K p.1)) (.type "BaseException") = some true
  tyC : PySem.W.typeIn K (.ref (He.ga K p.1)) = some (.type "type")
  kC : PySem.W.keepIn K (.ref (He.ga K p.1)) = true
  iC : PySem.W.findIn K (.ref (He.ga K p.1)) "__init__" = some (some (.ref (He.ma K (He.ga K p.1) "__init__")))
  tI : PySem.W.typeIn K (.ref (He.ma K (He.ga K p.1) "__init__")) = some (.type "function")
  xf : XfC K (He.ga K p.1)
  no : ∀ f, f ∈ (("code" : Str) :: p.2) → PySem.W.findIn K (.ref (He.ga K p.1)) f = some none
theorem clsF {K : PySem.W.Frag} {bm : List Value} {newId : String} {p : Str × List Str} (h : clsC K bm newId p = true) : ClsF K bm newId p := by
  unfold clsC at h
  obtain ⟨h1, h⟩ := ba2 h
  obtain ⟨h2, h⟩ := ba2 h
  obtain ⟨h3, h⟩ := ba2 h
  obtain ⟨h4, h⟩ := ba2 h
  obtain ⟨h5, h⟩ := ba2 h
  obtain ⟨h6, h⟩ := ba2 h
  obtain ⟨h7, h⟩ := ba2 h
  obtain ⟨h8, h⟩ := ba2 h
  obtain ⟨h9, h⟩ := ba2 h
  obtain ⟨h10, h⟩ := ba2 h
  exact ⟨h1, h2, h3, He.eqO_ok h4, of_decide_eq_true h5, of_decide_eq_true h6, h7, He.eqO_ok h8, of_decide_eq_true h9, xfB_ok h10, fun f hf => He.eqO_ok (List.all_eq_true.mp h f hf)⟩
theorem fdx {K : PySem.W.Frag} {bm : List Value} {newId : String} {p : Str × List Str} {f : Str} (F : ClsF K bm newId p) (h : f ∈ (("code" : Str) :: p.2)) : XfC K (He.ga K p.1) ∧ PySem.W.findIn K (.ref (He.ga K p.1)) f = some none := ⟨F.xf, F.no f h⟩
theorem nodup_of : ∀ {l : List Addr}, nodupB l = true → l.Nodup
  | [], _ => List.nodup_nil
  | a :: l, h => by
    obtain ⟨h1, h2⟩ := ba2 (show (!l.contains a && nodupB l) = true from h)
    refine List.nodup_cons.mpr ⟨fun z => ?_, nodup_of h2⟩
    have : l.contains a = true := List.contains_iff_mem.mpr z
    rw [this] at h1
    cases h1
theorem exX_of {K : PySem.W.Frag} {C : Addr} (h : exB K C = true) : ExX K C := by
  unfold exB at h
  obtain ⟨h1, h⟩ := ba2 h
  obtain ⟨h2, h⟩ := ba2 h
  obtain ⟨h3, h⟩ := ba2 h
  obtain ⟨h4, h⟩ := ba2 h
  obtain ⟨h5, h⟩ := ba2 h
  exact ⟨h1, He.eqO_ok h2, He.eqO_ok h3, of_decide_eq_true h4, He.eqO_ok h5, of_decide_eq_true h⟩
structure Top (K : PySem.W.Frag) : Prop where
  v : ∀ p, p ∈ iniV → ClsF K tailV "ValueError.__new__" p
  l : ∀ p, p ∈ iniL → ClsF K tailL "LookupError.__new__" p
  i : ∀ p, p ∈ iniI → ClsF K tailI "IndexError.__new__" p
  x : ∀ C, C ∈ csK K → ExX K C
  t : ∀ i, i < 42 → tblB K i = true
  cd : ClD K
  b : bare K = true
  nd : (csK K).Nodup
theorem top_of {K : PySem.W.Frag} (h : ex K = true) : Top K := by
  unfold ex at h
  obtain ⟨h1, h⟩ := ba2 h
  obtain ⟨h2, h⟩ := ba2 h
  obtain ⟨h3, h⟩ := ba2 h
  obtain ⟨h4, h⟩ := ba2 h
  obtain ⟨h5, h⟩ := ba2 h
  obtain ⟨h6, h⟩ := ba2 h
  obtain ⟨h7, h8⟩ := ba2 h
  have c := ba2 (show (He.eqO _ _ && decide _) = true from h6)
  exact ⟨fun p hp => clsF (List.all_eq_true.mp h1 p hp), fun p hp => clsF (List.all_eq_true.mp h2 p hp), fun p hp => clsF (List.all_eq_true.mp h3 p hp), fun C hC => exX_of (List.all_eq_true.mp h4 C hC),
    fun i hi => List.all_eq_true.mp h5 i (List.mem_range.mpr hi), ⟨He.eqO_ok c.1, of_decide_eq_true c.2⟩, h7, nodup_of h8⟩
theorem csK_get {K : PySem.W.Frag} {i : Nat} (h : i < 42) : cA (csK K) i ∈ csK K := by
  have hl : (csK K).length = 42 := by unfold csK nmL; rw [List.length_map, List.length_map]; rfl
  unfold cA
  rw [List.getD_eq_getElem?_getD, List.getElem?_eq_getElem (by rw [hl]; exact h)]
  exact List.getElem_mem _
theorem nOf_lt {cs : List Addr} {C : Addr} {i : Nat} (h : nOf cs C = some i) : i < cs.length ∧ cA cs i = C := by
  unfold nOf at h
  split at h
  · rename_i hl
    cases h
    refine ⟨hl, ?_⟩
    unfold cA
    rw [List.getD_eq_getElem?_getD, List.getElem?_eq_getElem hl]
    exact List.getElem_idxOf hl
  · cases h
theorem isx_of {K : PySem.W.Frag} (T : Top K) : IsXT K (tbl (csK K)) := by
  have hl : (csK K).length = 42 := by unfold csK nmL; rw [List.length_map, List.length_map]; rfl
  refine ⟨T.cd, fun C c b h => ?_⟩
  unfold tbl at h
  cases hn : nOf (csK K) C with
  | none => rw [hn] at h; cases h
  | some i =>
    rw [hn] at h
    obtain ⟨hi, rfl⟩ := nOf_lt hn
    rw [hl] at hi
    refine ⟨T.x _ (csK_get hi), ?_⟩
    have t := T.t i hi
    unfold tblB at t
    obtain ⟨t1, t⟩ := ba2 t
    obtain ⟨t2, t⟩ := ba2 t
    obtain ⟨t3, t4⟩ := ba2 t
    simp only at h
    split at h
    · rename_i a
      cases hm : nOf (csK K) a with
      | none => rw [hm] at h; cases h
      | some j =>
        rw [hm] at h
        obtain ⟨hj, rfl⟩ := nOf_lt hm
        rw [hl] at hj
        cases h
        exact ⟨_, rfl, of_decide_eq_true (List.all_eq_true.mp t1 j (List.mem_range.mpr hj))⟩
    · cases h; exact ⟨_, rfl, of_decide_eq_true t2⟩
    · cases h; exact ⟨_, rfl, of_decide_eq_true t3⟩
    · cases h; exact ⟨_, rfl, of_decide_eq_true t4⟩
    · cases h
theorem fd_value {K : PySem.W.Frag} (T : Top K) : XfdC K "value" (cAs (csK K) [2, 3, 4, 7, 13, 25, 26, 28, 35, 36, 37, 38, 39, 40]) := by
  intro C hC
  obtain ⟨i, hi, rfl⟩ := List.mem_map.mp hC
  simp only [List.mem_cons, List.not_mem_nil, or_false] at hi
  rcases hi with rfl | rfl | rfl | rfl | rfl | rfl | rfl | rfl | rfl | rfl | rfl | rfl | rfl | rfl
  · exact fdx (T.v _ (List.mem_of_getElem? (i := 0) rfl)) (by decide +kernel)
  · exact fdx (T.v _ (List.mem_of_getElem? (i := 1) rfl)) (by decide +kernel)
  · exact fdx (T.v _ (List.mem_of_getElem? (i := 2) rfl)) (by decide +kernel)
  · exact fdx (T.v _ (List.mem_of_getElem? (i := 5) rfl)) (by decide +kernel)
  · exact fdx (T.v _ (List.mem_of_getElem? (i := 11) rfl)) (by decide +kernel)
  · exact fdx (T.v _ (List.mem_of_getElem? (i := 23) rfl)) (by decide +kernel)
  · exact fdx (T.v _ (List.mem_of_getElem? (i := 24) rfl)) (by decide +kernel)
  · exact fdx (T.v _ (List.mem_of_getElem? (i := 26) rfl)) (by decide +kernel)
  · exact fdx (T.l _ (List.mem_of_getElem? (i := 0) rfl)) (by decide +kernel)
  · exact fdx (T.l _ (List.mem_of_getElem? (i := 1) rfl)) (by decide +kernel)
  · exact fdx (T.l _ (List.mem_of_getElem? (i := 2) rfl)) (by decide +kernel)
  · exact fdx (T.l _ (List.mem_of_getElem? (i := 3) rfl)) (by decide +kernel)
  · exact fdx (T.l _ (List.mem_of_getElem? (i := 4) rfl)) (by decide +kernel)
  · exact fdx (T.l _ (List.mem_of_getElem? (i := 5) rfl)) (by decide +kernel)
theorem fd_code {K : PySem.W.Frag} (T : Top K) : XfdC K "code" (cAs (csK K) [2, 3, 4, 5, 6, 7, 8, 9, 10, 11, 12, 13, 14, 15, 16, 17, 18, 19, 20, 21, 22, 23, 24, 25, 26, 27, 28, 29, 30, 31, 32, 33, 34, 35, 36, 37, 38, 39, 40, 41]) := by
  intro C hC
  obtain ⟨i, hi, rfl⟩ := List.mem_map.mp hC
  simp only [List.mem_cons, List.not_mem_nil, or_false] at hi
  rcases hi with rfl | rfl | rfl | rfl | rfl | rfl | rfl | rfl | rfl | rfl | rfl | rfl | rfl | rfl | rfl | rfl | rfl | rfl | rfl | rfl | rfl | rfl | rfl | rfl | rfl | rfl | rfl | rfl | rfl | rfl | rfl | rfl | rfl | rfl | rfl | rfl | rfl | rfl | rfl | rfl
  · exact fdx (T.v _ (List.mem_of_getElem? (i := 0) rfl)) (by decide +kernel)
  · exact fdx (T.v _ (List.mem_of_getElem? (i := 1) rfl)) (by decide +kernel)
  · exact fdx (T.v _ (List.mem_of_getElem? (i := 2) rfl)) (by decide +kernel)
  · exact fdx (T.v _ (List.mem_of_getElem? (i := 3) rfl)) (by decide +kernel)
  · exact fdx (T.v _ (List.mem_of_getElem? (i := 4) rfl)) (by decide +kernel)
  · exact fdx (T.v _ (List.mem_of_getElem? (i := 5) rfl)) (by decide +kernel)
  · exact fdx (T.v _ (List.mem_of_getElem? (i := 6) rfl)) (by decide +kernel)
  · exact fdx (T.v _ (List.mem_of_getElem? (i := 7) rfl)) (by decide +kernel)
  · exact fdx (T.v _ (List.mem_of_getElem? (i := 8) rfl)) (by decide +kernel)
  · exact fdx (T.v _ (List.mem_of_getElem? (i := 9) rfl)) (by decide +kernel)
  · exact fdx (T.v _ (List.mem_of_getElem? (i := 10) rfl)) (by decide +kernel)
  · exact fdx (T.v _ (List.mem_of_getElem? (i := 11) rfl)) (by decide +kernel)
  · exact fdx (T.v _ (List.mem_of_getElem? (i := 12) rfl)) (by decide +kernel)
  · exact fdx (T.v _ (List.mem_of_getElem? (i := 13) rfl)) (by decide +kernel)
  · exact fdx (T.v _ (List.mem_of_getElem? (i := 14) rfl)) (by decide +kernel)
  · exact fdx (T.v _ (List.mem_of_getElem? (i := 15) rfl)) (by decide +kernel)
  · exact fdx (T.v _ (List.mem_of_getElem? (i := 16) rfl)) (by decide +kernel)
  · exact fdx (T.v _ (List.mem_of_getElem? (i := 17) rfl)) (by decide +kernel)
  · exact fdx (T.v _ (List.mem_of_getElem? (i := 18) rfl)) (by decide +kernel)
  · exact fdx (T.v _ (List.mem_of_getElem? (i := 19) rfl)) (by decide +kernel)
  · exact fdx (T.v _ (List.mem_of_getElem? (i := 20) rfl)) (by decide +kernel)
  · exact fdx (T.v _ (List.mem_of_getElem? (i := 21) rfl)) (by decide +kernel)
  · exact fdx (T.v _ (List.mem_of_getElem? (i := 22) rfl)) (by decide +kernel)
  · exact fdx (T.v _ (List.mem_of_getElem? (i := 23) rfl)) (by decide +kernel)
  · exact fdx (T.v _ (List.mem_of_getElem? (i := 24) rfl)) (by decide +kernel)
  · exact fdx (T.v _ (List.mem_of_getElem? (i := 25) rfl)) (by decide +kernel)
  · exact fdx (T.v _ (List.mem_of_getElem? (i := 26) rfl)) (by decide +kernel)
  · exact fdx (T.v _ (List.mem_of_getElem? (i := 27) rfl)) (by decide +kernel)
  · exact fdx (T.v _ (List.mem_of_getElem? (i := 28) rfl)) (by decide +kernel)
  · exact fdx (T.v _ (List.mem_of_getElem? (i := 29) rfl)) (by decide +kernel)
  · exact fdx (T.v _ (List.mem_of_getElem? (i := 30) rfl)) (by decide +kernel)
  · exact fdx (T.v _ (List.mem_of_getElem? (i := 31) rfl)) (by decide +kernel)
  · exact fdx (T.v _ (List.mem_of_getElem? (i := 32) rfl)) (by decide +kernel)
  · exact fdx (T.l _ (List.mem_of_getElem? (i := 0) rfl)) (by decide +kernel)
  · exact fdx (T.l _ (List.mem_of_getElem? (i := 1) rfl)) (by decide +kernel)
  · exact fdx (T.l _ (List.mem_of_getElem? (i := 2) rfl)) (by decide +kernel)
  · exact fdx (T.l _ (List.mem_of_getElem? (i := 3) rfl)) (by decide +kernel)
  · exact fdx (T.l _ (List.mem_of_getElem? (i := 4) rfl)) (by decide +kernel)
  · exact fdx (T.l _ (List.mem_of_getElem? (i := 5) rfl)) (by decide +kernel)
  · exact fdx (T.i _ (List.mem_of_getElem? (i := 0) rfl)) (by decide +kernel)
theorem fd_row {K : PySem.W.Frag} (T : Top K) : XfdC K "row" (cAs (csK K) [5]) := by
  intro C hC
  obtain ⟨i, hi, rfl⟩ := List.mem_map.mp hC
  simp only [List.mem_cons, List.not_mem_nil, or_false] at hi
  subst hi
  · exact fdx (T.v _ (List.mem_of_getElem? (i := 3) rfl)) (by decide +kernel)
theorem fd_column {K : PySem.W.Frag} (T : Top K) : XfdC K "column" (cAs (csK K) [5]) := by
  intro C hC
  obtain ⟨i, hi, rfl⟩ := List.mem_map.mp hC
  simp only [List.mem_cons, List.not_mem_nil, or_false] at hi
  subst hi
  · exact fdx (T.v _ (List.mem_of_getElem? (i := 3) rfl)) (by decide +kernel)
theorem fd_at {K : PySem.W.Frag} (T : Top K) : XfdC K "at" (cAs (csK K) [6, 9, 10, 11, 14, 18, 22, 23, 24, 27, 32]) := by
  intro C hC
  obtain ⟨i, hi, rfl⟩ := List.mem_map.mp hC
  simp only [List.mem_cons, List.not_mem_nil, or_false] at hi
  rcases hi with rfl | rfl | rfl | rfl | rfl | rfl | rfl | rfl | rfl | rfl | rfl
  · exact fdx (T.v _ (List.mem_of_getElem? (i := 4) rfl)) (by decide +kernel)
  · exact fdx (T.v _ (List.mem_of_getElem? (i := 7) rfl)) (by decide +kernel)
  · exact fdx (T.v _ (List.mem_of_getElem? (i := 8) rfl)) (by decide +kernel)
  · exact fdx (T.v _ (List.mem_of_getElem? (i := 9) rfl)) (by decide +kernel)
  · exact fdx (T.v _ (List.mem_of_getElem? (i := 12) rfl)) (by decide +kernel)
  · exact fdx (T.v _ (List.mem_of_getElem? (i := 16) rfl)) (by decide +kernel)
  · exact fdx (T.v _ (List.mem_of_getElem? (i := 20) rfl)) (by decide +kernel)
  · exact fdx (T.v _ (List.mem_of_getElem? (i := 21) rfl)) (by decide +kernel)
  · exact fdx (T.v _ (List.mem_of_getElem? (i := 22) rfl)) (by decide +kernel)
  · exact fdx (T.v _ (List.mem_of_getElem? (i := 25) rfl)) (by decide +kernel)
  · exact fdx (T.v _ (List.mem_of_getElem? (i := 30) rfl)) (by decide +kernel)
theorem fd_line {K : PySem.W.Frag} (T : Top K) : XfdC K "line" (cAs (csK K) [8]) := by
  intro C hC
  obtain ⟨i, hi, rfl⟩ := List.mem_map.mp hC
  simp only [List.mem_cons, List.not_mem_nil, or_false] at hi
  subst hi
  · exact fdx (T.v _ (List.mem_of_getElem? (i := 6) rfl)) (by decide +kernel)
theorem fd_why {K : PySem.W.Frag} (T : Top K) : XfdC K "why" (cAs (csK K) [8]) := by
  intro C hC
  obtain ⟨i, hi, rfl⟩ := List.mem_map.mp hC
  simp only [List.mem_cons, List.not_mem_nil, or_false] at hi
  subst hi
  · exact fdx (T.v _ (List.mem_of_getElem? (i := 6) rfl)) (by decide +kernel)
theorem fd_place {K : PySem.W.Frag} (T : Top K) : XfdC K "place" (cAs (csK K) [15]) := by
  intro C hC
  obtain ⟨i, hi, rfl⟩ := List.mem_map.mp hC
  simp only [List.mem_cons, List.not_mem_nil, or_false] at hi
  subst hi
  · exact fdx (T.v _ (List.mem_of_getElem? (i := 13) rfl)) (by decide +kernel)
theorem fd_most {K : PySem.W.Frag} (T : Top K) : XfdC K "most" (cAs (csK K) [17]) := by
  intro C hC
  obtain ⟨i, hi, rfl⟩ := List.mem_map.mp hC
  simp only [List.mem_cons, List.not_mem_nil, or_false] at hi
  subst hi
  · exact fdx (T.v _ (List.mem_of_getElem? (i := 15) rfl)) (by decide +kernel)
theorem fd_grounds {K : PySem.W.Frag} (T : Top K) : XfdC K "grounds" (cAs (csK K) [20]) := by
  intro C hC
  obtain ⟨i, hi, rfl⟩ := List.mem_map.mp hC
  simp only [List.mem_cons, List.not_mem_nil, or_false] at hi
  subst hi
  · exact fdx (T.v _ (List.mem_of_getElem? (i := 18) rfl)) (by decide +kernel)
theorem fd_core {K : PySem.W.Frag} (T : Top K) : XfdC K "core" (cAs (csK K) [31]) := by
  intro C hC
  obtain ⟨i, hi, rfl⟩ := List.mem_map.mp hC
  simp only [List.mem_cons, List.not_mem_nil, or_false] at hi
  subst hi
  · exact fdx (T.v _ (List.mem_of_getElem? (i := 29) rfl)) (by decide +kernel)
theorem txt_of {K : PySem.W.Frag} {h : Heap} {mg : Str → Option Value} {w : World} (X : K.In h) (G : h.Ns mainGlobals mg) (c : He.SaysX faL fnL [] [] ex w h K) : Txt K mg (csK K) := by
  have T := top_of c.more
  have D := c.t.d
  have bb := ba2 T.b
  have b2 := ba2 bb.2
  have b3 := ba2 b2.2
  exact ⟨(by unfold csK nmL; rw [List.length_map, List.length_map]; rfl),
    T.nd,
    (He.free_ok X G (D.fact 0 (f := .free "IndexError") rfl)),
    (He.free_ok X G (D.fact 1 (f := .free "LookupError") rfl)),
    (He.free_ok X G (D.fact 2 (f := .free "ValueError") rfl)),
    (He.free_ok X G (D.fact 3 (f := .free "all") rfl)),
    (He.free_ok X G (D.fact 4 (f := .free "any") rfl)),
    (He.free_ok X G (D.fact 5 (f := .free "bool") rfl)),
    (He.free_ok X G (D.fact 6 (f := .free "enumerate") rfl)),
    (He.free_ok X G (D.fact 7 (f := .free "int") rfl)),
    (He.free_ok X G (D.fact 8 (f := .free "isinstance") rfl)),
    (He.free_ok X G (D.fact 9 (f := .free "len") rfl)),
    (He.free_ok X G (D.fact 10 (f := .free "list") rfl)),
    (He.free_ok X G (D.fact 11 (f := .free "range") rfl)),
    (He.free_ok X G (D.fact 12 (f := .free "str") rfl)),
    (He.free_ok X G (D.fact 13 (f := .free "tuple") rfl)),
    (He.free_ok X G (D.fact 14 (f := .free "zip") rfl)),
    (He.glo_ok X G (D.fact 15 (f := .glo "SkyError") rfl)),
    (He.glo_ok X G (D.fact 16 (f := .glo "Missing") rfl)),
    (He.glo_ok X G (D.fact 17 (f := .glo "InvalidNumber") rfl)),
    (He.glo_ok X G (D.fact 18 (f := .glo "InvalidGauge") rfl)),
    (He.glo_ok X G (D.fact 19 (f := .glo "InvalidPlace") rfl)),
    (He.glo_ok X G (D.fact 20 (f := .glo "InvalidChart") rfl)),
    (He.glo_ok X G (D.fact 21 (f := .glo "InvalidWind") rfl)),
    (He.glo_ok X G (D.fact 22 (f := .glo "InvalidTop") rfl)),
    (He.glo_ok X G (D.fact 23 (f := .glo "InvalidText") rfl)),
    (He.glo_ok X G (D.fact 24 (f := .glo "InvalidRegion") rfl)),
    (He.glo_ok X G (D.fact 25 (f := .glo "InvalidPath") rfl)),
    (He.glo_ok X G (D.fact 26 (f := .glo "InvalidSquall") rfl)),
    (He.glo_ok X G (D.fact 27 (f := .glo "InvalidHeights") rfl)),
    (He.glo_ok X G (D.fact 28 (f := .glo "InvalidMirror") rfl)),
    (He.glo_ok X G (D.fact 29 (f := .glo "InvalidSaying") rfl)),
    (He.glo_ok X G (D.fact 30 (f := .glo "OffChart") rfl)),
    (He.glo_ok X G (D.fact 31 (f := .glo "OtherChart") rfl)),
    (He.glo_ok X G (D.fact 32 (f := .glo "TooMany") rfl)),
    (He.glo_ok X G (D.fact 33 (f := .glo "NotForced") rfl)),
    (He.glo_ok X G (D.fact 34 (f := .glo "InvalidPaper") rfl)),
    (He.glo_ok X G (D.fact 35 (f := .glo "NoSky") rfl)),
    (He.glo_ok X G (D.fact 36 (f := .glo "HasSky") rfl)),
    (He.glo_ok X G (D.fact 37 (f := .glo "NotPlain") rfl)),
    (He.glo_ok X G (D.fact 38 (f := .glo "Unkept") rfl)),
    (He.glo_ok X G (D.fact 39 (f := .glo "InvalidStation") rfl)),
    (He.glo_ok X G (D.fact 40 (f := .glo "NoBranch") rfl)),
    (He.glo_ok X G (D.fact 41 (f := .glo "OnLand") rfl)),
    (He.glo_ok X G (D.fact 42 (f := .glo "InvalidWay") rfl)),
    (He.glo_ok X G (D.fact 43 (f := .glo "InvalidMeasure") rfl)),
    (He.glo_ok X G (D.fact 44 (f := .glo "NoWay") rfl)),
    (He.glo_ok X G (D.fact 45 (f := .glo "NoCase") rfl)),
    (He.glo_ok X G (D.fact 46 (f := .glo "Impossible") rfl)),
    (He.glo_ok X G (D.fact 47 (f := .glo "InvalidDeed") rfl)),
    (He.glo_ok X G (D.fact 48 (f := .glo "NoDraft") rfl)),
    (He.glo_ok X G (D.fact 49 (f := .glo "Ended") rfl)),
    (He.glo_ok X G (D.fact 50 (f := .glo "UnknownPlace") rfl)),
    (He.glo_ok X G (D.fact 51 (f := .glo "UnknownSaying") rfl)),
    (He.glo_ok X G (D.fact 52 (f := .glo "UnknownGauge") rfl)),
    (He.glo_ok X G (D.fact 53 (f := .glo "UnknownCase") rfl)),
    (He.glo_ok X G (D.fact 54 (f := .glo "UnknownReport") rfl)),
    (He.glo_ok X G (D.fact 55 (f := .glo "UnknownWatch") rfl)),
    (He.glo_ok X G (D.fact 56 (f := .glo "NothingLeft") rfl)),
    (fd_value T),
    (fd_code T),
    (fd_row T),
    (fd_column T),
    (fd_at T),
    (fd_line T),
    (fd_why T),
    (fd_place T),
    (fd_most T),
    (fd_grounds T),
    (fd_core T),
    (isx_of T),
    bb.1,
    b3.1,
    b2.1,
    b3.2⟩
theorem fun_of {K : PySem.W.Frag} {x qual : Str} {st : Stmt} {f : Addr} {fd : FuncData} (F : FunD K x qual (defArgs st) (defBody st) (defScope st) [] [] f fd) : Fun K x qual st f fd := by
  obtain ⟨oc, od, dV, kV, doc, pm, an, cdv, ct, osl, h1, h2, h3, h4, _⟩ := F.ex
  rcases h4 with ⟨_, h4⟩ | ⟨h4, _⟩
  · subst h4
    exact ⟨⟨oc, od, kV, doc, pm, an, cdv, ct, osl, h1, h2, h3⟩, F.kp⟩
  · exact absurd rfl h4
theorem xc_of {K : PySem.W.Frag} {bm : List Value} {newId initId B : String} {p : Str × List Str} (C : ClsF K bm newId p) (F : ExcBaseFacts B newId initId bm) (SF : StoreFacts B bm "object.__setattr__" "object") : ExC K (He.ga K p.1) B newId initId bm :=
  ⟨F, SF, C.ini, C.ov, C.hd, C.sa, C.exC, C.tyC, C.kC⟩
theorem x_InvalidNumber {P : Program} {wd : World} {K : PySem.W.Frag} {h : Heap} {mg : Str → Option Value} {base : Heap} {w : World} (X : K.In h) (G : h.Ns mainGlobals mg) (c : He.SaysX faL fnL [] [] ex w h K) : XnI P wd K mg base "InvalidNumber" (cA (csK K) 2) s_InvalidNumber 1 ["value"] "InvalidNumber" := by
  have C : ClsF K _ _ (("InvalidNumber" : Str), (["value"] : List Str)) := (top_of c.more).v _ (List.mem_of_getElem? (i := 0) rfl)
  obtain ⟨fd, F0⟩ := c.t.d.def_ 17 (d := ⟨("InvalidNumber", some "__init__"), "__init__", "InvalidNumber.__init__", defArgs s_InvalidNumber, defBody s_InvalidNumber, defScope s_InvalidNumber, [], []⟩) rfl
  have F : Fun K "__init__" "InvalidNumber.__init__" s_InvalidNumber (He.ma K (He.ga K "InvalidNumber") "__init__") fd := fun_of F0
  have E := xc_of C PySem.F.excBase_ValueError PySem.F.store_ValueError
  have S : FnScope ["self", "value"] ["self", "value"] (defScope s_InvalidNumber) := ⟨rfl, rfl, rfl, by decide +kernel, rfl, by decide +kernel, by decide +kernel⟩
  have O : FnOk P wd K mg base CX0 1 _ fd ["self", "value"] (spX (He.ga K "InvalidNumber") ["value"] "InvalidNumber") := ok_init1 S ⟨by first | exact Or.inl rfl | exact Or.inr (Or.inl rfl), by decide, by decide⟩ ⟨by first | exact Or.inl rfl | exact Or.inr (Or.inl rfl), by decide, by decide⟩ rfl F ⟨_, _, _, _, E⟩ (C.no "value" (by decide +kernel)) (C.no "code" (by decide +kernel))
  exact ⟨_, fd, _, _, _, _, _, O, F, C.iC, C.tI, E, He.glo_ok X G (c.t.d.fact 17 (f := .glo "InvalidNumber") rfl), F.binds fun _ _ _ _ _ _ us hl => match us, hl with | [_, _], _ => rfl⟩
theorem x_InvalidGauge {P : Program} {wd : World} {K : PySem.W.Frag} {h : Heap} {mg : Str → Option Value} {base : Heap} {w : World} (X : K.In h) (G : h.Ns mainGlobals mg) (c : He.SaysX faL fnL [] [] ex w h K) : XnI P wd K mg base "InvalidGauge" (cA (csK K) 3) s_InvalidGauge 1 ["value"] "InvalidGauge" := by
  have C : ClsF K _ _ (("InvalidGauge" : Str), (["value"] : List Str)) := (top_of c.more).v _ (List.mem_of_getElem? (i := 1) rfl)
  obtain ⟨fd, F0⟩ := c.t.d.def_ 18 (d := ⟨("InvalidGauge", some "__init__"), "__init__", "InvalidGauge.__init__", defArgs s_InvalidGauge, defBody s_InvalidGauge, defScope s_InvalidGauge, [], []⟩) rfl
  have F : Fun K "__init__" "InvalidGauge.__init__" s_InvalidGauge (He.ma K (He.ga K "InvalidGauge") "__init__") fd := fun_of F0
  have E := xc_of C PySem.F.excBase_ValueError PySem.F.store_ValueError
  have S : FnScope ["self", "value"] ["self", "value"] (defScope s_InvalidGauge) := ⟨rfl, rfl, rfl, by decide +kernel, rfl, by decide +kernel, by decide +kernel⟩
  have O : FnOk P wd K mg base CX0 1 _ fd ["self", "value"] (spX (He.ga K "InvalidGauge") ["value"] "InvalidGauge") := ok_init1 S ⟨by first | exact Or.inl rfl | exact Or.inr (Or.inl rfl), by decide, by decide⟩ ⟨by first | exact Or.inl rfl | exact Or.inr (Or.inl rfl), by decide, by decide⟩ rfl F ⟨_, _, _, _, E⟩ (C.no "value" (by decide +kernel)) (C.no "code" (by decide +kernel))
  exact ⟨_, fd, _, _, _, _, _, O, F, C.iC, C.tI, E, He.glo_ok X G (c.t.d.fact 18 (f := .glo "InvalidGauge") rfl), F.binds fun _ _ _ _ _ _ us hl => match us, hl with | [_, _], _ => rfl⟩
theorem x_InvalidPlace {P : Program} {wd : World} {K : PySem.W.Frag} {h : Heap} {mg : Str → Option Value} {base : Heap} {w : World} (X : K.In h) (G : h.Ns mainGlobals mg) (c : He.SaysX faL fnL [] [] ex w h K) : XnI P wd K mg base "InvalidPlace" (cA (csK K) 4) s_InvalidPlace 1 ["value"] "InvalidPlace" := by
  have C : ClsF K _ _ (("InvalidPlace" : Str), (["value"] : List Str)) := (top_of c.more).v _ (List.mem_of_getElem? (i := 2) rfl)
  obtain ⟨fd, F0⟩ := c.t.d.def_ 19 (d := ⟨("InvalidPlace", some "__init__"), "__init__", "InvalidPlace.__init__", defArgs s_InvalidPlace, defBody s_InvalidPlace, defScope s_InvalidPlace, [], []⟩) rfl
  have F : Fun K "__init__" "InvalidPlace.__init__" s_InvalidPlace (He.ma K (He.ga K "InvalidPlace") "__init__") fd := fun_of F0
  have E := xc_of C PySem.F.excBase_ValueError PySem.F.store_ValueError
  have S : FnScope ["self", "value"] ["self", "value"] (defScope s_InvalidPlace) := ⟨rfl, rfl, rfl, by decide +kernel, rfl, by decide +kernel, by decide +kernel⟩
  have O : FnOk P wd K mg base CX0 1 _ fd ["self", "value"] (spX (He.ga K "InvalidPlace") ["value"] "InvalidPlace") := ok_init1 S ⟨by first | exact Or.inl rfl | exact Or.inr (Or.inl rfl), by decide, by decide⟩ ⟨by first | exact Or.inl rfl | exact Or.inr (Or.inl rfl), by decide, by decide⟩ rfl F ⟨_, _, _, _, E⟩ (C.no "value" (by decide +kernel)) (C.no "code" (by decide +kernel))
  exact ⟨_, fd, _, _, _, _, _, O, F, C.iC, C.tI, E, He.glo_ok X G (c.t.d.fact 19 (f := .glo "InvalidPlace") rfl), F.binds fun _ _ _ _ _ _ us hl => match us, hl with | [_, _], _ => rfl⟩
theorem x_InvalidChart {P : Program} {wd : World} {K : PySem.W.Frag} {h : Heap} {mg : Str → Option Value} {base : Heap} {w : World} (X : K.In h) (G : h.Ns mainGlobals mg) (c : He.SaysX faL fnL [] [] ex w h K) : XnI P wd K mg base "InvalidChart" (cA (csK K) 5) s_InvalidChart 1 ["row", "column"] "InvalidChart" := by
  have C : ClsF K _ _ (("InvalidChart" : Str), (["row", "column"] : List Str)) := (top_of c.more).v _ (List.mem_of_getElem? (i := 3) rfl)
  obtain ⟨fd, F0⟩ := c.t.d.def_ 20 (d := ⟨("InvalidChart", some "__init__"), "__init__", "InvalidChart.__init__", defArgs s_InvalidChart, defBody s_InvalidChart, defScope s_InvalidChart, [], []⟩) rfl
  have F : Fun K "__init__" "InvalidChart.__init__" s_InvalidChart (He.ma K (He.ga K "InvalidChart") "__init__") fd := fun_of F0
  have E := xc_of C PySem.F.excBase_ValueError PySem.F.store_ValueError
  have S : FnScope ["self", "row", "column"] ["self", "row", "column"] (defScope s_InvalidChart) := ⟨rfl, rfl, rfl, by decide +kernel, rfl, by decide +kernel, by decide +kernel⟩
  have O : FnOk P wd K mg base CX0 1 _ fd ["self", "row", "column"] (spX (He.ga K "InvalidChart") ["row", "column"] "InvalidChart") := ok_init2 S ⟨by first | exact Or.inl rfl | exact Or.inr (Or.inl rfl), by decide, by decide⟩ ⟨by first | exact Or.inl rfl | exact Or.inr (Or.inl rfl), by decide, by decide⟩ ⟨by first | exact Or.inl rfl | exact Or.inr (Or.inl rfl), by decide, by decide⟩ rfl F ⟨_, _, _, _, E⟩ (C.no "row" (by decide +kernel)) (C.no "column" (by decide +kernel)) (C.no "code" (by decide +kernel))
  exact ⟨_, fd, _, _, _, _, _, O, F, C.iC, C.tI, E, He.glo_ok X G (c.t.d.fact 20 (f := .glo "InvalidChart") rfl), F.binds fun _ _ _ _ _ _ us hl => match us, hl with | [_, _, _], _ => rfl⟩
theorem x_InvalidWind {P : Program} {wd : World} {K : PySem.W.Frag} {h : Heap} {mg : Str → Option Value} {base : Heap} {w : World} (X : K.In h) (G : h.Ns mainGlobals mg) (c : He.SaysX faL fnL [] [] ex w h K) : XnI P wd K mg base "InvalidWind" (cA (csK K) 6) s_InvalidWind 1 ["at"] "InvalidWind" := by
  have C : ClsF K _ _ (("InvalidWind" : Str), (["at"] : List Str)) := (top_of c.more).v _ (List.mem_of_getElem? (i := 4) rfl)
  obtain ⟨fd, F0⟩ := c.t.d.def_ 21 (d := ⟨("InvalidWind", some "__init__"), "__init__", "InvalidWind.__init__", defArgs s_InvalidWind, defBody s_InvalidWind, defScope s_InvalidWind, [], []⟩) rfl
  have F : Fun K "__init__" "InvalidWind.__init__" s_InvalidWind (He.ma K (He.ga K "InvalidWind") "__init__") fd := fun_of F0
  have E := xc_of C PySem.F.excBase_ValueError PySem.F.store_ValueError
  have S : FnScope ["self", "at"] ["self", "at"] (defScope s_InvalidWind) := ⟨rfl, rfl, rfl, by decide +kernel, rfl, by decide +kernel, by decide +kernel⟩
  have O : FnOk P wd K mg base CX0 1 _ fd ["self", "at"] (spX (He.ga K "InvalidWind") ["at"] "InvalidWind") := ok_init1 S ⟨by first | exact Or.inl rfl | exact Or.inr (Or.inl rfl), by decide, by decide⟩ ⟨by first | exact Or.inl rfl | exact Or.inr (Or.inl rfl), by decide, by decide⟩ rfl F ⟨_, _, _, _, E⟩ (C.no "at" (by decide +kernel)) (C.no "code" (by decide +kernel))
  exact ⟨_, fd, _, _, _, _, _, O, F, C.iC, C.tI, E, He.glo_ok X G (c.t.d.fact 21 (f := .glo "InvalidWind") rfl), F.binds fun _ _ _ _ _ _ us hl => match us, hl with | [_, _], _ => rfl⟩
theorem x_InvalidTop {P : Program} {wd : World} {K : PySem.W.Frag} {h : Heap} {mg : Str → Option Value} {base : Heap} {w : World} (X : K.In h) (G : h.Ns mainGlobals mg) (c : He.SaysX faL fnL [] [] ex w h K) : XnI P wd K mg base "InvalidTop" (cA (csK K) 7) s_InvalidTop 1 ["value"] "InvalidTop" := by
  have C : ClsF K _ _ (("InvalidTop" : Str), (["value"] : List Str)) := (top_of c.more).v _ (List.mem_of_getElem? (i := 5) rfl)
  obtain ⟨fd, F0⟩ := c.t.d.def_ 22 (d := ⟨("InvalidTop", some "__init__"), "__init__", "InvalidTop.__init__", defArgs s_InvalidTop, defBody s_InvalidTop, defScope s_InvalidTop, [], []⟩) rfl
  have F : Fun K "__init__" "InvalidTop.__init__" s_InvalidTop (He.ma K (He.ga K "InvalidTop") "__init__") fd := fun_of F0
  have E := xc_of C PySem.F.excBase_ValueError PySem.F.store_ValueError
  have S : FnScope ["self", "value"] ["self", "value"] (defScope s_InvalidTop) := ⟨rfl, rfl, rfl, by decide +kernel, rfl, by decide +kernel, by decide +kernel⟩
  have O : FnOk P wd K mg base CX0 1 _ fd ["self", "value"] (spX (He.ga K "InvalidTop") ["value"] "InvalidTop") := ok_init1 S ⟨by first | exact Or.inl rfl | exact Or.inr (Or.inl rfl), by decide, by decide⟩ ⟨by first | exact Or.inl rfl | exact Or.inr (Or.inl rfl), by decide, by decide⟩ rfl F ⟨_, _, _, _, E⟩ (C.no "value" (by decide +kernel)) (C.no "code" (by decide +kernel))
  exact ⟨_, fd, _, _, _, _, _, O, F, C.iC, C.tI, E, He.glo_ok X G (c.t.d.fact 22 (f := .glo "InvalidTop") rfl), F.binds fun _ _ _ _ _ _ us hl => match us, hl with | [_, _], _ => rfl⟩
theorem x_InvalidText {P : Program} {wd : World} {K : PySem.W.Frag} {h : Heap} {mg : Str → Option Value} {base : Heap} {w : World} (X : K.In h) (G : h.Ns mainGlobals mg) (c : He.SaysX faL fnL [] [] ex w h K) : XnI P wd K mg base "InvalidText" (cA (csK K) 8) s_InvalidText 1 ["line", "why"] "InvalidText" := by
  have C : ClsF K _ _ (("InvalidText" : Str), (["line", "why"] : List Str)) := (top_of c.more).v _ (List.mem_of_getElem? (i := 6) rfl)
  obtain ⟨fd, F0⟩ := c.t.d.def_ 23 (d := ⟨("InvalidText", some "__init__"), "__init__", "InvalidText.__init__", defArgs s_InvalidText, defBody s_InvalidText, defScope s_InvalidText, [], []⟩) rfl
  have F : Fun K "__init__" "InvalidText.__init__" s_InvalidText (He.ma K (He.ga K "InvalidText") "__init__") fd := fun_of F0
  have E := xc_of C PySem.F.excBase_ValueError PySem.F.store_ValueError
  have S : FnScope ["self", "line", "why"] ["self", "line", "why"] (defScope s_InvalidText) := ⟨rfl, rfl, rfl, by decide +kernel, rfl, by decide +kernel, by decide +kernel⟩
  have O : FnOk P wd K mg base CX0 1 _ fd ["self", "line", "why"] (spX (He.ga K "InvalidText") ["line", "why"] "InvalidText") := ok_init2 S ⟨by first | exact Or.inl rfl | exact Or.inr (Or.inl rfl), by decide, by decide⟩ ⟨by first | exact Or.inl rfl | exact Or.inr (Or.inl rfl), by decide, by decide⟩ ⟨by first | exact Or.inl rfl | exact Or.inr (Or.inl rfl), by decide, by decide⟩ rfl F ⟨_, _, _, _, E⟩ (C.no "line" (by decide +kernel)) (C.no "why" (by decide +kernel)) (C.no "code" (by decide +kernel))
  exact ⟨_, fd, _, _, _, _, _, O, F, C.iC, C.tI, E, He.glo_ok X G (c.t.d.fact 23 (f := .glo "InvalidText") rfl), F.binds fun _ _ _ _ _ _ us hl => match us, hl with | [_, _, _], _ => rfl⟩
theorem x_InvalidRegion {P : Program} {wd : World} {K : PySem.W.Frag} {h : Heap} {mg : Str → Option Value} {base : Heap} {w : World} (X : K.In h) (G : h.Ns mainGlobals mg) (c : He.SaysX faL fnL [] [] ex w h K) : XnI P wd K mg base "InvalidRegion" (cA (csK K) 9) s_InvalidRegion 1 ["at"] "InvalidRegion" := by
  have C : ClsF K _ _ (("InvalidRegion" : Str), (["at"] : List Str)) := (top_of c.more).v _ (List.mem_of_getElem? (i := 7) rfl)
  obtain ⟨fd, F0⟩ := c.t.d.def_ 24 (d := ⟨("InvalidRegion", some "__init__"), "__init__", "InvalidRegion.__init__", defArgs s_InvalidRegion, defBody s_InvalidRegion, defScope s_InvalidRegion, [], []⟩) rfl
  have F : Fun K "__init__" "InvalidRegion.__init__" s_InvalidRegion (He.ma K (He.ga K "InvalidRegion") "__init__") fd := fun_of F0
  have E := xc_of C PySem.F.excBase_ValueError PySem.F.store_ValueError
  have S : FnScope ["self", "at"] ["self", "at"] (defScope s_InvalidRegion) := ⟨rfl, rfl, rfl, by decide +kernel, rfl, by decide +kernel, by decide +kernel⟩
  have O : FnOk P wd K mg base CX0 1 _ fd ["self", "at"] (spX (He.ga K "InvalidRegion") ["at"] "InvalidRegion") := ok_init1 S ⟨by first | exact Or.inl rfl | exact Or.inr (Or.inl rfl), by decide, by decide⟩ ⟨by first | exact Or.inl rfl | exact Or.inr (Or.inl rfl), by decide, by decide⟩ rfl F ⟨_, _, _, _, E⟩ (C.no "at" (by decide +kernel)) (C.no "code" (by decide +kernel))
  exact ⟨_, fd, _, _, _, _, _, O, F, C.iC, C.tI, E, He.glo_ok X G (c.t.d.fact 24 (f := .glo "InvalidRegion") rfl), F.binds fun _ _ _ _ _ _ us hl => match us, hl with | [_, _], _ => rfl⟩
theorem x_InvalidPath {P : Program} {wd : World} {K : PySem.W.Frag} {h : Heap} {mg : Str → Option Value} {base : Heap} {w : World} (X : K.In h) (G : h.Ns mainGlobals mg) (c : He.SaysX faL fnL [] [] ex w h K) : XnI P wd K mg base "InvalidPath" (cA (csK K) 10) s_InvalidPath 1 ["at"] "InvalidPath" := by
  have C : ClsF K _ _ (("InvalidPath" : Str), (["at"] : List Str)) := (top_of c.more).v _ (List.mem_of_getElem? (i := 8) rfl)
  obtain ⟨fd, F0⟩ := c.t.d.def_ 25 (d := ⟨("InvalidPath", some "__init__"), "__init__", "InvalidPath.__init__", defArgs s_InvalidPath, defBody s_InvalidPath, defScope s_InvalidPath, [], []⟩) rfl
  have F : Fun K "__init__" "InvalidPath.__init__" s_InvalidPath (He.ma K (He.ga K "InvalidPath") "__init__") fd := fun_of F0
  have E := xc_of C PySem.F.excBase_ValueError PySem.F.store_ValueError
  have S : FnScope ["self", "at"] ["self", "at"] (defScope s_InvalidPath) := ⟨rfl, rfl, rfl, by decide +kernel, rfl, by decide +kernel, by decide +kernel⟩
  have O : FnOk P wd K mg base CX0 1 _ fd ["self", "at"] (spX (He.ga K "InvalidPath") ["at"] "InvalidPath") := ok_init1 S ⟨by first | exact Or.inl rfl | exact Or.inr (Or.inl rfl), by decide, by decide⟩ ⟨by first | exact Or.inl rfl | exact Or.inr (Or.inl rfl), by decide, by decide⟩ rfl F ⟨_, _, _, _, E⟩ (C.no "at" (by decide +kernel)) (C.no "code" (by decide +kernel))
  exact ⟨_, fd, _, _, _, _, _, O, F, C.iC, C.tI, E, He.glo_ok X G (c.t.d.fact 25 (f := .glo "InvalidPath") rfl), F.binds fun _ _ _ _ _ _ us hl => match us, hl with | [_, _], _ => rfl⟩
theorem x_InvalidSquall {P : Program} {wd : World} {K : PySem.W.Frag} {h : Heap} {mg : Str → Option Value} {base : Heap} {w : World} (X : K.In h) (G : h.Ns mainGlobals mg) (c : He.SaysX faL fnL [] [] ex w h K) : XnI P wd K mg base "InvalidSquall" (cA (csK K) 11) s_InvalidSquall 1 ["at"] "InvalidSquall" := by
  have C : ClsF K _ _ (("InvalidSquall" : Str), (["at"] : List Str)) := (top_of c.more).v _ (List.mem_of_getElem? (i := 9) rfl)
  obtain ⟨fd, F0⟩ := c.t.d.def_ 26 (d := ⟨("InvalidSquall", some "__init__"), "__init__", "InvalidSquall.__init__", defArgs s_InvalidSquall, defBody s_InvalidSquall, defScope s_InvalidSquall, [], []⟩) rfl
  have F : Fun K "__init__" "InvalidSquall.__init__" s_InvalidSquall (He.ma K (He.ga K "InvalidSquall") "__init__") fd := fun_of F0
  have E := xc_of C PySem.F.excBase_ValueError PySem.F.store_ValueError
  have S : FnScope ["self", "at"] ["self", "at"] (defScope s_InvalidSquall) := ⟨rfl, rfl, rfl, by decide +kernel, rfl, by decide +kernel, by decide +kernel⟩
  have O : FnOk P wd K mg base CX0 1 _ fd ["self", "at"] (spX (He.ga K "InvalidSquall") ["at"] "InvalidSquall") := ok_init1 S ⟨by first | exact Or.inl rfl | exact Or.inr (Or.inl rfl), by decide, by decide⟩ ⟨by first | exact Or.inl rfl | exact Or.inr (Or.inl rfl), by decide, by decide⟩ rfl F ⟨_, _, _, _, E⟩ (C.no "at" (by decide +kernel)) (C.no "code" (by decide +kernel))
  exact ⟨_, fd, _, _, _, _, _, O, F, C.iC, C.tI, E, He.glo_ok X G (c.t.d.fact 26 (f := .glo "InvalidSquall") rfl), F.binds fun _ _ _ _ _ _ us hl => match us, hl with | [_, _], _ => rfl⟩
theorem x_InvalidHeights {P : Program} {wd : World} {K : PySem.W.Frag} {h : Heap} {mg : Str → Option Value} {base : Heap} {w : World} (X : K.In h) (G : h.Ns mainGlobals mg) (c : He.SaysX faL fnL [] [] ex w h K) : XnI P wd K mg base "InvalidHeights" (cA (csK K) 12) s_InvalidHeights 1 [] "InvalidHeights" := by
  have C : ClsF K _ _ (("InvalidHeights" : Str), ([] : List Str)) := (top_of c.more).v _ (List.mem_of_getElem? (i := 10) rfl)
  obtain ⟨fd, F0⟩ := c.t.d.def_ 27 (d := ⟨("InvalidHeights", some "__init__"), "__init__", "InvalidHeights.__init__", defArgs s_InvalidHeights, defBody s_InvalidHeights, defScope s_InvalidHeights, [], []⟩) rfl
  have F : Fun K "__init__" "InvalidHeights.__init__" s_InvalidHeights (He.ma K (He.ga K "InvalidHeights") "__init__") fd := fun_of F0
  have E := xc_of C PySem.F.excBase_ValueError PySem.F.store_ValueError
  have S : FnScope ["self"] ["self"] (defScope s_InvalidHeights) := ⟨rfl, rfl, rfl, by decide +kernel, rfl, by decide +kernel, by decide +kernel⟩
  have O : FnOk P wd K mg base CX0 1 _ fd ["self"] (spX (He.ga K "InvalidHeights") [] "InvalidHeights") := ok_init0 S ⟨by first | exact Or.inl rfl | exact Or.inr (Or.inl rfl), by decide, by decide⟩ rfl F ⟨_, _, _, _, E⟩ (C.no "code" (by decide +kernel))
  exact ⟨_, fd, _, _, _, _, _, O, F, C.iC, C.tI, E, He.glo_ok X G (c.t.d.fact 27 (f := .glo "InvalidHeights") rfl), F.binds fun _ _ _ _ _ _ us hl => match us, hl with | [_], _ => rfl⟩
theorem x_InvalidMirror {P : Program} {wd : World} {K : PySem.W.Frag} {h : Heap} {mg : Str → Option Value} {base : Heap} {w : World} (X : K.In h) (G : h.Ns mainGlobals mg) (c : He.SaysX faL fnL [] [] ex w h K) : XnI P wd K mg base "InvalidMirror" (cA (csK K) 13) s_InvalidMirror 1 ["value"] "InvalidMirror" := by
  have C : ClsF K _ _ (("InvalidMirror" : Str), (["value"] : List Str)) := (top_of c.more).v _ (List.mem_of_getElem? (i := 11) rfl)
  obtain ⟨fd, F0⟩ := c.t.d.def_ 28 (d := ⟨("InvalidMirror", some "__init__"), "__init__", "InvalidMirror.__init__", defArgs s_InvalidMirror, defBody s_InvalidMirror, defScope s_InvalidMirror, [], []⟩) rfl
  have F : Fun K "__init__" "InvalidMirror.__init__" s_InvalidMirror (He.ma K (He.ga K "InvalidMirror") "__init__") fd := fun_of F0
  have E := xc_of C PySem.F.excBase_ValueError PySem.F.store_ValueError
  have S : FnScope ["self", "value"] ["self", "value"] (defScope s_InvalidMirror) := ⟨rfl, rfl, rfl, by decide +kernel, rfl, by decide +kernel, by decide +kernel⟩
  have O : FnOk P wd K mg base CX0 1 _ fd ["self", "value"] (spX (He.ga K "InvalidMirror") ["value"] "InvalidMirror") := ok_init1 S ⟨by first | exact Or.inl rfl | exact Or.inr (Or.inl rfl), by decide, by decide⟩ ⟨by first | exact Or.inl rfl | exact Or.inr (Or.inl rfl), by decide, by decide⟩ rfl F ⟨_, _, _, _, E⟩ (C.no "value" (by decide +kernel)) (C.no "code" (by decide +kernel))
  exact ⟨_, fd, _, _, _, _, _, O, F, C.iC, C.tI, E, He.glo_ok X G (c.t.d.fact 28 (f := .glo "InvalidMirror") rfl), F.binds fun _ _ _ _ _ _ us hl => match us, hl with | [_, _], _ => rfl⟩
theorem x_InvalidSaying {P : Program} {wd : World} {K : PySem.W.Frag} {h : Heap} {mg : Str → Option Value} {base : Heap} {w : World} (X : K.In h) (G : h.Ns mainGlobals mg) (c : He.SaysX faL fnL [] [] ex w h K) : XnI P wd K mg base "InvalidSaying" (cA (csK K) 14) s_InvalidSaying 1 ["at"] "InvalidSaying" := by
  have C : ClsF K _ _ (("InvalidSaying" : Str), (["at"] : List Str)) := (top_of c.more).v _ (List.mem_of_getElem? (i := 12) rfl)
  obtain ⟨fd, F0⟩ := c.t.d.def_ 29 (d := ⟨("InvalidSaying", some "__init__"), "__init__", "InvalidSaying.__init__", defArgs s_InvalidSaying, defBody s_InvalidSaying, defScope s_InvalidSaying, [], []⟩) rfl
  have F : Fun K "__init__" "InvalidSaying.__init__" s_InvalidSaying (He.ma K (He.ga K "InvalidSaying") "__init__") fd := fun_of F0
  have E := xc_of C PySem.F.excBase_ValueError PySem.F.store_ValueError
  have S : FnScope ["self", "at"] ["self", "at"] (defScope s_InvalidSaying) := ⟨rfl, rfl, rfl, by decide +kernel, rfl, by decide +kernel, by decide +kernel⟩
  have O : FnOk P wd K mg base CX0 1 _ fd ["self", "at"] (spX (He.ga K "InvalidSaying") ["at"] "InvalidSaying") := ok_init1 S ⟨by first | exact Or.inl rfl | exact Or.inr (Or.inl rfl), by decide, by decide⟩ ⟨by first | exact Or.inl rfl | exact Or.inr (Or.inl rfl), by decide, by decide⟩ rfl F ⟨_, _, _, _, E⟩ (C.no "at" (by decide +kernel)) (C.no "code" (by decide +kernel))
  exact ⟨_, fd, _, _, _, _, _, O, F, C.iC, C.tI, E, He.glo_ok X G (c.t.d.fact 29 (f := .glo "InvalidSaying") rfl), F.binds fun _ _ _ _ _ _ us hl => match us, hl with | [_, _], _ => rfl⟩
theorem x_OffChart {P : Program} {wd : World} {K : PySem.W.Frag} {h : Heap} {mg : Str → Option Value} {base : Heap} {w : World} (X : K.In h) (G : h.Ns mainGlobals mg) (c : He.SaysX faL fnL [] [] ex w h K) : XnI P wd K mg base "OffChart" (cA (csK K) 15) s_OffChart 1 ["place"] "OffChart" := by
  have C : ClsF K _ _ (("OffChart" : Str), (["place"] : List Str)) := (top_of c.more).v _ (List.mem_of_getElem? (i := 13) rfl)
  obtain ⟨fd, F0⟩ := c.t.d.def_ 30 (d := ⟨("OffChart", some "__init__"), "__init__", "OffChart.__init__", defArgs s_OffChart, defBody s_OffChart, defScope s_OffChart, [], []⟩) rfl
  have F : Fun K "__init__" "OffChart.__init__" s_OffChart (He.ma K (He.ga K "OffChart") "__init__") fd := fun_of F0
  have E := xc_of C PySem.F.excBase_ValueError PySem.F.store_ValueError
  have S : FnScope ["self", "place"] ["self", "place"] (defScope s_OffChart) := ⟨rfl, rfl, rfl, by decide +kernel, rfl, by decide +kernel, by decide +kernel⟩
  have O : FnOk P wd K mg base CX0 1 _ fd ["self", "place"] (spX (He.ga K "OffChart") ["place"] "OffChart") := ok_init1 S ⟨by first | exact Or.inl rfl | exact Or.inr (Or.inl rfl), by decide, by decide⟩ ⟨by first | exact Or.inl rfl | exact Or.inr (Or.inl rfl), by decide, by decide⟩ rfl F ⟨_, _, _, _, E⟩ (C.no "place" (by decide +kernel)) (C.no "code" (by decide +kernel))
  exact ⟨_, fd, _, _, _, _, _, O, F, C.iC, C.tI, E, He.glo_ok X G (c.t.d.fact 30 (f := .glo "OffChart") rfl), F.binds fun _ _ _ _ _ _ us hl => match us, hl with | [_, _], _ => rfl⟩
theorem x_OtherChart {P : Program} {wd : World} {K : PySem.W.Frag} {h : Heap} {mg : Str → Option Value} {base : Heap} {w : World} (X : K.In h) (G : h.Ns mainGlobals mg) (c : He.SaysX faL fnL [] [] ex w h K) : XnI P wd K mg base "OtherChart" (cA (csK K) 16) s_OtherChart 1 [] "OtherChart" := by
  have C : ClsF K _ _ (("OtherChart" : Str), ([] : List Str)) := (top_of c.more).v _ (List.mem_of_getElem? (i := 14) rfl)
  obtain ⟨fd, F0⟩ := c.t.d.def_ 31 (d := ⟨("OtherChart", some "__init__"), "__init__", "OtherChart.__init__", defArgs s_OtherChart, defBody s_OtherChart, defScope s_OtherChart, [], []⟩) rfl
  have F : Fun K "__init__" "OtherChart.__init__" s_OtherChart (He.ma K (He.ga K "OtherChart") "__init__") fd := fun_of F0
  have E := xc_of C PySem.F.excBase_ValueError PySem.F.store_ValueError
  have S : FnScope ["self"] ["self"] (defScope s_OtherChart) := ⟨rfl, rfl, rfl, by decide +kernel, rfl, by decide +kernel, by decide +kernel⟩
  have O : FnOk P wd K mg base CX0 1 _ fd ["self"] (spX (He.ga K "OtherChart") [] "OtherChart") := ok_init0 S ⟨by first | exact Or.inl rfl | exact Or.inr (Or.inl rfl), by decide, by decide⟩ rfl F ⟨_, _, _, _, E⟩ (C.no "code" (by decide +kernel))
  exact ⟨_, fd, _, _, _, _, _, O, F, C.iC, C.tI, E, He.glo_ok X G (c.t.d.fact 31 (f := .glo "OtherChart") rfl), F.binds fun _ _ _ _ _ _ us hl => match us, hl with | [_], _ => rfl⟩
theorem x_TooMany {P : Program} {wd : World} {K : PySem.W.Frag} {h : Heap} {mg : Str → Option Value} {base : Heap} {w : World} (X : K.In h) (G : h.Ns mainGlobals mg) (c : He.SaysX faL fnL [] [] ex w h K) : XnI P wd K mg base "TooMany" (cA (csK K) 17) s_TooMany 1 ["most"] "TooMany" := by
  have C : ClsF K _ _ (("TooMany" : Str), (["most"] : List Str)) := (top_of c.more).v _ (List.mem_of_getElem? (i := 15) rfl)
  obtain ⟨fd, F0⟩ := c.t.d.def_ 32 (d := ⟨("TooMany", some "__init__"), "__init__", "TooMany.__init__", defArgs s_TooMany, defBody s_TooMany, defScope s_TooMany, [], []⟩) rfl
  have F : Fun K "__init__" "TooMany.__init__" s_TooMany (He.ma K (He.ga K "TooMany") "__init__") fd := fun_of F0
  have E := xc_of C PySem.F.excBase_ValueError PySem.F.store_ValueError
  have S : FnScope ["self", "most"] ["self", "most"] (defScope s_TooMany) := ⟨rfl, rfl, rfl, by decide +kernel, rfl, by decide +kernel, by decide +kernel⟩
  have O : FnOk P wd K mg base CX0 1 _ fd ["self", "most"] (spX (He.ga K "TooMany") ["most"] "TooMany") := ok_init1 S ⟨by first | exact Or.inl rfl | exact Or.inr (Or.inl rfl), by decide, by decide⟩ ⟨by first | exact Or.inl rfl | exact Or.inr (Or.inl rfl), by decide, by decide⟩ rfl F ⟨_, _, _, _, E⟩ (C.no "most" (by decide +kernel)) (C.no "code" (by decide +kernel))
  exact ⟨_, fd, _, _, _, _, _, O, F, C.iC, C.tI, E, He.glo_ok X G (c.t.d.fact 32 (f := .glo "TooMany") rfl), F.binds fun _ _ _ _ _ _ us hl => match us, hl with | [_, _], _ => rfl⟩
theorem x_NotForced {P : Program} {wd : World} {K : PySem.W.Frag} {h : Heap} {mg : Str → Option Value} {base : Heap} {w : World} (X : K.In h) (G : h.Ns mainGlobals mg) (c : He.SaysX faL fnL [] [] ex w h K) : XnI P wd K mg base "NotForced" (cA (csK K) 18) s_NotForced 1 ["at"] "NotForced" := by
  have C : ClsF K _ _ (("NotForced" : Str), (["at"] : List Str)) := (top_of c.more).v _ (List.mem_of_getElem? (i := 16) rfl)
  obtain ⟨fd, F0⟩ := c.t.d.def_ 33 (d := ⟨("NotForced", some "__init__"), "__init__", "NotForced.__init__", defArgs s_NotForced, defBody s_NotForced, defScope s_NotForced, [], []⟩) rfl
  have F : Fun K "__init__" "NotForced.__init__" s_NotForced (He.ma K (He.ga K "NotForced") "__init__") fd := fun_of F0
  have E := xc_of C PySem.F.excBase_ValueError PySem.F.store_ValueError
  have S : FnScope ["self", "at"] ["self", "at"] (defScope s_NotForced) := ⟨rfl, rfl, rfl, by decide +kernel, rfl, by decide +kernel, by decide +kernel⟩
  have O : FnOk P wd K mg base CX0 1 _ fd ["self", "at"] (spX (He.ga K "NotForced") ["at"] "NotForced") := ok_init1 S ⟨by first | exact Or.inl rfl | exact Or.inr (Or.inl rfl), by decide, by decide⟩ ⟨by first | exact Or.inl rfl | exact Or.inr (Or.inl rfl), by decide, by decide⟩ rfl F ⟨_, _, _, _, E⟩ (C.no "at" (by decide +kernel)) (C.no "code" (by decide +kernel))
  exact ⟨_, fd, _, _, _, _, _, O, F, C.iC, C.tI, E, He.glo_ok X G (c.t.d.fact 33 (f := .glo "NotForced") rfl), F.binds fun _ _ _ _ _ _ us hl => match us, hl with | [_, _], _ => rfl⟩
theorem x_InvalidPaper {P : Program} {wd : World} {K : PySem.W.Frag} {h : Heap} {mg : Str → Option Value} {base : Heap} {w : World} (X : K.In h) (G : h.Ns mainGlobals mg) (c : He.SaysX faL fnL [] [] ex w h K) : XnI P wd K mg base "InvalidPaper" (cA (csK K) 19) s_InvalidPaper 1 [] "InvalidPaper" := by
  have C : ClsF K _ _ (("InvalidPaper" : Str), ([] : List Str)) := (top_of c.more).v _ (List.mem_of_getElem? (i := 17) rfl)
  obtain ⟨fd, F0⟩ := c.t.d.def_ 34 (d := ⟨("InvalidPaper", some "__init__"), "__init__", "InvalidPaper.__init__", defArgs s_InvalidPaper, defBody s_InvalidPaper, defScope s_InvalidPaper, [], []⟩) rfl
  have F : Fun K "__init__" "InvalidPaper.__init__" s_InvalidPaper (He.ma K (He.ga K "InvalidPaper") "__init__") fd := fun_of F0
  have E := xc_of C PySem.F.excBase_ValueError PySem.F.store_ValueError
  have S : FnScope ["self"] ["self"] (defScope s_InvalidPaper) := ⟨rfl, rfl, rfl, by decide +kernel, rfl, by decide +kernel, by decide +kernel⟩
  have O : FnOk P wd K mg base CX0 1 _ fd ["self"] (spX (He.ga K "InvalidPaper") [] "InvalidPaper") := ok_init0 S ⟨by first | exact Or.inl rfl | exact Or.inr (Or.inl rfl), by decide, by decide⟩ rfl F ⟨_, _, _, _, E⟩ (C.no "code" (by decide +kernel))
  exact ⟨_, fd, _, _, _, _, _, O, F, C.iC, C.tI, E, He.glo_ok X G (c.t.d.fact 34 (f := .glo "InvalidPaper") rfl), F.binds fun _ _ _ _ _ _ us hl => match us, hl with | [_], _ => rfl⟩
theorem x_NoSky {P : Program} {wd : World} {K : PySem.W.Frag} {h : Heap} {mg : Str → Option Value} {base : Heap} {w : World} (X : K.In h) (G : h.Ns mainGlobals mg) (c : He.SaysX faL fnL [] [] ex w h K) : XnI P wd K mg base "NoSky" (cA (csK K) 20) s_NoSky 1 ["grounds"] "NoSky" := by
  have C : ClsF K _ _ (("NoSky" : Str), (["grounds"] : List Str)) := (top_of c.more).v _ (List.mem_of_getElem? (i := 18) rfl)
  obtain ⟨fd, F0⟩ := c.t.d.def_ 35 (d := ⟨("NoSky", some "__init__"), "__init__", "NoSky.__init__", defArgs s_NoSky, defBody s_NoSky, defScope s_NoSky, [], []⟩) rfl
  have F : Fun K "__init__" "NoSky.__init__" s_NoSky (He.ma K (He.ga K "NoSky") "__init__") fd := fun_of F0
  have E := xc_of C PySem.F.excBase_ValueError PySem.F.store_ValueError
  have S : FnScope ["self", "grounds"] ["self", "grounds"] (defScope s_NoSky) := ⟨rfl, rfl, rfl, by decide +kernel, rfl, by decide +kernel, by decide +kernel⟩
  have O : FnOk P wd K mg base CX0 1 _ fd ["self", "grounds"] (spX (He.ga K "NoSky") ["grounds"] "NoSky") := ok_init1 S ⟨by first | exact Or.inl rfl | exact Or.inr (Or.inl rfl), by decide, by decide⟩ ⟨by first | exact Or.inl rfl | exact Or.inr (Or.inl rfl), by decide, by decide⟩ rfl F ⟨_, _, _, _, E⟩ (C.no "grounds" (by decide +kernel)) (C.no "code" (by decide +kernel))
  exact ⟨_, fd, _, _, _, _, _, O, F, C.iC, C.tI, E, He.glo_ok X G (c.t.d.fact 35 (f := .glo "NoSky") rfl), F.binds fun _ _ _ _ _ _ us hl => match us, hl with | [_, _], _ => rfl⟩
theorem x_HasSky {P : Program} {wd : World} {K : PySem.W.Frag} {h : Heap} {mg : Str → Option Value} {base : Heap} {w : World} (X : K.In h) (G : h.Ns mainGlobals mg) (c : He.SaysX faL fnL [] [] ex w h K) : XnI P wd K mg base "HasSky" (cA (csK K) 21) s_HasSky 1 [] "HasSky" := by
  have C : ClsF K _ _ (("HasSky" : Str), ([] : List Str)) := (top_of c.more).v _ (List.mem_of_getElem? (i := 19) rfl)
  obtain ⟨fd, F0⟩ := c.t.d.def_ 36 (d := ⟨("HasSky", some "__init__"), "__init__", "HasSky.__init__", defArgs s_HasSky, defBody s_HasSky, defScope s_HasSky, [], []⟩) rfl
  have F : Fun K "__init__" "HasSky.__init__" s_HasSky (He.ma K (He.ga K "HasSky") "__init__") fd := fun_of F0
  have E := xc_of C PySem.F.excBase_ValueError PySem.F.store_ValueError
  have S : FnScope ["self"] ["self"] (defScope s_HasSky) := ⟨rfl, rfl, rfl, by decide +kernel, rfl, by decide +kernel, by decide +kernel⟩
  have O : FnOk P wd K mg base CX0 1 _ fd ["self"] (spX (He.ga K "HasSky") [] "HasSky") := ok_init0 S ⟨by first | exact Or.inl rfl | exact Or.inr (Or.inl rfl), by decide, by decide⟩ rfl F ⟨_, _, _, _, E⟩ (C.no "code" (by decide +kernel))
  exact ⟨_, fd, _, _, _, _, _, O, F, C.iC, C.tI, E, He.glo_ok X G (c.t.d.fact 36 (f := .glo "HasSky") rfl), F.binds fun _ _ _ _ _ _ us hl => match us, hl with | [_], _ => rfl⟩
theorem x_NotPlain {P : Program} {wd : World} {K : PySem.W.Frag} {h : Heap} {mg : Str → Option Value} {base : Heap} {w : World} (X : K.In h) (G : h.Ns mainGlobals mg) (c : He.SaysX faL fnL [] [] ex w h K) : XnI P wd K mg base "NotPlain" (cA (csK K) 22) s_NotPlain 1 ["at"] "NotPlain" := by
  have C : ClsF K _ _ (("NotPlain" : Str), (["at"] : List Str)) := (top_of c.more).v _ (List.mem_of_getElem? (i := 20) rfl)
  obtain ⟨fd, F0⟩ := c.t.d.def_ 37 (d := ⟨("NotPlain", some "__init__"), "__init__", "NotPlain.__init__", defArgs s_NotPlain, defBody s_NotPlain, defScope s_NotPlain, [], []⟩) rfl
  have F : Fun K "__init__" "NotPlain.__init__" s_NotPlain (He.ma K (He.ga K "NotPlain") "__init__") fd := fun_of F0
  have E := xc_of C PySem.F.excBase_ValueError PySem.F.store_ValueError
  have S : FnScope ["self", "at"] ["self", "at"] (defScope s_NotPlain) := ⟨rfl, rfl, rfl, by decide +kernel, rfl, by decide +kernel, by decide +kernel⟩
  have O : FnOk P wd K mg base CX0 1 _ fd ["self", "at"] (spX (He.ga K "NotPlain") ["at"] "NotPlain") := ok_init1 S ⟨by first | exact Or.inl rfl | exact Or.inr (Or.inl rfl), by decide, by decide⟩ ⟨by first | exact Or.inl rfl | exact Or.inr (Or.inl rfl), by decide, by decide⟩ rfl F ⟨_, _, _, _, E⟩ (C.no "at" (by decide +kernel)) (C.no "code" (by decide +kernel))
  exact ⟨_, fd, _, _, _, _, _, O, F, C.iC, C.tI, E, He.glo_ok X G (c.t.d.fact 37 (f := .glo "NotPlain") rfl), F.binds fun _ _ _ _ _ _ us hl => match us, hl with | [_, _], _ => rfl⟩
theorem x_Unkept {P : Program} {wd : World} {K : PySem.W.Frag} {h : Heap} {mg : Str → Option Value} {base : Heap} {w : World} (X : K.In h) (G : h.Ns mainGlobals mg) (c : He.SaysX faL fnL [] [] ex w h K) : XnI P wd K mg base "Unkept" (cA (csK K) 23) s_Unkept 1 ["at"] "Unkept" := by
  have C : ClsF K _ _ (("Unkept" : Str), (["at"] : List Str)) := (top_of c.more).v _ (List.mem_of_getElem? (i := 21) rfl)
  obtain ⟨fd, F0⟩ := c.t.d.def_ 38 (d := ⟨("Unkept", some "__init__"), "__init__", "Unkept.__init__", defArgs s_Unkept, defBody s_Unkept, defScope s_Unkept, [], []⟩) rfl
  have F : Fun K "__init__" "Unkept.__init__" s_Unkept (He.ma K (He.ga K "Unkept") "__init__") fd := fun_of F0
  have E := xc_of C PySem.F.excBase_ValueError PySem.F.store_ValueError
  have S : FnScope ["self", "at"] ["self", "at"] (defScope s_Unkept) := ⟨rfl, rfl, rfl, by decide +kernel, rfl, by decide +kernel, by decide +kernel⟩
  have O : FnOk P wd K mg base CX0 1 _ fd ["self", "at"] (spX (He.ga K "Unkept") ["at"] "Unkept") := ok_init1 S ⟨by first | exact Or.inl rfl | exact Or.inr (Or.inl rfl), by decide, by decide⟩ ⟨by first | exact Or.inl rfl | exact Or.inr (Or.inl rfl), by decide, by decide⟩ rfl F ⟨_, _, _, _, E⟩ (C.no "at" (by decide +kernel)) (C.no "code" (by decide +kernel))
  exact ⟨_, fd, _, _, _, _, _, O, F, C.iC, C.tI, E, He.glo_ok X G (c.t.d.fact 38 (f := .glo "Unkept") rfl), F.binds fun _ _ _ _ _ _ us hl => match us, hl with | [_, _], _ => rfl⟩
theorem x_InvalidStation {P : Program} {wd : World} {K : PySem.W.Frag} {h : Heap} {mg : Str → Option Value} {base : Heap} {w : World} (X : K.In h) (G : h.Ns mainGlobals mg) (c : He.SaysX faL fnL [] [] ex w h K) : XnI P wd K mg base "InvalidStation" (cA (csK K) 24) s_InvalidStation 1 ["at"] "InvalidStation" := by
  have C : ClsF K _ _ (("InvalidStation" : Str), (["at"] : List Str)) := (top_of c.more).v _ (List.mem_of_getElem? (i := 22) rfl)
  obtain ⟨fd, F0⟩ := c.t.d.def_ 39 (d := ⟨("InvalidStation", some "__init__"), "__init__", "InvalidStation.__init__", defArgs s_InvalidStation, defBody s_InvalidStation, defScope s_InvalidStation, [], []⟩) rfl
  have F : Fun K "__init__" "InvalidStation.__init__" s_InvalidStation (He.ma K (He.ga K "InvalidStation") "__init__") fd := fun_of F0
  have E := xc_of C PySem.F.excBase_ValueError PySem.F.store_ValueError
  have S : FnScope ["self", "at"] ["self", "at"] (defScope s_InvalidStation) := ⟨rfl, rfl, rfl, by decide +kernel, rfl, by decide +kernel, by decide +kernel⟩
  have O : FnOk P wd K mg base CX0 1 _ fd ["self", "at"] (spX (He.ga K "InvalidStation") ["at"] "InvalidStation") := ok_init1 S ⟨by first | exact Or.inl rfl | exact Or.inr (Or.inl rfl), by decide, by decide⟩ ⟨by first | exact Or.inl rfl | exact Or.inr (Or.inl rfl), by decide, by decide⟩ rfl F ⟨_, _, _, _, E⟩ (C.no "at" (by decide +kernel)) (C.no "code" (by decide +kernel))
  exact ⟨_, fd, _, _, _, _, _, O, F, C.iC, C.tI, E, He.glo_ok X G (c.t.d.fact 39 (f := .glo "InvalidStation") rfl), F.binds fun _ _ _ _ _ _ us hl => match us, hl with | [_, _], _ => rfl⟩
theorem x_NoBranch {P : Program} {wd : World} {K : PySem.W.Frag} {h : Heap} {mg : Str → Option Value} {base : Heap} {w : World} (X : K.In h) (G : h.Ns mainGlobals mg) (c : He.SaysX faL fnL [] [] ex w h K) : XnI P wd K mg base "NoBranch" (cA (csK K) 25) s_NoBranch 1 ["value"] "NoBranch" := by
  have C : ClsF K _ _ (("NoBranch" : Str), (["value"] : List Str)) := (top_of c.more).v _ (List.mem_of_getElem? (i := 23) rfl)
  obtain ⟨fd, F0⟩ := c.t.d.def_ 40 (d := ⟨("NoBranch", some "__init__"), "__init__", "NoBranch.__init__", defArgs s_NoBranch, defBody s_NoBranch, defScope s_NoBranch, [], []⟩) rfl
  have F : Fun K "__init__" "NoBranch.__init__" s_NoBranch (He.ma K (He.ga K "NoBranch") "__init__") fd := fun_of F0
  have E := xc_of C PySem.F.excBase_ValueError PySem.F.store_ValueError
  have S : FnScope ["self", "value"] ["self", "value"] (defScope s_NoBranch) := ⟨rfl, rfl, rfl, by decide +kernel, rfl, by decide +kernel, by decide +kernel⟩
  have O : FnOk P wd K mg base CX0 1 _ fd ["self", "value"] (spX (He.ga K "NoBranch") ["value"] "NoBranch") := ok_init1 S ⟨by first | exact Or.inl rfl | exact Or.inr (Or.inl rfl), by decide, by decide⟩ ⟨by first | exact Or.inl rfl | exact Or.inr (Or.inl rfl), by decide, by decide⟩ rfl F ⟨_, _, _, _, E⟩ (C.no "value" (by decide +kernel)) (C.no "code" (by decide +kernel))
  exact ⟨_, fd, _, _, _, _, _, O, F, C.iC, C.tI, E, He.glo_ok X G (c.t.d.fact 40 (f := .glo "NoBranch") rfl), F.binds fun _ _ _ _ _ _ us hl => match us, hl with | [_, _], _ => rfl⟩
theorem x_OnLand {P : Program} {wd : World} {K : PySem.W.Frag} {h : Heap} {mg : Str → Option Value} {base : Heap} {w : World} (X : K.In h) (G : h.Ns mainGlobals mg) (c : He.SaysX faL fnL [] [] ex w h K) : XnI P wd K mg base "OnLand" (cA (csK K) 26) s_OnLand 1 ["value"] "OnLand" := by
  have C : ClsF K _ _ (("OnLand" : Str), (["value"] : List Str)) := (top_of c.more).v _ (List.mem_of_getElem? (i := 24) rfl)
  obtain ⟨fd, F0⟩ := c.t.d.def_ 41 (d := ⟨("OnLand", some "__init__"), "__init__", "OnLand.__init__", defArgs s_OnLand, defBody s_OnLand, defScope s_OnLand, [], []⟩) rfl
  have F : Fun K "__init__" "OnLand.__init__" s_OnLand (He.ma K (He.ga K "OnLand") "__init__") fd := fun_of F0
  have E := xc_of C PySem.F.excBase_ValueError PySem.F.store_ValueError
  have S : FnScope ["self", "value"] ["self", "value"] (defScope s_OnLand) := ⟨rfl, rfl, rfl, by decide +kernel, rfl, by decide +kernel, by decide +kernel⟩
  have O : FnOk P wd K mg base CX0 1 _ fd ["self", "value"] (spX (He.ga K "OnLand") ["value"] "OnLand") := ok_init1 S ⟨by first | exact Or.inl rfl | exact Or.inr (Or.inl rfl), by decide, by decide⟩ ⟨by first | exact Or.inl rfl | exact Or.inr (Or.inl rfl), by decide, by decide⟩ rfl F ⟨_, _, _, _, E⟩ (C.no "value" (by decide +kernel)) (C.no "code" (by decide +kernel))
  exact ⟨_, fd, _, _, _, _, _, O, F, C.iC, C.tI, E, He.glo_ok X G (c.t.d.fact 41 (f := .glo "OnLand") rfl), F.binds fun _ _ _ _ _ _ us hl => match us, hl with | [_, _], _ => rfl⟩
theorem x_InvalidWay {P : Program} {wd : World} {K : PySem.W.Frag} {h : Heap} {mg : Str → Option Value} {base : Heap} {w : World} (X : K.In h) (G : h.Ns mainGlobals mg) (c : He.SaysX faL fnL [] [] ex w h K) : XnI P wd K mg base "InvalidWay" (cA (csK K) 27) s_InvalidWay 1 ["at"] "InvalidWay" := by
  have C : ClsF K _ _ (("InvalidWay" : Str), (["at"] : List Str)) := (top_of c.more).v _ (List.mem_of_getElem? (i := 25) rfl)
  obtain ⟨fd, F0⟩ := c.t.d.def_ 42 (d := ⟨("InvalidWay", some "__init__"), "__init__", "InvalidWay.__init__", defArgs s_InvalidWay, defBody s_InvalidWay, defScope s_InvalidWay, [], []⟩) rfl
  have F : Fun K "__init__" "InvalidWay.__init__" s_InvalidWay (He.ma K (He.ga K "InvalidWay") "__init__") fd := fun_of F0
  have E := xc_of C PySem.F.excBase_ValueError PySem.F.store_ValueError
  have S : FnScope ["self", "at"] ["self", "at"] (defScope s_InvalidWay) := ⟨rfl, rfl, rfl, by decide +kernel, rfl, by decide +kernel, by decide +kernel⟩
  have O : FnOk P wd K mg base CX0 1 _ fd ["self", "at"] (spX (He.ga K "InvalidWay") ["at"] "InvalidWay") := ok_init1 S ⟨by first | exact Or.inl rfl | exact Or.inr (Or.inl rfl), by decide, by decide⟩ ⟨by first | exact Or.inl rfl | exact Or.inr (Or.inl rfl), by decide, by decide⟩ rfl F ⟨_, _, _, _, E⟩ (C.no "at" (by decide +kernel)) (C.no "code" (by decide +kernel))
  exact ⟨_, fd, _, _, _, _, _, O, F, C.iC, C.tI, E, He.glo_ok X G (c.t.d.fact 42 (f := .glo "InvalidWay") rfl), F.binds fun _ _ _ _ _ _ us hl => match us, hl with | [_, _], _ => rfl⟩
theorem x_InvalidMeasure {P : Program} {wd : World} {K : PySem.W.Frag} {h : Heap} {mg : Str → Option Value} {base : Heap} {w : World} (X : K.In h) (G : h.Ns mainGlobals mg) (c : He.SaysX faL fnL [] [] ex w h K) : XnI P wd K mg base "InvalidMeasure" (cA (csK K) 28) s_InvalidMeasure 1 ["value"] "InvalidMeasure" := by
  have C : ClsF K _ _ (("InvalidMeasure" : Str), (["value"] : List Str)) := (top_of c.more).v _ (List.mem_of_getElem? (i := 26) rfl)
  obtain ⟨fd, F0⟩ := c.t.d.def_ 43 (d := ⟨("InvalidMeasure", some "__init__"), "__init__", "InvalidMeasure.__init__", defArgs s_InvalidMeasure, defBody s_InvalidMeasure, defScope s_InvalidMeasure, [], []⟩) rfl
  have F : Fun K "__init__" "InvalidMeasure.__init__" s_InvalidMeasure (He.ma K (He.ga K "InvalidMeasure") "__init__") fd := fun_of F0
  have E := xc_of C PySem.F.excBase_ValueError PySem.F.store_ValueError
  have S : FnScope ["self", "value"] ["self", "value"] (defScope s_InvalidMeasure) := ⟨rfl, rfl, rfl, by decide +kernel, rfl, by decide +kernel, by decide +kernel⟩
  have O : FnOk P wd K mg base CX0 1 _ fd ["self", "value"] (spX (He.ga K "InvalidMeasure") ["value"] "InvalidMeasure") := ok_init1 S ⟨by first | exact Or.inl rfl | exact Or.inr (Or.inl rfl), by decide, by decide⟩ ⟨by first | exact Or.inl rfl | exact Or.inr (Or.inl rfl), by decide, by decide⟩ rfl F ⟨_, _, _, _, E⟩ (C.no "value" (by decide +kernel)) (C.no "code" (by decide +kernel))
  exact ⟨_, fd, _, _, _, _, _, O, F, C.iC, C.tI, E, He.glo_ok X G (c.t.d.fact 43 (f := .glo "InvalidMeasure") rfl), F.binds fun _ _ _ _ _ _ us hl => match us, hl with | [_, _], _ => rfl⟩
theorem x_NoWay {P : Program} {wd : World} {K : PySem.W.Frag} {h : Heap} {mg : Str → Option Value} {base : Heap} {w : World} (X : K.In h) (G : h.Ns mainGlobals mg) (c : He.SaysX faL fnL [] [] ex w h K) : XnI P wd K mg base "NoWay" (cA (csK K) 29) s_NoWay 1 [] "NoWay" := by
  have C : ClsF K _ _ (("NoWay" : Str), ([] : List Str)) := (top_of c.more).v _ (List.mem_of_getElem? (i := 27) rfl)
  obtain ⟨fd, F0⟩ := c.t.d.def_ 44 (d := ⟨("NoWay", some "__init__"), "__init__", "NoWay.__init__", defArgs s_NoWay, defBody s_NoWay, defScope s_NoWay, [], []⟩) rfl
  have F : Fun K "__init__" "NoWay.__init__" s_NoWay (He.ma K (He.ga K "NoWay") "__init__") fd := fun_of F0
  have E := xc_of C PySem.F.excBase_ValueError PySem.F.store_ValueError
  have S : FnScope ["self"] ["self"] (defScope s_NoWay) := ⟨rfl, rfl, rfl, by decide +kernel, rfl, by decide +kernel, by decide +kernel⟩
  have O : FnOk P wd K mg base CX0 1 _ fd ["self"] (spX (He.ga K "NoWay") [] "NoWay") := ok_init0 S ⟨by first | exact Or.inl rfl | exact Or.inr (Or.inl rfl), by decide, by decide⟩ rfl F ⟨_, _, _, _, E⟩ (C.no "code" (by decide +kernel))
  exact ⟨_, fd, _, _, _, _, _, O, F, C.iC, C.tI, E, He.glo_ok X G (c.t.d.fact 44 (f := .glo "NoWay") rfl), F.binds fun _ _ _ _ _ _ us hl => match us, hl with | [_], _ => rfl⟩
theorem x_NoCase {P : Program} {wd : World} {K : PySem.W.Frag} {h : Heap} {mg : Str → Option Value} {base : Heap} {w : World} (X : K.In h) (G : h.Ns mainGlobals mg) (c : He.SaysX faL fnL [] [] ex w h K) : XnI P wd K mg base "NoCase" (cA (csK K) 30) s_NoCase 1 [] "NoCase" := by
  have C : ClsF K _ _ (("NoCase" : Str), ([] : List Str)) := (top_of c.more).v _ (List.mem_of_getElem? (i := 28) rfl)
  obtain ⟨fd, F0⟩ := c.t.d.def_ 45 (d := ⟨("NoCase", some "__init__"), "__init__", "NoCase.__init__", defArgs s_NoCase, defBody s_NoCase, defScope s_NoCase, [], []⟩) rfl
  have F : Fun K "__init__" "NoCase.__init__" s_NoCase (He.ma K (He.ga K "NoCase") "__init__") fd := fun_of F0
  have E := xc_of C PySem.F.excBase_ValueError PySem.F.store_ValueError
  have S : FnScope ["self"] ["self"] (defScope s_NoCase) := ⟨rfl, rfl, rfl, by decide +kernel, rfl, by decide +kernel, by decide +kernel⟩
  have O : FnOk P wd K mg base CX0 1 _ fd ["self"] (spX (He.ga K "NoCase") [] "NoCase") := ok_init0 S ⟨by first | exact Or.inl rfl | exact Or.inr (Or.inl rfl), by decide, by decide⟩ rfl F ⟨_, _, _, _, E⟩ (C.no "code" (by decide +kernel))
  exact ⟨_, fd, _, _, _, _, _, O, F, C.iC, C.tI, E, He.glo_ok X G (c.t.d.fact 45 (f := .glo "NoCase") rfl), F.binds fun _ _ _ _ _ _ us hl => match us, hl with | [_], _ => rfl⟩
theorem x_Impossible {P : Program} {wd : World} {K : PySem.W.Frag} {h : Heap} {mg : Str → Option Value} {base : Heap} {w : World} (X : K.In h) (G : h.Ns mainGlobals mg) (c : He.SaysX faL fnL [] [] ex w h K) : XnI P wd K mg base "Impossible" (cA (csK K) 31) s_Impossible 1 ["core"] "Impossible" := by
  have C : ClsF K _ _ (("Impossible" : Str), (["core"] : List Str)) := (top_of c.more).v _ (List.mem_of_getElem? (i := 29) rfl)
  obtain ⟨fd, F0⟩ := c.t.d.def_ 46 (d := ⟨("Impossible", some "__init__"), "__init__", "Impossible.__init__", defArgs s_Impossible, defBody s_Impossible, defScope s_Impossible, [], []⟩) rfl
  have F : Fun K "__init__" "Impossible.__init__" s_Impossible (He.ma K (He.ga K "Impossible") "__init__") fd := fun_of F0
  have E := xc_of C PySem.F.excBase_ValueError PySem.F.store_ValueError
  have S : FnScope ["self", "core"] ["self", "core"] (defScope s_Impossible) := ⟨rfl, rfl, rfl, by decide +kernel, rfl, by decide +kernel, by decide +kernel⟩
  have O : FnOk P wd K mg base CX0 1 _ fd ["self", "core"] (spX (He.ga K "Impossible") ["core"] "Impossible") := ok_init1 S ⟨by first | exact Or.inl rfl | exact Or.inr (Or.inl rfl), by decide, by decide⟩ ⟨by first | exact Or.inl rfl | exact Or.inr (Or.inl rfl), by decide, by decide⟩ rfl F ⟨_, _, _, _, E⟩ (C.no "core" (by decide +kernel)) (C.no "code" (by decide +kernel))
  exact ⟨_, fd, _, _, _, _, _, O, F, C.iC, C.tI, E, He.glo_ok X G (c.t.d.fact 46 (f := .glo "Impossible") rfl), F.binds fun _ _ _ _ _ _ us hl => match us, hl with | [_, _], _ => rfl⟩
theorem x_InvalidDeed {P : Program} {wd : World} {K : PySem.W.Frag} {h : Heap} {mg : Str → Option Value} {base : Heap} {w : World} (X : K.In h) (G : h.Ns mainGlobals mg) (c : He.SaysX faL fnL [] [] ex w h K) : XnI P wd K mg base "InvalidDeed" (cA (csK K) 32) s_InvalidDeed 1 ["at"] "InvalidDeed" := by
  have C : ClsF K _ _ (("InvalidDeed" : Str), (["at"] : List Str)) := (top_of c.more).v _ (List.mem_of_getElem? (i := 30) rfl)
  obtain ⟨fd, F0⟩ := c.t.d.def_ 47 (d := ⟨("InvalidDeed", some "__init__"), "__init__", "InvalidDeed.__init__", defArgs s_InvalidDeed, defBody s_InvalidDeed, defScope s_InvalidDeed, [], []⟩) rfl
  have F : Fun K "__init__" "InvalidDeed.__init__" s_InvalidDeed (He.ma K (He.ga K "InvalidDeed") "__init__") fd := fun_of F0
  have E := xc_of C PySem.F.excBase_ValueError PySem.F.store_ValueError
  have S : FnScope ["self", "at"] ["self", "at"] (defScope s_InvalidDeed) := ⟨rfl, rfl, rfl, by decide +kernel, rfl, by decide +kernel, by decide +kernel⟩
  have O : FnOk P wd K mg base CX0 1 _ fd ["self", "at"] (spX (He.ga K "InvalidDeed") ["at"] "InvalidDeed") := ok_init1 S ⟨by first | exact Or.inl rfl | exact Or.inr (Or.inl rfl), by decide, by decide⟩ ⟨by first | exact Or.inl rfl | exact Or.inr (Or.inl rfl), by decide, by decide⟩ rfl F ⟨_, _, _, _, E⟩ (C.no "at" (by decide +kernel)) (C.no "code" (by decide +kernel))
  exact ⟨_, fd, _, _, _, _, _, O, F, C.iC, C.tI, E, He.glo_ok X G (c.t.d.fact 47 (f := .glo "InvalidDeed") rfl), F.binds fun _ _ _ _ _ _ us hl => match us, hl with | [_, _], _ => rfl⟩
theorem x_NoDraft {P : Program} {wd : World} {K : PySem.W.Frag} {h : Heap} {mg : Str → Option Value} {base : Heap} {w : World} (X : K.In h) (G : h.Ns mainGlobals mg) (c : He.SaysX faL fnL [] [] ex w h K) : XnI P wd K mg base "NoDraft" (cA (csK K) 33) s_NoDraft 1 [] "NoDraft" := by
  have C : ClsF K _ _ (("NoDraft" : Str), ([] : List Str)) := (top_of c.more).v _ (List.mem_of_getElem? (i := 31) rfl)
  obtain ⟨fd, F0⟩ := c.t.d.def_ 48 (d := ⟨("NoDraft", some "__init__"), "__init__", "NoDraft.__init__", defArgs s_NoDraft, defBody s_NoDraft, defScope s_NoDraft, [], []⟩) rfl
  have F : Fun K "__init__" "NoDraft.__init__" s_NoDraft (He.ma K (He.ga K "NoDraft") "__init__") fd := fun_of F0
  have E := xc_of C PySem.F.excBase_ValueError PySem.F.store_ValueError
  have S : FnScope ["self"] ["self"] (defScope s_NoDraft) := ⟨rfl, rfl, rfl, by decide +kernel, rfl, by decide +kernel, by decide +kernel⟩
  have O : FnOk P wd K mg base CX0 1 _ fd ["self"] (spX (He.ga K "NoDraft") [] "NoDraft") := ok_init0 S ⟨by first | exact Or.inl rfl | exact Or.inr (Or.inl rfl), by decide, by decide⟩ rfl F ⟨_, _, _, _, E⟩ (C.no "code" (by decide +kernel))
  exact ⟨_, fd, _, _, _, _, _, O, F, C.iC, C.tI, E, He.glo_ok X G (c.t.d.fact 48 (f := .glo "NoDraft") rfl), F.binds fun _ _ _ _ _ _ us hl => match us, hl with | [_], _ => rfl⟩
theorem x_Ended {P : Program} {wd : World} {K : PySem.W.Frag} {h : Heap} {mg : Str → Option Value} {base : Heap} {w : World} (X : K.In h) (G : h.Ns mainGlobals mg) (c : He.SaysX faL fnL [] [] ex w h K) : XnI P wd K mg base "Ended" (cA (csK K) 34) s_Ended 1 [] "Ended" := by
  have C : ClsF K _ _ (("Ended" : Str), ([] : List Str)) := (top_of c.more).v _ (List.mem_of_getElem? (i := 32) rfl)
  obtain ⟨fd, F0⟩ := c.t.d.def_ 49 (d := ⟨("Ended", some "__init__"), "__init__", "Ended.__init__", defArgs s_Ended, defBody s_Ended, defScope s_Ended, [], []⟩) rfl
  have F : Fun K "__init__" "Ended.__init__" s_Ended (He.ma K (He.ga K "Ended") "__init__") fd := fun_of F0
  have E := xc_of C PySem.F.excBase_ValueError PySem.F.store_ValueError
  have S : FnScope ["self"] ["self"] (defScope s_Ended) := ⟨rfl, rfl, rfl, by decide +kernel, rfl, by decide +kernel, by decide +kernel⟩
  have O : FnOk P wd K mg base CX0 1 _ fd ["self"] (spX (He.ga K "Ended") [] "Ended") := ok_init0 S ⟨by first | exact Or.inl rfl | exact Or.inr (Or.inl rfl), by decide, by decide⟩ rfl F ⟨_, _, _, _, E⟩ (C.no "code" (by decide +kernel))
  exact ⟨_, fd, _, _, _, _, _, O, F, C.iC, C.tI, E, He.glo_ok X G (c.t.d.fact 49 (f := .glo "Ended") rfl), F.binds fun _ _ _ _ _ _ us hl => match us, hl with | [_], _ => rfl⟩
theorem x_UnknownPlace {P : Program} {wd : World} {K : PySem.W.Frag} {h : Heap} {mg : Str → Option Value} {base : Heap} {w : World} (X : K.In h) (G : h.Ns mainGlobals mg) (c : He.SaysX faL fnL [] [] ex w h K) : XnI P wd K mg base "UnknownPlace" (cA (csK K) 35) s_UnknownPlace 1 ["value"] "UnknownPlace" := by
  have C : ClsF K _ _ (("UnknownPlace" : Str), (["value"] : List Str)) := (top_of c.more).l _ (List.mem_of_getElem? (i := 0) rfl)
  obtain ⟨fd, F0⟩ := c.t.d.def_ 50 (d := ⟨("UnknownPlace", some "__init__"), "__init__", "UnknownPlace.__init__", defArgs s_UnknownPlace, defBody s_UnknownPlace, defScope s_UnknownPlace, [], []⟩) rfl
  have F : Fun K "__init__" "UnknownPlace.__init__" s_UnknownPlace (He.ma K (He.ga K "UnknownPlace") "__init__") fd := fun_of F0
  have E := xc_of C PySem.F.excBase_LookupError PySem.F.store_LookupError
  have S : FnScope ["self", "value"] ["self", "value"] (defScope s_UnknownPlace) := ⟨rfl, rfl, rfl, by decide +kernel, rfl, by decide +kernel, by decide +kernel⟩
  have O : FnOk P wd K mg base CX0 1 _ fd ["self", "value"] (spX (He.ga K "UnknownPlace") ["value"] "UnknownPlace") := ok_init1 S ⟨by first | exact Or.inl rfl | exact Or.inr (Or.inl rfl), by decide, by decide⟩ ⟨by first | exact Or.inl rfl | exact Or.inr (Or.inl rfl), by decide, by decide⟩ rfl F ⟨_, _, _, _, E⟩ (C.no "value" (by decide +kernel)) (C.no "code" (by decide +kernel))
  exact ⟨_, fd, _, _, _, _, _, O, F, C.iC, C.tI, E, He.glo_ok X G (c.t.d.fact 50 (f := .glo "UnknownPlace") rfl), F.binds fun _ _ _ _ _ _ us hl => match us, hl with | [_, _], _ => rfl⟩
theorem x_UnknownSaying {P : Program} {wd : World} {K : PySem.W.Frag} {h : Heap} {mg : Str → Option Value} {base : Heap} {w : World} (X : K.In h) (G : h.Ns mainGlobals mg) (c : He.SaysX faL fnL [] [] ex w h K) : XnI P wd K mg base "UnknownSaying" (cA (csK K) 36) s_UnknownSaying 1 ["value"] "UnknownSaying" := by
  have C : ClsF K _ _ (("UnknownSaying" : Str), (["value"] : List Str)) := (top_of c.more).l _ (List.mem_of_getElem? (i := 1) rfl)
  obtain ⟨fd, F0⟩ := c.t.d.def_ 51 (d := ⟨("UnknownSaying", some "__init__"), "__init__", "UnknownSaying.__init__", defArgs s_UnknownSaying, defBody s_UnknownSaying, defScope s_UnknownSaying, [], []⟩) rfl
  have F : Fun K "__init__" "UnknownSaying.__init__" s_UnknownSaying (He.ma K (He.ga K "UnknownSaying") "__init__") fd := fun_of F0
  have E := xc_of C PySem.F.excBase_LookupError PySem.F.store_LookupError
  have S : FnScope ["self", "value"] ["self", "value"] (defScope s_UnknownSaying) := ⟨rfl, rfl, rfl, by decide +kernel, rfl, by decide +kernel, by decide +kernel⟩
  have O : FnOk P wd K mg base CX0 1 _ fd ["self", "value"] (spX (He.ga K "UnknownSaying") ["value"] "UnknownSaying") := ok_init1 S ⟨by first | exact Or.inl rfl | exact Or.inr (Or.inl rfl), by decide, by decide⟩ ⟨by first | exact Or.inl rfl | exact Or.inr (Or.inl rfl), by decide, by decide⟩ rfl F ⟨_, _, _, _, E⟩ (C.no "value" (by decide +kernel)) (C.no "code" (by decide +kernel))
  exact ⟨_, fd, _, _, _, _, _, O, F, C.iC, C.tI, E, He.glo_ok X G (c.t.d.fact 51 (f := .glo "UnknownSaying") rfl), F.binds fun _ _ _ _ _ _ us hl => match us, hl with | [_, _], _ => rfl⟩
theorem x_UnknownGauge {P : Program} {wd : World} {K : PySem.W.Frag} {h : Heap} {mg : Str → Option Value} {base : Heap} {w : World} (X : K.In h) (G : h.Ns mainGlobals mg) (c : He.SaysX faL fnL [] [] ex w h K) : XnI P wd K mg base "UnknownGauge" (cA (csK K) 37) s_UnknownGauge 1 ["value"] "UnknownGauge" := by
  have C : ClsF K _ _ (("UnknownGauge" : Str), (["value"] : List Str)) := (top_of c.more).l _ (List.mem_of_getElem? (i := 2) rfl)
  obtain ⟨fd, F0⟩ := c.t.d.def_ 52 (d := ⟨("UnknownGauge", some "__init__"), "__init__", "UnknownGauge.__init__", defArgs s_UnknownGauge, defBody s_UnknownGauge, defScope s_UnknownGauge, [], []⟩) rfl
  have F : Fun K "__init__" "UnknownGauge.__init__" s_UnknownGauge (He.ma K (He.ga K "UnknownGauge") "__init__") fd := fun_of F0
  have E := xc_of C PySem.F.excBase_LookupError PySem.F.store_LookupError
  have S : FnScope ["self", "value"] ["self", "value"] (defScope s_UnknownGauge) := ⟨rfl, rfl, rfl, by decide +kernel, rfl, by decide +kernel, by decide +kernel⟩
  have O : FnOk P wd K mg base CX0 1 _ fd ["self", "value"] (spX (He.ga K "UnknownGauge") ["value"] "UnknownGauge") := ok_init1 S ⟨by first | exact Or.inl rfl | exact Or.inr (Or.inl rfl), by decide, by decide⟩ ⟨by first | exact Or.inl rfl | exact Or.inr (Or.inl rfl), by decide, by decide⟩ rfl F ⟨_, _, _, _, E⟩ (C.no "value" (by decide +kernel)) (C.no "code" (by decide +kernel))
  exact ⟨_, fd, _, _, _, _, _, O, F, C.iC, C.tI, E, He.glo_ok X G (c.t.d.fact 52 (f := .glo "UnknownGauge") rfl), F.binds fun _ _ _ _ _ _ us hl => match us, hl with | [_, _], _ => rfl⟩
theorem x_UnknownCase {P : Program} {wd : World} {K : PySem.W.Frag} {h : Heap} {mg : Str → Option Value} {base : Heap} {w : World} (X : K.In h) (G : h.Ns mainGlobals mg) (c : He.SaysX faL fnL [] [] ex w h K) : XnI P wd K mg base "UnknownCase" (cA (csK K) 38) s_UnknownCase 1 ["value"] "UnknownCase" := by
  have C : ClsF K _ _ (("UnknownCase" : Str), (["value"] : List Str)) := (top_of c.more).l _ (List.mem_of_getElem? (i := 3) rfl)
  obtain ⟨fd, F0⟩ := c.t.d.def_ 53 (d := ⟨("UnknownCase", some "__init__"), "__init__", "UnknownCase.__init__", defArgs s_UnknownCase, defBody s_UnknownCase, defScope s_UnknownCase, [], []⟩) rfl
  have F : Fun K "__init__" "UnknownCase.__init__" s_UnknownCase (He.ma K (He.ga K "UnknownCase") "__init__") fd := fun_of F0
  have E := xc_of C PySem.F.excBase_LookupError PySem.F.store_LookupError
  have S : FnScope ["self", "value"] ["self", "value"] (defScope s_UnknownCase) := ⟨rfl, rfl, rfl, by decide +kernel, rfl, by decide +kernel, by decide +kernel⟩
  have O : FnOk P wd K mg base CX0 1 _ fd ["self", "value"] (spX (He.ga K "UnknownCase") ["value"] "UnknownCase") := ok_init1 S ⟨by first | exact Or.inl rfl | exact Or.inr (Or.inl rfl), by decide, by decide⟩ ⟨by first | exact Or.inl rfl | exact Or.inr (Or.inl rfl), by decide, by decide⟩ rfl F ⟨_, _, _, _, E⟩ (C.no "value" (by decide +kernel)) (C.no "code" (by decide +kernel))
  exact ⟨_, fd, _, _, _, _, _, O, F, C.iC, C.tI, E, He.glo_ok X G (c.t.d.fact 53 (f := .glo "UnknownCase") rfl), F.binds fun _ _ _ _ _ _ us hl => match us, hl with | [_, _], _ => rfl⟩
theorem x_UnknownReport {P : Program} {wd : World} {K : PySem.W.Frag} {h : Heap} {mg : Str → Option Value} {base : Heap} {w : World} (X : K.In h) (G : h.Ns mainGlobals mg) (c : He.SaysX faL fnL [] [] ex w h K) : XnI P wd K mg base "UnknownReport" (cA (csK K) 39) s_UnknownReport 1 ["value"] "UnknownReport" := by
  have C : ClsF K _ _ (("UnknownReport" : Str), (["value"] : List Str)) := (top_of c.more).l _ (List.mem_of_getElem? (i := 4) rfl)
  obtain ⟨fd, F0⟩ := c.t.d.def_ 54 (d := ⟨("UnknownReport", some "__init__"), "__init__", "UnknownReport.__init__", defArgs s_UnknownReport, defBody s_UnknownReport, defScope s_UnknownReport, [], []⟩) rfl
  have F : Fun K "__init__" "UnknownReport.__init__" s_UnknownReport (He.ma K (He.ga K "UnknownReport") "__init__") fd := fun_of F0
  have E := xc_of C PySem.F.excBase_LookupError PySem.F.store_LookupError
  have S : FnScope ["self", "value"] ["self", "value"] (defScope s_UnknownReport) := ⟨rfl, rfl, rfl, by decide +kernel, rfl, by decide +kernel, by decide +kernel⟩
  have O : FnOk P wd K mg base CX0 1 _ fd ["self", "value"] (spX (He.ga K "UnknownReport") ["value"] "UnknownReport") := ok_init1 S ⟨by first | exact Or.inl rfl | exact Or.inr (Or.inl rfl), by decide, by decide⟩ ⟨by first | exact Or.inl rfl | exact Or.inr (Or.inl rfl), by decide, by decide⟩ rfl F ⟨_, _, _, _, E⟩ (C.no "value" (by decide +kernel)) (C.no "code" (by decide +kernel))
  exact ⟨_, fd, _, _, _, _, _, O, F, C.iC, C.tI, E, He.glo_ok X G (c.t.d.fact 54 (f := .glo "UnknownReport") rfl), F.binds fun _ _ _ _ _ _ us hl => match us, hl with | [_, _], _ => rfl⟩
theorem x_UnknownWatch {P : Program} {wd : World} {K : PySem.W.Frag} {h : Heap} {mg : Str → Option Value} {base : Heap} {w : World} (X : K.In h) (G : h.Ns mainGlobals mg) (c : He.SaysX faL fnL [] [] ex w h K) : XnI P wd K mg base "UnknownWatch" (cA (csK K) 40) s_UnknownWatch 1 ["value"] "UnknownWatch" := by
  have C : ClsF K _ _ (("UnknownWatch" : Str), (["value"] : List Str)) := (top_of c.more).l _ (List.mem_of_getElem? (i := 5) rfl)
  obtain ⟨fd, F0⟩ := c.t.d.def_ 55 (d := ⟨("UnknownWatch", some "__init__"), "__init__", "UnknownWatch.__init__", defArgs s_UnknownWatch, defBody s_UnknownWatch, defScope s_UnknownWatch, [], []⟩) rfl
  have F : Fun K "__init__" "UnknownWatch.__init__" s_UnknownWatch (He.ma K (He.ga K "UnknownWatch") "__init__") fd := fun_of F0
  have E := xc_of C PySem.F.excBase_LookupError PySem.F.store_LookupError
  have S : FnScope ["self", "value"] ["self", "value"] (defScope s_UnknownWatch) := ⟨rfl, rfl, rfl, by decide +kernel, rfl, by decide +kernel, by decide +kernel⟩
  have O : FnOk P wd K mg base CX0 1 _ fd ["self", "value"] (spX (He.ga K "UnknownWatch") ["value"] "UnknownWatch") := ok_init1 S ⟨by first | exact Or.inl rfl | exact Or.inr (Or.inl rfl), by decide, by decide⟩ ⟨by first | exact Or.inl rfl | exact Or.inr (Or.inl rfl), by decide, by decide⟩ rfl F ⟨_, _, _, _, E⟩ (C.no "value" (by decide +kernel)) (C.no "code" (by decide +kernel))
  exact ⟨_, fd, _, _, _, _, _, O, F, C.iC, C.tI, E, He.glo_ok X G (c.t.d.fact 55 (f := .glo "UnknownWatch") rfl), F.binds fun _ _ _ _ _ _ us hl => match us, hl with | [_, _], _ => rfl⟩
theorem x_NothingLeft {P : Program} {wd : World} {K : PySem.W.Frag} {h : Heap} {mg : Str → Option Value} {base : Heap} {w : World} (X : K.In h) (G : h.Ns mainGlobals mg) (c : He.SaysX faL fnL [] [] ex w h K) : XnI P wd K mg base "NothingLeft" (cA (csK K) 41) s_NothingLeft 1 [] "NothingLeft" := by
  have C : ClsF K _ _ (("NothingLeft" : Str), ([] : List Str)) := (top_of c.more).i _ (List.mem_of_getElem? (i := 0) rfl)
  obtain ⟨fd, F0⟩ := c.t.d.def_ 56 (d := ⟨("NothingLeft", some "__init__"), "__init__", "NothingLeft.__init__", defArgs s_NothingLeft, defBody s_NothingLeft, defScope s_NothingLeft, [], []⟩) rfl
  have F : Fun K "__init__" "NothingLeft.__init__" s_NothingLeft (He.ma K (He.ga K "NothingLeft") "__init__") fd := fun_of F0
  have E := xc_of C PySem.F.excBase_IndexError PySem.F.store_IndexError
  have S : FnScope ["self"] ["self"] (defScope s_NothingLeft) := ⟨rfl, rfl, rfl, by decide +kernel, rfl, by decide +kernel, by decide +kernel⟩
  have O : FnOk P wd K mg base CX0 1 _ fd ["self"] (spX (He.ga K "NothingLeft") [] "NothingLeft") := ok_init0 S ⟨by first | exact Or.inl rfl | exact Or.inr (Or.inl rfl), by decide, by decide⟩ rfl F ⟨_, _, _, _, E⟩ (C.no "code" (by decide +kernel))
  exact ⟨_, fd, _, _, _, _, _, O, F, C.iC, C.tI, E, He.glo_ok X G (c.t.d.fact 56 (f := .glo "NothingLeft") rfl), F.binds fun _ _ _ _ _ _ us hl => match us, hl with | [_], _ => rfl⟩
theorem xns_of {P : Program} {wd : World} {K : PySem.W.Frag} {h : Heap} {mg : Str → Option Value} {base : Heap} {w : World} (X : K.In h) (G : h.Ns mainGlobals mg) (c : He.SaysX faL fnL [] [] ex w h K) : Xns P wd K mg base (csK K) :=
  ⟨x_InvalidNumber X G c, x_InvalidGauge X G c, x_InvalidPlace X G c, x_InvalidChart X G c, x_InvalidWind X G c, x_InvalidTop X G c, x_InvalidText X G c, x_InvalidRegion X G c, x_InvalidPath X G c, x_InvalidSquall X G c, x_InvalidHeights X G c, x_InvalidMirror X G c, x_InvalidSaying X G c, x_OffChart X G c, x_OtherChart X G c, x_TooMany X G c, x_NotForced X G c, x_InvalidPaper X G c, x_NoSky X G c, x_HasSky X G c, x_NotPlain X G c, x_Unkept X G c, x_InvalidStation X G c, x_NoBranch X G c, x_OnLand X G c, x_InvalidWay X G c, x_InvalidMeasure X G c, x_NoWay X G c, x_NoCase X G c, x_Impossible X G c, x_InvalidDeed X G c, x_NoDraft X G c, x_Ended X G c, x_UnknownPlace X G c, x_UnknownSaying X G c, x_UnknownGauge X G c, x_UnknownCase X G c, x_UnknownReport X G c, x_UnknownWatch X G c, x_NothingLeft X G c⟩
theorem sn_of {K : PySem.W.Frag} {h : Heap} {mg : Str → Option Value} {w : World} (X : K.In h) (G : h.Ns mainGlobals mg) (c : He.SaysX faL fnL [] [] ex w h K) {x : Str} {st : Stmt} (i j : Nat) (hi : fnL[i]? = some ⟨(x, none), x, x, defArgs st, defBody st, defScope st, [], []⟩) (hj : faL[j]? = some (.glo x)) : Sn K mg x st := by
  obtain ⟨fd, F0⟩ := c.t.d.def_ i hi
  exact ⟨_, fd, He.glo_ok X G (c.t.d.fact j hj), fun_of F0⟩
theorem facts {P : Program} {w : World} {K : PySem.W.Frag} {h : Heap} {mg : Str → Option Value} {f : Addr} (X : K.In h) (G : h.Ns mainGlobals mg) (hfa : mg ("law" : Str) = some (.ref f)) (c : He.SaysX faL fnL [] [] ex w h K) :
    ∃ fd : FuncData, (∀ (s : Shared) (v : Value), BindsTo s fd ⟨[v], []⟩ [("_law_script", v)]) ∧ ∀ base : Heap, K.In base → base.Ns mainGlobals mg → FnOk P w K mg base CX0 11 f fd ["_law_script"] (SpOf K (sp_law (csK K))) := by
  have T := txt_of X G c
  obtain ⟨fd, F0⟩ := c.t.d.def_ 0 (d := dLaw) rfl
  have e := hfa.symm.trans (He.glo_ok X G (c.t.d.fact 73 (f := .glo "law") rfl))
  cases e
  have F : Fun K "law" "law" s_law (He.ga K "law") fd := fun_of F0
  have b := F.binds (ps := ["_law_script"]) fun _ _ _ _ _ _ us hl => match us, hl with | [_], _ => rfl
  refine ⟨fd, fun s v => ?_, fun base _ _ => ?_⟩
  · obtain ⟨oc, od, kV, doc, pm, an, cdv, ct, osl, rfl, _, _⟩ := F.ex
    exact .of_eq rfl
  · have XX : Xns P w K mg base (csK K) := xns_of X G c
    have S_bag : Sn K mg "_law_bag" s_bag := sn_of X G c 1 57 rfl rfl
    have G_bag := G_bag (P := P) (wd := w) (base := base) (csK K) T XX S_bag 
    have S_draw : Sn K mg "_law_draw" s_draw := sn_of X G c 2 58 rfl rfl
    have G_draw := G_draw (P := P) (wd := w) (base := base) (csK K) T XX S_draw 
    have S_pick : Sn K mg "_law_pick" s_pick := sn_of X G c 3 59 rfl rfl
    have G_pick := G_pick (P := P) (wd := w) (base := base) (csK K) T XX S_pick G_draw
    have S_same : Sn K mg "_law_same" s_same := sn_of X G c 4 60 rfl rfl
    have G_same := fun n => G_same (P := P) (wd := w) (base := base) (csK K) T XX S_same  n
    have S_by_value : Sn K mg "_law_by_value" s_by_value := sn_of X G c 5 61 rfl rfl
    have G_by_value := G_by_value (P := P) (wd := w) (base := base) (csK K) T XX S_by_value 
    have S_by_value_too : Sn K mg "_law_by_value_too" s_by_value_too := sn_of X G c 6 62 rfl rfl
    have G_by_value_too := G_by_value_too (P := P) (wd := w) (base := base) (csK K) T XX S_by_value_too 
    have S_by_at : Sn K mg "_law_by_at" s_by_at := sn_of X G c 7 63 rfl rfl
    have G_by_at := G_by_at (P := P) (wd := w) (base := base) (csK K) T XX S_by_at 
    have S_by_at_too : Sn K mg "_law_by_at_too" s_by_at_too := sn_of X G c 8 64 rfl rfl
    have G_by_at_too := G_by_at_too (P := P) (wd := w) (base := base) (csK K) T XX S_by_at_too 
    have S_by_none : Sn K mg "_law_by_none" s_by_none := sn_of X G c 9 65 rfl rfl
    have G_by_none := G_by_none (P := P) (wd := w) (base := base) (csK K) T XX S_by_none 
    have S_others : Sn K mg "_law_others" s_others := sn_of X G c 10 66 rfl rfl
    have G_others := G_others (P := P) (wd := w) (base := base) (csK K) T XX S_others 
    have S_first_kinds : Sn K mg "_law_first_kinds" s_first_kinds := sn_of X G c 11 67 rfl rfl
    have G_first_kinds := G_first_kinds (P := P) (wd := w) (base := base) (csK K) T XX S_first_kinds 
    have S_next_kinds : Sn K mg "_law_next_kinds" s_next_kinds := sn_of X G c 12 68 rfl rfl
    have G_next_kinds := G_next_kinds (P := P) (wd := w) (base := base) (csK K) T XX S_next_kinds 
    have S_last_kinds : Sn K mg "_law_last_kinds" s_last_kinds := sn_of X G c 13 69 rfl rfl
    have G_last_kinds := G_last_kinds (P := P) (wd := w) (base := base) (csK K) T XX S_last_kinds 
    have S_titles : Sn K mg "_law_titles" s_titles := sn_of X G c 14 70 rfl rfl
    have G_titles := G_titles (P := P) (wd := w) (base := base) (csK K) T XX S_titles 
    have S_is : Sn K mg "_law_is" s_is := sn_of X G c 15 71 rfl rfl
    have G_is := G_is (P := P) (wd := w) (base := base) (csK K) T XX S_is G_first_kinds G_next_kinds G_last_kinds (G_same 8) G_titles
    have S_worth : Sn K mg "_law_worth" s_worth := sn_of X G c 16 72 rfl rfl
    have G_worth := G_worth (P := P) (wd := w) (base := base) (csK K) T XX S_worth G_pick G_draw
    exact ok_law (csK K) T XX F G_titles G_bag G_worth G_by_value G_by_value_too G_is (G_same 8) G_by_at G_by_at_too G_by_none G_others G_first_kinds
end W00
open PySem PySem.W PySem.Calls PyProof.Rows
set_option maxRecDepth 100000 in
set_option maxHeartbeats 0 in
theorem PySem.Challenge.cw_highestsky_k00_errors_by_themselves_holds : PySem.Challenge.rw_highestsky_k00_errors_by_themselves.Holds := by
  w_on; o_law
  refine HandSHeadRun.head_any (r := OpenLaw.row PySem.Challenge.rw_highestsky_k00_errors_by_themselves) (q := view (OpenLaw.row PySem.Challenge.rw_highestsky_k00_errors_by_themselves).prog [60]) (H := W00.hk) (ob := W00.ob) (M := 12000) (loose := W00.namesL) (d := HandSHeadRun.topDef (OpenLaw.row PySem.Challenge.rw_highestsky_k00_errors_by_themselves).prog 60) (kwd := []) W00.ob_eq
    (by kernel_rfl) (fun s => by kernel_rfl) W00.run (by kernel_rfl) (by kernel_rfl) (by kernel_rfl) (by rfl) (by first | assumption | decide +kernel) (by decide +kernel) ⟨rfl, rfl, rfl, rfl, rfl, by decide +kernel⟩ ?hw ?hc
  case hw => w_witness2
  case hc =>
    refine L2.walk_ofE (l := PySem.Challenge.rw_highestsky_k00_errors_by_themselves) (n := 63) (k := 11) (x := "_law_script") (CX := L2.CX0) rfl (by decide) (by kernel_rfl) ⟨rfl, by decide, by decide⟩ ?F (fun _ _ _ _ z => z)
    intro w mg fa h Y G hmg0
    obtain ⟨K, KX, c⟩ := Y
    have hmg : mg ("law" : PySem.Str) = some (.ref fa) := by
      have e : (HandSHeadRun.topDef (OpenLaw.row PySem.Challenge.rw_highestsky_k00_errors_by_themselves).prog 60).name = ("law" : PySem.Str) := by kernel_rfl
      rw [← e]
      exact hmg0
    obtain ⟨fd, hb, hF⟩ := W00.facts (P := (PySem.Challenge.rw_highestsky_k00_errors_by_themselves).prog) (w := w) KX G hmg c
    exact ⟨K, fd, Tr.SpOf K (W00.sp_law (W00.csK K)), KX, hb, fun H a ns hl hO hS => Tr.law_sp (fun μ P h => ⟨ns, rfl, hl, h⟩) hO hS, hF⟩
#print axioms PySem.Challenge.cw_highestsky_k00_errors_by_themselves_holds
