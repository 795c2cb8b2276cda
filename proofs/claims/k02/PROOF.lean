import PyProof.Rows.All
import Wide.All
import OpenK.AllK
import Wide.FinOn
import HandS.ForMost
import HandS.TupAny
import HandS.IsInst
import HandS.ExcInit
import HandS.Lambda
import HandS.Deep
import HandS.Zip
import HandS.TryOnly
import HandS.Replace
import HandS.Exc
import HandS.ExcCtx
import HandS.HotCalls
import HandS.ExcField
import KE.KTryMore
import HandS.ExcValue
import KE.KExcInit
import KE.KExcIs
import HandS.HeadWalk
import HandS.Strs
import HandS.HeadHook4
import HandS.HeadEnd
import HandS.Head2
import PySem.Challenge.RW_highestsky_k02_winds_and_directions
set_option Elab.async false
set_option linter.all false
set_option maxRecDepth 100000
/-! Tr: values as trees over the hand layer: what is never changed again is a tree, what may still change is a numbered place. -/
namespace Tr
open PySem PySem.Spec PyProof.Rows L2

inductive D where
  | non
  | bl (b : Bool)
  | int (i : Int)
  | str (x : Str)
  | lst (xs : List D)
  | fz (xs : List D)
  | tup (xs : List D)
  | dT (ks : List (List Key)) (vs : List D)
  | dK (ks : List Key) (vs : List D)
  | ins (C : Addr) (ns : List Str) (vs : List D)
  | exc (C : Addr) (ns : List Str) (vs : List D)
  | hx (a C : Addr) (d : Option Addr) (ns : List Str) (vs : List D)
  | loc (n : Nat)
  | ref (a : Addr)
  | ty (n : String)
  deriving Inhabited

inductive Cell where
  | tbl (P : Addr) (q : Str)
  | lst (xs : List D)
  | dT (ks : List (List Key)) (vs : List D)
  | dK (ks : List Key) (vs : List D)
  | ins (C : Addr) (ns : List Str) (vs : List D)
  deriving Inhabited

abbrev Mu := List (Option Cell)
abbrev Env := List (Option D)
structure Wo where
  am : List Addr
  mu : Mu
  hid : List Addr

def Live (w : Wo) (a : Addr) : Prop := (∃ (n : Nat) (c : Cell), w.am[n]? = some a ∧ w.mu[n]? = some (some c)) ∨ a ∈ w.hid

/-- a list, a tuple of the written part -/
def KT (K : PySem.W.Frag) (a : Addr) (xs : List V) : Prop :=
  ∃ (o : Obj) (its : Array Value) (n : Nat), K.lookup a = some o ∧ o.cls = .type "tuple" ∧ o.data = .seq its n ∧ its.size ≤ sizeLine ∧ Vals xs its.toList
def KL (K : PySem.W.Frag) (a : Addr) (xs : List V) : Prop :=
  ∃ (o : Obj) (its : Array Value) (n : Nat), K.lookup a = some o ∧ o.cls = .type "list" ∧ o.dict = none ∧ o.data = .seq its n ∧ its.size ≤ sizeLine ∧ Vals xs its.toList
/-- a locked list -/
def FzS (K : PySem.W.Frag) (w : Wo) (H : Hp) (a : Addr) (xs : List V) : Prop := (¬ Live w a ∧ (H a = some (.lst xs) ∨ ∃ o, H a = some (.frz o (.lst xs)))) ∨ KL K a xs
theorem FzS.sq {K : PySem.W.Frag} {w : Wo} {H : Hp} {a : Addr} {xs : List V} (h : FzS K w H a xs) : SqL K H a xs := h.elim (fun x => .inl x.2) .inr
def FzL (K : PySem.W.Frag) (w : Wo) (H : Hp) (a : Addr) (xs : List V) : Prop := ¬ Live w a ∧ H a = some (.lst xs)
def FzT (K : PySem.W.Frag) (w : Wo) (H : Hp) (a : Addr) (xs : List V) : Prop := (¬ Live w a ∧ H a = some (.tup xs)) ∨ KT K a xs
theorem FzL.sq {K : PySem.W.Frag} {w : Wo} {H : Hp} {a : Addr} {xs : List V} (h : FzL K w H a xs) : SqL K H a xs := .inl (.inl h.2)
theorem FzT.sq {K : PySem.W.Frag} {w : Wo} {H : Hp} {a : Addr} {xs : List V} (h : FzT K w H a xs) : SqT K H a xs := h.elim (fun x => .inl (.inl x.2)) .inr

/-- the dict of an exception that stands for good -/
def ExD (w : Wo) (H : Hp) : Option Addr → List (Str × V) → Prop
  | none, fs => fs = []
  | some d, fs => ¬ Live w d ∧ H d = some (exd d fs)
mutual
def Rp (K : PySem.W.Frag) (w : Wo) (H : Hp) : D → V → Prop
  | .non, v => v = .non
  | .bl b, v => v = .bl b
  | .int i, v => v = .int i
  | .str x, v => v = .str x
  | .lst ds, v => ∃ a vs, v = .ref a ∧ FzL K w H a vs ∧ RpAll K w H ds vs
  | .fz ds, v => ∃ a vs, v = .ref a ∧ FzS K w H a vs ∧ RpAll K w H ds vs
  | .tup ds, v => ∃ a vs, v = .ref a ∧ FzT K w H a vs ∧ RpAll K w H ds vs
  | .dT ks ds, v => ∃ a kvs, v = .ref a ∧ ¬ Live w a ∧ Rd H a (.dT kvs) ∧ kvs.map (·.1) = ks ∧ RpAll K w H ds (kvs.map (·.2))
  | .dK ks ds, v => ∃ a kvs, v = .ref a ∧ ¬ Live w a ∧ Rd H a (.dK kvs) ∧ kvs.map (·.1) = ks ∧ RpAll K w H ds (kvs.map (·.2))
  | .ins C ns ds, v => ∃ a dx fs, v = .ref a ∧ ¬ Live w a ∧ H a = some (.ins C dx fs) ∧ fs.map (·.1) = ns ∧ RpAll K w H ds (fs.map (·.2))
  | .exc C ns ds, v => ∃ a od fs, v = .ref a ∧ ¬ Live w a ∧ H a = some (exo a C od) ∧ ExD w H od fs ∧ fs.map (·.1) = ns ∧ RpAll K w H ds (fs.map (·.2))
  | .hx a C od ns ds, v => v = .ref a ∧ ∃ fs, ExD w H od fs ∧ fs.map (·.1) = ns ∧ RpAll K w H ds (fs.map (·.2))
  | .loc n, v => ∃ a, v = .ref a ∧ w.am[n]? = some a
  | .ref a, v => v = .ref a
  | .ty n, v => v = .ty n
def RpAll (K : PySem.W.Frag) (w : Wo) (H : Hp) : List D → List V → Prop
  | [], vs => vs = []
  | d :: ds, vs => ∃ v r, vs = v :: r ∧ Rp K w H d v ∧ RpAll K w H ds r
end

/-- the table of code objects at P -/
def TabO (w : Wo) (H : Hp) (P : Addr) (q : Str) : Prop := ∃ ps : Array Value, H P = some (.tbl ps) ∧ TriplesOk ps.toList ∧ ∀ (pos : Pos) (cv : Value), codeAmong pos ps.toList = some cv → ∃ c, cv = .ref c ∧ H c = some (LamX.CodeO c q) ∧ ¬ Live w c
def NT (o : HO) : Prop := ∀ ps, o ≠ .tbl ps
theorem NT.of {o : HO} (h : ∀ ps, o ≠ .tbl ps := by intro ps z; cases z) : NT o := h
def CellR (K : PySem.W.Frag) (w : Wo) (H : Hp) (a : Addr) : Cell → Prop
  | .tbl P q => a = P ∧ TabO w H P q
  | .lst ds => ∃ vs, H a = some (.lst vs) ∧ RpAll K w H ds vs
  | .dT ks ds => ∃ kvs, H a = some (.dT kvs) ∧ kvs.map (·.1) = ks ∧ RpAll K w H ds (kvs.map (·.2))
  | .dK ks ds => ∃ kvs, H a = some (.dK kvs) ∧ kvs.map (·.1) = ks ∧ RpAll K w H ds (kvs.map (·.2))
  | .ins C ns ds => ∃ dx fs, H a = some (.ins C dx fs) ∧ fs.map (·.1) = ns ∧ RpAll K w H ds (fs.map (·.2))

/-- what stands for good still stands -/
structure Kp (w : Wo) (H : Hp) (w' : Wo) (H' : Hp) : Prop where
  pre : ∃ m, w'.am = w.am ++ m
  keep : ∀ a o, H a = some o → NT o → ¬ Live w a → H' a = some o ∧ ¬ Live w' a
  dom : ∀ a, H a ≠ none → H' a ≠ none
/-- from w, H the run has come to w', H' -/
structure Ev (w : Wo) (H : Hp) (w' : Wo) (H' : Hp) : Prop extends Kp w H w' H' where
  hd : w'.hid = w.hid
  hk : ∀ a, a ∈ w.hid → H' a = H a

structure Gd0 (K : PySem.W.Frag) (w : Wo) (H : Hp) : Prop where
  len : w.am.length = w.mu.length
  nd : w.am.Nodup
  trk : ∀ a, a ∈ w.am ++ w.hid → H a ≠ none
  apart : ∀ a, a ∈ w.am → a ∉ w.hid
  cell : ∀ (n : Nat) (a : Addr) (c : Cell), w.am[n]? = some a → w.mu[n]? = some (some c) → CellR K w H a c

theorem dom_upd {H : Hp} {p : Addr} {o : HO} : ∀ a, H a ≠ none → upd H p o a ≠ none := fun a h => by
  by_cases q : a = p
  · rw [q, upd_same]; exact fun z => nomatch z
  · rw [upd_ne q]; exact h
section
variable {K : PySem.W.Frag} {w w' w'' : Wo} {H H' H'' : Hp}
theorem Kp.refl : Kp w H w H := ⟨⟨[], by simp⟩, fun _ _ h _ l => ⟨h, l⟩, fun _ h => h⟩
theorem Kp.trans (e : Kp w H w' H') (f : Kp w' H' w'' H'') : Kp w H w'' H'' := by
  obtain ⟨m, hm⟩ := e.pre
  obtain ⟨n, hn⟩ := f.pre
  refine ⟨⟨m ++ n, by rw [hn, hm, List.append_assoc]⟩, fun a o h n l => ?_, fun a h => f.dom a (e.dom a h)⟩
  obtain ⟨h1, l1⟩ := e.keep a o h n l
  exact f.keep a o h1 n l1
theorem Ev.refl : Ev w H w H := ⟨Kp.refl, rfl, fun _ _ => rfl⟩
theorem Ev.trans (e : Ev w H w' H') (f : Ev w' H' w'' H'') : Ev w H w'' H'' :=
  ⟨e.toKp.trans f.toKp, f.hd.trans e.hd, fun a ha => (f.hk a (by rw [e.hd]; exact ha)).trans (e.hk a ha)⟩
theorem Kp.amk {n : Nat} {a : Addr} (e : Kp w H w' H') (h : w.am[n]? = some a) : w'.am[n]? = some a := by
  obtain ⟨m, hm⟩ := e.pre
  rw [hm, List.getElem?_append_left (List.getElem?_eq_some_iff.mp h).1]
  exact h
theorem Kp.rd {a : Addr} {u : HO} (e : Kp w H w' H') (l : ¬ Live w a) (h : Rd H a u) (n : NT u := by exact NT.of) : ¬ Live w' a ∧ Rd H' a u := by
  rcases h with h | ⟨o, h⟩
  · exact ⟨(e.keep _ _ h n l).2, .inl (e.keep _ _ h n l).1⟩
  · exact ⟨(e.keep _ _ h NT.of l).2, .inr ⟨o, (e.keep _ _ h NT.of l).1⟩⟩
theorem Kp.fzL {a : Addr} {vs : List V} (e : Kp w H w' H') (h : FzL K w H a vs) : FzL K w' H' a vs := ⟨(e.keep _ _ h.2 NT.of h.1).2, (e.keep _ _ h.2 NT.of h.1).1⟩
theorem Kp.fzS {a : Addr} {vs : List V} (e : Kp w H w' H') (h : FzS K w H a vs) : FzS K w' H' a vs := by
  rcases h with ⟨l, h | ⟨o, h⟩⟩ | h
  · exact .inl ⟨(e.keep _ _ h NT.of l).2, .inl (e.keep _ _ h NT.of l).1⟩
  · exact .inl ⟨(e.keep _ _ h NT.of l).2, .inr ⟨o, (e.keep _ _ h NT.of l).1⟩⟩
  · exact .inr h
theorem Kp.exD {od : Option Addr} {fs : List (Str × V)} (e : Kp w H w' H') (h : ExD w H od fs) : ExD w' H' od fs := by
  cases od with
  | none => exact h
  | some d => exact ⟨(e.keep _ _ h.2 NT.of h.1).2, (e.keep _ _ h.2 NT.of h.1).1⟩
theorem Kp.fzT {a : Addr} {vs : List V} (e : Kp w H w' H') (h : FzT K w H a vs) : FzT K w' H' a vs := h.elim (fun x => .inl ⟨(e.keep _ _ x.2 NT.of x.1).2, (e.keep _ _ x.2 NT.of x.1).1⟩) .inr
mutual
theorem Rp.mono (e : Kp w H w' H') : ∀ (d : D) (v : V), Rp K w H d v → Rp K w' H' d v
  | .non, _, h => h
  | .bl _, _, h => h
  | .int _, _, h => h
  | .str _, _, h => h
  | .lst ds, _, ⟨a, vs, h1, h2, h3⟩ => ⟨a, vs, h1, e.fzL h2, RpAll.mono e ds vs h3⟩
  | .fz ds, _, ⟨a, vs, h1, h2, h3⟩ => ⟨a, vs, h1, e.fzS h2, RpAll.mono e ds vs h3⟩
  | .tup ds, _, ⟨a, vs, h1, h2, h3⟩ => ⟨a, vs, h1, e.fzT h2, RpAll.mono e ds vs h3⟩
  | .dT ks ds, _, ⟨a, kvs, h1, h2, h3, h4, h5⟩ => ⟨a, kvs, h1, (e.rd h2 h3).1, (e.rd h2 h3).2, h4, RpAll.mono e ds _ h5⟩
  | .dK ks ds, _, ⟨a, kvs, h1, h2, h3, h4, h5⟩ => ⟨a, kvs, h1, (e.rd h2 h3).1, (e.rd h2 h3).2, h4, RpAll.mono e ds _ h5⟩
  | .ins C ns ds, _, ⟨a, dx, fs, h1, h2, h3, h4, h5⟩ => ⟨a, dx, fs, h1, (e.keep _ _ h3 NT.of h2).2, (e.keep _ _ h3 NT.of h2).1, h4, RpAll.mono e ds _ h5⟩
  | .exc C ns ds, _, ⟨a, od, fs, h1, h2, h3, h4, h5, h6⟩ => ⟨a, od, fs, h1, (e.keep _ _ h3 NT.of h2).2, (e.keep _ _ h3 NT.of h2).1, e.exD h4, h5, RpAll.mono e ds _ h6⟩
  | .hx a C od ns ds, _, ⟨h1, fs, h4, h5, h6⟩ => ⟨h1, fs, e.exD h4, h5, RpAll.mono e ds _ h6⟩
  | .loc n, _, ⟨a, h1, h2⟩ => ⟨a, h1, e.amk h2⟩
  | .ref _, _, h => h
  | .ty _, _, h => h
theorem RpAll.mono (e : Kp w H w' H') : ∀ (ds : List D) (vs : List V), RpAll K w H ds vs → RpAll K w' H' ds vs
  | [], _, h => h
  | d :: ds, _, ⟨v, r, h1, h2, h3⟩ => ⟨v, r, h1, Rp.mono e d v h2, RpAll.mono e ds r h3⟩
end
theorem RpAll.length : ∀ {ds : List D} {vs : List V}, RpAll K w H ds vs → vs.length = ds.length
  | [], _, h => by rw [show _ = [] from h]; rfl
  | d :: ds, _, ⟨v, r, h1, h2, h3⟩ => by rw [h1, List.length_cons, List.length_cons, RpAll.length h3]
theorem RpAll.get : ∀ {ds : List D} {vs : List V} {i : Nat} {v : V}, RpAll K w H ds vs → vs[i]? = some v → ∃ d, ds[i]? = some d ∧ Rp K w H d v
  | [], _, i, v, h, e => by rw [show _ = [] from h] at e; simp at e
  | d :: ds, _, 0, v, ⟨x, r, h1, h2, h3⟩, e => by subst h1; simp at e; subst e; exact ⟨d, rfl, h2⟩
  | d :: ds, _, i + 1, v, ⟨x, r, h1, h2, h3⟩, e => by
    subst h1
    obtain ⟨d', e1, e2⟩ := RpAll.get (i := i) h3 (by simpa using e)
    exact ⟨d', by simpa using e1, e2⟩
theorem RpAll.get' : ∀ {ds : List D} {vs : List V} {i : Nat} {d : D}, RpAll K w H ds vs → ds[i]? = some d → ∃ v, vs[i]? = some v ∧ Rp K w H d v
  | [], _, i, v, h, e => by simp at e
  | d :: ds, _, 0, v, ⟨x, r, h1, h2, h3⟩, e => by subst h1; simp at e; subst e; exact ⟨x, rfl, h2⟩
  | d :: ds, _, i + 1, v, ⟨x, r, h1, h2, h3⟩, e => by
    subst h1
    obtain ⟨d', e1, e2⟩ := RpAll.get' (i := i) h3 (by simpa using e)
    exact ⟨d', by simpa using e1, e2⟩
theorem RpAll.append : ∀ {ds es : List D} {vs us : List V}, RpAll K w H ds vs → RpAll K w H es us → RpAll K w H (ds ++ es) (vs ++ us)
  | [], _, _, _, h, g => by rw [show _ = [] from h]; exact g
  | d :: ds, _, _, _, ⟨v, r, h1, h2, h3⟩, g => by subst h1; exact ⟨v, r ++ _, rfl, h2, RpAll.append h3 g⟩
theorem RpAll.set : ∀ {ds : List D} {vs : List V} {d : D} {v : V} (i : Nat), RpAll K w H ds vs → Rp K w H d v → RpAll K w H (ds.set i d) (vs.set i v)
  | [], _, _, _, _, h, _ => by rw [show _ = [] from h]; exact rfl
  | e :: ds, _, _, _, 0, ⟨x, r, h1, h2, h3⟩, g => by subst h1; exact ⟨_, _, rfl, g, h3⟩
  | e :: ds, _, _, _, i + 1, ⟨x, r, h1, h2, h3⟩, g => by subst h1; exact ⟨_, _, rfl, h2, RpAll.set i h3 g⟩
theorem RpAll.drop : ∀ {ds : List D} {vs : List V} (n : Nat), RpAll K w H ds vs → RpAll K w H (ds.drop n) (vs.drop n)
  | _, _, 0, h => h
  | [], _, n + 1, h => by rw [show _ = [] from h]; exact rfl
  | e :: ds, _, n + 1, ⟨x, r, h1, h2, h3⟩ => by subst h1; exact RpAll.drop n h3
theorem RpAll.take : ∀ {ds : List D} {vs : List V} (n : Nat), RpAll K w H ds vs → RpAll K w H (ds.take n) (vs.take n)
  | [], _, 0, h => rfl
  | _ :: _, _, 0, h => rfl
  | [], _, n + 1, h => by rw [show _ = [] from h]; exact rfl
  | e :: ds, _, n + 1, ⟨x, r, h1, h2, h3⟩ => by subst h1; exact ⟨_, _, rfl, h2, RpAll.take n h3⟩
theorem RpAll.ofMem : ∀ {ds : List D} {vs : List V}, vs.length = ds.length → (∀ (i : Nat) (d : D) (v : V), ds[i]? = some d → vs[i]? = some v → Rp K w H d v) → RpAll K w H ds vs
  | [], [], _, _ => rfl
  | [], _ :: _, h, _ => by simp at h
  | _ :: _, [], h, _ => by simp at h
  | d :: ds, v :: vs, h, g => ⟨v, vs, rfl, g 0 d v rfl rfl, RpAll.ofMem (by simpa using h) fun i d' v' e1 e2 => g (i + 1) d' v' (by simpa using e1) (by simpa using e2)⟩

theorem Gd0.no {a : Addr} (g : Gd0 K w H) (h : H a = none) : a ∉ w.am := fun z => g.trk a (List.mem_append_left _ z) h
theorem Gd0.noh {a : Addr} (g : Gd0 K w H) (h : H a = none) : a ∉ w.hid := fun z => g.trk a (List.mem_append_right _ z) h
theorem Gd0.dead {a : Addr} (g : Gd0 K w H) (h : H a = none) : ¬ Live w a := fun l => l.elim (fun ⟨_, _, e, _⟩ => g.no h (List.mem_of_getElem? e)) (g.noh h)
/-- a new thing that is not to change -/
theorem Ev.new {p : Addr} {o : HO} (g : Gd0 K w H) (h : H p = none) : Ev w H w (upd H p o) :=
  ⟨⟨⟨[], by simp⟩, fun a u e _ l => ⟨by rw [upd_ne (ne_of_none e h)]; exact e, l⟩, dom_upd⟩, rfl, fun a ha => upd_ne fun z => g.noh h (z ▸ ha)⟩
theorem CellR.mono {a : Addr} {c : Cell} (e : Kp w H w' H') (ha : H' a = H a) (h : CellR K w H a c) : CellR K w' H' a c := by
  cases c with
  | tbl P q =>
    obtain ⟨e0, ps, h1, h2, h3⟩ := h
    subst e0
    refine ⟨rfl, ps, ha.trans h1, h2, fun pos cv hc => ?_⟩
    obtain ⟨c, e1, e2, e3⟩ := h3 pos cv hc
    obtain ⟨e4, e5⟩ := e.keep _ _ e2 (fun ps => LamX.codeO_ne ps) e3
    exact ⟨c, e1, e4, e5⟩
  | lst ds => obtain ⟨vs, h1, h2⟩ := h; exact ⟨vs, ha.trans h1, RpAll.mono e _ _ h2⟩
  | dT ks ds => obtain ⟨vs, h1, h0, h2⟩ := h; exact ⟨vs, ha.trans h1, h0, RpAll.mono e _ _ h2⟩
  | dK ks ds => obtain ⟨vs, h1, h0, h2⟩ := h; exact ⟨vs, ha.trans h1, h0, RpAll.mono e _ _ h2⟩
  | ins C ns ds => obtain ⟨dx, vs, h1, h0, h2⟩ := h; exact ⟨dx, vs, ha.trans h1, h0, RpAll.mono e _ _ h2⟩
theorem Gd0.new {p : Addr} {o : HO} (g : Gd0 K w H) (h : H p = none) : Gd0 K w (upd H p o) := by
  refine ⟨g.len, g.nd, fun a ha => ?_, g.apart, fun n a c e1 e2 => ?_⟩
  · by_cases q : a = p
    · subst q; rw [upd_same]; simp
    · rw [upd_ne q]; exact g.trk a ha
  · have q : a ≠ p := fun z => g.no h (by rw [← z]; exact List.mem_of_getElem? e1)
    exact (g.cell n a c e1 e2).mono (Ev.new g h).toKp (upd_ne q)
/-- a new thing that may change -/
def Wo.add (w : Wo) (p : Addr) (c : Cell) : Wo := ⟨w.am ++ [p], w.mu ++ [some c], w.hid⟩
theorem add_get {l : List Addr} {p a : Addr} {n : Nat} (h : (l ++ [p])[n]? = some a) : (n < l.length ∧ l[n]? = some a) ∨ (n = l.length ∧ a = p) := by
  by_cases hn : n < l.length
  · rw [List.getElem?_append_left hn] at h; exact .inl ⟨hn, h⟩
  · rw [List.getElem?_append_right (by omega)] at h
    cases q : n - l.length with
    | zero => rw [q] at h; simp at h; exact .inr ⟨by omega, h.symm⟩
    | succ m => rw [q] at h; simp at h
theorem Ev.add {p : Addr} {o : HO} {c : Cell} (g : Gd0 K w H) (h : H p = none) : Ev w H (w.add p c) (upd H p o) := by
  refine ⟨⟨⟨[p], rfl⟩, fun a u e _ l => ⟨by rw [upd_ne (ne_of_none e h)]; exact e, ?_⟩, dom_upd⟩, rfl, fun a ha => upd_ne fun z => g.noh h (z ▸ ha)⟩
  rintro (⟨n, c', e1, e2⟩ | hh)
  · have e2 : (w.mu ++ [some c])[n]? = some (some c') := e2
    rcases add_get (l := w.am) e1 with ⟨hn, e1⟩ | ⟨_, e1⟩
    · rw [List.getElem?_append_left (by rw [← g.len]; exact hn)] at e2
      exact l (.inl ⟨n, c', e1, e2⟩)
    · exact ne_of_none e h e1
  · exact l (.inr hh)
theorem Gd0.add {p : Addr} {o : HO} {c : Cell} (g : Gd0 K w H) (h : H p = none) (hc : CellR K (w.add p c) (upd H p o) p c) : Gd0 K (w.add p c) (upd H p o) := by
  refine ⟨by simp [Wo.add, g.len], ?_, fun a ha => ?_, fun a ha => ?_, fun n a c' e1 e2 => ?_⟩
  · show (w.am ++ [p]).Nodup
    rw [List.nodup_append]
    refine ⟨g.nd, by simp, fun a ha b hb => ?_⟩
    simp at hb; subst hb
    exact fun z => g.no h (z ▸ ha)
  · by_cases q : a = p
    · subst q; rw [upd_same]; simp
    · rw [upd_ne q]
      have : a ∈ (w.am ++ [p]) ++ w.hid := ha
      refine g.trk a ?_
      simp [q] at this
      simpa using this
  · have : a ∈ w.am ++ [p] := ha
    rcases List.mem_append.mp this with z | z
    · exact g.apart a z
    · simp at z; subst z; exact g.noh h
  · have e2 : (w.mu ++ [some c])[n]? = some (some c') := e2
    rcases add_get (l := w.am) e1 with ⟨hn, e1⟩ | ⟨hn, e1⟩
    · rw [List.getElem?_append_left (by rw [← g.len]; exact hn)] at e2
      have q : a ≠ p := fun z => g.no h (by rw [← z]; exact List.mem_of_getElem? e1)
      exact (g.cell n a c' e1 e2).mono (Ev.add g h).toKp (upd_ne q)
    · rw [List.getElem?_append_right (by rw [← g.len]; omega), ← g.len, hn] at e2
      simp at e2
      rw [← e2, e1]; exact hc
/-- a place that may change is changed -/
def Wo.put (w : Wo) (n : Nat) (c : Cell) : Wo := ⟨w.am, w.mu.set n (some c), w.hid⟩
theorem Kp.put {n : Nat} {a : Addr} {o : HO} {c c' : Cell} (e1 : w.am[n]? = some a) (e2 : w.mu[n]? = some (some c)) : Kp w H (w.put n c') (upd H a o) := by
  have la : Live w a := .inl ⟨n, c, e1, e2⟩
  refine ⟨⟨[], by simp [Wo.put]⟩, fun b u e _ l => ⟨?_, ?_⟩, dom_upd⟩
  · rw [upd_ne (fun z => l (by rw [z]; exact la))]; exact e
  · rintro (⟨m, d, f1, f2⟩ | hh)
    · have f2 : (w.mu.set n (some c'))[m]? = some (some d) := f2
      by_cases q : m = n
      · subst q
        cases Option.some.inj (e1.symm.trans f1)
        exact l la
      · rw [List.getElem?_set_ne (Ne.symm q)] at f2
        exact l (.inl ⟨m, d, f1, f2⟩)
    · exact l (.inr hh)
theorem Ev.put {n : Nat} {a : Addr} {o : HO} {c c' : Cell} (g : Gd0 K w H) (e1 : w.am[n]? = some a) (e2 : w.mu[n]? = some (some c)) : Ev w H (w.put n c') (upd H a o) :=
  ⟨Kp.put e1 e2, rfl, fun b hb => upd_ne fun z => g.apart a (List.mem_of_getElem? e1) (z ▸ hb)⟩
theorem nodup_get {α : Type} {l : List α} (h : l.Nodup) {i j : Nat} {x : α} (a : l[i]? = some x) (b : l[j]? = some x) : i = j := by
  obtain ⟨h1, e1⟩ := List.getElem?_eq_some_iff.mp a
  obtain ⟨h2, e2⟩ := List.getElem?_eq_some_iff.mp b
  exact (List.getElem_inj h).mp (e1.trans e2.symm)
theorem Gd0.put {n : Nat} {a : Addr} {o : HO} {c c' : Cell} (g : Gd0 K w H) (e1 : w.am[n]? = some a) (e2 : w.mu[n]? = some (some c)) (hc : CellR K (w.put n c') (upd H a o) a c') : Gd0 K (w.put n c') (upd H a o) := by
  refine ⟨by simp [Wo.put, g.len], g.nd, fun b hb => ?_, g.apart, fun m b d f1 f2 => ?_⟩
  · by_cases q : b = a
    · subst q; rw [upd_same]; simp
    · rw [upd_ne q]; exact g.trk b hb
  · have f2 : (w.mu.set n (some c'))[m]? = some (some d) := f2
    by_cases q : m = n
    · subst q
      cases Option.some.inj (e1.symm.trans f1)
      rw [List.getElem?_set_self (List.getElem?_eq_some_iff.mp e2).1] at f2
      cases f2
      exact hc
    · rw [List.getElem?_set_ne (Ne.symm q)] at f2
      have nb : b ≠ a := fun z => q (nodup_get g.nd (show w.am[m]? = some a from z ▸ f1) e1)
      exact (g.cell m b d f1 f2).mono (Kp.put e1 e2) (upd_ne nb)
/-- a place that may change is let stand for good -/
def Wo.fix (w : Wo) (n : Nat) : Wo := ⟨w.am, w.mu.set n none, w.hid⟩
theorem fix_get {m n : Nat} {l : Mu} {d : Cell} (f2 : (l.set n none)[m]? = some (some d)) : m ≠ n ∧ l[m]? = some (some d) := by
  by_cases q : m = n
  · subst q
    rw [List.getElem?_set] at f2
    split at f2
    · split at f2 <;> cases f2
    · rename_i z; exact absurd rfl z
  · rw [List.getElem?_set_ne (Ne.symm q)] at f2
    exact ⟨q, f2⟩
theorem Live.fix {n : Nat} {b : Addr} (l : Live (w.fix n) b) : Live w b := l.elim (fun ⟨m, d, f1, f2⟩ => .inl ⟨m, d, f1, (fix_get (l := w.mu) f2).2⟩) .inr
theorem Ev.fix {n : Nat} : Ev w H (w.fix n) H := ⟨⟨⟨[], by simp [Wo.fix]⟩, fun _ _ e _ l => ⟨e, fun z => l z.fix⟩, fun _ h => h⟩, rfl, fun _ _ => rfl⟩
theorem Gd0.fix {n : Nat} (g : Gd0 K w H) : Gd0 K (w.fix n) H :=
  ⟨by simp [Wo.fix, g.len], g.nd, g.trk, g.apart, fun m b d f1 f2 => (g.cell m b d f1 (fix_get (l := w.mu) f2).2).mono Ev.fix.toKp rfl⟩
theorem fix_dead {n : Nat} {a : Addr} (g : Gd0 K w H) (e1 : w.am[n]? = some a) : ¬ Live (w.fix n) a := by
  rintro (⟨m, d, f1, f2⟩ | hh)
  · exact (fix_get (l := w.mu) f2).1 (nodup_get g.nd f1 e1)
  · exact g.apart a (List.mem_of_getElem? e1) hh
/-- a new thing that is hidden for a while, and let stand for good behind it -/
def Wo.hide (w : Wo) (p : Addr) : Wo := ⟨w.am, w.mu, p :: w.hid⟩
theorem Kp.hide {p : Addr} {o : HO} (h : H p = none) : Kp w H (w.hide p) (upd H p o) := by
  refine ⟨⟨[], by simp [Wo.hide]⟩, fun a u e _ l => ⟨by rw [upd_ne (ne_of_none e h)]; exact e, ?_⟩, dom_upd⟩
  rintro (x | x)
  · exact l (.inl x)
  · rcases List.mem_cons.mp (show a ∈ p :: w.hid from x) with z | z
    · exact ne_of_none e h z
    · exact l (.inr z)
theorem Gd0.hide {p : Addr} {o : HO} (g : Gd0 K w H) (h : H p = none) : Gd0 K (w.hide p) (upd H p o) := by
  refine ⟨g.len, g.nd, fun a ha => ?_, fun a ha hh => ?_, fun n a c e1 e2 => ?_⟩
  · by_cases q : a = p
    · subst q; rw [upd_same]; simp
    · rw [upd_ne q]
      have : a ∈ w.am ++ p :: w.hid := ha
      refine g.trk a ?_
      simp [q] at this
      simpa using this
  · rcases List.mem_cons.mp (show a ∈ p :: w.hid from hh) with z | z
    · exact g.no h (z ▸ ha)
    · exact g.apart a ha z
  · have q : a ≠ p := fun z => g.no h (by rw [← z]; exact List.mem_of_getElem? e1)
    exact (g.cell n a c e1 e2).mono (Kp.hide h) (upd_ne q)
end

/-! ### what an exception must meet -/
abbrev KX := Addr → List Str → List D → Mu → Prop
/-- the text's written part, and where exceptions go -/
structure KK where
  K : PySem.W.Frag
  Ex : KX
  E : XK
  H0 : Hp
instance : CoeOut KK PySem.W.Frag := ⟨KK.K⟩
def XRep (K : PySem.W.Frag) (w : Wo) (H : Hp) (d : Option Addr) (ns : List Str) (ds : List D) : Prop := ∃ fs : List (Str × V), ExD w H d fs ∧ fs.map (·.1) = ns ∧ RpAll K w H ds (fs.map (·.2))
def FinX (k : KK) (w : Wo) (H : Hp) : Prop := ∀ C ns ds d w' H', Ev w H w' H' → Gd0 k.K w' H' → XRep k.K w' H' d ns ds → k.Ex C ns ds w'.mu → k.E (.ref C) d H'
structure Gd (k : KK) (w : Wo) (H : Hp) : Prop extends Gd0 k.K w H where
  fx : FinX k w H
  fr : ∀ a, k.H0 a ≠ none → H a ≠ none
section
variable {k : KK} {K : PySem.W.Frag} {w w' : Wo} {H H' : Hp}
theorem FinX.mono (f : FinX k w H) (e : Ev w H w' H') : FinX k w' H' := fun C ns ds d w2 H2 e2 g r t => f C ns ds d w2 H2 (e.trans e2) g r t
theorem XRep.mono {d : Option Addr} {ns : List Str} {ds : List D} (e : Kp w H w' H') (r : XRep K w H d ns ds) : XRep K w' H' d ns ds := by
  obtain ⟨fs, h1, h2, h3⟩ := r
  exact ⟨fs, e.exD h1, h2, RpAll.mono e _ _ h3⟩
/-- the hidden things go -/
theorem Live.drop {w : Wo} {hs : List Addr} (hh : ∀ a, a ∈ hs → a ∈ w.hid) {a : Addr} (l : Live ⟨w.am, w.mu, hs⟩ a) : Live w a := l.elim .inl fun z => .inr (hh a z)
theorem Kp.drop {w : Wo} {hs : List Addr} (hh : ∀ a, a ∈ hs → a ∈ w.hid) : Kp w H ⟨w.am, w.mu, hs⟩ H := ⟨⟨[], by simp⟩, fun a o h _ l => ⟨h, fun z => l (Live.drop hh z)⟩, fun _ h => h⟩
theorem Gd0.drop {w : Wo} {hs : List Addr} (g : Gd0 K w H) (hh : ∀ a, a ∈ hs → a ∈ w.hid) : Gd0 K ⟨w.am, w.mu, hs⟩ H :=
  ⟨g.len, g.nd, fun a ha => g.trk a (by
    rcases List.mem_append.mp ha with z | z
    · exact List.mem_append_left _ z
    · exact List.mem_append_right _ (hh a z)), fun a ha h2 => g.apart a ha (hh a h2), fun n a c h1 h2 => (g.cell n a c h1 h2).mono (Kp.drop hh) rfl⟩
theorem FinX.under (f : FinX k w H) (kp : Kp w H w' H') (hh : ∀ a, a ∈ w.hid → a ∈ w'.hid) (hk : ∀ a, a ∈ w.hid → H' a = H a) : FinX k w' H' := fun C ns ds d w2 H2 e2 g r t => by
  have h2 : ∀ a, a ∈ w.hid → a ∈ w2.hid := fun a ha => by rw [e2.hd]; exact hh a ha
  refine f C ns ds d ⟨w2.am, w2.mu, w.hid⟩ H2 ⟨(kp.trans e2.toKp).trans (Kp.drop h2), rfl, fun a ha => (e2.hk a (hh a ha)).trans (hk a ha)⟩ (g.drop h2) (r.mono (Kp.drop h2)) t
theorem Gd0.full (g : Gd0 K w H) {E : XK} : Gd ⟨K, fun _ _ _ _ => False, E, H⟩ w H := ⟨g, fun _ _ _ _ _ _ _ _ _ t => t.elim, fun _ h => h⟩
theorem Gd.step (g : Gd k w H) (e : Ev w H w' H') (g' : Gd0 k.K w' H') : Gd k w' H' := ⟨g', g.fx.mono e, fun a h => e.dom a (g.fr a h)⟩
theorem Gd.new {p : Addr} {o : HO} (g : Gd k w H) (h : H p = none) : Gd k w (upd H p o) := g.step (Ev.new g.toGd0 h) (g.toGd0.new h)
theorem Gd.add {p : Addr} {o : HO} {c : Cell} (g : Gd k w H) (h : H p = none) (hc : CellR k.K (w.add p c) (upd H p o) p c) : Gd k (w.add p c) (upd H p o) := g.step (Ev.add g.toGd0 h) (g.toGd0.add h hc)
theorem Gd.put {n : Nat} {a : Addr} {o : HO} {c c' : Cell} (g : Gd k w H) (e1 : w.am[n]? = some a) (e2 : w.mu[n]? = some (some c)) (hc : CellR k.K (w.put n c') (upd H a o) a c') : Gd k (w.put n c') (upd H a o) := g.step (Ev.put g.toGd0 e1 e2) (g.toGd0.put e1 e2 hc)
theorem Gd.fix {n : Nat} (g : Gd k w H) : Gd k (w.fix n) H := g.step Ev.fix g.toGd0.fix
theorem Gd.hide {p : Addr} {o : HO} (g : Gd k w H) (h : H p = none) : Gd k (w.hide p) (upd H p o) :=
  ⟨g.toGd0.hide h, g.fx.under (Kp.hide h) (fun a ha => List.mem_cons_of_mem _ ha) fun a ha => upd_ne fun z => g.noh h (z ▸ ha), fun a ha => dom_upd a (g.fr a ha)⟩
end

/-! ### the slots -/
def EnvR (K : PySem.W.Frag) (w : Wo) (H : Hp) (ρ : Env) (σ : L2.St) : Prop := ρ.length = σ.length ∧ ∀ (i : Nat) (d : D), ρ[i]? = some (some d) → ∃ v, σ[i]? = some (some v) ∧ Rp K w H d v
section
variable {K : PySem.W.Frag} {w w' : Wo} {H H' : Hp} {ρ : Env} {σ : L2.St}
theorem EnvR.mono (r : EnvR K w H ρ σ) (e : Kp w H w' H') : EnvR K w' H' ρ σ := ⟨r.1, fun i d h => let ⟨v, a, b⟩ := r.2 i d h; ⟨v, a, Rp.mono e d v b⟩⟩
theorem EnvR.set {d : D} {v : V} (i : Nat) (r : EnvR K w H ρ σ) (h : Rp K w H d v) : EnvR K w H (ρ.set i (some d)) (σ.set i (some v)) := by
  refine ⟨by simp [r.1], fun j e hj => ?_⟩
  by_cases q : j = i
  · subst q
    by_cases hl : j < ρ.length
    · rw [List.getElem?_set_self hl] at hj
      cases hj
      exact ⟨v, by rw [List.getElem?_set_self (by rw [← r.1]; exact hl)], h⟩
    · rw [List.getElem?_eq_none (by simpa using hl)] at hj; cases hj
  · rw [List.getElem?_set_ne (Ne.symm q)] at hj
    obtain ⟨v', a, b⟩ := r.2 j e hj
    exact ⟨v', by rw [List.getElem?_set_ne (Ne.symm q)]; exact a, b⟩
def wipeD (ρ : Env) : List Nat → Env
  | [] => ρ
  | v :: vs => (wipeD ρ vs).set v none
theorem EnvR.wipe (r : EnvR K w H ρ σ) : ∀ vs : List Nat, EnvR K w H (wipeD ρ vs) (L2.wipe σ vs)
  | [] => r
  | v :: vs => by
    have ih := EnvR.wipe r vs
    refine ⟨by simp [wipeD, L2.wipe, ih.1], fun j e hj => ?_⟩
    have hj : ((wipeD ρ vs).set v none)[j]? = some (some e) := hj
    by_cases q : j = v
    · subst q
      rw [List.getElem?_set] at hj
      split at hj
      · split at hj <;> cases hj
      · rename_i z; exact absurd rfl z
    · rw [List.getElem?_set_ne (Ne.symm q)] at hj
      obtain ⟨v', a, b⟩ := ih.2 j e hj
      exact ⟨v', by show ((L2.wipe σ vs).set v none)[j]? = _; rw [List.getElem?_set_ne (Ne.symm q)]; exact a, b⟩
end
end Tr
set_option Elab.async false
set_option linter.all false
set_option maxRecDepth 100000
namespace Tr
open PySem PySem.Spec PyProof.Rows L2

/-! ### what is wanted behind an expression, over trees -/
abbrev KD := D → Mu → Prop
abbrev KB := Bool → Mu → Prop
abbrev KA := List D → Mu → Prop
abbrev ET := Env → Mu → KD → Prop
abbrev BT := Env → Mu → KB → Prop
abbrev AT := Env → Mu → KA → Prop
abbrev R1D := D → Mu → KD → Prop
abbrev R2D := D → D → Mu → KD → Prop
abbrev RAD := List D → Mu → KD → Prop

def Fin (K : KK) (w : Wo) (H : Hp) (P : KD) (Q : VK) : Prop := ∀ d v w' H', Ev w H w' H' → Gd K w' H' → Rp K w' H' d v → P d w'.mu → Q v H'
def FinB (K : KK) (w : Wo) (H : Hp) (P : KB) (Q : Bool → Hp → Prop) : Prop := ∀ b w' H', Ev w H w' H' → Gd K w' H' → P b w'.mu → Q b H'
def FinA (K : KK) (w : Wo) (H : Hp) (P : KA) (Q : List V → Hp → Prop) : Prop := ∀ ds vs w' H', Ev w H w' H' → Gd K w' H' → RpAll K w' H' ds vs → P ds w'.mu → Q vs H'
section
variable {K : KK} {w w' : Wo} {H H' : Hp}
theorem Fin.mono {P : KD} {Q : VK} (f : Fin K w H P Q) (e : Ev w H w' H') : Fin K w' H' P Q := fun d v w2 H2 e2 g r p => f d v w2 H2 (e.trans e2) g r p
theorem FinB.mono {P : KB} {Q : Bool → Hp → Prop} (f : FinB K w H P Q) (e : Ev w H w' H') : FinB K w' H' P Q := fun d w2 H2 e2 g p => f d w2 H2 (e.trans e2) g p
theorem FinA.mono {P : KA} {Q : List V → Hp → Prop} (f : FinA K w H P Q) (e : Ev w H w' H') : FinA K w' H' P Q := fun d v w2 H2 e2 g r p => f d v w2 H2 (e.trans e2) g r p
theorem Fin.now {P : KD} {Q : VK} {d : D} {v : V} (f : Fin K w H P Q) (g : Gd K w H) (r : Rp K w H d v) (p : P d w.mu) : Q v H := f d v w H Ev.refl g r p
theorem Fin.int {P : KD} {Q : VK} {i : Int} (f : Fin K w H P Q) (g : Gd K w H) (p : P (.int i) w.mu) : Q (.int i) H := f (.int i) _ w H Ev.refl g rfl p
theorem Fin.st {P : KD} {Q : VK} {i : Str} (f : Fin K w H P Q) (g : Gd K w H) (p : P (.str i) w.mu) : Q (.str i) H := f (.str i) _ w H Ev.refl g rfl p
theorem Fin.bl {P : KD} {Q : VK} {i : Bool} (f : Fin K w H P Q) (g : Gd K w H) (p : P (.bl i) w.mu) : Q (.bl i) H := f (.bl i) _ w H Ev.refl g rfl p
theorem Fin.non {P : KD} {Q : VK} (f : Fin K w H P Q) (g : Gd K w H) (p : P .non w.mu) : Q .non H := f .non _ w H Ev.refl g rfl p
/-- a new thing that stands for good -/
theorem Fin.fresh {P : KD} {Q : VK} {d : D} {p : Addr} {o : HO} (f : Fin K w H P Q) (g : Gd K w H) (h : H p = none) (r : Gd K w (upd H p o) → ¬ Live w p → Rp K w (upd H p o) d (.ref p)) (q : P d w.mu) : Q (.ref p) (upd H p o) :=
  f d _ w _ (Ev.new g.toGd0 h) (g.new h) (r (g.new h) (g.dead h)) q
theorem rp_lst {p : Addr} {ds : List D} {vs : List V} (l : ¬ Live w p) (g : Gd K w H) (h : H p = none) (r : RpAll K w H ds vs) : Rp K w (upd H p (.lst vs)) (.lst ds) (.ref p) :=
  ⟨p, vs, rfl, ⟨l, upd_same⟩, RpAll.mono (Ev.new g.toGd0 h).toKp _ _ r⟩
theorem rp_tup {p : Addr} {ds : List D} {vs : List V} (l : ¬ Live w p) (g : Gd K w H) (h : H p = none) (r : RpAll K w H ds vs) : Rp K w (upd H p (.tup vs)) (.tup ds) (.ref p) :=
  ⟨p, vs, rfl, .inl ⟨l, upd_same⟩, RpAll.mono (Ev.new g.toGd0 h).toKp _ _ r⟩
theorem Fin.lst {P : KD} {Q : VK} {ds : List D} {vs : List V} {p : Addr} (f : Fin K w H P Q) (g : Gd K w H) (h : H p = none) (r : RpAll K w H ds vs) (q : P (.lst ds) w.mu) : Q (.ref p) (upd H p (.lst vs)) :=
  f _ _ w _ (Ev.new g.toGd0 h) (g.new h) (rp_lst (g.dead h) g h r) q
theorem Fin.tup {P : KD} {Q : VK} {ds : List D} {vs : List V} {p : Addr} (f : Fin K w H P Q) (g : Gd K w H) (h : H p = none) (r : RpAll K w H ds vs) (q : P (.tup ds) w.mu) : Q (.ref p) (upd H p (.tup vs)) :=
  f _ _ w _ (Ev.new g.toGd0 h) (g.new h) (rp_tup (g.dead h) g h r) q
end

def LE (K : KK) (t : ET) : TE := fun σ H Q => ∃ w ρ P, Gd K w H ∧ EnvR K w H ρ σ ∧ t ρ w.mu P ∧ Fin K w H P Q
def LB (K : KK) (t : BT) : TT := fun σ H Q => ∃ w ρ P, Gd K w H ∧ EnvR K w H ρ σ ∧ t ρ w.mu P ∧ FinB K w H P Q
def LA (K : KK) (t : AT) : TA := fun σ H Q => ∃ w ρ P, Gd K w H ∧ EnvR K w H ρ σ ∧ t ρ w.mu P ∧ FinA K w H P Q

section
variable {Ex : KX} {Ee : XK} {Hz : Hp} {X : Cx} {a b c e o : Expr} {es : List Expr} {pos : Pos} {ta tb tc te : ET} {sa : AT} {qa qb : BT}
theorem te_of {t0 : TE} {t : ET} (h : PE X e t0) (i : ∀ σ H Q, LE ⟨X.K, Ex, Ee, Hz⟩ t σ H Q → t0 σ H Q) : PE X e (LE ⟨X.K, Ex, Ee, Hz⟩ t) := ⟨fun pins s σ H Q I q => h.run pins s σ H Q I (i σ H Q q)⟩
theorem tb_of {t0 : TT} {t : BT} (h : PT X e t0) (i : ∀ σ H Q, LB ⟨X.K, Ex, Ee, Hz⟩ t σ H Q → t0 σ H Q) : PT X e (LB ⟨X.K, Ex, Ee, Hz⟩ t) := ⟨fun pins s σ H Q I q => h.run pins s σ H Q I (i σ H Q q)⟩
theorem tw_of {t0 : TT} {t : BT} (h : PW X e t0) (i : ∀ σ H Q, LB ⟨X.K, Ex, Ee, Hz⟩ t σ H Q → t0 σ H Q) : PW X e (LB ⟨X.K, Ex, Ee, Hz⟩ t) := ⟨fun wh pins s σ H Q I q => h.run wh pins s σ H Q I (i σ H Q q)⟩
theorem ta_of {t0 : TA} {t : AT} (h : PA X es t0) (i : ∀ σ H Q, LA ⟨X.K, Ex, Ee, Hz⟩ t σ H Q → t0 σ H Q) : PA X es (LA ⟨X.K, Ex, Ee, Hz⟩ t) := ⟨fun p pins s σ H Q I q => h.run p pins s σ H Q I (i σ H Q q)⟩

/-! ### names, constants -/
def eVar (i : Nat) : ET := fun ρ μ P => match ρ[i]? with
  | some (some d) => P d μ
  | _ => False
theorem te_var {i : Nat} (h : PE X e (tVar i)) : PE X e (LE ⟨X.K, Ex, Ee, Hz⟩ (eVar i)) := te_of h fun σ H Q ⟨w, ρ, P, g, r, t, f⟩ => by
  unfold eVar at t
  split at t
  · rename_i d hd
    obtain ⟨v, h1, h2⟩ := r.2 i d hd
    exact ⟨v, h1, f.now g h2 t⟩
  · exact t.elim
def eC (d : D) : ET := fun _ μ P => P d μ
theorem te_int {i : Int} {j} : PE X (.Constant (.int i) j pos) (LE ⟨X.K, Ex, Ee, Hz⟩ (eC (.int i))) := te_of pe_int fun σ H Q ⟨w, ρ, P, g, r, t, f⟩ => f.now g (show Rp X.K w H (.int i) (.int i) from rfl) t
theorem te_bl {i : Bool} {j} : PE X (.Constant (.bool i) j pos) (LE ⟨X.K, Ex, Ee, Hz⟩ (eC (.bl i))) := te_of pe_bl fun σ H Q ⟨w, ρ, P, g, r, t, f⟩ => f.now g (show Rp X.K w H (.bl i) (.bl i) from rfl) t
theorem te_non {j} : PE X (.Constant .none j pos) (LE ⟨X.K, Ex, Ee, Hz⟩ (eC .non)) := te_of pe_non fun σ H Q ⟨w, ρ, P, g, r, t, f⟩ => f.now g (show Rp X.K w H .non .non from rfl) t
theorem te_str {i : Str} {j} : PE X (.Constant (.str i) j pos) (LE ⟨X.K, Ex, Ee, Hz⟩ (eC (.str i))) := te_of pe_str fun σ H Q ⟨w, ρ, P, g, r, t, f⟩ => f.now g (show Rp X.K w H (.str i) (.str i) from rfl) t
theorem te_c {v : V} {d : D} (h : PE X e (tC v)) (r : ∀ w H, Rp X.K w H d v) : PE X e (LE ⟨X.K, Ex, Ee, Hz⟩ (eC d)) := te_of h fun σ H Q ⟨w, ρ, P, g, _, t, f⟩ => f.now g (r w H) t

/-! ### two operands -/
def OpD (K : KK) (r : R2) (rd : R2D) : Prop := ∀ w H x y dx dy P Q, Gd K w H → Rp K w H dx x → Rp K w H dy y → rd dx dy w.mu P → Fin K w H P Q → r x y H Q
def eOp (rd : R2D) (ta tb : ET) : ET := fun ρ μ P => ta ρ μ fun x μ1 => tb ρ μ1 fun y μ2 => rd x y μ2 P
theorem lift_op {K : KK} {r : R2} {rd : R2D} (h : OpD K r rd) (σ : L2.St) (H : Hp) (Q : VK) (q : LE K (eOp rd ta tb) σ H Q) : tOp r (LE K ta) (LE K tb) σ H Q := by
  obtain ⟨w, ρ, P, g, er, t, f⟩ := q
  refine ⟨w, ρ, _, g, er, t, fun x v w1 H1 e1 g1 r1 t1 => ?_⟩
  refine ⟨w1, ρ, _, g1, er.mono e1.toKp, t1, fun y u w2 H2 e2 g2 r2 t2 => ?_⟩
  exact h w2 H2 v u x y P Q g2 (Rp.mono e2.toKp _ _ r1) r2 t2 (f.mono (e1.trans e2))
theorem te_op {op : Operator} {r : R2} {rd : R2D} (ho : OpR X (binaryOp op) r) (hd : OpD ⟨X.K, Ex, Ee, Hz⟩ r rd) (ha : PE X a (LE ⟨X.K, Ex, Ee, Hz⟩ ta)) (hb : PE X b (LE ⟨X.K, Ex, Ee, Hz⟩ tb)) : PE X (.BinOp a op b pos) (LE ⟨X.K, Ex, Ee, Hz⟩ (eOp rd ta tb)) :=
  te_of (pe_op ho ha hb) (lift_op hd)
theorem te_cmp {op : CmpOp} {r : R2} {rd : R2D} (ho : OpR X (compareOp op) r) (hd : OpD ⟨X.K, Ex, Ee, Hz⟩ r rd) (ha : PE X a (LE ⟨X.K, Ex, Ee, Hz⟩ ta)) (hb : PE X b (LE ⟨X.K, Ex, Ee, Hz⟩ tb)) (hm : behindInMarks op b = false) : PE X (.Compare a [op] [b] pos) (LE ⟨X.K, Ex, Ee, Hz⟩ (eOp rd ta tb)) :=
  te_of (pe_cmpR ho ha hb hm) (lift_op hd)
def onB (d : D) (f : Bool → Prop) : Prop := match d with
  | .bl b => f b
  | _ => False
/-- a value that is True or False, as a test -/
def bB (t : ET) : BT := fun ρ μ P => t ρ μ fun d μ1 => onB d fun b => P b μ1
theorem lift_bB {K : KK} {t0 : TE} {t : ET} (h : ∀ σ H Q, LE K t σ H Q → t0 σ H Q) (σ : L2.St) (H : Hp) (Q : Bool → Hp → Prop) (q : LB K (bB t) σ H Q) : tTest t0 σ H Q := by
  obtain ⟨w, ρ, P, g, er, t, f⟩ := q
  refine h σ H _ ⟨w, ρ, _, g, er, t, fun x v w1 H1 e1 g1 r1 t1 => ?_⟩
  cases x with
  | bl b => exact ⟨b, r1, f b w1 H1 e1 g1 t1⟩
  | _ => exact t1.elim
theorem tb_cmp {op : CmpOp} {r : R2} {rd : R2D} (ho : OpR X (compareOp op) r) (hd : OpD ⟨X.K, Ex, Ee, Hz⟩ r rd) (ha : PE X a (LE ⟨X.K, Ex, Ee, Hz⟩ ta)) (hb : PE X b (LE ⟨X.K, Ex, Ee, Hz⟩ tb)) (hm : behindInMarks op b = false) : PT X (.Compare a [op] [b] pos) (LB ⟨X.K, Ex, Ee, Hz⟩ (bB (eOp rd ta tb))) :=
  tb_of (pt_cmpR ho ha hb hm) (lift_bB (lift_op hd))
def eChain (rd rd' : R2D) (ta tb tc : ET) : ET := fun ρ μ P => ta ρ μ fun x μ1 => tb ρ μ1 fun y μ2 => rd x y μ2 fun z μ3 => onB z fun k =>
  if k = true then tc ρ μ3 fun w μ4 => rd' y w μ4 P else P (.bl false) μ3
theorem lift_chain {K : KK} {r r' : R2} {rd rd' : R2D} (h : OpD K r rd) (h' : OpD K r' rd') (σ : L2.St) (H : Hp) (Q : VK) (q : LE K (eChain rd rd' ta tb tc) σ H Q) : tChain r r' (LE K ta) (LE K tb) (LE K tc) σ H Q := by
  obtain ⟨w, ρ, P, g, er, t, f⟩ := q
  refine ⟨w, ρ, _, g, er, t, fun x v w1 H1 e1 g1 r1 t1 => ?_⟩
  refine ⟨w1, ρ, _, g1, er.mono e1.toKp, t1, fun y u w2 H2 e2 g2 r2 t2 => ?_⟩
  refine h w2 H2 v u x y _ _ g2 (Rp.mono e2.toKp _ _ r1) r2 t2 fun z k w3 H3 e3 g3 r3 t3 => ?_
  cases z with
  | bl b =>
    refine ⟨b, r3, ?_⟩
    have t3 : if b = true then _ else _ := t3
    cases b with
    | true =>
      rw [if_pos rfl] at t3 ⊢
      refine ⟨w3, ρ, _, g3, er.mono ((e1.trans e2).trans e3).toKp, t3, fun z' k' w4 H4 e4 g4 r4 t4 => ?_⟩
      exact h' w4 H4 u k' y z' P Q g4 (Rp.mono (e3.trans e4).toKp _ _ r2) r4 t4 (f.mono (((e1.trans e2).trans e3).trans e4))
    | false =>
      rw [if_neg Bool.false_ne_true] at t3 ⊢
      exact f.mono ((e1.trans e2).trans e3) (.bl false) _ w3 H3 Ev.refl g3 rfl t3
  | _ => exact t3.elim
theorem te_chain {op op' : CmpOp} {r r' : R2} {rd rd' : R2D} (ho : OpR X (compareOp op) r) (hd : OpD ⟨X.K, Ex, Ee, Hz⟩ r rd) (ho' : OpR X (compareOp op') r') (hd' : OpD ⟨X.K, Ex, Ee, Hz⟩ r' rd') (ha : PE X a (LE ⟨X.K, Ex, Ee, Hz⟩ ta)) (hb : PE X b (LE ⟨X.K, Ex, Ee, Hz⟩ tb)) (hc : PE X c (LE ⟨X.K, Ex, Ee, Hz⟩ tc))
    (hm : lastMarks [op, op'] [b, c] = false := by with_unfolding_all rfl) : PE X (.Compare a [op, op'] [b, c] pos) (LE ⟨X.K, Ex, Ee, Hz⟩ (eChain rd rd' ta tb tc)) :=
  te_of (pe_chain ho ho' ha hb hc hm) (lift_chain hd hd')
theorem tb_chain {op op' : CmpOp} {r r' : R2} {rd rd' : R2D} (ho : OpR X (compareOp op) r) (hd : OpD ⟨X.K, Ex, Ee, Hz⟩ r rd) (ho' : OpR X (compareOp op') r') (hd' : OpD ⟨X.K, Ex, Ee, Hz⟩ r' rd') (ha : PE X a (LE ⟨X.K, Ex, Ee, Hz⟩ ta)) (hb : PE X b (LE ⟨X.K, Ex, Ee, Hz⟩ tb)) (hc : PE X c (LE ⟨X.K, Ex, Ee, Hz⟩ tc))
    (hm : lastMarks [op, op'] [b, c] = false := by with_unfolding_all rfl) : PT X (.Compare a [op, op'] [b, c] pos) (LB ⟨X.K, Ex, Ee, Hz⟩ (bB (eChain rd rd' ta tb tc))) :=
  tb_of (pt_chain ho ho' ha hb hc hm) (lift_bB (lift_chain hd hd'))

/-! ### and, or, not, if else -/
def bAnd (s t : BT) : BT := fun ρ μ P => s ρ μ fun b μ1 => if b = true then t ρ μ1 P else P false μ1
def bOr (s t : BT) : BT := fun ρ μ P => s ρ μ fun b μ1 => if b = true then P true μ1 else t ρ μ1 P
def bNot (s : BT) : BT := fun ρ μ P => s ρ μ fun b μ1 => P (!b) μ1
theorem tw_and1 (ha : PT X a (LB ⟨X.K, Ex, Ee, Hz⟩ qa)) : PW X (.BoolOp .And [a] pos) (LB ⟨X.K, Ex, Ee, Hz⟩ qa) := pw_and1 ha
theorem tw_or1 (ha : PT X a (LB ⟨X.K, Ex, Ee, Hz⟩ qa)) : PW X (.BoolOp .Or [a] pos) (LB ⟨X.K, Ex, Ee, Hz⟩ qa) := pw_or1 ha
theorem tw_and {rest : List Expr} (ha : PT X a (LB ⟨X.K, Ex, Ee, Hz⟩ qa)) (hb : PW X (.BoolOp .And (b :: rest) pos) (LB ⟨X.K, Ex, Ee, Hz⟩ qb)) : PW X (.BoolOp .And (a :: b :: rest) pos) (LB ⟨X.K, Ex, Ee, Hz⟩ (bAnd qa qb)) :=
  tw_of (pw_and ha hb) fun σ H Q ⟨w, ρ, P, g, er, t, f⟩ => ⟨w, ρ, _, g, er, t, fun k w1 H1 e1 g1 t1 => by
    cases k with
    | true => rw [if_pos rfl] at t1 ⊢; exact ⟨w1, ρ, P, g1, er.mono e1.toKp, t1, f.mono e1⟩
    | false => rw [if_neg Bool.false_ne_true] at t1 ⊢; exact f false w1 H1 e1 g1 t1⟩
theorem tw_or {rest : List Expr} (ha : PT X a (LB ⟨X.K, Ex, Ee, Hz⟩ qa)) (hb : PW X (.BoolOp .Or (b :: rest) pos) (LB ⟨X.K, Ex, Ee, Hz⟩ qb)) : PW X (.BoolOp .Or (a :: b :: rest) pos) (LB ⟨X.K, Ex, Ee, Hz⟩ (bOr qa qb)) :=
  tw_of (pw_or ha hb) fun σ H Q ⟨w, ρ, P, g, er, t, f⟩ => ⟨w, ρ, _, g, er, t, fun k w1 H1 e1 g1 t1 => by
    cases k with
    | true => rw [if_pos rfl] at t1 ⊢; exact f true w1 H1 e1 g1 t1
    | false => rw [if_neg Bool.false_ne_true] at t1 ⊢; exact ⟨w1, ρ, P, g1, er.mono e1.toKp, t1, f.mono e1⟩⟩
theorem tb_not (ha : PT X a (LB ⟨X.K, Ex, Ee, Hz⟩ qa)) : PT X (.UnaryOp .Not a pos) (LB ⟨X.K, Ex, Ee, Hz⟩ (bNot qa)) :=
  tb_of (pt_not ha) fun σ H Q ⟨w, ρ, P, g, er, t, f⟩ => ⟨w, ρ, _, g, er, t, fun k w1 H1 e1 g1 t1 => f _ w1 H1 e1 g1 t1⟩
def eAnd (ta tb : ET) : ET := fun ρ μ P => ta ρ μ fun d μ1 => onB d fun k => if k = true then tb ρ μ1 P else P (.bl false) μ1
def eOr (ta tb : ET) : ET := fun ρ μ P => ta ρ μ fun d μ1 => onB d fun k => if k = true then P (.bl true) μ1 else tb ρ μ1 P
def eNot (ta : ET) : ET := fun ρ μ P => ta ρ μ fun d μ1 => onB d fun b => P (.bl (!b)) μ1
theorem te_one {op : BoolOp} (h : PE X a (LE ⟨X.K, Ex, Ee, Hz⟩ ta)) : PE X (.BoolOp op [a] pos) (LE ⟨X.K, Ex, Ee, Hz⟩ ta) := pe_one h
theorem te_and {rest : List Expr} (ha : PE X a (LE ⟨X.K, Ex, Ee, Hz⟩ ta)) (hb : PE X (.BoolOp .And (b :: rest) pos) (LE ⟨X.K, Ex, Ee, Hz⟩ tb)) : PE X (.BoolOp .And (a :: b :: rest) pos) (LE ⟨X.K, Ex, Ee, Hz⟩ (eAnd ta tb)) :=
  te_of (pe_and ha hb) fun σ H Q ⟨w, ρ, P, g, er, t, f⟩ => ⟨w, ρ, _, g, er, t, fun d v w1 H1 e1 g1 r1 t1 => by
    cases d with
    | bl k =>
      refine ⟨k, r1, ?_⟩
      have t1 : if k = true then _ else _ := t1
      cases k with
      | true => rw [if_pos rfl] at t1 ⊢; exact ⟨w1, ρ, P, g1, er.mono e1.toKp, t1, f.mono e1⟩
      | false => rw [if_neg Bool.false_ne_true] at t1 ⊢; exact f (.bl false) _ w1 H1 e1 g1 rfl t1
    | _ => exact t1.elim⟩
theorem te_or {rest : List Expr} (ha : PE X a (LE ⟨X.K, Ex, Ee, Hz⟩ ta)) (hb : PE X (.BoolOp .Or (b :: rest) pos) (LE ⟨X.K, Ex, Ee, Hz⟩ tb)) : PE X (.BoolOp .Or (a :: b :: rest) pos) (LE ⟨X.K, Ex, Ee, Hz⟩ (eOr ta tb)) :=
  te_of (pe_or ha hb) fun σ H Q ⟨w, ρ, P, g, er, t, f⟩ => ⟨w, ρ, _, g, er, t, fun d v w1 H1 e1 g1 r1 t1 => by
    cases d with
    | bl k =>
      refine ⟨k, r1, ?_⟩
      have t1 : if k = true then _ else _ := t1
      cases k with
      | true => rw [if_pos rfl] at t1 ⊢; exact f (.bl true) _ w1 H1 e1 g1 rfl t1
      | false => rw [if_neg Bool.false_ne_true] at t1 ⊢; exact ⟨w1, ρ, P, g1, er.mono e1.toKp, t1, f.mono e1⟩
    | _ => exact t1.elim⟩
theorem te_not (ha : PE X a (LE ⟨X.K, Ex, Ee, Hz⟩ ta)) : PE X (.UnaryOp .Not a pos) (LE ⟨X.K, Ex, Ee, Hz⟩ (eNot ta)) :=
  te_of (pe_not ha) fun σ H Q ⟨w, ρ, P, g, er, t, f⟩ => ⟨w, ρ, _, g, er, t, fun d v w1 H1 e1 g1 r1 t1 => by
    cases d with
    | bl k => exact ⟨k, r1, f (.bl (!k)) _ w1 H1 e1 g1 rfl t1⟩
    | _ => exact t1.elim⟩
def eIf (q : BT) (ta tb : ET) : ET := fun ρ μ P => q ρ μ fun b μ1 => if b = true then ta ρ μ1 P else tb ρ μ1 P
theorem te_if (hc : PT X c (LB ⟨X.K, Ex, Ee, Hz⟩ qa)) (ha : PE X a (LE ⟨X.K, Ex, Ee, Hz⟩ ta)) (hb : PE X b (LE ⟨X.K, Ex, Ee, Hz⟩ tb)) : PE X (.IfExp c a b pos) (LE ⟨X.K, Ex, Ee, Hz⟩ (eIf qa ta tb)) :=
  te_of (pe_ifExp hc ha hb) fun σ H Q ⟨w, ρ, P, g, er, t, f⟩ => ⟨w, ρ, _, g, er, t, fun k w1 H1 e1 g1 t1 => by
    cases k with
    | true => rw [if_pos rfl] at t1 ⊢; exact ⟨w1, ρ, P, g1, er.mono e1.toKp, t1, f.mono e1⟩
    | false => rw [if_neg Bool.false_ne_true] at t1 ⊢; exact ⟨w1, ρ, P, g1, er.mono e1.toKp, t1, f.mono e1⟩⟩

/-! ### argument lists, displays -/
def aNil : AT := fun _ μ P => P [] μ
def aCons (t : ET) (s : AT) : AT := fun ρ μ P => t ρ μ fun d μ1 => s ρ μ1 fun ds μ2 => P (d :: ds) μ2
theorem ta_nil : PA X [] (LA ⟨X.K, Ex, Ee, Hz⟩ aNil) := ta_of pa_nil fun σ H Q ⟨w, ρ, P, g, er, t, f⟩ => f [] [] w H Ev.refl g rfl t
theorem ta_cons (ha : PE X e (LE ⟨X.K, Ex, Ee, Hz⟩ te)) (hr : PA X es (LA ⟨X.K, Ex, Ee, Hz⟩ sa)) (hs : starEach (e :: es) X.env = (false, eval e X.env) :: starEach es X.env := by rfl) : PA X (e :: es) (LA ⟨X.K, Ex, Ee, Hz⟩ (aCons te sa)) :=
  ta_of (pa_cons ha hr hs) fun σ H Q ⟨w, ρ, P, g, er, t, f⟩ => ⟨w, ρ, _, g, er, t, fun d v w1 H1 e1 g1 r1 t1 =>
    ⟨w1, ρ, _, g1, er.mono e1.toKp, t1, fun ds vs w2 H2 e2 g2 r2 t2 => f (d :: ds) (v :: vs) w2 H2 (e1.trans e2) g2 ⟨v, vs, rfl, Rp.mono e2.toKp _ _ r1, r2⟩ t2⟩⟩
def eTup (s : AT) : ET := fun ρ μ P => s ρ μ fun ds μ1 => ds.length ≤ sizeLine ∧ P (.tup ds) μ1
def eLst (s : AT) : ET := fun ρ μ P => s ρ μ fun ds μ1 => ds.length ≤ sizeLine ∧ P (.lst ds) μ1
theorem te_tup {x1} (h : PA X es (LA ⟨X.K, Ex, Ee, Hz⟩ sa)) : PE X (.Tuple es x1 pos) (LE ⟨X.K, Ex, Ee, Hz⟩ (eTup sa)) :=
  te_of (pe_tup h) fun σ H Q ⟨w, ρ, P, g, er, t, f⟩ => ⟨w, ρ, _, g, er, t, fun ds vs w1 H1 e1 g1 r1 ⟨hl, t1⟩ => ⟨by rw [r1.length]; exact hl, fun p hp => (f.mono e1).tup g1 hp r1 t1⟩⟩
theorem te_lst (h : PA X es (LA ⟨X.K, Ex, Ee, Hz⟩ sa)) : PE X (.List es pos) (LE ⟨X.K, Ex, Ee, Hz⟩ (eLst sa)) :=
  te_of (pe_lst h) fun σ H Q ⟨w, ρ, P, g, er, t, f⟩ => ⟨w, ρ, _, g, er, t, fun ds vs w1 H1 e1 g1 r1 ⟨hl, t1⟩ => ⟨by rw [r1.length]; exact hl, fun p hp => (f.mono e1).lst g1 hp r1 t1⟩⟩
/-- .. a list that may change -/
def eLstL (s : AT) : ET := fun ρ μ P => s ρ μ fun ds μ1 => ds.length ≤ sizeLine ∧ P (.loc μ1.length) (μ1 ++ [some (.lst ds)])
theorem fin_add {K : KK} {w : Wo} {H : Hp} {P : KD} {Q : VK} {p : Addr} {o : HO} {cl : Cell} (f : Fin K w H P Q) (g : Gd K w H) (h : H p = none) (hc : CellR K (w.add p cl) (upd H p o) p cl) (q : P (.loc w.mu.length) (w.mu ++ [some cl])) : Q (.ref p) (upd H p o) :=
  f (.loc w.mu.length) (.ref p) (w.add p cl) _ (Ev.add g.toGd0 h) (g.add h hc) ⟨p, rfl, by show (w.am ++ [p])[w.mu.length]? = some p; rw [← g.len]; simp⟩ q
theorem te_lstL (h : PA X es (LA ⟨X.K, Ex, Ee, Hz⟩ sa)) : PE X (.List es pos) (LE ⟨X.K, Ex, Ee, Hz⟩ (eLstL sa)) :=
  te_of (pe_lst h) fun σ H Q ⟨w, ρ, P, g, er, t, f⟩ => ⟨w, ρ, _, g, er, t, fun ds vs w1 H1 e1 g1 r1 ⟨hl, t1⟩ => ⟨by rw [r1.length]; exact hl, fun p hp =>
    fin_add (cl := .lst ds) (f.mono e1) g1 hp ⟨vs, upd_same, RpAll.mono (Ev.add g1.toGd0 hp).toKp _ _ r1⟩ t1⟩⟩

/-! ### calls -/
def CallD (K : KK) (r : List V → Hp → VK → Prop) (rd : RAD) : Prop := ∀ w H vs ds P Q, Gd K w H → RpAll K w H ds vs → rd ds w.mu P → Fin K w H P Q → r vs H Q
def eCall (rd : RAD) (s : AT) : ET := fun ρ μ P => s ρ μ fun ds μ1 => rd ds μ1 P
theorem lift_call {K : KK} {r : List V → Hp → VK → Prop} {rd : RAD} (h : CallD K r rd) (σ : L2.St) (H : Hp) (Q : VK) (q : LE K (eCall rd sa) σ H Q) : tCB r (LA K sa) σ H Q := by
  obtain ⟨w, ρ, P, g, er, t, f⟩ := q
  exact ⟨w, ρ, _, g, er, t, fun ds vs w1 H1 e1 g1 r1 t1 => h w1 H1 vs ds P Q g1 r1 t1 (f.mono e1)⟩
theorem te_callB {x : Str} {p : Pos} {id : String} {r : List V → Hp → VK → Prop} {rd : RAD} (hc : CallR X (.builtin id) r) (hd : CallD ⟨X.K, Ex, Ee, Hz⟩ r rd) (hg : Gl X x) (hm : X.mg x = none) (hv : bootBuiltins x = some (.builtin id)) (ha : PA X (e :: es) (LA ⟨X.K, Ex, Ee, Hz⟩ sa))
    (hn : x ≠ "__name__" := by decide) (hdb : (x == ("__debug__" : Str)) = false := by decide) (he : starEach (e :: es) X.env = (false, eval e X.env) :: starEach es X.env := by rfl) (hpl : (backTo pos (starEach es X.env)).any (·.1) = false := by rfl) :
    PE X (.Call (.Name x p) (e :: es) [] pos) (LE ⟨X.K, Ex, Ee, Hz⟩ (eCall rd sa)) := te_of (pe_callB hc hg hm hv ha hn hdb he hpl) (lift_call hd)
theorem te_callTy {x : Str} {p : Pos} {T : String} {r : List V → Hp → VK → Prop} {rd : RAD} (hc : CallR X (.type T) r) (hd : CallD ⟨X.K, Ex, Ee, Hz⟩ r rd) (hg : Gl X x) (hm : X.mg x = none) (hv : bootBuiltins x = some (.type T)) (ha : PA X (e :: es) (LA ⟨X.K, Ex, Ee, Hz⟩ sa))
    (hn : x ≠ "__name__" := by decide) (hdb : (x == ("__debug__" : Str)) = false := by decide) (he : starEach (e :: es) X.env = (false, eval e X.env) :: starEach es X.env := by rfl) (hpl : (backTo pos (starEach es X.env)).any (·.1) = false := by rfl) :
    PE X (.Call (.Name x p) (e :: es) [] pos) (LE ⟨X.K, Ex, Ee, Hz⟩ (eCall rd sa)) := te_of (pe_callTy hc hg hm hv ha hn hdb he hpl) (lift_call hd)

/-! ### own defs that raise nothing -/
def SpOf (K : PySem.W.Frag) (sp : RAD) : Sp := fun vs H Q _ => ∃ Ex E Hz w ds P, Gd ⟨K, Ex, E, Hz⟩ w H ∧ RpAll K w H ds vs ∧ sp ds w.mu P ∧ Fin ⟨K, Ex, E, Hz⟩ w H P Q
abbrev FnD (P : Program) (wd : World) (K : PySem.W.Frag) (mg : Str → Option Value) (base : Heap) (k : Nat) (f : Addr) (fd : FuncData) (ps : List Str) (sp : RAD) : Prop := FnOk P wd K mg base CX0 k f fd ps (SpOf K sp)
theorem te_call {x : Str} {p : Pos} {k : Nat} {f : Addr} {fd : FuncData} {ps : List Str} {sp : RAD} (F : FnD X.prog X.w X.K X.mg X.base k f fd ps sp) (hr : Room k X.A) (hg : Gl X x) (hm : X.mg x = some (.ref f)) (hk : PySem.W.keepIn X.K (.ref f) = true)
    (hb : Binds X.K fd ps []) (ha : PA X (e :: es) (LA ⟨X.K, Ex, Ee, Hz⟩ sa)) (hdb : (x == ("__debug__" : Str)) = false := by decide) (he : starEach (e :: es) X.env = (false, eval e X.env) :: starEach es X.env := by rfl)
    (hpl : (backTo pos (starEach es X.env)).any (·.1) = false := by rfl) : PE X (.Call (.Name x p) (e :: es) [] pos) (LE ⟨X.K, Ex, Ee, Hz⟩ (eCall sp sa)) :=
  te_of (pe_call F hr hg hm hk hb .nil pass0 ha hdb he hpl) fun σ H Q ⟨w, ρ, P, g, er, t, f⟩ => ⟨w, ρ, _, g, er, t, fun ds vs w1 H1 e1 g1 r1 t1 => by
    show SpOf X.K sp (vs ++ []) H1 Q E0
    rw [List.append_nil]
    exact ⟨Ex, Ee, Hz, w1, ds, P, g1, r1, t1, f.mono e1⟩⟩
theorem te_call0 {x : Str} {p : Pos} {k : Nat} {f : Addr} {fd : FuncData} {ps : List Str} {sp : RAD} (F : FnD X.prog X.w X.K X.mg X.base k f fd ps sp) (hr : Room k X.A) (hg : Gl X x) (hm : X.mg x = some (.ref f)) (hk : PySem.W.keepIn X.K (.ref f) = true)
    (hb : Binds X.K fd ps []) (hdb : (x == ("__debug__" : Str)) = false := by decide) : PE X (.Call (.Name x p) [] [] pos) (LE ⟨X.K, Ex, Ee, Hz⟩ (eCall sp aNil)) :=
  te_of (pe_call0 F hr hg hm hk hb .nil pass0 hdb) fun σ H Q ⟨w, ρ, P, g, er, t, f⟩ => ⟨Ex, Ee, Hz, w, [], P, g, rfl, t, f⟩
/-- keywords behind the positional ones, in any order: gD puts them into the parameters' order -/
def eCallK (sp : RAD) (gD : List D → List D → List D) (s s' : AT) : ET := fun ρ μ P => s ρ μ fun ds μ1 => s' ρ μ1 fun es μ2 => sp (gD ds es) μ2 P
theorem tk_nil : PK X [] (LA ⟨X.K, Ex, Ee, Hz⟩ aNil) := ⟨fun pos pins s σ H Q I ⟨w, ρ, P, g, er, t, f⟩ => pk_nil.run pos pins s σ H Q I (f [] [] w H Ev.refl g rfl t)⟩
theorem tk_cons {nm : Option Str} {kpos : Pos} {kws : List Keyword} (ha : PE X e (LE ⟨X.K, Ex, Ee, Hz⟩ te)) (hr : PK X kws (LA ⟨X.K, Ex, Ee, Hz⟩ sa)) : PK X (⟨nm, e, kpos⟩ :: kws) (LA ⟨X.K, Ex, Ee, Hz⟩ (aCons te sa)) :=
  ⟨fun pos pins s σ H Q I ⟨w, ρ, P, g, er, t, f⟩ => (pk_cons ha hr).run pos pins s σ H Q I ⟨w, ρ, _, g, er, t, fun d v w1 H1 e1 g1 r1 t1 =>
    ⟨w1, ρ, _, g1, er.mono e1.toKp, t1, fun ds vs w2 H2 e2 g2 r2 t2 => f (d :: ds) (v :: vs) w2 H2 (e1.trans e2) g2 ⟨v, vs, rfl, Rp.mono e2.toKp _ _ r1, r2⟩ t2⟩⟩⟩

/-! ### a value's truth -/
def dTru : D → Option Bool
  | .non => some false
  | .bl b => some b
  | .int i => some (i != 0)
  | .str x => some ((x.length : Int) != 0)
  | .lst xs => some (!xs.isEmpty)
  | .tup xs => some (!xs.isEmpty)
  | _ => none
def sized : D → Prop
  | .str x => x.length ≤ sizeLine
  | _ => True
theorem dTru_ok {K : KK} {w : Wo} {H : Hp} {d : D} {v : V} {b : Bool} (r : Rp K w H d v) (h : dTru d = some b) (z : sized d) : TruV K v H b := by
  have em : ∀ {ds : List D} {vs : List V}, RpAll K w H ds vs → vs.isEmpty = ds.isEmpty := fun {ds vs} h => by
    cases ds with
    | nil => rw [show vs = [] from h]; rfl
    | cons d ds => obtain ⟨v, r, e, _⟩ := h; rw [e]; rfl
  cases d with
  | non => cases h; rw [show v = _ from r]; exact rfl
  | bl k => cases h; rw [show v = _ from r]; exact rfl
  | int k => cases h; rw [show v = _ from r]; exact rfl
  | str k => cases h; rw [show v = _ from r]; exact ⟨z, rfl⟩
  | lst xs => cases h; obtain ⟨a, vs, e, h1, h2⟩ := r; subst e; exact .inl ⟨vs, h1.sq, by rw [em h2]⟩
  | tup xs => cases h; obtain ⟨a, vs, e, h1, h2⟩ := r; subst e; exact .inr (.inl ⟨vs, h1.sq, by rw [em h2]⟩)
  | _ => cases h
def bT (t : ET) : BT := fun ρ μ P => t ρ μ fun d μ1 => sized d ∧ match dTru d with
  | some b => P b μ1
  | none => False
theorem tb_truth (ha : PE X a (LE ⟨X.K, Ex, Ee, Hz⟩ ta)) (he : ∀ whole, isTrue a X.env whole = (do let v ← whole; standAt a.pos; holding [v] (truthy v)) := by intro _; rfl) : PT X a (LB ⟨X.K, Ex, Ee, Hz⟩ (bT ta)) :=
  tb_of (pt_truth ha he) fun σ H Q ⟨w, ρ, P, g, er, t, f⟩ => ⟨w, ρ, _, g, er, t, fun d v w1 H1 e1 g1 r1 ⟨z, t1⟩ => by
    cases hb : dTru d with
    | some b => rw [hb] at t1; exact ⟨b, dTru_ok r1 hb z, f b w1 H1 e1 g1 t1⟩
    | none => rw [hb] at t1; exact t1.elim⟩
end
end Tr
set_option Elab.async false
set_option linter.all false
set_option maxRecDepth 100000
namespace Tr
open PySem PySem.Spec PyProof.Rows L2

/-! ### data -/
mutual
def toPy : D → Option PyData
  | .non => some .none
  | .bl b => some (.bool b)
  | .int i => some (.int i)
  | .str x => some (.str x)
  | .lst xs => match toPyA xs with
    | some ps => some (.list ps)
    | none => none
  | .tup xs => match toPyA xs with
    | some ps => some (.tuple ps)
    | none => none
  | _ => none
def toPyA : List D → Option (List PyData)
  | [] => some []
  | d :: ds => match toPy d, toPyA ds with
    | some p, some ps => some (p :: ps)
    | _, _ => none
end
section
variable {K : KK} {w : Wo} {H : Hp}
mutual
theorem dp_of : ∀ (d : D) (v : V) (p : PyData), Rp K w H d v → toPy d = some p → Dp K H v p
  | .non, _, _, h, e => by cases e; rw [show _ = _ from h]; exact .non
  | .bl b, _, _, h, e => by cases e; rw [show _ = _ from h]; exact .bl b
  | .int i, _, _, h, e => by cases e; rw [show _ = _ from h]; exact .int i
  | .str x, _, _, h, e => by cases e; rw [show _ = _ from h]; exact .str x
  | .lst xs, _, _, ⟨a, vs, h1, h2, h3⟩, e => by
    subst h1
    unfold toPy at e
    cases q : toPyA xs with
    | none => rw [q] at e; cases e
    | some ps => rw [q] at e; cases e; exact .lst h2.sq (dpA_of xs vs ps h3 q)
  | .tup xs, _, _, ⟨a, vs, h1, h2, h3⟩, e => by
    subst h1
    unfold toPy at e
    cases q : toPyA xs with
    | none => rw [q] at e; cases e
    | some ps => rw [q] at e; cases e; exact .tup h2.sq (dpA_of xs vs ps h3 q)
  | .fz _, _, _, _, e => by unfold toPy at e; cases e
  | .dT _ _, _, _, _, e => by unfold toPy at e; cases e
  | .dK _ _, _, _, _, e => by unfold toPy at e; cases e
  | .ins _ _ _, _, _, _, e => by unfold toPy at e; cases e
  | .exc _ _ _, _, _, _, e => by unfold toPy at e; cases e
  | .hx _ _ _ _ _, _, _, _, e => by unfold toPy at e; cases e
  | .loc _, _, _, _, e => by unfold toPy at e; cases e
  | .ref _, _, _, _, e => by unfold toPy at e; cases e
  | .ty _, _, _, _, e => by unfold toPy at e; cases e
theorem dpA_of : ∀ (ds : List D) (vs : List V) (ps : List PyData), RpAll K w H ds vs → toPyA ds = some ps → DpAll K H vs ps
  | [], _, _, h, e => by rw [show _ = [] from h]; unfold toPyA at e; cases e; exact .nil
  | d :: ds, _, _, ⟨v, r, h1, h2, h3⟩, e => by
    subst h1
    unfold toPyA at e
    cases q1 : toPy d with
    | none => rw [q1] at e; cases e
    | some p =>
      cases q2 : toPyA ds with
      | none => rw [q1, q2] at e; cases e
      | some ps => rw [q1, q2] at e; cases e; exact .cons (dp_of d v p h2 q1) (dpA_of ds r ps h3 q2)
end
end

/-! ### operators by trees -/
def dAdd : R2D := fun x y μ P => match x, y with
  | .int i, .int j => P (.int (i + j)) μ
  | .str a, .str b => a.length + b.length ≤ sizeLine ∧ P (.str (a ++ b)) μ
  | .lst a, .lst b => a.length + b.length ≤ sizeLine ∧ P (.lst (a ++ b)) μ
  | .tup a, .tup b => a.length + b.length ≤ sizeLine ∧ P (.tup (a ++ b)) μ
  | _, _ => False
def dSub : R2D := fun x y μ P => match x, y with
  | .int i, .int j => P (.int (i - j)) μ
  | _, _ => False
def dMul : R2D := fun x y μ P => match x, y with
  | .int i, .int j => CMul i j ∧ P (.int (i * j)) μ
  | _, _ => False
def dMod : R2D := fun x y μ P => match x, y with
  | .int i, .int j => 0 < j ∧ P (.int (i % j)) μ
  | _, _ => False
def dFdiv : R2D := fun x y μ P => match x, y with
  | .int i, .int j => CDiv i j ∧ P (.int (i / j)) μ
  | _, _ => False
def dPow : R2D := fun x y μ P => match x, y with
  | .int i, .int j => CPow i j ∧ P (.int (i ^ j.toNat)) μ
  | _, _ => False
def dEq : R2D := fun x y μ P => match toPy x, toPy y with
  | some p, some q => (SeqAt.shaped p = true ∧ SeqAt.shaped q = true) ∧ P (.bl (PyData.eqv p q)) μ
  | _, _ => False
def dNe : R2D := fun x y μ P => match toPy x, toPy y with
  | some p, some q => (SeqAt.shaped p = true ∧ SeqAt.shaped q = true) ∧ P (.bl (!PyData.eqv p q)) μ
  | _, _ => False
def dLt : R2D := fun x y μ P => match x, y with
  | .int i, .int j => P (.bl (decide (i < j))) μ
  | .str i, .str j => P (.bl (decide (i.cps.toList < j.cps.toList))) μ
  | _, _ => False
def dLe : R2D := fun x y μ P => match x, y with
  | .int i, .int j => P (.bl (decide (i ≤ j))) μ
  | .str i, .str j => P (.bl (!decide (j.cps.toList < i.cps.toList))) μ
  | _, _ => False
def dGt : R2D := fun x y μ P => match x, y with
  | .int i, .int j => P (.bl (decide (j < i))) μ
  | .str i, .str j => P (.bl (decide (j.cps.toList < i.cps.toList))) μ
  | _, _ => False
def dGe : R2D := fun x y μ P => match x, y with
  | .int i, .int j => P (.bl (decide (j ≤ i))) μ
  | .str i, .str j => P (.bl (!decide (i.cps.toList < j.cps.toList))) μ
  | _, _ => False
def isNon : D → Bool
  | .non => true
  | _ => false
def dIs : R2D := fun x y μ P => match y with
  | .non => P (.bl (isNon x)) μ
  | _ => False
def dIsNot : R2D := fun x y μ P => match y with
  | .non => P (.bl (!isNon x)) μ
  | _ => False
def dIn : R2D := fun x y μ P => match x, y with
  | .str c, .str z => (∃ n, c = ⟨#[n]⟩) ∧ P (.bl (c.cps.toList.all fun n => decide (n ∈ z.cps.toList))) μ
  | x, .lst ys => match toPy x, toPyA ys with
    | some d, some ds => (SeqAt.shaped d = true ∧ SeqAt.shaped (.list ds) = true) ∧ P (.bl (ds.any fun z => PyData.eqv z d)) μ
    | _, _ => False
  | x, .tup ys => match toPy x, toPyA ys with
    | some d, some ds => (SeqAt.shaped d = true ∧ SeqAt.shaped (.tuple ds) = true) ∧ P (.bl (ds.any fun z => PyData.eqv z d)) μ
    | _, _ => False
  | _, _ => False
def dNotIn : R2D := fun x y μ P => dIn x y μ fun d μ' => onB d fun b => P (.bl (!b)) μ'

section
variable {Ex : KX} {Ee : XK} {Hz : Hp} {X : Cx} {K : KK}
theorem Rp.isNon {w : Wo} {H : Hp} {d : D} {v : V} (r : Rp K w H d v) : decide (v = .non) = Tr.isNon d := by
  have no : ∀ {P : Prop}, (∃ a, v = .ref a ∧ P) → decide (v = .non) = false := fun ⟨a, h, _⟩ => by rw [h]; exact decide_eq_false fun z => nomatch z
  cases d with
  | non => rw [show v = _ from r]; rfl
  | bl b => rw [show v = _ from r]; exact decide_eq_false fun z => nomatch z
  | int b => rw [show v = _ from r]; exact decide_eq_false fun z => nomatch z
  | str b => rw [show v = _ from r]; exact decide_eq_false fun z => nomatch z
  | ref b => rw [show v = _ from r]; exact decide_eq_false fun z => nomatch z
  | ty b => rw [show v = _ from r]; exact decide_eq_false fun z => nomatch z
  | lst xs => obtain ⟨a, _, h, _⟩ := r; rw [h]; exact decide_eq_false fun z => nomatch z
  | fz xs => obtain ⟨a, _, h, _⟩ := r; rw [h]; exact decide_eq_false fun z => nomatch z
  | tup xs => obtain ⟨a, _, h, _⟩ := r; rw [h]; exact decide_eq_false fun z => nomatch z
  | dT ks xs => obtain ⟨a, _, h, _⟩ := r; rw [h]; exact decide_eq_false fun z => nomatch z
  | dK ks xs => obtain ⟨a, _, h, _⟩ := r; rw [h]; exact decide_eq_false fun z => nomatch z
  | ins C ks xs => obtain ⟨a, _, _, h, _⟩ := r; rw [h]; exact decide_eq_false fun z => nomatch z
  | exc C ks xs => obtain ⟨a, _, _, h, _⟩ := r; rw [h]; exact decide_eq_false fun z => nomatch z
  | hx a C d ks xs => obtain ⟨h, _⟩ := r; rw [h]; exact decide_eq_false fun z => nomatch z
  | loc n => obtain ⟨a, h, _⟩ := r; rw [h]; exact decide_eq_false fun z => nomatch z
theorem OpD.int {g : Int → Int → V} {C : Int → Int → Prop} {rd : R2D} (h : ∀ x y μ P, rd x y μ P → ∃ i j d, x = .int i ∧ y = .int j ∧ C i j ∧ P d μ ∧ ∀ (w : Wo) (H : Hp), Rp K w H d (g i j)) : OpD K (rI C g) rd := by
  intro w H x y dx dy P Q gd rx ry t f
  obtain ⟨i, j, d, rfl, rfl, c, p, r⟩ := h _ _ _ _ t
  exact ⟨i, j, rx, ry, c, f.now gd (r w H) p⟩

/-! addition -/
def rAddA (K : PySem.W.Frag) : R2 := fun x y H Q => (∃ i j, x = .int i ∧ y = .int j ∧ Q (.int (i + j)) H) ∨ (∃ i j, x = .str i ∧ y = .str j ∧ i.length + j.length ≤ sizeLine ∧ Q (.str (i ++ j)) H) ∨ rCat x y H Q ∨ rCatA K x y H Q
theorem op_addA : OpR X (binaryOp .Add) (rAddA X.K) := OpR.or op_add (OpR.or op_add_str (OpR.or op_cat op_catA))
theorem RpAll.nil_iff {w : Wo} {H : Hp} {ds : List D} {vs : List V} (h : RpAll K w H ds vs) : vs = [] ↔ ds = [] := by
  cases ds with
  | nil => exact ⟨fun _ => rfl, fun _ => h⟩
  | cons d ds => obtain ⟨v, r, e, _⟩ := h; subst e; exact ⟨(nomatch ·), (nomatch ·)⟩
theorem od_add : OpD K (rAddA K) dAdd := by
  intro w H x y dx dy P Q g rx ry t f
  unfold dAdd at t
  split at t
  · exact .inl ⟨_, _, rx, ry, f.int g t⟩
  · exact .inr (.inl ⟨_, _, rx, ry, t.1, f.st g t.2⟩)
  · obtain ⟨a, vs, e1, h1, r1⟩ := rx
    obtain ⟨b, us, e2, h2, r2⟩ := ry
    refine .inr (.inr (.inl ⟨a, b, vs, us, e1, e2, h1.2, h2.2, by rw [r1.length, r2.length]; exact t.1, fun p hp => f.lst g hp (r1.append r2) t.2⟩))
  · obtain ⟨a, vs, e1, h1, r1⟩ := rx
    obtain ⟨b, us, e2, h2, r2⟩ := ry
    refine .inr (.inr (.inr ⟨a, b, vs, us, e1, e2, h1.sq, h2.sq, by rw [r1.length, r2.length]; exact t.1, fun e => ?_, fun _ e => ?_, fun _ _ p hp => f.tup g hp (r1.append r2) t.2⟩))
    · have q := r1.nil_iff.mp e
      subst q
      exact f.now g (d := .tup ([] ++ _)) ⟨b, us, rfl, h2, r2⟩ t.2
    · have q := r2.nil_iff.mp e
      subst q
      refine f.now g (d := .tup (_ ++ [])) ⟨a, vs, rfl, h1, ?_⟩ t.2
      rw [List.append_nil]
      exact r1
  · exact t.elim
theorem od_sub : OpD K (rI0 fun i j => .int (i - j)) dSub := by
  intro w H x y dx dy P Q g rx ry t f
  unfold dSub at t
  split at t
  · exact ⟨_, _, rx, ry, f.int g t⟩
  · exact t.elim
theorem od_mul : OpD K (rI CMul fun i j => .int (i * j)) dMul := by
  intro w H x y dx dy P Q g rx ry t f
  unfold dMul at t
  split at t
  · exact ⟨_, _, rx, ry, t.1, f.int g t.2⟩
  · exact t.elim
theorem od_mod : OpD K (rI (fun _ j => 0 < j) fun i j => .int (i % j)) dMod := by
  intro w H x y dx dy P Q g rx ry t f
  unfold dMod at t
  split at t
  · exact ⟨_, _, rx, ry, t.1, f.int g t.2⟩
  · exact t.elim
theorem od_fdiv : OpD K (rI CDiv fun i j => .int (i / j)) dFdiv := by
  intro w H x y dx dy P Q g rx ry t f
  unfold dFdiv at t
  split at t
  · exact ⟨_, _, rx, ry, t.1, f.int g t.2⟩
  · exact t.elim
theorem od_pow : OpD K (rI CPow fun i j => .int (i ^ j.toNat)) dPow := by
  intro w H x y dx dy P Q g rx ry t f
  unfold dPow at t
  split at t
  · exact ⟨_, _, rx, ry, t.1, f.int g t.2⟩
  · exact t.elim
theorem od_eq : OpD K (rEqD K) dEq := by
  intro w H x y dx dy P Q g rx ry t f
  unfold dEq at t
  split at t
  · rename_i p q hp hq
    exact ⟨p, q, dp_of _ _ _ rx hp, dp_of _ _ _ ry hq, t.1.1, t.1.2, f.bl g t.2⟩
  · exact t.elim
theorem od_ne : OpD K (rNeD K) dNe := by
  intro w H x y dx dy P Q g rx ry t f
  unfold dNe at t
  split at t
  · rename_i p q hp hq
    exact ⟨p, q, dp_of _ _ _ rx hp, dp_of _ _ _ ry hq, t.1.1, t.1.2, f.bl g t.2⟩
  · exact t.elim
def rOrd (g : Int → Int → V) (h : Str → Str → V) : R2 := fun x y H Q => rI0 g x y H Q ∨ ∃ i j, x = .str i ∧ y = .str j ∧ Q (h i j) H
theorem op_ltA : OpR X (compareOp .Lt) (rOrd (fun i j => .bl (decide (i < j))) fun i j => .bl (decide (i.cps.toList < j.cps.toList))) := OpR.or op_lt op_lt_str
theorem op_leA : OpR X (compareOp .LtE) (rOrd (fun i j => .bl (decide (i ≤ j))) fun i j => .bl (!decide (j.cps.toList < i.cps.toList))) := OpR.or op_le op_le_str
theorem op_gtA : OpR X (compareOp .Gt) (rOrd (fun i j => .bl (decide (j < i))) fun i j => .bl (decide (j.cps.toList < i.cps.toList))) := OpR.or op_gt op_gt_str
theorem op_geA : OpR X (compareOp .GtE) (rOrd (fun i j => .bl (decide (j ≤ i))) fun i j => .bl (!decide (i.cps.toList < j.cps.toList))) := OpR.or op_ge op_ge_str
theorem od_lt : OpD K (rOrd (fun i j => .bl (decide (i < j))) fun i j => .bl (decide (i.cps.toList < j.cps.toList))) dLt := by
  intro w H x y dx dy P Q g rx ry t f
  unfold dLt at t
  split at t
  · exact .inl ⟨_, _, rx, ry, f.bl g t⟩
  · exact .inr ⟨_, _, rx, ry, f.bl g t⟩
  · exact t.elim
theorem od_le : OpD K (rOrd (fun i j => .bl (decide (i ≤ j))) fun i j => .bl (!decide (j.cps.toList < i.cps.toList))) dLe := by
  intro w H x y dx dy P Q g rx ry t f
  unfold dLe at t
  split at t
  · exact .inl ⟨_, _, rx, ry, f.bl g t⟩
  · exact .inr ⟨_, _, rx, ry, f.bl g t⟩
  · exact t.elim
theorem od_gt : OpD K (rOrd (fun i j => .bl (decide (j < i))) fun i j => .bl (decide (j.cps.toList < i.cps.toList))) dGt := by
  intro w H x y dx dy P Q g rx ry t f
  unfold dGt at t
  split at t
  · exact .inl ⟨_, _, rx, ry, f.bl g t⟩
  · exact .inr ⟨_, _, rx, ry, f.bl g t⟩
  · exact t.elim
theorem od_ge : OpD K (rOrd (fun i j => .bl (decide (j ≤ i))) fun i j => .bl (!decide (i.cps.toList < j.cps.toList))) dGe := by
  intro w H x y dx dy P Q g rx ry t f
  unfold dGe at t
  split at t
  · exact .inl ⟨_, _, rx, ry, f.bl g t⟩
  · exact .inr ⟨_, _, rx, ry, f.bl g t⟩
  · exact t.elim
theorem od_is : OpD K (fun x y H Q => y = .non ∧ Q (.bl (decide (x = .non))) H) dIs := by
  intro w H x y dx dy P Q g rx ry t f
  unfold dIs at t
  split at t
  · exact ⟨ry, by rw [rx.isNon]; exact f.bl g t⟩
  · exact t.elim
theorem od_isnot : OpD K (fun x y H Q => y = .non ∧ Q (.bl (!decide (x = .non))) H) dIsNot := by
  intro w H x y dx dy P Q g rx ry t f
  unfold dIsNot at t
  split at t
  · exact ⟨ry, by rw [rx.isNon]; exact f.bl g t⟩
  · exact t.elim

/-! in -/
def rInA (K : PySem.W.Frag) (neg : Bool) : R2 := fun x y H Q => (∃ (c : Nat) (z : Str), x = .str ⟨#[c]⟩ ∧ y = .str z ∧ Q (.bl (neg ^^ decide (c ∈ z.cps.toList))) H) ∨
  ∃ d ds, Dp K H x d ∧ ((Dp K H y (.list ds) ∧ SeqAt.shaped (.list ds) = true) ∨ (Dp K H y (.tuple ds) ∧ SeqAt.shaped (.tuple ds) = true)) ∧ SeqAt.shaped d = true ∧ Q (.bl (neg ^^ ds.any fun z => PyData.eqv z d)) H
theorem op_inTup (hu : X.A.units + 65 < cLine) : OpR X (compareOp .In) (fun x y H Q => ∃ d ds, Dp X.K H x d ∧ Dp X.K H y (.tuple ds) ∧ SeqAt.shaped d = true ∧ SeqAt.shaped (.tuple ds) = true ∧ Q (.bl (ds.any fun z => PyData.eqv z d)) H) := by
  intro pins s σ H x y v u Q I rx ry h
  obtain ⟨d, ds, hd, he, sd, se, q⟩ := h
  obtain ⟨as, r1⟩ := Dp.reads I d x v hd rx
  obtain ⟨bs, r2⟩ := Dp.reads I (.tuple ds) y u he ry
  exact SeqAt.in_tuple_reads r2 r1 (SeqAt.canLay_of_shaped se) (SeqAt.canLay_of_shaped sd) (PyProof.Rows.room_in_shaped sd hu) ⟨.bl _, H, I, rfl, q⟩
theorem op_notInTup (hu : X.A.units + 65 < cLine) : OpR X (compareOp .NotIn) (fun x y H Q => ∃ d ds, Dp X.K H x d ∧ Dp X.K H y (.tuple ds) ∧ SeqAt.shaped d = true ∧ SeqAt.shaped (.tuple ds) = true ∧ Q (.bl (!ds.any fun z => PyData.eqv z d)) H) := by
  intro pins s σ H x y v u Q I rx ry h
  obtain ⟨d, ds, hd, he, sd, se, q⟩ := h
  obtain ⟨as, r1⟩ := Dp.reads I d x v hd rx
  obtain ⟨bs, r2⟩ := Dp.reads I (.tuple ds) y u he ry
  exact SeqAt.notIn_tuple_reads r2 r1 (SeqAt.canLay_of_shaped se) (SeqAt.canLay_of_shaped sd) (PyProof.Rows.room_in_shaped sd hu) ⟨.bl _, H, I, rfl, q⟩
theorem op_inA (hu : X.A.units + 65 < cLine) : OpR X (compareOp .In) (rInA X.K false) := by
  intro pins s σ H x y v u Q I rx ry h
  rcases h with ⟨c, z, h1, h2, q⟩ | ⟨d, ds, h1, h2 | h2, h3, q⟩
  · exact op_in_sign pins s σ H x y v u Q I rx ry ⟨c, z, h1, h2, by simpa using q⟩
  · exact op_inD hu pins s σ H x y v u Q I rx ry ⟨d, ds, h1, h2.1, h3, h2.2, by simpa using q⟩
  · exact op_inTup hu pins s σ H x y v u Q I rx ry ⟨d, ds, h1, h2.1, h3, h2.2, by simpa using q⟩
theorem op_notInA (hu : X.A.units + 65 < cLine) : OpR X (compareOp .NotIn) (rInA X.K true) := by
  intro pins s σ H x y v u Q I rx ry h
  rcases h with ⟨c, z, h1, h2, q⟩ | ⟨d, ds, h1, h2 | h2, h3, q⟩
  · exact op_notIn_sign pins s σ H x y v u Q I rx ry ⟨c, z, h1, h2, by simpa using q⟩
  · exact op_notInD hu pins s σ H x y v u Q I rx ry ⟨d, ds, h1, h2.1, h3, h2.2, by simpa using q⟩
  · exact op_notInTup hu pins s σ H x y v u Q I rx ry ⟨d, ds, h1, h2.1, h3, h2.2, by simpa using q⟩
theorem od_inA {neg : Bool} {w : Wo} {H : Hp} {x y : V} {dx dy : D} {P : KD} {Q : VK} (g : Gd K w H) (rx : Rp K w H dx x) (ry : Rp K w H dy y) (t : dIn dx dy w.mu P) (f : ∀ b, P (.bl b) w.mu → Q (.bl (neg ^^ b)) H) : rInA K neg x y H Q := by
  unfold dIn at t
  split at t
  · obtain ⟨⟨n, e⟩, t⟩ := t
    subst e
    refine .inl ⟨n, _, rx, ry, ?_⟩
    have := f _ t
    simpa using this
  · split at t
    · rename_i d ds h1 h2
      refine .inr ⟨d, ds, dp_of _ _ _ rx h1, .inl ⟨dp_of _ _ _ ry (by unfold toPy; rw [h2]), t.1.2⟩, t.1.1, f _ t.2⟩
    · exact t.elim
  · split at t
    · rename_i d ds h1 h2
      refine .inr ⟨d, ds, dp_of _ _ _ rx h1, .inr ⟨dp_of _ _ _ ry (by unfold toPy; rw [h2]), t.1.2⟩, t.1.1, f _ t.2⟩
    · exact t.elim
  · exact t.elim
theorem od_in : OpD K (rInA K false) dIn := fun w H x y dx dy P Q g rx ry t f => od_inA g rx ry t fun b p => by simpa using f.now g (show Rp K w H (.bl b) (.bl b) from rfl) p
theorem od_notin : OpD K (rInA K true) dNotIn := fun w H x y dx dy P Q g rx ry t f => od_inA g rx ry t fun b p => by simpa using f.now g (show Rp K w H (.bl (!b)) (.bl (!b)) from rfl) p
end
end Tr
set_option Elab.async false
set_option linter.all false
set_option maxRecDepth 100000
namespace Tr
open PySem PySem.Spec PyProof.Rows L2

/-! ### isinstance of data -/
def tyN : D → Option String
  | .non => some "NoneType"
  | .bl _ => some "bool"
  | .int _ => some "int"
  | .str _ => some "str"
  | .lst _ => some "list"
  | .tup _ => some "tuple"
  | _ => none
def kinds : List String := ["NoneType", "bool", "int", "str", "list", "tuple"]
def clss : List String := ["bool", "int", "str", "list", "tuple", "dict"]
def isTy (t n : String) : Bool := t == n || (t == "bool" && n == "int")
theorem kitB_isTy : ∀ t, t ∈ kinds → ∀ n, n ∈ clss → kitB t n = some (isTy t n) := by decide +kernel
theorem tyN_kind {d : D} {t : String} (h : tyN d = some t) : t ∈ kinds := by
  cases d <;> cases h <;> decide
theorem tyX_of {K : KK} {w : Wo} {H : Hp} {d : D} {v : V} {t : String} (r : Rp K w H d v) (h : tyN d = some t) : TyX K H v (.type t) := by
  cases d <;> cases h
  case non => rw [show v = _ from r]; exact .base .non
  case bl b => rw [show v = _ from r]; exact .base (.bl b)
  case int b => rw [show v = _ from r]; exact .base (.int b)
  case str b => rw [show v = _ from r]; exact .base (.str b)
  case lst xs => obtain ⟨a, vs, e, h1, _⟩ := r; rw [e]; exact .base (.lst h1.2)
  case tup xs =>
    obtain ⟨a, vs, e, h1, _⟩ := r
    rw [e]
    rcases h1 with ⟨_, h1⟩ | ⟨o, its, n, hk, hc, _⟩
    · exact .base (.tup h1)
    · exact .kTuple hk hc
def tyNs : List D → Option (List String)
  | [] => some []
  | .ty n :: ds => match tyNs ds with
    | some ns => some (n :: ns)
    | none => none
  | _ :: _ => none
def dIsi : RAD := fun ds μ P => match ds with
  | [x, .ty n] => match tyN x with
    | some t => n ∈ clss ∧ P (.bl (isTy t n)) μ
    | none => False
  | [x, .tup cs] => match tyN x, tyNs cs with
    | some t, some ns => (∀ n, n ∈ ns → n ∈ clss) ∧ P (.bl (ns.any (isTy t))) μ
    | _, _ => False
  | _ => False
section
variable {Ex : KX} {Ee : XK} {Hz : Hp} {X : Cx} {K : KK}
theorem tyNs_cls {w : Wo} {H : Hp} : ∀ {cs : List D} {vs : List V} {ns : List String}, RpAll K w H cs vs → tyNs cs = some ns → Paired ClsV vs (ns.map Value.type)
  | [], _, _, h, e => by rw [show _ = [] from h]; cases e; exact .nil
  | .ty n :: ds, _, _, ⟨v, r, h1, h2, h3⟩, e => by
    subst h1
    unfold tyNs at e
    cases q : tyNs ds with
    | none => rw [q] at e; cases e
    | some ns => rw [q] at e; cases e; rw [show v = _ from h2]; exact .cons (.ty n) (tyNs_cls h3 q)
  | .non :: _, _, _, _, e => by cases e
  | .bl _ :: _, _, _, _, e => by cases e
  | .int _ :: _, _, _, _, e => by cases e
  | .str _ :: _, _, _, _, e => by cases e
  | .lst _ :: _, _, _, _, e => by cases e
  | .fz _ :: _, _, _, _, e => by cases e
  | .tup _ :: _, _, _, _, e => by cases e
  | .dT _ _ :: _, _, _, _, e => by cases e
  | .dK _ _ :: _, _, _, _, e => by cases e
  | .ins _ _ _ :: _, _, _, _, e => by cases e
  | .exc _ _ _ :: _, _, _, _, e => by cases e
  | .hx _ _ _ _ _ :: _, _, _, _, e => by cases e
  | .loc _ :: _, _, _, _, e => by cases e
  | .ref _ :: _, _, _, _, e => by cases e
theorem kitAny_isTy {t : String} (ht : t ∈ kinds) : ∀ {ns : List String}, (∀ n, n ∈ ns → n ∈ clss) → PySem.W.kitAny K (.type t) (ns.map Value.type) = some (ns.any (isTy t))
  | [], _ => by first | rfl | simp [PySem.W.kitAny]
  | n :: ns, h => by
    have h1 : PySem.W.kitOne K (.type t) (.type n) = some (isTy t n) := kit_ty (kitB_isTy t ht n (h n List.mem_cons_self))
    refine kitAny_cons h1 (fun hb => ?_) (fun hb => ?_)
    · rw [kitAny_isTy ht fun m hm => h m (List.mem_cons_of_mem _ hm)]
      simp [hb]
    · simp [hb]
theorem rpAll2 {w : Wo} {H : Hp} {a b : D} {vs : List V} (h : RpAll K w H [a, b] vs) : ∃ x y, vs = [x, y] ∧ Rp K w H a x ∧ Rp K w H b y := by
  obtain ⟨x, r, e, h1, y, r2, e2, h2, h3⟩ := h
  rw [show r2 = [] from h3] at e2
  exact ⟨x, y, by rw [e, e2], h1, h2⟩
theorem rpAll1 {w : Wo} {H : Hp} {a : D} {vs : List V} (h : RpAll K w H [a] vs) : ∃ x, vs = [x] ∧ Rp K w H a x := by
  obtain ⟨x, r, e, h1, h3⟩ := h
  rw [show r = [] from h3] at e
  exact ⟨x, e, h1⟩
def rIsiA (K : PySem.W.Frag) : List V → Hp → VK → Prop := fun xs H Q => rIsi K xs H Q ∨ rIsiT K xs H Q ∨ rIsiK K xs H Q
theorem call_isiA : CallR X (.builtin "isinstance") (rIsiA X.K) := CallR.or call_isi (CallR.or call_isiT call_isiK)
theorem cls_all {vs : List V} {ns : List String} {us : List Value} (h : Paired ClsV vs (ns.map Value.type)) (r : Vals vs us) : us = ns.map Value.type := ClsV.all h r
theorem cd_isi : CallD K (rIsiA K) dIsi := by
  intro w H vs ds P Q g r t f
  unfold dIsi at t
  split at t
  · obtain ⟨x, y, rfl, h1, h2⟩ := rpAll2 r
    split at t
    · rename_i tt ht
      rw [show y = _ from h2]
      exact .inl ⟨x, _, _, _, _, rfl, .ty _, tyX_of h1 ht, kit_ty (kitB_isTy _ (tyN_kind ht) _ t.1), f.bl g t.2⟩
    · exact t.elim
  · obtain ⟨x, y, rfl, h1, h2⟩ := rpAll2 r
    split at t
    · rename_i tt ns ht hn
      obtain ⟨a, us, e, h3, h4⟩ := h2
      subst e
      rcases h3 with ⟨_, h3⟩ | ⟨o, its, n, hk, hc, hd, hz, hv⟩
      · exact .inr (.inl ⟨x, a, us, _, _, _, rfl, h3, tyNs_cls h4 hn, tyX_of h1 ht, kitAny_isTy (tyN_kind ht) t.1, f.bl g t.2⟩)
      · refine .inr (.inr ⟨x, a, o.dict, ns.map Value.type, n, o.slots, _, _, rfl, ?_, tyX_of h1 ht, kitAny_isTy (tyN_kind ht) t.1, f.bl g t.2⟩)
        have e := cls_all (tyNs_cls h4 hn) hv
        obtain ⟨oc, od, dt, sl⟩ := o
        simp only at hc hd
        subst hc hd
        rw [hk, ← e]
    · exact t.elim
  · exact t.elim

/-! ### len, all, any, int, str, bool, tuple, list, abs, min, max -/
def dLen : RAD := fun ds μ P => match ds with
  | [.str x] => x.length ≤ sizeLine ∧ P (.int x.length) μ
  | [.lst xs] => P (.int xs.length) μ
  | [.fz xs] => P (.int xs.length) μ
  | [.tup xs] => P (.int xs.length) μ
  | [.loc n] => match μ[n]? with
    | some (some (.lst xs)) => P (.int xs.length) μ
    | _ => False
  | _ => False
theorem Gd.at {w : Wo} {H : Hp} {n : Nat} {v : V} {c : Cell} (g : Gd K w H) (r : Rp K w H (.loc n) v) (e : w.mu[n]? = some (some c)) : ∃ a, v = .ref a ∧ w.am[n]? = some a ∧ CellR K w H a c := by
  obtain ⟨a, e1, e2⟩ := r
  exact ⟨a, e1, e2, g.cell n a c e2 e⟩
theorem cd_len : CallD K (fun xs H Q => ∃ x n, xs = [x] ∧ LenV K x H n ∧ Q (.int n) H) dLen := by
  intro w H vs ds P Q g r t f
  unfold dLen at t
  split at t
  · obtain ⟨x, rfl, h⟩ := rpAll1 r
    rw [show x = _ from h]
    exact ⟨_, _, rfl, ⟨t.1, rfl⟩, f.int g t.2⟩
  · obtain ⟨x, rfl, a, us, e, h1, h2⟩ := rpAll1 r
    subst e
    exact ⟨_, _, rfl, .inl ⟨us, h1.sq, h2.length.symm⟩, f.int g t⟩
  · obtain ⟨x, rfl, a, us, e, h1, h3⟩ := rpAll1 r
    subst e
    exact ⟨_, _, rfl, .inl ⟨us, h1.sq, h3.length.symm⟩, f.int g t⟩
  · obtain ⟨x, rfl, a, us, e, h1, h2⟩ := rpAll1 r
    subst e
    exact ⟨_, _, rfl, .inr ⟨us, h1.sq, h2.length.symm⟩, f.int g t⟩
  · split at t
    · rename_i hm
      obtain ⟨x, rfl, h⟩ := rpAll1 r
      obtain ⟨a, e, _, us, h1, h2⟩ := g.at h hm
      subst e
      exact ⟨_, _, rfl, .inl ⟨us, SqL.of h1, h2.length.symm⟩, f.int g t⟩
    · exact t.elim
  · exact t.elim
def boolsOf : List D → Option (List Bool)
  | [] => some []
  | .bl b :: ds => match boolsOf ds with
    | some bs => some (b :: bs)
    | none => none
  | _ :: _ => none
theorem boolsOf_rp {w : Wo} {H : Hp} : ∀ {ds : List D} {vs : List V} {bs : List Bool}, RpAll K w H ds vs → boolsOf ds = some bs → vs = bs.map V.bl
  | [], _, _, h, e => by cases e; exact h
  | .bl n :: ds, _, _, ⟨v, r, h1, h2, h3⟩, e => by
    unfold boolsOf at e
    cases q : boolsOf ds with
    | none => rw [q] at e; cases e
    | some ns => rw [q] at e; cases e; rw [h1, show v = _ from h2, boolsOf_rp h3 q]; rfl
  | .non :: _, _, _, _, e => by cases e
  | .ty _ :: _, _, _, _, e => by cases e
  | .int _ :: _, _, _, _, e => by cases e
  | .str _ :: _, _, _, _, e => by cases e
  | .lst _ :: _, _, _, _, e => by cases e
  | .fz _ :: _, _, _, _, e => by cases e
  | .tup _ :: _, _, _, _, e => by cases e
  | .dT _ _ :: _, _, _, _, e => by cases e
  | .dK _ _ :: _, _, _, _, e => by cases e
  | .ins _ _ _ :: _, _, _, _, e => by cases e
  | .exc _ _ _ :: _, _, _, _, e => by cases e
  | .hx _ _ _ _ _ :: _, _, _, _, e => by cases e
  | .loc _ :: _, _, _, _, e => by cases e
  | .ref _ :: _, _, _, _, e => by cases e
def dAll : RAD := fun ds μ P => match ds with
  | [.lst xs] => match boolsOf xs with
    | some bs => P (.bl (bs.all id)) μ
    | none => False
  | _ => False
def dAny : RAD := fun ds μ P => match ds with
  | [.lst xs] => match boolsOf xs with
    | some bs => P (.bl (bs.any id)) μ
    | none => False
  | _ => False
theorem cd_all : CallD K (rAll K) dAll := by
  intro w H vs ds P Q g r t f
  unfold dAll at t
  split at t
  · split at t
    · rename_i hb
      obtain ⟨x, rfl, a, us, e, h1, h2⟩ := rpAll1 r
      subst e
      exact ⟨a, _, rfl, by rw [← boolsOf_rp h2 hb]; exact h1.sq, f.bl g t⟩
    · exact t.elim
  · exact t.elim
theorem cd_any : CallD K (rAny K) dAny := by
  intro w H vs ds P Q g r t f
  unfold dAny at t
  split at t
  · split at t
    · rename_i hb
      obtain ⟨x, rfl, a, us, e, h1, h2⟩ := rpAll1 r
      subst e
      exact ⟨a, _, rfl, by rw [← boolsOf_rp h2 hb]; exact h1.sq, f.bl g t⟩
    · exact t.elim
  · exact t.elim
def dIntOf : RAD := fun ds μ P => match ds with
  | [.int i] => P (.int i) μ
  | [.bl k] => P (.int (if k then 1 else 0)) μ
  | [.str a] => ∃ n, (PySem.intText? a = some n ∧ a.length ≤ 640) ∧ P (.int n) μ
  | _ => False
def rIntOf : List V → Hp → VK → Prop := fun xs H Q => ((∃ i, xs = [.int i] ∧ Q (.int i) H) ∨ ∃ k, xs = [.bl k] ∧ Q (.int (if k then 1 else 0)) H) ∨ ∃ a n, xs = [.str a] ∧ PySem.intText? a = some n ∧ a.length ≤ 640 ∧ Q (.int n) H
theorem call_intA : CallR X (.type "int") rIntOf := CallR.or call_int1 call_int_str
theorem cd_int : CallD K rIntOf dIntOf := by
  intro w H vs ds P Q g r t f
  unfold dIntOf at t
  split at t
  · obtain ⟨x, rfl, h⟩ := rpAll1 r
    rw [show x = _ from h]
    exact .inl (.inl ⟨_, rfl, f.int g t⟩)
  · obtain ⟨x, rfl, h⟩ := rpAll1 r
    rw [show x = _ from h]
    exact .inl (.inr ⟨_, rfl, f.int g t⟩)
  · obtain ⟨x, rfl, h⟩ := rpAll1 r
    rw [show x = _ from h]
    obtain ⟨n, ⟨h1, h2⟩, t⟩ := t
    exact .inr ⟨_, n, rfl, h1, h2, f.int g t⟩
  · exact t.elim
def dStrOf : RAD := fun ds μ P => match ds with
  | [.int i] => i.natAbs.log2 < 1920 ∧ P (.str (toString i)) μ
  | _ => False
theorem cd_str : CallD K (fun xs H Q => ∃ i : Int, xs = [.int i] ∧ i.natAbs.log2 < 1920 ∧ Q (.str (toString i)) H) dStrOf := by
  intro w H vs ds P Q g r t f
  unfold dStrOf at t
  split at t
  · obtain ⟨x, rfl, h⟩ := rpAll1 r
    rw [show x = _ from h]
    exact ⟨_, rfl, t.1, f.st g t.2⟩
  · exact t.elim
def dTupOf : RAD := fun ds μ P => match ds with
  | [.lst xs] => P (.tup xs) μ
  | [.fz xs] => P (.tup xs) μ
  | [.tup xs] => P (.tup xs) μ
  | [.loc n] => match μ[n]? with
    | some (some (.lst xs)) => P (.tup xs) μ
    | _ => False
  | _ => False
def dLstOf : RAD := fun ds μ P => match ds with
  | [.lst xs] => P (.lst xs) μ
  | [.fz xs] => P (.lst xs) μ
  | [.tup xs] => P (.lst xs) μ
  | [.loc n] => match μ[n]? with
    | some (some (.lst xs)) => P (.lst xs) μ
    | _ => False
  | _ => False
theorem cd_tup : CallD K (fun xs H Q => ∃ p ys, xs = [.ref p] ∧ ((SqL K H p ys ∧ ∀ l, H l = none → Q (.ref l) (upd H l (.tup ys))) ∨ (SqT K H p ys ∧ Q (.ref p) H))) dTupOf := by
  intro w H vs ds P Q g r t f
  unfold dTupOf at t
  split at t
  · obtain ⟨x, rfl, a, us, e, h1, h2⟩ := rpAll1 r
    subst e
    exact ⟨a, us, rfl, .inl ⟨h1.sq, fun l hl => f.tup g hl h2 t⟩⟩
  · obtain ⟨x, rfl, a, us, e, h1, h3⟩ := rpAll1 r
    subst e
    exact ⟨a, us, rfl, .inl ⟨h1.sq, fun l hl => f.tup g hl h3 t⟩⟩
  · obtain ⟨x, rfl, a, us, e, h1, h2⟩ := rpAll1 r
    subst e
    exact ⟨a, us, rfl, .inr ⟨h1.sq, f.now g (d := .tup _) ⟨a, us, rfl, h1, h2⟩ t⟩⟩
  · split at t
    · rename_i hm
      obtain ⟨x, rfl, h⟩ := rpAll1 r
      obtain ⟨a, e, _, us, h1, h2⟩ := g.at h hm
      subst e
      exact ⟨a, us, rfl, .inl ⟨SqL.of h1, fun l hl => f.tup g hl h2 t⟩⟩
    · exact t.elim
  · exact t.elim
theorem cd_lst : CallD K (fun xs H Q => ∃ p ys, xs = [.ref p] ∧ (SqL K H p ys ∨ SqT K H p ys) ∧ ∀ l, H l = none → Q (.ref l) (upd H l (.lst ys))) dLstOf := by
  intro w H vs ds P Q g r t f
  unfold dLstOf at t
  split at t
  · obtain ⟨x, rfl, a, us, e, h1, h2⟩ := rpAll1 r
    subst e
    exact ⟨a, us, rfl, .inl h1.sq, fun l hl => f.lst g hl h2 t⟩
  · obtain ⟨x, rfl, a, us, e, h1, h3⟩ := rpAll1 r
    subst e
    exact ⟨a, us, rfl, .inl h1.sq, fun l hl => f.lst g hl h3 t⟩
  · obtain ⟨x, rfl, a, us, e, h1, h2⟩ := rpAll1 r
    subst e
    exact ⟨a, us, rfl, .inr h1.sq, fun l hl => f.lst g hl h2 t⟩
  · split at t
    · rename_i hm
      obtain ⟨x, rfl, h⟩ := rpAll1 r
      obtain ⟨a, e, _, us, h1, h2⟩ := g.at h hm
      subst e
      exact ⟨a, us, rfl, .inl (SqL.of h1), fun l hl => f.lst g hl h2 t⟩
    · exact t.elim
  · exact t.elim

/-! ### items, slices -/
def dIx : R2D := fun x y μ P => match x, y with
  | .lst xs, .int i => match atI xs i with
    | some d => P d μ
    | none => False
  | .tup xs, .int i => match atI xs i with
    | some d => P d μ
    | none => False
  | .str z, .int i => match atI z.cps.toList i with
    | some c => z.length ≤ sizeLine ∧ P (.str ⟨#[c]⟩) μ
    | none => False
  | .loc n, .int i => match μ[n]? with
    | some (some (.lst xs)) => match atI xs i with
      | some d => P d μ
      | none => False
    | _ => False
  | _, _ => False
theorem atI_rp {w : Wo} {H : Hp} {ds : List D} {vs : List V} {i : Int} {d : D} (r : RpAll K w H ds vs) (h : atI ds i = some d) : ∃ v, atI vs i = some v ∧ Rp K w H d v := by
  unfold atI at h ⊢
  rw [r.length]
  cases q : ixN ds.length i with
  | none => rw [q] at h; cases h
  | some j =>
    rw [q] at h
    exact r.get' h
theorem od_ix : OpD K (rIx K) dIx := by
  intro w H x y dx dy P Q g rx ry t f
  unfold dIx at t
  split at t
  · split at t
    · rename_i hd
      obtain ⟨a, us, e, h1, h2⟩ := rx
      obtain ⟨v, h3, h4⟩ := atI_rp h2 hd
      exact .inl ⟨a, us, _, v, e, ry, h1.sq, h3, f.now g h4 t⟩
    · exact t.elim
  · split at t
    · rename_i hd
      obtain ⟨a, us, e, h1, h2⟩ := rx
      obtain ⟨v, h3, h4⟩ := atI_rp h2 hd
      exact .inr (.inl ⟨a, us, _, v, e, ry, h1.sq, h3, f.now g h4 t⟩)
    · exact t.elim
  · split at t
    · rename_i hd
      exact .inr (.inr ⟨_, _, _, rx, ry, t.1, hd, f.st g t.2⟩)
    · exact t.elim
  · split at t
    · rename_i hm
      split at t
      · rename_i hd
        obtain ⟨a, e, _, us, h1, h2⟩ := g.at rx hm
        obtain ⟨v, h3, h4⟩ := atI_rp h2 hd
        exact .inl ⟨a, us, _, v, e, ry, SqL.of h1, h3, f.now g h4 t⟩
      · exact t.elim
    · exact t.elim
  · exact t.elim
theorem te_ix {a b : Expr} {ta tb : ET} {pos : Pos} (ha : PE X a (LE ⟨X.K, Ex, Ee, Hz⟩ ta)) (hb : PE X b (LE ⟨X.K, Ex, Ee, Hz⟩ tb)) (hs : PlainIx b) : PE X (.Subscript a b pos) (LE ⟨X.K, Ex, Ee, Hz⟩ (eOp dIx ta tb)) := te_of (pe_ix ix_seq ha hb hs) (lift_op od_ix)
def cutD (xs : List D) (lo hi : Option Int) : List D := (xs.drop (HT.sIx xs.length 0 lo)).take (HT.sIx xs.length xs.length hi - HT.sIx xs.length 0 lo)
theorem cut_rp {w : Wo} {H : Hp} {ds : List D} {vs : List V} {lo hi : Option Int} (r : RpAll K w H ds vs) : RpAll K w H (cutD ds lo hi) (cutV vs lo hi) := by
  unfold cutD cutV
  rw [r.length]
  exact (r.drop _).take _
theorem cut_all {xs : List D} {lo hi : Option Int} (h : HT.sIx xs.length 0 lo = 0 ∧ HT.sIx xs.length xs.length hi = xs.length) : cutD xs lo hi = xs := by
  unfold cutD
  rw [h.1, h.2]
  simp
abbrev OT := Env → Mu → (Option Int → Mu → Prop) → Prop
def oNo : OT := fun _ μ P => P none μ
def oYes (t : ET) : OT := fun ρ μ P => t ρ μ fun d μ1 => match d with
  | .int i => P (some i) μ1
  | _ => False
def LO (K : KK) (t : OT) : TO := fun σ H Q => ∃ w ρ P, Gd K w H ∧ EnvR K w H ρ σ ∧ t ρ w.mu P ∧ ∀ o w' H', Ev w H w' H' → Gd K w' H' → P o w'.mu → Q o H'
theorem to_no : PO X none (LO ⟨X.K, Ex, Ee, Hz⟩ oNo) := ⟨fun pins s σ H Q I ⟨w, ρ, P, g, er, t, f⟩ => po_none.run pins s σ H Q I (f none w H Ev.refl g t)⟩
theorem to_yes {e : Expr} {t : ET} (h : PE X e (LE ⟨X.K, Ex, Ee, Hz⟩ t)) : PO X (some e) (LO ⟨X.K, Ex, Ee, Hz⟩ (oYes t)) := ⟨fun pins s σ H Q I ⟨w, ρ, P, g, er, t, f⟩ => (po_some h).run pins s σ H Q I ⟨w, ρ, _, g, er, t, fun d v w1 H1 e1 g1 r1 t1 => by
  cases d with
  | int i => exact ⟨i, r1, f (some i) w1 H1 e1 g1 t1⟩
  | _ => exact t1.elim⟩⟩
def dSl (x : D) (lo hi : Option Int) : Mu → KD → Prop := fun μ P => match x with
  | .lst xs => P (.lst (cutD xs lo hi)) μ
  | .fz xs => P (.lst (cutD xs lo hi)) μ
  | .tup xs => P (.tup (cutD xs lo hi)) μ
  | .str z => z.length ≤ sizeLine ∧ P (.str (cutS z lo hi)) μ
  | .loc n => match μ[n]? with
    | some (some (.lst xs)) => P (.lst (cutD xs lo hi)) μ
    | _ => False
  | _ => False
def eSl (t : ET) (l u : OT) : ET := fun ρ μ P => t ρ μ fun d μ1 => l ρ μ1 fun lo μ2 => u ρ μ2 fun hi μ3 => dSl d lo hi μ3 P
def rSlAll (K : PySem.W.Frag) : V → Option Int → Option Int → Hp → VK → Prop := fun x lo hi H Q => rSlL K x lo hi H Q ∨ rSlA K x lo hi H Q ∨ rSlS x lo hi H Q
theorem sl_all : SlR X (rSlAll X.K) := SlR.or sl_list (SlR.or sl_tupA sl_str)
theorem te_sl {e : Expr} {t : ET} {l u : OT} {lo hi : Option Expr} {p2 pos : Pos} (he : PE X e (LE ⟨X.K, Ex, Ee, Hz⟩ t)) (hl : PO X lo (LO ⟨X.K, Ex, Ee, Hz⟩ l)) (hu : PO X hi (LO ⟨X.K, Ex, Ee, Hz⟩ u)) : PE X (.Subscript e (.Slice lo hi none p2) pos) (LE ⟨X.K, Ex, Ee, Hz⟩ (eSl t l u)) :=
  te_of (pe_slice sl_all he hl hu) fun σ H Q ⟨w, ρ, P, g, er, t, f⟩ => ⟨w, ρ, _, g, er, t, fun d v w1 H1 e1 g1 r1 t1 => ⟨w1, ρ, _, g1, er.mono e1.toKp, t1, fun lo w2 H2 e2 g2 t2 =>
    ⟨w2, ρ, _, g2, er.mono (e1.trans e2).toKp, t2, fun hi w3 H3 e3 g3 t3 => by
      have r3 := Rp.mono (e2.trans e3).toKp _ _ r1
      have f3 := f.mono ((e1.trans e2).trans e3)
      unfold dSl at t3
      split at t3
      · obtain ⟨a, us, e, h1, h2⟩ := r3
        exact .inl ⟨a, us, e, h1.sq, fun p hp => f3.lst g3 hp (cut_rp h2) t3⟩
      · obtain ⟨a, us, e, h1, h4⟩ := r3
        exact .inl ⟨a, us, e, h1.sq, fun p hp => f3.lst g3 hp (cut_rp h4) t3⟩
      · obtain ⟨a, us, e, h1, h2⟩ := r3
        refine .inr (.inl ⟨a, us, e, h1.sq, fun z => ?_, fun _ p hp => f3.tup g3 hp (cut_rp h2) t3⟩)
        rw [h2.length] at z
        rw [cut_all z] at t3
        exact f3.now g3 (d := .tup _) ⟨a, us, rfl, h1, h2⟩ t3
      · exact .inr (.inr ⟨_, r3, t3.1, f3.st g3 t3.2⟩)
      · split at t3
        · rename_i hm
          obtain ⟨a, e, _, us, h1, h2⟩ := g3.at r3 hm
          exact .inl ⟨a, us, e, SqL.of h1, fun p hp => f3.lst g3 hp (cut_rp h2) t3⟩
        · exact t3.elim
      · exact t3.elim⟩⟩⟩

/-! ### join -/
def strsOf : List D → Option (List Str)
  | [] => some []
  | .str b :: ds => match strsOf ds with
    | some bs => some (b :: bs)
    | none => none
  | _ :: _ => none
theorem strsOf_rp {w : Wo} {H : Hp} : ∀ {ds : List D} {vs : List V} {bs : List Str}, RpAll K w H ds vs → strsOf ds = some bs → vs = bs.map V.str
  | [], _, _, h, e => by cases e; exact h
  | .str n :: ds, _, _, ⟨v, r, h1, h2, h3⟩, e => by
    unfold strsOf at e
    cases q : strsOf ds with
    | none => rw [q] at e; cases e
    | some ns => rw [q] at e; cases e; rw [h1, show v = _ from h2, strsOf_rp h3 q]; rfl
  | .non :: _, _, _, _, e => by cases e
  | .ty _ :: _, _, _, _, e => by cases e
  | .int _ :: _, _, _, _, e => by cases e
  | .bl _ :: _, _, _, _, e => by cases e
  | .lst _ :: _, _, _, _, e => by cases e
  | .fz _ :: _, _, _, _, e => by cases e
  | .tup _ :: _, _, _, _, e => by cases e
  | .dT _ _ :: _, _, _, _, e => by cases e
  | .dK _ _ :: _, _, _, _, e => by cases e
  | .ins _ _ _ :: _, _, _, _, e => by cases e
  | .exc _ _ _ :: _, _, _, _, e => by cases e
  | .hx _ _ _ _ _ :: _, _, _, _, e => by cases e
  | .loc _ :: _, _, _, _, e => by cases e
  | .ref _ :: _, _, _, _, e => by cases e
def dJoin (a : Str) : R1D := fun y μ P => match y with
  | .lst xs => match strsOf xs with
    | some ys => (ys.map (·.length)).sum + ys.length * a.length ≤ 16777216 ∧ P (.str (Txt.join a ys)) μ
    | none => False
  | _ => False
/-- o.m(e), o a text -/
def eStr1 (rd : Str → R1D) (ta tb : ET) : ET := fun ρ μ P => ta ρ μ fun x μ1 => match x with
  | .str a => tb ρ μ1 fun y μ2 => rd a y μ2 P
  | _ => False
def Str1D (K : KK) (r : V → List V → Hp → VK → Prop) (rd : Str → R1D) : Prop := ∀ w H a y dy P Q, Gd K w H → Rp K w H dy y → rd a dy w.mu P → Fin K w H P Q → r (.str a) [y] H Q
theorem lift_str1 {ta tb : ET} {r : V → List V → Hp → VK → Prop} {rd : Str → R1D} (h : Str1D K r rd) (σ : L2.St) (H : Hp) (Q : VK) (q : LE K (eStr1 rd ta tb) σ H Q) : tM1 r (LE K ta) (LE K tb) σ H Q := by
  obtain ⟨w, ρ, P, g, er, t, f⟩ := q
  refine ⟨w, ρ, _, g, er, t, fun x v w1 H1 e1 g1 r1 t1 => ?_⟩
  split at t1
  · rename_i a
    rw [show v = V.str a from r1]
    exact ⟨⟨a, rfl⟩, w1, ρ, _, g1, er.mono e1.toKp, t1, fun y u w2 H2 e2 g2 r2 t2 => h w2 H2 a u y P Q g2 r2 t2 (f.mono (e1.trans e2))⟩
  · exact t1.elim
def rJoin (K : PySem.W.Frag) : V → List V → Hp → VK → Prop := fun x xs H Q => ∃ a p, ∃ ys : List Str, x = .str a ∧ xs = [.ref p] ∧ (SqL K H p (ys.map V.str) ∨ SqT K H p (ys.map V.str)) ∧
      (ys.map (·.length)).sum + ys.length * a.length ≤ 16777216 ∧ Q (.str (Txt.join a ys)) H
theorem sd_join : Str1D K (rJoin K) dJoin := by
  intro w H a y dy P Q g r t f
  unfold dJoin at t
  split at t
  · split at t
    · rename_i hb
      obtain ⟨p, us, e, h1, h2⟩ := r
      subst e
      exact ⟨_, p, _, rfl, rfl, .inl (by rw [← strsOf_rp h2 hb]; exact h1.sq), t.1, f.st g t.2⟩
    · exact t.elim
  · exact t.elim
theorem te_join {o e : Expr} {ta tb : ET} {apos pos : Pos} (ho : PE X o (LE ⟨X.K, Ex, Ee, Hz⟩ ta)) (he : PE X e (LE ⟨X.K, Ex, Ee, Hz⟩ tb)) (hs : starEach [e] X.env = [(false, eval e X.env)] := by rfl) (hbase : attributeBase o "join" X.env (eval o X.env) = eval o X.env := by rfl)
    (hline : (apos.endLine == pos.line) = true := by rfl) : PE X (.Call (.Attribute o "join" apos) [e] [] pos) (LE ⟨X.K, Ex, Ee, Hz⟩ (eStr1 dJoin ta tb)) :=
  te_of (pe_join ho he hs hbase hline) (lift_str1 sd_join)
end
end Tr
set_option Elab.async false
set_option linter.all false
set_option maxRecDepth 100000
namespace Tr
open PySem PySem.Spec PyProof.Rows L2

/-! ### targets -/
abbrev GT := D → Env → Mu → (Env → Mu → Prop) → Prop
inductive Tgt where
  | nm (i : Nat)
  | tp (ts : List Tgt)
/-- a tuple of that length, or a list -/
def gSq (K : PySem.W.Frag) (n : Nat) (t : TGs) : TG := fun v σ H Q => gTup K n t v σ H Q ∨ gLst K n t v σ H Q
mutual
def gTgt (K : PySem.W.Frag) : Tgt → TG
  | .nm i => gName i
  | .tp ts => gSq K ts.length (gTgts K ts)
def gTgts (K : PySem.W.Frag) : List Tgt → TGs
  | [] => gNil
  | t :: ts => gCons (gTgt K t) (gTgts K ts)
end
mutual
def gD : Tgt → GT
  | .nm i => fun d ρ μ P => P (ρ.set i (some d)) μ
  | .tp ts => fun d ρ μ P => match d with
    | .tup xs => xs.length = ts.length ∧ gDs ts xs ρ μ P
    | .lst xs => xs.length = ts.length ∧ gDs ts xs ρ μ P
    | _ => False
def gDs : List Tgt → List D → Env → Mu → (Env → Mu → Prop) → Prop
  | [], xs, ρ, μ, P => xs = [] ∧ P ρ μ
  | t :: ts, xs, ρ, μ, P => match xs with
    | x :: xs => gD t x ρ μ fun ρ1 μ1 => gDs ts xs ρ1 μ1 P
    | [] => False
end
mutual
def slots : Tgt → List Nat
  | .nm i => [i]
  | .tp ts => slotsA ts
def slotsA : List Tgt → List Nat
  | [] => []
  | t :: ts => slots t ++ slotsA ts
end
theorem wipe_get (σ : L2.St) : ∀ (vs : List Nat) (j : Nat), (L2.wipe σ vs)[j]? = if j ∈ vs then (if j < σ.length then some none else none) else σ[j]?
  | [], j => by simp [L2.wipe]
  | v :: vs, j => by
    show ((L2.wipe σ vs).set v none)[j]? = _
    rw [List.getElem?_set, wipe_get σ vs j, L2.wipe_length]
    by_cases h : v = j
    · subst h; simp
    · simp [h, Ne.symm h]
theorem wipe_set {σ : L2.St} {vs : List Nat} {i : Nat} {x : Option V} (h : i ∈ vs) : L2.wipe (σ.set i x) vs = L2.wipe σ vs := by
  apply List.ext_getElem?
  intro j
  rw [wipe_get, wipe_get, List.length_set]
  by_cases hj : j ∈ vs
  · simp [hj]
  · have : i ≠ j := fun e => hj (e ▸ h)
    simp [hj, List.getElem?_set_ne this]
section
variable {K : KK} {vs : List Nat}
mutual
theorem tgt_run : ∀ (t : Tgt) (d : D) (v : V) (w : Wo) (H : Hp) (ρ : Env) (σ : L2.St) (P : Env → Mu → Prop) (Q : L2.St → Hp → Prop), EnvR K w H ρ σ → Rp K w H d v → gD t d ρ w.mu P →
    (∀ ρ' σ', EnvR K w H ρ' σ' → (slots t ⊆ vs → L2.wipe σ' vs = L2.wipe σ vs) → P ρ' w.mu → Q σ' H) → gTgt K t v σ H Q
  | .nm i, d, v, w, H, ρ, σ, P, Q, er, r, t, f => f _ _ (er.set i r) (fun h => wipe_set (h List.mem_cons_self)) t
  | .tp ts, d, v, w, H, ρ, σ, P, Q, er, r, t, f => by
    unfold gD at t
    split at t
    · rename_i xs
      obtain ⟨a, us, e, h1, h2⟩ := r
      show gSq K ts.length (gTgts K ts) v σ H Q
      exact .inl ⟨a, us, e, h1.sq, by rw [h2.length]; exact t.1, tgts_run ts xs us w H ρ σ P Q er h2 t.2 f⟩
    · rename_i xs
      obtain ⟨a, us, e, h1, h2⟩ := r
      show gSq K ts.length (gTgts K ts) v σ H Q
      exact .inr ⟨a, us, e, h1.sq, by rw [h2.length]; exact t.1, tgts_run ts xs us w H ρ σ P Q er h2 t.2 f⟩
    · exact t.elim
theorem tgts_run : ∀ (ts : List Tgt) (ds : List D) (us : List V) (w : Wo) (H : Hp) (ρ : Env) (σ : L2.St) (P : Env → Mu → Prop) (Q : L2.St → Hp → Prop), EnvR K w H ρ σ → RpAll K w H ds us → gDs ts ds ρ w.mu P →
    (∀ ρ' σ', EnvR K w H ρ' σ' → (slotsA ts ⊆ vs → L2.wipe σ' vs = L2.wipe σ vs) → P ρ' w.mu → Q σ' H) → gTgts K ts us σ H Q
  | [], ds, us, w, H, ρ, σ, P, Q, er, r, t, f => by
    obtain ⟨e, t⟩ := t
    subst e
    exact ⟨r, f _ _ er (fun _ => rfl) t⟩
  | t0 :: ts, ds, us, w, H, ρ, σ, P, Q, er, r, t, f => by
    cases ds with
    | nil => exact (show False from t).elim
    | cons d ds =>
      obtain ⟨v, r0, e, h1, h2⟩ := r
      refine ⟨v, r0, e, tgt_run t0 d v w H ρ σ _ _ er h1 t fun ρ1 σ1 er1 z1 t1 => ?_⟩
      refine tgts_run ts ds r0 w H ρ1 σ1 P Q er1 h2 t1 fun ρ2 σ2 er2 z2 t2 => f ρ2 σ2 er2 (fun h => ?_) t2
      have h : slots t0 ++ slotsA ts ⊆ vs := h
      exact (z2 fun i hi => h (List.mem_append_right _ hi)).trans (z1 fun i hi => h (List.mem_append_left _ hi))
end
end
section
variable {Ex : KX} {Ee : XK} {Hz : Hp} {X : Cx} {pos : Pos}
theorem tg_nm {i : Nat} {x : Str} (hN : X.N.Nodup) (hi : X.N[i]? = some x) (hx : Loc X.env.scope x) (hf : X.fn x = true ∨ X.env.scope.names.lookup x = some .local := by first | exact .inl rfl | exact .inr rfl | assumption) : PG X (.Name x pos) (gTgt X.K (.nm i)) := pg_name hN hi hx hf
theorem tg_tp {es : List Expr} {k : Nat} {ts : List Tgt} (hc : X.calm = true) (h : PGs X es (gTgts X.K ts))
    (hn : (assignEach es X.env).length = ts.length := by rfl) (hst : (assignEach es X.env).findIdx? (·.1) = none := by rfl) : PG X (.Tuple es k pos) (gTgt X.K (.tp ts)) :=
  ⟨fun pins s σ H v u Q I r hw => hw.elim ((pg_tup hc h hn hst).run pins s σ H v u Q I r) ((pg_lst hc h hn hst).run pins s σ H v u Q I r)⟩
theorem tgs_nil : PGs X [] (gTgts X.K []) := pgs_nil
theorem tgs_cons {e : Expr} {es : List Expr} {t : Tgt} {ts : List Tgt} (h1 : PG X e (gTgt X.K t)) (h2 : PGs X es (gTgts X.K ts))
    (hs : (assignEach (e :: es) X.env).map (·.2) = assign e X.env :: (assignEach es X.env).map (·.2) := by rfl) : PGs X (e :: es) (gTgts X.K (t :: ts)) := pgs_cons h1 h2 hs
end

/-! ### statements -/
structure EndsD where
  nx : Env → Mu → Prop
  rt : KD
  bk : Env → Mu → Prop := fun _ _ => False
  ct : Env → Mu → Prop := fun _ _ => False
abbrev ST := EndsD → Env → Mu → Prop
def FinS (K : KK) (w : Wo) (H : Hp) (P : Env → Mu → Prop) (Q : L2.St → Hp → Prop) : Prop := ∀ ρ' σ' w' H', Ev w H w' H' → Gd K w' H' → EnvR K w' H' ρ' σ' → P ρ' w'.mu → Q σ' H'
structure FinD (K : KK) (w : Wo) (H : Hp) (DD : EndsD) (E : L2.Ends) : Prop where
  nx : FinS K w H DD.nx E.nx
  rt : Fin K w H DD.rt E.rt
  bk : FinS K w H DD.bk E.bk
  ct : FinS K w H DD.ct E.ct
theorem FinS.mono {K : KK} {w w' : Wo} {H H' : Hp} {P : Env → Mu → Prop} {Q : L2.St → Hp → Prop} (f : FinS K w H P Q) (e : Ev w H w' H') : FinS K w' H' P Q := fun d v w2 H2 e2 g r p => f d v w2 H2 (e.trans e2) g r p
theorem FinD.mono {K : KK} {w w' : Wo} {H H' : Hp} {DD : EndsD} {E : L2.Ends} (f : FinD K w H DD E) (e : Ev w H w' H') : FinD K w' H' DD E := ⟨f.nx.mono e, f.rt.mono e, f.bk.mono e, f.ct.mono e⟩
def LS (K : KK) (t : ST) : TS := fun E σ H => ∃ w ρ DD, Gd K w H ∧ EnvR K w H ρ σ ∧ t DD ρ w.mu ∧ FinD K w H DD E
section
variable {Ex : KX} {Ee : XK} {Hz : Hp} {X : Cx} {a b c e o : Expr} {es : List Expr} {st : Stmt} {rest sa sb : List Stmt} {pos : Pos} {ta tb tc te : ET} {qa : BT} {t u : ST}
theorem ss_of {t0 : TS} {t : ST} (h : PS X st t0) (i : ∀ E σ H, LS ⟨X.K, Ex, Ee, Hz⟩ t E σ H → t0 E σ H) : PS X st (LS ⟨X.K, Ex, Ee, Hz⟩ t) := ⟨fun pins s σ H E I q => h.run pins s σ H E I (i E σ H q)⟩
theorem sss_of {t0 : TS} {t : ST} (h : PSs X rest t0) (i : ∀ E σ H, LS ⟨X.K, Ex, Ee, Hz⟩ t E σ H → t0 E σ H) : PSs X rest (LS ⟨X.K, Ex, Ee, Hz⟩ t) := ⟨fun pins s σ H E I q => h.run pins s σ H E I (i E σ H q)⟩
def sNext : ST := fun DD ρ μ => DD.nx ρ μ
def sSeq (t u : ST) : ST := fun DD ρ μ => t { DD with nx := u DD } ρ μ
theorem ss_nil : PSs X [] (LS ⟨X.K, Ex, Ee, Hz⟩ sNext) := sss_of pss_nil fun E σ H ⟨w, ρ, DD, g, er, t, f⟩ => f.nx ρ σ w H Ev.refl g er t
theorem ss_cons (h1 : PS X st (LS ⟨X.K, Ex, Ee, Hz⟩ t)) (h2 : PSs X rest (LS ⟨X.K, Ex, Ee, Hz⟩ u)) : PSs X (st :: rest) (LS ⟨X.K, Ex, Ee, Hz⟩ (sSeq t u)) :=
  sss_of (pss_cons h1 h2) fun E σ H ⟨w, ρ, DD, g, er, t, f⟩ => ⟨w, ρ, _, g, er, t, ⟨fun ρ' σ' w' H' e g' er' p => ⟨w', ρ', DD, g', er', p, f.mono e⟩, f.rt, f.bk, f.ct⟩⟩
theorem ss_one (h1 : PS X st (LS ⟨X.K, Ex, Ee, Hz⟩ t)) : PSs X [st] (LS ⟨X.K, Ex, Ee, Hz⟩ t) := pss_one h1
def sSet (i : Nat) (t : ET) : ST := fun DD ρ μ => t ρ μ fun d μ1 => DD.nx (ρ.set i (some d)) μ1
theorem ss_set {i : Nat} {x : Str} {pos' : Pos} (hN : X.N.Nodup) (hi : X.N[i]? = some x) (hx : Loc X.env.scope x) (he : PE X e (LE ⟨X.K, Ex, Ee, Hz⟩ te)) (hs : swapsWith e (some (.Name x pos')) pos.line X.env = pure false := by rfl)
    (hf : X.fn x = true ∨ X.env.scope.names.lookup x = some .local := by first | exact .inl rfl | exact .inr rfl | assumption) : PS X (.Assign [.Name x pos'] e pos) (LS ⟨X.K, Ex, Ee, Hz⟩ (sSet i te)) :=
  ss_of (ps_set hN hi hx he hs hf) fun E σ H ⟨w, ρ, DD, g, er, t, f⟩ => ⟨w, ρ, _, g, er, t, fun d v w1 H1 e1 g1 r1 t1 => f.nx _ _ w1 H1 e1 g1 ((er.mono e1.toKp).set i r1) t1⟩
def sAsg (tg : Tgt) (t : ET) : ST := fun DD ρ μ => t ρ μ fun d μ1 => gD tg d ρ μ1 DD.nx
theorem ss_asg {tgt : Expr} {tg : Tgt} (he : PE X e (LE ⟨X.K, Ex, Ee, Hz⟩ te)) (hg : PG X tgt (gTgt X.K tg)) (hs : swapsWithSole [tgt] e pos.line X.env = pure false := by rfl) (hw : swappedStores [tgt] e X.env = pure none := by rfl)
    (h1 : (assignEach [tgt] X.env).map (·.2) = [assign tgt X.env] := by rfl) : PS X (.Assign [tgt] e pos) (LS ⟨X.K, Ex, Ee, Hz⟩ (sAsg tg te)) :=
  ss_of (ps_asg he hg hs hw h1) fun E σ H ⟨w, ρ, DD, g, er, t, f⟩ => ⟨w, ρ, _, g, er, t, fun d v w1 H1 e1 g1 r1 t1 => tgt_run (vs := []) tg d v w1 H1 ρ σ _ _ (er.mono e1.toKp) r1 t1 fun ρ' σ' er' _ p => f.nx ρ' σ' w1 H1 e1 g1 er' p⟩
def sPar (i j : Nat) (s : AT) : ST := fun DD ρ μ => s ρ μ fun ds μ1 => match ds with
  | [x, y] => DD.nx ((ρ.set i (some x)).set j (some y)) μ1
  | _ => False
theorem ss_par {i j : Nat} {x y : Str} {px py pt : Pos} {kt k2 pt2} {sq : AT} (hc : X.calm = true) (hN : X.N.Nodup) (hi : X.N[i]? = some x) (hj : X.N[j]? = some y) (hij : i ≠ j)
    (hx : X.env.scope.names.lookup x = some .local) (hy : X.env.scope.names.lookup y = some .local) (ha : PA X [a, b] (LA ⟨X.K, Ex, Ee, Hz⟩ sq))
    (hw : swappedStores [.Tuple [.Name x px, .Name y py] kt pt] (.Tuple [a, b] k2 pt2) X.env = pure (some [x, y]))
    (hs : swapsWithSole [.Tuple [.Name x px, .Name y py] kt pt] (.Tuple [a, b] k2 pt2) pos.line X.env = pure false := by rfl) :
    PS X (.Assign [.Tuple [.Name x px, .Name y py] kt pt] (.Tuple [a, b] k2 pt2) pos) (LS ⟨X.K, Ex, Ee, Hz⟩ (sPar i j sq)) :=
  ss_of (ps_par hc hN hi hj hij hx hy ha hw hs) fun E σ H ⟨w, ρ, DD, g, er, t, f⟩ => ⟨w, ρ, _, g, er, t, fun ds vs w1 H1 e1 g1 r1 t1 => by
    split at t1
    · obtain ⟨v, u, rfl, h1, h2⟩ := rpAll2 r1
      exact ⟨v, u, rfl, f.nx _ _ w1 H1 e1 g1 (((er.mono e1.toKp).set i h1).set j h2) t1⟩
    · exact t1.elim⟩
def sExpr (t : ET) : ST := fun DD ρ μ => t ρ μ fun _ μ1 => DD.nx ρ μ1
theorem ss_expr (he : PE X e (LE ⟨X.K, Ex, Ee, Hz⟩ te)) (hs : swapsWith e none pos.line X.env = pure false := by rfl) : PS X (.Expr e pos) (LS ⟨X.K, Ex, Ee, Hz⟩ (sExpr te)) :=
  ss_of (ps_expr he hs) fun E σ H ⟨w, ρ, DD, g, er, t, f⟩ => ⟨w, ρ, _, g, er, t, fun d v w1 H1 e1 g1 r1 t1 => f.nx ρ σ w1 H1 e1 g1 (er.mono e1.toKp) t1⟩
def sRet (t : ET) : ST := fun DD ρ μ => t ρ μ DD.rt
theorem ss_ret (he : PE X e (LE ⟨X.K, Ex, Ee, Hz⟩ te)) : PS X (.Return (some e) pos) (LS ⟨X.K, Ex, Ee, Hz⟩ (sRet te)) :=
  ss_of (ps_ret he) fun E σ H ⟨w, ρ, DD, g, er, t, f⟩ => ⟨w, ρ, _, g, er, t, f.rt⟩
def sRetN : ST := fun DD _ μ => DD.rt .non μ
theorem ss_retN : PS X (.Return none pos) (LS ⟨X.K, Ex, Ee, Hz⟩ sRetN) := ss_of ps_retN fun E σ H ⟨w, ρ, DD, g, er, t, f⟩ => f.rt.non g t
theorem ss_pass : PS X (.Pass pos) (LS ⟨X.K, Ex, Ee, Hz⟩ sNext) := ss_of ps_pass fun E σ H ⟨w, ρ, DD, g, er, t, f⟩ => f.nx ρ σ w H Ev.refl g er t
def sIf (q : BT) (t u : ST) : ST := fun DD ρ μ => q ρ μ fun b μ1 => if b = true then t DD ρ μ1 else u DD ρ μ1
theorem ss_if (hc : PT X c (LB ⟨X.K, Ex, Ee, Hz⟩ qa)) (ha : PSs X sa (LS ⟨X.K, Ex, Ee, Hz⟩ t)) (hb : PSs X sb (LS ⟨X.K, Ex, Ee, Hz⟩ u)) : PS X (.If c sa sb pos) (LS ⟨X.K, Ex, Ee, Hz⟩ (sIf qa t u)) :=
  ss_of (ps_if hc ha hb) fun E σ H ⟨w, ρ, DD, g, er, t, f⟩ => ⟨w, ρ, _, g, er, t, fun k w1 H1 e1 g1 t1 => by
    cases k with
    | true => rw [if_pos rfl] at t1 ⊢; exact ⟨w1, ρ, DD, g1, er.mono e1.toKp, t1, f.mono e1⟩
    | false => rw [if_neg Bool.false_ne_true] at t1 ⊢; exact ⟨w1, ρ, DD, g1, er.mono e1.toKp, t1, f.mono e1⟩⟩
/-- xs[i] = e, xs a list that may change -/
def sPut (te tx ti : ET) : ST := fun DD ρ μ => te ρ μ fun d μ1 => tx ρ μ1 fun x μ2 => ti ρ μ2 fun i μ3 => match x, i with
  | .loc n, .int k => match μ3[n]? with
    | some (some (.lst xs)) => match ixN xs.length k with
      | some j => DD.nx ρ (μ3.set n (some (.lst (xs.set j d))))
      | none => False
    | _ => False
  | _, _ => False
theorem ss_put {x i : Expr} {tx ti : ET} {p2 : Pos} (he : PE X e (LE ⟨X.K, Ex, Ee, Hz⟩ te)) (hx : PE X x (LE ⟨X.K, Ex, Ee, Hz⟩ tx)) (hi : PE X i (LE ⟨X.K, Ex, Ee, Hz⟩ ti)) (hg : PG X (.Subscript x i p2) (gSub (LE ⟨X.K, Ex, Ee, Hz⟩ tx) (LE ⟨X.K, Ex, Ee, Hz⟩ ti) rSetL))
    (hs : swapsWithSole [.Subscript x i p2] e pos.line X.env = pure false := by rfl) (hw : swappedStores [.Subscript x i p2] e X.env = pure none := by rfl)
    (h1 : (assignEach [.Subscript x i p2] X.env).map (·.2) = [assign (.Subscript x i p2) X.env] := by rfl) : PS X (.Assign [.Subscript x i p2] e pos) (LS ⟨X.K, Ex, Ee, Hz⟩ (sPut te tx ti)) :=
  ss_of (ps_asg he hg hs hw h1) fun E σ H ⟨w, ρ, DD, g, er, t, f⟩ => ⟨w, ρ, _, g, er, t, fun d v w1 H1 e1 g1 r1 t1 =>
    ⟨w1, ρ, _, g1, er.mono e1.toKp, t1, fun dx vx w2 H2 e2 g2 r2 t2 => ⟨w2, ρ, _, g2, er.mono (e1.trans e2).toKp, t2, fun di vi w3 H3 e3 g3 r3 t3 => by
      split at t3
      · split at t3
        · split at t3
          · rename_i n k _ xs hm _ j hj
            obtain ⟨ad, e4, ea, us, h4, h5⟩ := g3.at (Rp.mono e3.toKp _ _ r2) hm
            have hd := Rp.mono (e2.trans e3).toKp _ _ r1
            refine ⟨ad, us, k, j, e4, r3, h4, by rw [h5.length]; exact hj, ?_⟩
            have kp := Kp.put (o := .lst (us.set j v)) (c' := .lst (xs.set j d)) (H := H3) ea hm
            have ev := Ev.put (o := .lst (us.set j v)) (c' := .lst (xs.set j d)) g3.toGd0 ea hm
            refine f.nx ρ σ (w3.put n (.lst (xs.set j d))) _ (((e1.trans e2).trans e3).trans ev) (g3.put ea hm ⟨_, upd_same, RpAll.mono kp _ _ (h5.set j hd)⟩) (er.mono (((e1.trans e2).trans e3).trans ev).toKp) t3
          · exact t3.elim
        · exact t3.elim
      · exact t3.elim⟩⟩⟩
end

/-! ### what is walked -/
structure ItD (K : KK) (w0 : Wo) (H0 : Hp) (J : It) (ds : List D) : Prop where
  go : ∀ i w H, Kp w0 H0 w H → Gd K w H → i < ds.length → J.go i H
  yld : ∀ i w H x H', Kp w0 H0 w H → Gd K w H → i < ds.length → J.yld i H x H' → ∃ d w', ds[i]? = some d ∧ w'.mu = w.mu ∧ Ev w H w' H' ∧ Gd K w' H' ∧ Rp K w' H' d x
  stop : ∀ i w H, Kp w0 H0 w H → Gd K w H → ds.length ≤ i → J.stop i H
abbrev IT := Env → Mu → KA → Prop
def LI (K : KK) (t : IT) : TI := fun σ H R => ∃ w ρ P, Gd K w H ∧ EnvR K w H ρ σ ∧ t ρ w.mu P ∧ ∀ ds w' H' J, Ev w H w' H' → Gd K w' H' → ItD K w' H' J ds → P ds w'.mu → R J H'
def loopD (tg : Tgt) (tb : ST) (DD : EndsD) : List D → Env → Mu → Prop
  | [], ρ, μ => DD.nx ρ μ
  | d :: ds, ρ, μ => gD tg d ρ μ fun ρ1 μ1 => tb { DD with nx := loopD tg tb DD ds, ct := loopD tg tb DD ds, bk := DD.nx } ρ1 μ1
def sFor (it : IT) (tg : Tgt) (tb : ST) : ST := fun DD ρ μ => it ρ μ fun ds μ1 => loopD tg tb DD ds ρ μ1
section
variable {Ex : KX} {Ee : XK} {Hz : Hp} {X : Cx} {iter tgt : Expr} {body : List Stmt} {pos : Pos} {ti : IT} {tg : Tgt} {tb : ST}
theorem ss_for (hp : PassesOwn (model X.prog X.w) X.A X.env X.xe) (hc : X.calm = true) (hi : PI X tgt iter (LI ⟨X.K, Ex, Ee, Hz⟩ ti)) (hg : PG X tgt (gTgt X.K tg)) (hb : PSs X body (LS ⟨X.K, Ex, Ee, Hz⟩ tb))
    (hs : ∀ x, foldedSetIterable iter X.env x = pure x := by intro _; rfl) : PS X (.For tgt iter body [] pos) (LS ⟨X.K, Ex, Ee, Hz⟩ (sFor ti tg tb)) :=
  ss_of (ps_for hp hc hi hg hb hs) fun E σ H ⟨w, ρ, DD, g, er, t, f⟩ => by
    refine ⟨w, ρ, _, g, er, t, fun ds w1 H1 J e1 g1 it t1 => ?_⟩
    refine ⟨fun i m σ' H' => i ≤ ds.length ∧ m = ds.length - i ∧ ∃ w2 ρ2, Ev w1 H1 w2 H' ∧ Gd ⟨X.K, Ex, Ee, Hz⟩ w2 H' ∧ EnvR X.K w2 H' ρ2 σ' ∧ loopD tg tb DD (ds.drop i) ρ2 w2.mu, ⟨_, Nat.zero_le _, rfl, w1, ρ, Ev.refl, g1, er.mono e1.toKp, t1⟩, ?_⟩
    rintro i m σ2 H2 ⟨hi, hm, w2, ρ2, e2, g2, er2, t2⟩
    by_cases hlt : i < ds.length
    · refine .inr ⟨it.go i w2 H2 e2.toKp g2 hlt, fun σ' H' => ∃ w2 ρ2, Ev w1 H1 w2 H' ∧ Gd ⟨X.K, Ex, Ee, Hz⟩ w2 H' ∧ EnvR X.K w2 H' ρ2 σ' ∧ loopD tg tb DD (ds.drop (i + 1)) ρ2 w2.mu, fun σ' H' h => ⟨_, by omega, hlt, rfl, h⟩, fun x H3 hy => ?_⟩
      obtain ⟨d, w3, hd, hmu, e3, g3, r3⟩ := it.yld i w2 H2 x H3 e2.toKp g2 hlt hy
      rw [List.drop_eq_getElem_cons hlt] at t2
      have hd' : ds[i] = d := by
        obtain ⟨_, q⟩ := List.getElem?_eq_some_iff.mp hd
        exact q
      rw [hd'] at t2
      unfold loopD at t2
      rw [← hmu] at t2
      have e13 := e1.trans (e2.trans e3)
      refine tgt_run (vs := []) tg d x w3 H3 ρ2 σ2 _ _ (er2.mono e3.toKp) r3 t2 fun ρ4 σ4 er4 _ t4 => ?_
      refine ⟨w3, ρ4, _, g3, er4, t4, ⟨fun ρ5 σ5 w5 H5 e5 g5 er5 t5 => ⟨w5, ρ5, (e2.trans e3).trans e5, g5, er5, t5⟩, (f.mono e13).rt, (f.mono e13).nx, fun ρ5 σ5 w5 H5 e5 g5 er5 t5 => ⟨w5, ρ5, (e2.trans e3).trans e5, g5, er5, t5⟩⟩⟩
    · have : i = ds.length := by omega
      subst this
      rw [List.drop_length] at t2
      exact .inl ⟨it.stop _ w2 H2 e2.toKp g2 (Nat.le_refl _), f.nx ρ2 σ2 w2 H2 (e1.trans e2) g2 er2 t2⟩
end

/-! ### list comprehensions -/
def compD (tg : Tgt) (tt : BT) (te : ET) (ρ : Env) : List D → List D → Mu → KA → Prop
  | [], acc, μ, P => P acc μ
  | d :: ds, acc, μ, P => gD tg d ρ μ fun ρ1 μ1 => tt ρ1 μ1 fun b μ2 =>
    if b = true then te ρ1 μ2 fun y μ3 => acc.length < sizeLine ∧ compD tg tt te ρ ds (acc ++ [y]) μ3 P else compD tg tt te ρ ds acc μ2 P
def bYes : BT := fun _ μ P => P true μ
def eComp (it : IT) (tg : Tgt) (tt : BT) (te : ET) (vs : List Nat) : ET := fun ρ μ P => it ρ μ fun ds μ1 => compD tg tt te (wipeD ρ vs) ds [] μ1 fun ys μ2 => P (.lst ys) μ2
theorem lift_comp {K : KK} {ti : IT} {tg : Tgt} {tt : BT} {te : ET} {vs : List Nat} (hv : slots tg ⊆ vs) (σ : L2.St) (H : Hp) (Q : VK) (q : LE K (eComp ti tg tt te vs) σ H Q) : tLc (LI K ti) (gTgt K tg) (LB K tt) (LE K te) vs σ H Q := by
  obtain ⟨w, ρ, P, g, er, t, f⟩ := q
  refine ⟨w, ρ, _, g, er, t, fun ds w1 H1 J e1 g1 it t1 => ?_⟩
  intro Dn hD
  have er1 := (er.mono e1.toKp).wipe vs
  refine ⟨fun i m H' => i ≤ ds.length ∧ m = ds.length - i ∧ ∃ w2 acc us, Kp w1 H1 w2 H' ∧ w2.hid = Dn :: w1.hid ∧ (∀ a, a ∈ w1.hid → H' a = H1 a) ∧ Gd K w2 H' ∧ H' Dn = some (.lst us) ∧ RpAll K w2 H' acc us ∧
      compD tg tt te (wipeD ρ vs) (ds.drop i) acc w2.mu (fun ys μ2 => P (.lst ys) μ2), ⟨_, Nat.zero_le _, rfl, w1.hide Dn, [], [], Kp.hide hD, rfl, fun a ha => upd_ne fun z => g1.noh hD (z ▸ ha), g1.hide hD, upd_same, rfl, t1⟩, ?_⟩
  rintro i m H2 ⟨hi, hm, w2, acc, us, k2, hh2, hk2, g2, hD2, ra2, t2⟩
  by_cases hlt : i < ds.length
  · refine .inr ⟨it.go i w2 H2 k2 g2 hlt, fun H' => ∃ w2 acc us, Kp w1 H1 w2 H' ∧ w2.hid = Dn :: w1.hid ∧ (∀ a, a ∈ w1.hid → H' a = H1 a) ∧ Gd K w2 H' ∧ H' Dn = some (.lst us) ∧ RpAll K w2 H' acc us ∧
      compD tg tt te (wipeD ρ vs) (ds.drop (i + 1)) acc w2.mu (fun ys μ2 => P (.lst ys) μ2), fun H' h => ⟨_, by omega, hlt, rfl, h⟩, fun x H3 hy => ?_⟩
    obtain ⟨d, w3, hd, hmu, e3, g3, r3⟩ := it.yld i w2 H2 x H3 k2 g2 hlt hy
    rw [List.drop_eq_getElem_cons hlt] at t2
    have hd' : ds[i] = d := by
      obtain ⟨_, q⟩ := List.getElem?_eq_some_iff.mp hd
      exact q
    rw [hd'] at t2
    unfold compD at t2
    rw [← hmu] at t2
    have k3 := k2.trans e3.toKp
    refine tgt_run (vs := vs) tg d x w3 H3 (wipeD ρ vs) (L2.wipe σ vs) _ _ (er1.mono k3) r3 t2 fun ρ4 σ4 er4 hw4 t4 => ?_
    refine ⟨(hw4 hv).trans ?_, ?_⟩
    · apply List.ext_getElem?
      intro j
      rw [wipe_get, wipe_get, L2.wipe_length]
      by_cases hj : j ∈ vs <;> simp [hj]
    · -- the test, the element
      have mem2 : Dn ∈ w2.hid := by rw [hh2]; exact List.mem_cons_self
      refine ⟨w3, ρ4, _, g3, er4, t4, fun bb w5 H5 e5 g5 t5 => ?_⟩
      have hD5 : H5 Dn = some (.lst us) := by rw [e5.hk Dn (by rw [e3.hd]; exact mem2), e3.hk Dn mem2]; exact hD2
      have hk5 : ∀ a, a ∈ w1.hid → H5 a = H1 a := fun a ha => by
        have m2 : a ∈ w2.hid := by rw [hh2]; exact List.mem_cons_of_mem _ ha
        rw [e5.hk a (by rw [e3.hd]; exact m2), e3.hk a m2]
        exact hk2 a ha
      have hh5 : w5.hid = Dn :: w1.hid := by rw [e5.hd, e3.hd, hh2]
      cases bb with
      | false =>
        rw [if_neg Bool.false_ne_true] at t5
        refine iteF ?_
        exact ⟨w5, acc, us, k3.trans e5.toKp, hh5, hk5, g5, hD5, RpAll.mono (e3.trans e5).toKp _ _ ra2, t5⟩
      | true =>
        rw [if_pos rfl] at t5
        refine iteT ?_
        refine ⟨w5, ρ4, _, g5, er4.mono e5.toKp, t5, fun y v w6 H6 e6 g6 r6 t6 => ?_⟩
        obtain ⟨hl, t6⟩ := t6
        have mem5 : Dn ∈ w5.hid := by rw [hh5]; exact List.mem_cons_self
        have hD6 : H6 Dn = some (.lst us) := by rw [e6.hk Dn mem5]; exact hD5
        have ra6 := RpAll.mono ((e3.trans e5).trans e6).toKp _ _ ra2
        have hh6 : w6.hid = Dn :: w1.hid := by rw [e6.hd, hh5]
        have mem6 : Dn ∈ w6.hid := by rw [hh6]; exact List.mem_cons_self
        have k7 : Kp w6 H6 w6 (upd H6 Dn (.lst (us ++ [v]))) := ⟨⟨[], by simp⟩, fun a u ha _ l => ⟨by rw [upd_ne (fun z => l (.inr (by rw [z]; exact mem6)))]; exact ha, l⟩, dom_upd⟩
        have hk7 : ∀ a, a ∈ w1.hid → upd H6 Dn (.lst (us ++ [v])) a = H1 a := fun a ha => by
          have na : a ≠ Dn := fun z => g1.noh hD (z ▸ ha)
          rw [upd_ne na, e6.hk a (by rw [hh5]; exact List.mem_cons_of_mem _ ha)]
          exact hk5 a ha
        refine ⟨us, hD6, by rw [ra6.length]; exact hl, w6, acc ++ [y], us ++ [v], ((k3.trans e5.toKp).trans e6.toKp).trans k7, hh6, hk7, ⟨?_, g1.fx.under (((k3.trans e5.toKp).trans e6.toKp).trans k7) (fun a ha => by rw [hh6]; exact List.mem_cons_of_mem _ ha) hk7, fun a ha => dom_upd a (g6.fr a ha)⟩, upd_same, (RpAll.mono k7 _ _ ra6).append ⟨v, [], rfl, Rp.mono k7 _ _ r6, rfl⟩, t6⟩
        · refine ⟨g6.len, g6.nd, fun a ha => ?_, g6.apart, fun n a c h1 h2 => ?_⟩
          · by_cases q : a = Dn
            · subst q; rw [upd_same]; simp
            · rw [upd_ne q]; exact g6.trk a ha
          · have na : a ≠ Dn := fun z => g6.apart a (List.mem_of_getElem? h1) (z ▸ mem6)
            exact (g6.cell n a c h1 h2).mono k7 (upd_ne na)
  · have : i = ds.length := by omega
    subst this
    rw [List.drop_length] at t2
    refine .inl ⟨it.stop _ w2 H2 k2 g2 (Nat.le_refl _), ?_⟩
    have mem2 : Dn ∈ w2.hid := by rw [hh2]; exact List.mem_cons_self
    -- the new list is let stand
    have lv : ∀ {a : Addr}, Live ⟨w2.am, w2.mu, w1.hid⟩ a → Live w2 a := fun {a} l => l.elim .inl fun z => .inr (by rw [hh2]; exact List.mem_cons_of_mem _ z)
    have k9 : Kp w2 H2 ⟨w2.am, w2.mu, w1.hid⟩ H2 := ⟨⟨[], by simp⟩, fun a o h _ l => ⟨h, fun z => l (lv z)⟩, fun _ h => h⟩
    have e9 : Ev w1 H1 ⟨w2.am, w2.mu, w1.hid⟩ H2 := ⟨k2.trans k9, rfl, hk2⟩
    have g9 : Gd K ⟨w2.am, w2.mu, w1.hid⟩ H2 := g1.step e9 ⟨g2.len, g2.nd, fun a ha => g2.trk a (by
      rcases List.mem_append.mp ha with z | z
      · exact List.mem_append_left _ z
      · exact List.mem_append_right _ (by rw [hh2]; exact List.mem_cons_of_mem _ z)), fun a ha hh => g2.apart a ha (by rw [hh2]; exact List.mem_cons_of_mem _ hh), fun n a c h1 h2 => (g2.cell n a c h1 h2).mono k9 rfl⟩
    refine f (.lst acc) (.ref Dn) ⟨w2.am, w2.mu, w1.hid⟩ H2 (e1.trans e9) g9 ⟨Dn, us, rfl, ⟨?_, hD2⟩, RpAll.mono k9 _ _ ra2⟩ t2
    rintro (⟨n, c, h1, h2⟩ | hh)
    · exact g2.apart Dn (List.mem_of_getElem? h1) mem2
    · exact g1.noh hD hh
section
variable {Ex : KX} {Ee : XK} {Hz : Hp} {X : Cx} {elt tgt iter : Expr} {ifs : List Expr} {scope : Scope} {own : List (Str × Nat)} {vs : List Nat} {pos : Pos} {ti : IT} {tg : Tgt} {tt : BT} {te : ET}
theorem tts_nil : PTs X [] (LB ⟨X.K, Ex, Ee, Hz⟩ bYes) := ⟨fun pins s σ H Q I ⟨w, ρ, P, g, er, t, f⟩ => pts_nil.run pins s σ H Q I (f true w H Ev.refl g t)⟩
theorem te_comp (hc : X.calm = true) (hN : X.N.Nodup) (hi : PI X tgt iter (LI ⟨X.K, Ex, Ee, Hz⟩ ti)) (ok : BlkOk X.N X.env.scope scope own)
    (hg : ∀ (s : Shared) (H : Hp) (C : Addr) (cl : List (Str × Addr)) (fp : List Addr), PG (X.blk s H scope (compEnvC scope cl C X.env) fp) tgt (gTgt X.K tg)) (ht : ∀ (s : Shared) (H : Hp) (C : Addr) (cl : List (Str × Addr)) (fp : List Addr), PTs (X.blk s H scope (compEnvC scope cl C X.env) fp) ifs (LB ⟨X.K, Ex, Ee, Hz⟩ tt))
    (he : ∀ (s : Shared) (H : Hp) (C : Addr) (cl : List (Str × Addr)) (fp : List Addr), PE (X.blk s H scope (compEnvC scope cl C X.env) fp) elt (LE ⟨X.K, Ex, Ee, Hz⟩ te)) (hv : slots tg ⊆ vs) (ho : own.map (·.2) = vs := by rfl) (hs : ∀ x, foldedSetIterable iter X.env x = pure x := by intro _; rfl) :
    PE X (.ListComp elt [⟨tgt, iter, ifs, 0⟩] scope pos) (LE ⟨X.K, Ex, Ee, Hz⟩ (eComp ti tg tt te vs)) := by
  subst ho
  exact te_of (pe_lc hc hN hi ok hg ht he hs) (lift_comp hv)
def sComp (i : Nat) (it : IT) (tg : Tgt) (tt : BT) (te : ET) (vs : List Nat) : ST := sSet i (eComp it tg tt te vs)
theorem ss_comp {i : Nat} {y : Str} {py spos : Pos} (hc : X.calm = true) (hN : X.N.Nodup) (hy : X.N[i]? = some y) (hyl : X.env.scope.names.lookup y = some .local)
    (hsw : swapsWith (.ListComp elt [⟨tgt, iter, ifs, 0⟩] scope pos) (some (.Name y py)) spos.line X.env = pure true) (hi : PI X tgt iter (LI ⟨X.K, Ex, Ee, Hz⟩ ti)) (ok : BlkOk X.N X.env.scope scope own)
    (hg : ∀ (s : Shared) (H : Hp) (C : Addr) (cl : List (Str × Addr)) (fp : List Addr), PG (X.blk s H scope (compEnvC scope cl C X.env) fp) tgt (gTgt X.K tg)) (ht : ∀ (s : Shared) (H : Hp) (C : Addr) (cl : List (Str × Addr)) (fp : List Addr), PTs (X.blk s H scope (compEnvC scope cl C X.env) fp) ifs (LB ⟨X.K, Ex, Ee, Hz⟩ tt))
    (he : ∀ (s : Shared) (H : Hp) (C : Addr) (cl : List (Str × Addr)) (fp : List Addr), PE (X.blk s H scope (compEnvC scope cl C X.env) fp) elt (LE ⟨X.K, Ex, Ee, Hz⟩ te)) (hv : slots tg ⊆ vs) (ho : own.map (·.2) = vs := by rfl) (hs : ∀ x, foldedSetIterable iter X.env x = pure x := by intro _; rfl) :
    PS X (.Assign [.Name y py] (.ListComp elt [⟨tgt, iter, ifs, 0⟩] scope pos) spos) (LS ⟨X.K, Ex, Ee, Hz⟩ (sSet i (eComp ti tg tt te vs))) := by
  subst ho
  exact ss_of (ps_setLc hc hN hy hyl hsw hi ok hg ht he hs) fun E σ H ⟨w, ρ, DD, g, er, t, f⟩ => lift_comp hv σ H _ ⟨w, ρ, _, g, er, t, fun d v w1 H1 e1 g1 r1 t1 => f.nx _ _ w1 H1 e1 g1 ((er.mono e1.toKp).set i r1) t1⟩
end
end Tr
set_option Elab.async false
set_option linter.all false
set_option maxRecDepth 100000
namespace Tr
open PySem PySem.Spec PyProof.Rows L2 RZ

/-! ### what is walked: a list, a tuple, a text -/
def wAny (K : PySem.W.Frag) (tl : TE) : TI := fun σ H R => tl σ H fun x H1 =>
  (∃ q, x = .ref q ∧ (∃ ys, SqL K H1 q ys) ∧ R (Itl K q) H1) ∨ (∃ q, x = .ref q ∧ (∃ ys, SqT K H1 q ys) ∧ R (Itt K q) H1) ∨ ∃ z, x = .str z ∧ R (Its z) H1
section
variable {Ex : KX} {Ee : XK} {Hz : Hp} {X : Cx} {tgt e : Expr}
theorem pi_wAny {tl : TE} (h : PE X e tl) : PI X tgt e (wAny X.K tl) := by
  refine ⟨fun pins s σ H R I hw => thn (h.run pins s σ H _ I hw) ?_⟩
  rintro v s1 ⟨x, H1, J, rx, (⟨q, rfl, ⟨ys, hq⟩, hR⟩ | ⟨q, rfl, ⟨ys, hq⟩, hR⟩ | ⟨z, rfl, hR⟩)⟩
  · cases rx
    obtain ⟨us, -, pl, -⟩ := J.list hq
    exact wpAny_pyIter_list pl.isList (pi_one (tk := s1.toks) J _ (turn_list q _) ⟨_, Heap.get?_push_size _ rfl, rfl, rfl⟩ hR)
  · cases rx
    obtain ⟨us, -, pl, -⟩ := J.tuple hq
    exact wpAny_pyIter_tuple (show s1.heap.IsTuple q us.toArray from pl) (pi_one (tk := s1.toks) J _ (turn_tuple q _) ⟨_, Heap.get?_push_size _ rfl, rfl, rfl⟩ hR)
  · obtain ⟨tk, rfl⟩ := rx
    by_cases ha : (z.cps.all (· < 128)) = true
    · refine wpAny_pyIter_ascii ha ?_
      exact pi_one (tk := s1.toks) J _ (turn_str _ z tk "str_ascii_iterator" (.inl rfl)) ⟨_, Heap.get?_push_size _ rfl, rfl, rfl⟩ hR
    · refine wpAny_pyIter_wide (by simpa using ha) ?_
      exact pi_one (tk := s1.toks) J _ (turn_str _ z tk "str_iterator" (.inr rfl)) ⟨_, Heap.get?_push_size _ rfl, rfl, rfl⟩ hR
def signs (z : Str) : List D := z.cps.toList.map fun c => D.str ⟨#[c]⟩
def itAny (t : ET) : IT := fun ρ μ P => t ρ μ fun d μ1 => match d with
  | .lst xs => P xs μ1
  | .fz xs => P xs μ1
  | .tup xs => P xs μ1
  | .str z => P (signs z) μ1
  | _ => False
variable {K : KK} {w : Wo} {H : Hp}
theorem itd_list {a : Addr} {ds : List D} {vs : List V} (h : ∀ w' H', Kp w H w' H' → SqL K H' a vs) (r : RpAll K w H ds vs) : ItD K w H (Itl K a) ds where
  go := fun i w' H' k g hi => ⟨vs, vs[i]'(by rw [r.length]; exact hi), h w' H' k, by simp [r.length, hi]⟩
  yld := fun i w' H' x H2 k g hi hy => by
    obtain ⟨e, hy⟩ := hy
    subst e
    obtain ⟨d, h1, h2⟩ := (RpAll.mono k _ _ r).get (hy vs (h w' _ k))
    exact ⟨d, w', h1, rfl, Ev.refl, g, h2⟩
  stop := fun i w' H' k g hi => ⟨vs, h w' H' k, by rw [r.length]; exact hi⟩
theorem itd_tup {a : Addr} {ds : List D} {vs : List V} (h : ∀ w' H', Kp w H w' H' → SqT K H' a vs) (r : RpAll K w H ds vs) : ItD K w H (Itt K a) ds where
  go := fun i w' H' k g hi => ⟨vs, vs[i]'(by rw [r.length]; exact hi), h w' H' k, by simp [r.length, hi]⟩
  yld := fun i w' H' x H2 k g hi hy => by
    obtain ⟨e, hy⟩ := hy
    subst e
    obtain ⟨d, h1, h2⟩ := (RpAll.mono k _ _ r).get (hy vs (h w' _ k))
    exact ⟨d, w', h1, rfl, Ev.refl, g, h2⟩
  stop := fun i w' H' k g hi => ⟨vs, h w' H' k, by rw [r.length]; exact hi⟩
theorem itd_str {z : Str} : ItD K w H (Its z) (signs z) where
  go := fun i w' H' k g hi => by
    show i < z.cps.size
    simpa [signs] using hi
  yld := fun i w' H' x H2 k g hi hy => by
    obtain ⟨e, c, hc, rfl⟩ := hy
    subst e
    exact ⟨.str ⟨#[c]⟩, w', by simp [signs, hc], rfl, Ev.refl, g, rfl⟩
  stop := fun i w' H' k g hi => by
    show z.cps.size ≤ i
    simpa [signs] using hi
theorem ti_of {e tgt : Expr} {t0 : TI} {t : IT} (h : PI X tgt e t0) (i : ∀ σ H R, LI ⟨X.K, Ex, Ee, Hz⟩ t σ H R → t0 σ H R) : PI X tgt e (LI ⟨X.K, Ex, Ee, Hz⟩ t) := ⟨fun pins s σ H R I q => h.run pins s σ H R I (i σ H R q)⟩
theorem ti_any {t : ET} (h : PE X e (LE ⟨X.K, Ex, Ee, Hz⟩ t)) : PI X tgt e (LI ⟨X.K, Ex, Ee, Hz⟩ (itAny t)) :=
  ti_of (pi_wAny h) fun σ H R ⟨w, ρ, P, g, er, t, f⟩ => ⟨w, ρ, _, g, er, t, fun d v w1 H1 e1 g1 r1 t1 => by
    split at t1
    · obtain ⟨a, us, e, h1, h2⟩ := r1
      exact .inl ⟨a, e, ⟨us, h1.sq⟩, f _ w1 H1 _ e1 g1 (itd_list (fun w' H' k => (k.fzL h1).sq) h2) t1⟩
    · obtain ⟨a, us, e, h1, h2⟩ := r1
      exact .inl ⟨a, e, ⟨us, h1.sq⟩, f _ w1 H1 _ e1 g1 (itd_list (fun w' H' k => (k.fzS h1).sq) h2) t1⟩
    · obtain ⟨a, us, e, h1, h2⟩ := r1
      exact .inr (.inl ⟨a, e, ⟨us, h1.sq⟩, f _ w1 H1 _ e1 g1 (itd_tup (fun w' H' k => (k.fzT h1).sq) h2) t1⟩)
    · exact .inr (.inr ⟨_, r1, f _ w1 H1 _ e1 g1 itd_str t1⟩)
    · exact t1.elim⟩

/-! range -/
def rangeD (lo : Int) (n : Nat) : List D := (List.range n).map fun (i : Nat) => D.int (lo + (i : Int))
theorem itd_range {lo : Int} {n : Nat} : ItD K w H (Itr lo n) (rangeD lo n) where
  go := fun i w' H' k g hi => by
    have hi : i < (rangeD lo n).length := hi
    show i < n
    simpa [rangeD] using hi
  yld := fun i w' H' x H2 k g hi hy => by
    obtain ⟨e, rfl⟩ := hy
    subst e
    have hi : i < (rangeD lo n).length := hi
    have hn : i < n := by simpa [rangeD] using hi
    exact ⟨.int (lo + i), w', by simp [rangeD, hn], rfl, Ev.refl, g, rfl⟩
  stop := fun i w' H' k g hi => by
    have hi : (rangeD lo n).length ≤ i := hi
    show n ≤ i
    simpa [rangeD] using hi
def itRange1 (s : AT) : IT := fun ρ μ P => s ρ μ fun ds μ1 => match ds with
  | [.int j] => (-(2 ^ 62) ≤ j ∧ j < 2 ^ 62) ∧ P (rangeD 0 j.toNat) μ1
  | _ => False
theorem ti_range1 {a : Expr} {sa : AT} {p pos : Pos} (hg : Gl X "range") (hm : X.mg "range" = none) (ha : PA X [a] (LA ⟨X.K, Ex, Ee, Hz⟩ sa)) (hs : starEach [a] X.env = [(false, eval a X.env)] := by rfl) : PI X tgt (.Call (.Name "range" p) [a] [] pos) (LI ⟨X.K, Ex, Ee, Hz⟩ (itRange1 sa)) :=
  ti_of (pi_range1 hg hm ha hs) fun σ H R ⟨w, ρ, P, g, er, t, f⟩ => ⟨w, ρ, _, g, er, t, fun ds vs w1 H1 e1 g1 r1 t1 => by
    split at t1
    · obtain ⟨x, rfl, h⟩ := rpAll1 r1
      rw [show x = _ from h]
      exact ⟨_, rfl, t1.1.1, t1.1.2, f _ w1 H1 _ e1 g1 itd_range t1.2⟩
    · exact t1.elim⟩
def itRange2 (s : AT) : IT := fun ρ μ P => s ρ μ fun ds μ1 => match ds with
  | [.int i, .int j] => (-(2 ^ 62) ≤ i ∧ i < 2 ^ 62 ∧ -(2 ^ 62) ≤ j ∧ j < 2 ^ 62) ∧ P (rangeD i (j - i).toNat) μ1
  | _ => False
theorem ti_range2 {a b : Expr} {sa : AT} {p pos : Pos} (hg : Gl X "range") (hm : X.mg "range" = none) (ha : PA X [a, b] (LA ⟨X.K, Ex, Ee, Hz⟩ sa)) (hs : starEach [a, b] X.env = [(false, eval a X.env), (false, eval b X.env)] := by rfl) (hs2 : starEach [b] X.env = [(false, eval b X.env)] := by rfl) :
    PI X tgt (.Call (.Name "range" p) [a, b] [] pos) (LI ⟨X.K, Ex, Ee, Hz⟩ (itRange2 sa)) :=
  ti_of (pi_range2 hg hm ha hs hs2) fun σ H R ⟨w, ρ, P, g, er, t, f⟩ => ⟨w, ρ, _, g, er, t, fun ds vs w1 H1 e1 g1 r1 t1 => by
    split at t1
    · obtain ⟨x, y, rfl, h, h'⟩ := rpAll2 r1
      rw [show x = _ from h, show y = _ from h']
      exact ⟨_, _, rfl, t1.1, f _ w1 H1 _ e1 g1 itd_range t1.2⟩
    · exact t1.elim⟩

/-! zip of two lists, of two tuples; enumerate of a list -/
def zipD : List D → List D → List D
  | x :: xs, y :: ys => .tup [x, y] :: zipD xs ys
  | _, _ => []
theorem zipD_get : ∀ {xs ys : List D} {i : Nat} {x y : D}, xs[i]? = some x → ys[i]? = some y → (zipD xs ys)[i]? = some (.tup [x, y])
  | [], _, _, _, _, h, _ => by simp at h
  | _ :: _, [], _, _, _, _, h => by simp at h
  | x :: xs, y :: ys, 0, _, _, h1, h2 => by simp at h1 h2; subst h1; subst h2; rfl
  | x :: xs, y :: ys, i + 1, _, _, h1, h2 => by
    show (zipD xs ys)[i]? = _
    exact zipD_get (by simpa using h1) (by simpa using h2)
theorem zipD_len : ∀ {xs ys : List D}, (zipD xs ys).length = min xs.length ys.length
  | [], _ => by simp [zipD]
  | _ :: _, [] => by simp [zipD]
  | x :: xs, y :: ys => by
    show (zipD xs ys).length + 1 = _
    rw [zipD_len, List.length_cons, List.length_cons]
    omega
/-- a new pair at a turn -/
theorem turn_pair {w' : Wo} {H' H2 : Hp} {T : Addr} {d e : D} {x y : V} (g : Gd K w' H') (hT : H' T = none) (h2 : H2 = upd H' T (.tup [x, y])) (r1 : Rp K w' H' d x) (r2 : Rp K w' H' e y) : Ev w' H' w' H2 ∧ Gd K w' H2 ∧ Rp K w' H2 (.tup [d, e]) (.ref T) := by
  subst h2
  exact ⟨Ev.new g.toGd0 hT, g.new hT, rp_tup (g.dead hT) g hT ⟨x, [y], rfl, r1, y, [], rfl, r2, rfl⟩⟩
theorem itd_zipL {a b : Addr} {ds es : List D} {vs us : List V} (h : ∀ w' H', Kp w H w' H' → SqL K H' a vs ∧ SqL K H' b us) (r : RpAll K w H ds vs) (q : RpAll K w H es us) : ItD K w H (Itz K a b) (zipD ds es) where
  go := fun i w' H' k g hi => by
    rw [zipD_len, ← r.length, ← q.length] at hi
    exact ⟨vs, us, vs[i], us[i], (h w' H' k).1, (h w' H' k).2, by simp [show i < vs.length by omega], by simp [show i < us.length by omega]⟩
  yld := fun i w' H' z H2 k g hi hy => by
    obtain ⟨T, x, y, rfl, hT, hH, hx, hy⟩ := hy
    obtain ⟨d, h1, h2⟩ := (RpAll.mono k _ _ r).get (hx vs (h w' _ k).1)
    obtain ⟨e, h3, h4⟩ := (RpAll.mono k _ _ q).get (hy us (h w' _ k).2)
    obtain ⟨e1, e2, e3⟩ := turn_pair g hT hH h2 h4
    exact ⟨_, w', zipD_get h1 h3, rfl, e1, e2, e3⟩
  stop := fun i w' H' k g hi => by
    rw [zipD_len, ← r.length, ← q.length] at hi
    exact ⟨vs, us, (h w' H' k).1, (h w' H' k).2, by omega⟩
theorem itd_zipT {a b : Addr} {ds es : List D} {vs us : List V} (h : ∀ w' H', Kp w H w' H' → SqT K H' a vs ∧ SqT K H' b us) (r : RpAll K w H ds vs) (q : RpAll K w H es us) : ItD K w H (ItzT K a b) (zipD ds es) where
  go := fun i w' H' k g hi => by
    rw [zipD_len, ← r.length, ← q.length] at hi
    exact ⟨vs, us, vs[i], us[i], (h w' H' k).1, (h w' H' k).2, by simp [show i < vs.length by omega], by simp [show i < us.length by omega]⟩
  yld := fun i w' H' z H2 k g hi hy => by
    obtain ⟨T, x, y, rfl, hT, hH, hx, hy⟩ := hy
    obtain ⟨d, h1, h2⟩ := (RpAll.mono k _ _ r).get (hx vs (h w' _ k).1)
    obtain ⟨e, h3, h4⟩ := (RpAll.mono k _ _ q).get (hy us (h w' _ k).2)
    obtain ⟨e1, e2, e3⟩ := turn_pair g hT hH h2 h4
    exact ⟨_, w', zipD_get h1 h3, rfl, e1, e2, e3⟩
  stop := fun i w' H' k g hi => by
    rw [zipD_len, ← r.length, ← q.length] at hi
    exact ⟨vs, us, (h w' H' k).1, (h w' H' k).2, by omega⟩
def itZip (s : AT) : IT := fun ρ μ P => s ρ μ fun ds μ1 => match ds with
  | [.lst xs, .lst ys] => P (zipD xs ys) μ1
  | [.tup xs, .tup ys] => P (zipD xs ys) μ1
  | _ => False
theorem ti_zip {e e2 : Expr} {sa : AT} {p pos tpos : Pos} {elts : List Expr} {kk : Nat} (hg : Gl X "zip") (hm : X.mg "zip" = none) (ha : PA X [e, e2] (LA ⟨X.K, Ex, Ee, Hz⟩ sa))
    (hs : starEach [e, e2] X.env = (false, eval e X.env) :: starEach [e2] X.env := by rfl) (hpl : (backTo pos (starEach [e2] X.env)).any (·.1) = false := by rfl) :
    PI X (.Tuple elts kk tpos) (.Call (.Name "zip" p) [e, e2] [] pos) (LI ⟨X.K, Ex, Ee, Hz⟩ (itZip sa)) :=
  ti_of (pi_zipA hg hm ha hs hpl) fun σ H R ⟨w, ρ, P, g, er, t, f⟩ => ⟨w, ρ, _, g, er, t, fun ds vs w1 H1 e1 g1 r1 t1 => by
    split at t1
    · obtain ⟨x, y, rfl, ⟨a, us, rfl, h1, h2⟩, b, ws, rfl, h3, h4⟩ := rpAll2 r1
      exact ⟨a, b, us, ws, rfl, .inl ⟨h1.sq, h3.sq, f _ w1 H1 _ e1 g1 (itd_zipL (fun w' H' k => ⟨(k.fzL h1).sq, (k.fzL h3).sq⟩) h2 h4) t1⟩⟩
    · obtain ⟨x, y, rfl, ⟨a, us, rfl, h1, h2⟩, b, ws, rfl, h3, h4⟩ := rpAll2 r1
      exact ⟨a, b, us, ws, rfl, .inr ⟨h1.sq, h3.sq, f _ w1 H1 _ e1 g1 (itd_zipT (fun w' H' k => ⟨(k.fzT h1).sq, (k.fzT h3).sq⟩) h2 h4) t1⟩⟩
    · exact t1.elim⟩
def enumD (i : Nat) : List D → List D
  | [] => []
  | x :: xs => .tup [.int (i : Int), x] :: enumD (i + 1) xs
theorem enumD_get : ∀ {xs : List D} {k i : Nat} {x : D}, xs[i]? = some x → (enumD k xs)[i]? = some (.tup [.int ((k + i : Nat) : Int), x])
  | [], _, _, _, h => by simp at h
  | x :: xs, k, 0, _, h => by simp at h; subst h; rfl
  | x :: xs, k, i + 1, y, h => by
    show (enumD (k + 1) xs)[i]? = _
    rw [enumD_get (k := k + 1) (i := i) (x := y) (by simpa using h)]
    have : k + 1 + i = k + (i + 1) := by omega
    rw [this]
theorem enumD_len : ∀ {xs : List D} {k : Nat}, (enumD k xs).length = xs.length
  | [], _ => rfl
  | x :: xs, k => by
    show (enumD (k + 1) xs).length + 1 = _
    rw [enumD_len, List.length_cons]
theorem itd_enum {a : Addr} {ds : List D} {vs : List V} (h : ∀ w' H', Kp w H w' H' → SqL K H' a vs) (r : RpAll K w H ds vs) : ItD K w H (Ite K a) (enumD 0 ds) where
  go := fun i w' H' k g hi => by
    rw [enumD_len, ← r.length] at hi
    exact ⟨vs, vs[i], h w' H' k, by simp [hi]⟩
  yld := fun i w' H' z H2 k g hi hy => by
    obtain ⟨T, x, rfl, hT, hH, hx⟩ := hy
    obtain ⟨d, h1, h2⟩ := (RpAll.mono k _ _ r).get (hx vs (h w' _ k))
    obtain ⟨e1, e2, e3⟩ := turn_pair (d := .int (i : Int)) g hT hH rfl h2
    refine ⟨_, w', ?_, rfl, e1, e2, e3⟩
    rw [enumD_get h1, Nat.zero_add]
  stop := fun i w' H' k g hi => by
    rw [enumD_len, ← r.length] at hi
    exact ⟨vs, h w' H' k, hi⟩
def itEnum (s : AT) : IT := fun ρ μ P => s ρ μ fun ds μ1 => match ds with
  | [.lst xs] => P (enumD 0 xs) μ1
  | _ => False
theorem ti_enum {e : Expr} {sa : AT} {p pos tpos : Pos} {elts : List Expr} {kk : Nat} (hg : Gl X "enumerate") (hm : X.mg "enumerate" = none) (ha : PA X [e] (LA ⟨X.K, Ex, Ee, Hz⟩ sa)) (hs : starEach [e] X.env = [(false, eval e X.env)] := by rfl) :
    PI X (.Tuple elts kk tpos) (.Call (.Name "enumerate" p) [e] [] pos) (LI ⟨X.K, Ex, Ee, Hz⟩ (itEnum sa)) :=
  ti_of (pi_enum hg hm ha hs) fun σ H R ⟨w, ρ, P, g, er, t, f⟩ => ⟨w, ρ, _, g, er, t, fun ds vs w1 H1 e1 g1 r1 t1 => by
    split at t1
    · obtain ⟨x, rfl, a, us, rfl, h1, h2⟩ := rpAll1 r1
      exact ⟨a, us, rfl, h1.sq, f _ w1 H1 _ e1 g1 (itd_enum (fun w' H' k => (k.fzL h1).sq) h2) t1⟩
    · exact t1.elim⟩
end

/-! ### a def by its body -/
def startD (N : List Str) (ds : List D) : Env := ds.map some ++ List.replicate (N.length - ds.length) none
theorem envR_start {K : KK} {w : Wo} {H : Hp} {N : List Str} {ds : List D} {vs : List V} (r : RpAll K w H ds vs) : EnvR K w H (startD N ds) (L2.start N vs) := by
  refine ⟨by simp [startD, L2.start, r.length], fun i d h => ?_⟩
  unfold startD at h
  by_cases hi : i < ds.length
  · rw [List.getElem?_append_left (by simpa using hi), List.getElem?_map] at h
    cases q : ds[i]? with
    | none => rw [q] at h; cases h
    | some e =>
      rw [q] at h
      cases h
      obtain ⟨v, h1, h2⟩ := r.get' q
      refine ⟨v, ?_, h2⟩
      unfold L2.start
      rw [List.getElem?_append_left (by simpa [r.length] using hi), List.getElem?_map, h1]
      rfl
  · rw [List.getElem?_append_right (by simpa using hi), List.getElem?_replicate] at h
    split at h <;> cases h
section
variable {P : Program} {wd : World} {K : PySem.W.Frag} {mg : Str → Option Value} {base : Heap}
theorem fn_ok {x qual : Str} {st : Stmt} {f : Addr} {fd : FuncData} {N ps : List Str} {k : Nat} {sp : RAD} {t : ST} (F : Fun K x qual st f fd) (S : FnScope N ps (defScope st))
    (hb : ∀ (Ex : KX) (Ee : XK) (Hz : Hp) (cdv : Value) (A : Around) (outer : List PySem.Env) (s : Shared) (H : Hp) (E : XK), Room k (A.deeper (envOfC qual (defScope st) s.heap.objs.size f cdv)) →
      PSs (cxOf CX0 P wd K mg base N qual (defScope st) f cdv A outer s H E).nox (defBody st) (LS ⟨K, Ex, Ee, Hz⟩ t))
    (len : ∀ ds μ Pd, sp ds μ Pd → ds.length = ps.length) (hs : ∀ ds μ Pd, sp ds μ Pd → t { nx := fun _ μ' => Pd .non μ', rt := Pd } (startD N ds) μ) : FnD P wd K mg base (k + 1) f fd ps sp := by
  refine F.ok S (fun vs H Q E h => ?_) (fun cdv A outer s H vs Q E hr h => ?_)
  · obtain ⟨Ex, Ee, Hz, w, ds, Pd, g, r, q, f⟩ := h
    rw [r.length]
    exact len ds _ Pd q
  · obtain ⟨Ex, Ee, Hz, w, ds, Pd, g, r, q, f⟩ := h
    refine ⟨_, hb Ex Ee Hz cdv A outer s H E hr, w, startD N ds, _, g, envR_start r, hs ds _ Pd q, ?_⟩
    exact ⟨fun ρ' σ' w' H' e g' er' p => f .non .non w' H' e g' rfl p, f, fun _ _ _ _ _ _ _ p => p.elim, fun _ _ _ _ _ _ _ p => p.elim⟩
end
end Tr
set_option Elab.async false
set_option linter.all false
set_option maxRecDepth 100000
namespace Tr
open PySem PySem.Spec PyProof.Rows L2 RZ

/-- a def of the text that stands under its name -/
structure FnI (P : Program) (wd : World) (K : PySem.W.Frag) (mg : Str → Option Value) (base : Heap) (x : Str) (st : Stmt) (k : Nat) (ps : List Str) (sp : RAD) : Prop where
  ex : ∃ (f : Addr) (fd : FuncData), FnD P wd K mg base k f fd ps sp ∧ mg x = some (.ref f) ∧ Fun K x x st f fd ∧ Binds K fd ps []
theorem FnI.mono {P : Program} {wd : World} {K : PySem.W.Frag} {mg : Str → Option Value} {base : Heap} {x : Str} {st : Stmt} {j k : Nat} {ps : List Str} {sp : RAD} (F : FnI P wd K mg base x st j ps sp) (h : j ≤ k) : FnI P wd K mg base x st k ps sp := by
  obtain ⟨f, fd, a, b, c, d⟩ := F.ex
  exact ⟨f, fd, a.mono h, b, c, d⟩
theorem SpOf.imp {K : PySem.W.Frag} {sp sp' : RAD} (h : ∀ ds μ P, sp' ds μ P → sp ds μ P) (vs : List V) (H : Hp) (Q : VK) (E : XK) (q : SpOf K sp' vs H Q E) : SpOf K sp vs H Q E := by
  obtain ⟨Ex, Ee, Hz, w, ds, P, g, r, t, f⟩ := q
  exact ⟨Ex, Ee, Hz, w, ds, P, g, r, h _ _ _ t, f⟩
theorem FnI.imp {P : Program} {wd : World} {K : PySem.W.Frag} {mg : Str → Option Value} {base : Heap} {x : Str} {st : Stmt} {k : Nat} {ps : List Str} {sp sp' : RAD} (F : FnI P wd K mg base x st k ps sp) (h : ∀ ds μ P, sp' ds μ P → sp ds μ P) : FnI P wd K mg base x st k ps sp' := by
  obtain ⟨f, fd, a, b, c, d⟩ := F.ex
  exact ⟨f, fd, FnOk.imp a (SpOf.imp h), b, c, d⟩
theorem fni_mk {P : Program} {wd : World} {K : PySem.W.Frag} {mg : Str → Option Value} {base : Heap} {x : Str} {st : Stmt} {f : Addr} {fd : FuncData} {k : Nat} {ps : List Str} {sp : RAD} (F : Fun K x x st f fd) (hm : mg x = some (.ref f)) (h : FnD P wd K mg base k f fd ps sp)
    (hb : Binds K fd ps []) : FnI P wd K mg base x st k ps sp := ⟨f, fd, h, hm, F, hb⟩
def pick (pm : List Nat) {α : Type} [Inhabited α] (l : List α) : List α := pm.map fun i => l.getD i default
theorem pick_rel {K : PySem.W.Frag} {w : Wo} {H : Hp} {ds : List D} {vs : List V} (r : RpAll K w H ds vs) {pm : List Nat} (h : ∀ i, i ∈ pm → i < ds.length) : RpAll K w H (pick pm ds) (pm.map fun i => vs.getD i .non) := by
  refine RpAll.ofMem (by simp [pick]) fun i d v h1 h2 => ?_
  unfold pick at h1
  rw [List.getElem?_map] at h1 h2
  cases q : pm[i]? with
  | none => rw [q] at h1; cases h1
  | some j =>
    rw [q] at h1 h2
    have hj := h j (List.mem_of_getElem? q)
    have hj' : j < vs.length := by rw [r.length]; exact hj
    obtain ⟨v', e1, e2⟩ := r.get' (i := j) (List.getElem?_eq_getElem hj)
    simp only [Option.map_some, Option.some.injEq, List.getD_eq_getElem?_getD] at h1 h2
    rw [List.getElem?_eq_getElem hj] at h1
    rw [e1] at h2
    simp only [Option.getD_some] at h1 h2
    rw [← h1, ← h2]
    exact e2
theorem vals_pick {vs : List V} {us : List Value} (r : Vals vs us) {pm : List Nat} : Vals (pm.map fun i => vs.getD i .non) (pm.map fun i => us.getD i .none) := by
  induction pm with
  | nil => exact .nil
  | cons i pm ih =>
    refine .cons ?_ ih
    show RelV (vs.getD i .non) (us.getD i .none)
    rw [List.getD_eq_getElem?_getD, List.getD_eq_getElem?_getD]
    cases q : vs[i]? with
    | some v =>
      obtain ⟨u, e, r'⟩ := r.get q
      rw [e]
      exact r'
    | none =>
      rw [r.none_of q]
      exact rfl
section
variable {Ex : KX} {Ee : XK} {Hz : Hp} {X : Cx} {e : Expr} {es : List Expr} {pos p : Pos} {sa : AT} {x : Str} {st : Stmt} {k j : Nat} {ps : List Str} {sp : RAD}
theorem te_fn (F : FnI X.prog X.w X.K X.mg X.base x st k ps sp) (hr : Room j X.A) (hg : Gl X x) (ha : PA X (e :: es) (LA ⟨X.K, Ex, Ee, Hz⟩ sa)) (hk : k ≤ j := by first | decide | omega) (hdb : (x == ("__debug__" : Str)) = false := by decide) (he : starEach (e :: es) X.env = (false, eval e X.env) :: starEach es X.env := by rfl)
    (hpl : (backTo pos (starEach es X.env)).any (·.1) = false := by rfl) : PE X (.Call (.Name x p) (e :: es) [] pos) (LE ⟨X.K, Ex, Ee, Hz⟩ (eCall sp sa)) := by
  obtain ⟨f, fd, a, b, c, d⟩ := F.ex
  exact te_call a (hr.mono hk) hg b c.kp d ha hdb he hpl
theorem te_fn0 (F : FnI X.prog X.w X.K X.mg X.base x st k ps sp) (hr : Room j X.A) (hg : Gl X x) (hk : k ≤ j := by first | decide | omega) (hdb : (x == ("__debug__" : Str)) = false := by decide) : PE X (.Call (.Name x p) [] [] pos) (LE ⟨X.K, Ex, Ee, Hz⟩ (eCall sp aNil)) := by
  obtain ⟨f, fd, a, b, c, d⟩ := F.ex
  exact te_call0 a (hr.mono hk) hg b c.kp d hdb
/-- f(k = v, ..), all by keywords (names ks, as they are written); pm: which of them stands at each parameter -/
def eCallP (sp : RAD) (pm : List Nat) (n : Nat) (s : AT) : ET := fun ρ μ P => s ρ μ fun ds μ1 => ds.length = n ∧ sp (pick pm ds) μ1 P
theorem te_fnK {kws : List Keyword} {ks : List Str} (pm : List Nat) (F : FnI X.prog X.w X.K X.mg X.base x st k ps sp) (hr : Room j X.A) (hg : Gl X x) (hkw : PK X kws (LA ⟨X.K, Ex, Ee, Hz⟩ sa))
    (hb : ∀ (kV doc pmm : Value) (an : Option Addr) (cdv ct : Value) (ws : List Value), ws.length = ks.length → bindArgs (PySem.W.fnOf x x (defArgs st) (defBody st) (defScope st) .none kV doc pmm an cdv ct) ⟨[], ks.zip ws⟩ = pure (ps.zip (pm.map fun i => ws.getD i .none)))
    (hpm : ∀ i, i ∈ pm → i < ks.length := by decide) (hk : k ≤ j := by first | decide | omega) (hall : (backToKw pos (keywordEach kws X.env)).all (·.1.isSome) = true := by rfl) (hks : (backToKw pos (keywordEach kws X.env)).filterMap (·.1) = ks := by rfl)
    (hdb : (x == ("__debug__" : Str)) = false := by decide) (hpl : ((backTo pos (starEach [] X.env)).any (·.1) || (backToKw pos (keywordEach kws X.env)).any (·.1.isNone)) = false := by rfl) (hpp : ps.length = pm.length := by rfl) :
    PE X (.Call (.Name x p) [] kws pos) (LE ⟨X.K, Ex, Ee, Hz⟩ (eCallP sp pm ks.length sa)) := by
  obtain ⟨f, fd, a, b, c, d⟩ := F.ex
  refine ⟨fun pins s σ H Q I ⟨w, ρ, P, g, er, t, f'⟩ => ?_⟩
  refine wpAny_Call_Name_kw (ld_glob I hg b ?_ hdb)
  refine PySem.W.callWith_KW0 (h₀ := X.base) I.ok.mod.kin c.kp hall ?_ hpl
  refine thn (hkw.run pos pins s σ H (fun vs H1 => ∃ w1 ds, Gd ⟨X.K, Ex, Ee, Hz⟩ w1 H1 ∧ RpAll X.K w1 H1 ds vs ∧ ds.length = ks.length ∧ sp (pick pm ds) w1.mu P ∧ Fin ⟨X.K, Ex, Ee, Hz⟩ w1 H1 P Q) I ⟨w, ρ, _, g, er, t, fun ds vs w1 H1 e1 g1 r1 ⟨hl, t1⟩ => ⟨w1, ds, g1, r1, hl, t1, f'.mono e1⟩⟩) ?_
  rintro ws s2 ⟨zs, H2, I2, rz, w1, ds, g1, r1, hl, t1, f1⟩
  refine ⟨I2.kIn, ?_⟩
  rw [hks]
  have hz : ws.length = ks.length := by rw [← rz.length, r1.length, hl]
  have r2 := vals_pick rz (pm := pm)
  have r3 := pick_rel r1 (pm := pm) (fun i hi => by rw [hl]; exact hpm i hi)
  have hsp : SpOf X.K sp (pm.map fun i => zs.getD i .non) H2 Q (fun _ _ _ => False) := ⟨Ex, Ee, Hz, w1, _, P, g1, r3, t1, f1⟩
  obtain ⟨oc, od, kV, doc, pmv, an, cdv, ct, osl, rfl, lk, hcd⟩ := c.ex
  refine wpAny_call (codeAny_mono (a.run X.A X.stack s2 H2 ⟨[], ks.zip ws⟩ _ _ Q (fun _ _ _ => False) (hr.mono hk) I2.env0 (.of_eq (hb kV doc pmv an cdv ct ws hz)) r2 hsp) fun r s' hq => ?_)
  cases r with
  | error er' => exact False.elim hq
  | ok fl =>
    cases fl with
    | ret u => exact I2.after hq
    | next => exact False.elim hq
    | brk => exact False.elim hq
    | cont => exact False.elim hq
theorem hu64 {A : Around} {k : Nat} (hr : Room k A) : A.units + 64 < cLine := hr.units
theorem hu65 {A : Around} {k : Nat} (hr : Room k A) : A.units + 65 < cLine := by have := hr.un; omega
def dNeg : R1D := fun x μ P => match x with
  | .int i => P (.int (-i)) μ
  | _ => False
def eUn (rd : R1D) (t : ET) : ET := fun ρ μ P => t ρ μ fun x μ1 => rd x μ1 P
theorem te_neg {a : Expr} {ta : ET} (ha : PE X a (LE ⟨X.K, Ex, Ee, Hz⟩ ta)) : PE X (.UnaryOp .USub a pos) (LE ⟨X.K, Ex, Ee, Hz⟩ (eUn dNeg ta)) :=
  te_of (pe_un un_neg ha) fun σ H Q ⟨w, ρ, P, g, er, t, f⟩ => ⟨w, ρ, _, g, er, t, fun d v w1 H1 e1 g1 r1 t1 => by
    unfold dNeg at t1
    split at t1
    · exact ⟨_, r1, (f.mono e1).int g1 t1⟩
    · exact t1.elim⟩
/-- a name of the module that holds a def, a class -/
theorem te_ref {a : Addr} (hg : Gl X x) (hm : X.mg x = some (.ref a)) (hdb : (x == ("__debug__" : Str)) = false := by decide) : PE X (.Name x p) (LE ⟨X.K, Ex, Ee, Hz⟩ (eC (.ref a))) := te_c (pe_glob hg hm (v := .ref a) rfl hdb) fun _ _ => rfl
theorem te_gint {i : Int} (hg : Gl X x) (hm : ∃ t, X.mg x = some (.int i t)) (hdb : (x == ("__debug__" : Str)) = false := by decide) : PE X (.Name x p) (LE ⟨X.K, Ex, Ee, Hz⟩ (eC (.int i))) := by
  obtain ⟨t, hm⟩ := hm
  exact te_c (pe_glob hg hm (v := .int i) ⟨_, rfl⟩ hdb) fun _ _ => rfl
theorem te_gstr {i : Str} (hg : Gl X x) (hm : ∃ t, X.mg x = some (.str i t)) (hdb : (x == ("__debug__" : Str)) = false := by decide) : PE X (.Name x p) (LE ⟨X.K, Ex, Ee, Hz⟩ (eC (.str i))) := by
  obtain ⟨t, hm⟩ := hm
  exact te_c (pe_glob hg hm (v := .str i) ⟨_, rfl⟩ hdb) fun _ _ => rfl
theorem te_ty {n : String} (hg : Gl X x) (hm : X.mg x = none) (hv : bootBuiltins x = some (.type n)) (hn : x ≠ "__name__" := by decide) (hdb : (x == ("__debug__" : Str)) = false := by decide) : PE X (.Name x p) (LE ⟨X.K, Ex, Ee, Hz⟩ (eC (.ty n))) := te_c (pe_bltn hg hm hv (v := .ty n) rfl hn hdb) fun _ _ => rfl
theorem tts_one {c : Expr} {q : BT} (h : PT X c (LB ⟨X.K, Ex, Ee, Hz⟩ q)) : PTs X [c] (LB ⟨X.K, Ex, Ee, Hz⟩ q) := pts_one h
/-- 'abc'.index(c), found -/
def dIndexS (a : Str) : R1D := fun y μ P => match y with
  | .str b => match Builtin.Str.occurrences a b 0 a.length 1 with
    | i :: _ => P (.int (i : Nat)) μ
    | [] => False
  | _ => False
theorem sd_index {K : KK} : Str1D K (fun x xs H Q => ∃ a b i rest, x = .str a ∧ xs = [.str b] ∧ Builtin.Str.occurrences a b 0 a.length 1 = i :: rest ∧ Q (.int (i : Nat)) H) dIndexS := by
  intro w H a y dy P Q g r t f
  unfold dIndexS at t
  split at t
  · split at t
    · rename_i i rest hb
      exact ⟨a, _, i, rest, rfl, by rw [show y = _ from r], hb, f.int g t⟩
    · exact t.elim
  · exact t.elim
theorem te_sindex {o : Expr} {ta tb : ET} {apos : Pos} (ho : PE X o (LE ⟨X.K, Ex, Ee, Hz⟩ ta)) (he : PE X e (LE ⟨X.K, Ex, Ee, Hz⟩ tb)) (hs : starEach [e] X.env = [(false, eval e X.env)] := by rfl) (hbase : attributeBase o "index" X.env (eval o X.env) = eval o X.env := by rfl)
    (hline : (apos.endLine == pos.line) = true := by rfl) : PE X (.Call (.Attribute o "index" apos) [e] [] pos) (LE ⟨X.K, Ex, Ee, Hz⟩ (eStr1 dIndexS ta tb)) :=
  te_of (pe_m1 F.slot_str_index F.type_str_index mt_sindex ho he hs hbase hline) (lift_str1 sd_index)
end
end Tr
set_option Elab.async false
set_option linter.all false
set_option maxRecDepth 100000
namespace Tr
open PySem PySem.Spec PyProof.Rows L2 RZ
/-! what simp may open -/
section
variable {ρ : Env} {μ : Mu} {P : KD} {PB : KB} {PA' : KA} {DD : EndsD}
@[simp] theorem s_seq {t u : ST} : sSeq t u DD ρ μ = t { DD with nx := u DD } ρ μ := id rfl
@[simp] theorem s_next : sNext DD ρ μ = DD.nx ρ μ := id rfl
@[simp] theorem s_set {i : Nat} {t : ET} : sSet i t DD ρ μ = t ρ μ fun d μ1 => DD.nx (ρ.set i (some d)) μ1 := id rfl
@[simp] theorem s_ret {t : ET} : sRet t DD ρ μ = t ρ μ DD.rt := id rfl
@[simp] theorem s_retN : sRetN DD ρ μ = DD.rt .non μ := id rfl
@[simp] theorem s_expr {t : ET} : sExpr t DD ρ μ = t ρ μ fun _ μ1 => DD.nx ρ μ1 := id rfl
@[simp] theorem s_if {q : BT} {t u : ST} : sIf q t u DD ρ μ = q ρ μ fun b μ1 => if b = true then t DD ρ μ1 else u DD ρ μ1 := id rfl
@[simp] theorem s_for {it : IT} {tg : Tgt} {tb : ST} : sFor it tg tb DD ρ μ = it ρ μ fun ds μ1 => loopD tg tb DD ds ρ μ1 := id rfl
@[simp] theorem s_asg {tg : Tgt} {t : ET} : sAsg tg t DD ρ μ = t ρ μ fun d μ1 => gD tg d ρ μ1 DD.nx := id rfl
@[simp] theorem s_par {i j : Nat} {s : AT} : sPar i j s DD ρ μ = s ρ μ fun ds μ1 => match ds with | [x, y] => DD.nx ((ρ.set i (some x)).set j (some y)) μ1 | _ => False := id rfl
@[simp] theorem e_c {d : D} : eC d ρ μ P = P d μ := id rfl
theorem e_var {i : Nat} : eVar i ρ μ P = match ρ[i]? with | some (some d) => P d μ | _ => False := id rfl
@[simp] theorem e_v0 {d : D} {r : Env} : eVar 0 (some d :: r) μ P = P d μ := id rfl
@[simp] theorem e_vS {i : Nat} {o : Option D} {r : Env} : eVar (i + 1) (o :: r) μ P = eVar i r μ P := by simp [e_var]
@[simp] theorem e_v1 {a1 : Option D} {d : D} {r : Env} : eVar 1 (a1 :: some d :: r) μ P = P d μ := id rfl
@[simp] theorem e_v2 {a1 a2 : Option D} {d : D} {r : Env} : eVar 2 (a1 :: a2 :: some d :: r) μ P = P d μ := id rfl
@[simp] theorem e_v3 {a1 a2 a3 : Option D} {d : D} {r : Env} : eVar 3 (a1 :: a2 :: a3 :: some d :: r) μ P = P d μ := id rfl
@[simp] theorem e_v4 {a1 a2 a3 a4 : Option D} {d : D} {r : Env} : eVar 4 (a1 :: a2 :: a3 :: a4 :: some d :: r) μ P = P d μ := id rfl
@[simp] theorem e_v5 {a1 a2 a3 a4 a5 : Option D} {d : D} {r : Env} : eVar 5 (a1 :: a2 :: a3 :: a4 :: a5 :: some d :: r) μ P = P d μ := id rfl
@[simp] theorem e_v6 {a1 a2 a3 a4 a5 a6 : Option D} {d : D} {r : Env} : eVar 6 (a1 :: a2 :: a3 :: a4 :: a5 :: a6 :: some d :: r) μ P = P d μ := id rfl
@[simp] theorem e_v7 {a1 a2 a3 a4 a5 a6 a7 : Option D} {d : D} {r : Env} : eVar 7 (a1 :: a2 :: a3 :: a4 :: a5 :: a6 :: a7 :: some d :: r) μ P = P d μ := id rfl
@[simp] theorem e_v8 {a1 a2 a3 a4 a5 a6 a7 a8 : Option D} {d : D} {r : Env} : eVar 8 (a1 :: a2 :: a3 :: a4 :: a5 :: a6 :: a7 :: a8 :: some d :: r) μ P = P d μ := id rfl
@[simp] theorem e_v9 {a1 a2 a3 a4 a5 a6 a7 a8 a9 : Option D} {d : D} {r : Env} : eVar 9 (a1 :: a2 :: a3 :: a4 :: a5 :: a6 :: a7 :: a8 :: a9 :: some d :: r) μ P = P d μ := id rfl
@[simp] theorem e_v10 {a1 a2 a3 a4 a5 a6 a7 a8 a9 a10 : Option D} {d : D} {r : Env} : eVar 10 (a1 :: a2 :: a3 :: a4 :: a5 :: a6 :: a7 :: a8 :: a9 :: a10 :: some d :: r) μ P = P d μ := id rfl
@[simp] theorem e_v11 {a1 a2 a3 a4 a5 a6 a7 a8 a9 a10 a11 : Option D} {d : D} {r : Env} : eVar 11 (a1 :: a2 :: a3 :: a4 :: a5 :: a6 :: a7 :: a8 :: a9 :: a10 :: a11 :: some d :: r) μ P = P d μ := id rfl
@[simp] theorem e_op {rd : R2D} {ta tb : ET} : eOp rd ta tb ρ μ P = ta ρ μ fun x μ1 => tb ρ μ1 fun y μ2 => rd x y μ2 P := id rfl
@[simp] theorem e_un {rd : R1D} {ta : ET} : eUn rd ta ρ μ P = ta ρ μ fun x μ1 => rd x μ1 P := id rfl
@[simp] theorem e_chain {rd rd' : R2D} {ta tb tc : ET} : eChain rd rd' ta tb tc ρ μ P = ta ρ μ fun x μ1 => tb ρ μ1 fun y μ2 => rd x y μ2 fun z μ3 => onB z fun k =>
  if k = true then tc ρ μ3 fun w μ4 => rd' y w μ4 P else P (.bl false) μ3 := id rfl
@[simp] theorem onB_bl {b : Bool} {f : Bool → Prop} : onB (.bl b) f = f b := id rfl
@[simp] theorem e_and {ta tb : ET} : eAnd ta tb ρ μ P = ta ρ μ fun d μ1 => onB d fun k => if k = true then tb ρ μ1 P else P (.bl false) μ1 := id rfl
@[simp] theorem e_or {ta tb : ET} : eOr ta tb ρ μ P = ta ρ μ fun d μ1 => onB d fun k => if k = true then P (.bl true) μ1 else tb ρ μ1 P := id rfl
@[simp] theorem e_not {ta : ET} : eNot ta ρ μ P = ta ρ μ fun d μ1 => onB d fun b => P (.bl (!b)) μ1 := id rfl
@[simp] theorem e_if {q : BT} {ta tb : ET} : eIf q ta tb ρ μ P = q ρ μ fun b μ1 => if b = true then ta ρ μ1 P else tb ρ μ1 P := id rfl
@[simp] theorem e_tup {s : AT} : eTup s ρ μ P = s ρ μ fun ds μ1 => ds.length ≤ sizeLine ∧ P (.tup ds) μ1 := id rfl
@[simp] theorem e_lst {s : AT} : eLst s ρ μ P = s ρ μ fun ds μ1 => ds.length ≤ sizeLine ∧ P (.lst ds) μ1 := id rfl
@[simp] theorem e_lstL {s : AT} : eLstL s ρ μ P = s ρ μ fun ds μ1 => ds.length ≤ sizeLine ∧ P (.loc μ1.length) (μ1 ++ [some (.lst ds)]) := id rfl
@[simp] theorem e_call {rd : RAD} {s : AT} : eCall rd s ρ μ P = s ρ μ fun ds μ1 => rd ds μ1 P := id rfl
@[simp] theorem e_callP {rd : RAD} {pm : List Nat} {n : Nat} {s : AT} : eCallP rd pm n s ρ μ P = s ρ μ fun ds μ1 => ds.length = n ∧ rd (pick pm ds) μ1 P := id rfl
@[simp] theorem e_sl {t : ET} {l u : OT} : eSl t l u ρ μ P = t ρ μ fun d μ1 => l ρ μ1 fun lo μ2 => u ρ μ2 fun hi μ3 => dSl d lo hi μ3 P := id rfl
@[simp] theorem o_no {Q : Option Int → Mu → Prop} : oNo ρ μ Q = Q none μ := id rfl
@[simp] theorem o_yes {Q : Option Int → Mu → Prop} {t : ET} : oYes t ρ μ Q = t ρ μ fun d μ1 => match d with | .int i => Q (some i) μ1 | _ => False := id rfl
@[simp] theorem e_str1 {rd : Str → R1D} {ta tb : ET} : eStr1 rd ta tb ρ μ P = ta ρ μ fun x μ1 => match x with | .str a => tb ρ μ1 fun y μ2 => rd a y μ2 P | _ => False := id rfl
@[simp] theorem e_comp {it : IT} {tg : Tgt} {tt : BT} {te : ET} {vs : List Nat} : eComp it tg tt te vs ρ μ P = it ρ μ fun ds μ1 => compD tg tt te (wipeD ρ vs) ds [] μ1 fun ys μ2 => P (.lst ys) μ2 := id rfl
@[simp] theorem a_nil : aNil ρ μ PA' = PA' [] μ := id rfl
@[simp] theorem a_cons {t : ET} {s : AT} : aCons t s ρ μ PA' = t ρ μ fun d μ1 => s ρ μ1 fun ds μ2 => PA' (d :: ds) μ2 := id rfl
@[simp] theorem b_b {t : ET} : bB t ρ μ PB = t ρ μ fun d μ1 => onB d fun b => PB b μ1 := id rfl
@[simp] theorem b_t {t : ET} : bT t ρ μ PB = t ρ μ fun d μ1 => sized d ∧ match dTru d with | some b => PB b μ1 | none => False := id rfl
@[simp] theorem b_and {s t : BT} : bAnd s t ρ μ PB = s ρ μ fun b μ1 => if b = true then t ρ μ1 PB else PB false μ1 := id rfl
@[simp] theorem b_or {s t : BT} : bOr s t ρ μ PB = s ρ μ fun b μ1 => if b = true then PB true μ1 else t ρ μ1 PB := id rfl
@[simp] theorem b_not {s : BT} : bNot s ρ μ PB = s ρ μ fun b μ1 => PB (!b) μ1 := id rfl
@[simp] theorem b_yes : bYes ρ μ PB = PB true μ := id rfl
@[simp] theorem it_any {t : ET} : itAny t ρ μ PA' = t ρ μ fun d μ1 => match d with | .lst xs => PA' xs μ1 | .fz xs => PA' xs μ1 | .tup xs => PA' xs μ1 | .str z => PA' (signs z) μ1 | _ => False := id rfl
@[simp] theorem it_range1 {s : AT} : itRange1 s ρ μ PA' = s ρ μ fun ds μ1 => match ds with | [.int j] => (-(2 ^ 62) ≤ j ∧ j < 2 ^ 62) ∧ PA' (rangeD 0 j.toNat) μ1 | _ => False := id rfl
@[simp] theorem it_zip {s : AT} : itZip s ρ μ PA' = s ρ μ fun ds μ1 => match ds with | [.lst xs, .lst ys] => PA' (zipD xs ys) μ1 | [.tup xs, .tup ys] => PA' (zipD xs ys) μ1 | _ => False := id rfl
@[simp] theorem it_enum {s : AT} : itEnum s ρ μ PA' = s ρ μ fun ds μ1 => match ds with | [.lst xs] => PA' (enumD 0 xs) μ1 | _ => False := id rfl
@[simp] theorem g_nm {i : Nat} {d : D} {Q : Env → Mu → Prop} : gD (.nm i) d ρ μ Q = Q (ρ.set i (some d)) μ := id rfl
@[simp] theorem g_tp {ts : List Tgt} {xs : List D} {Q : Env → Mu → Prop} : gD (.tp ts) (.tup xs) ρ μ Q = (xs.length = ts.length ∧ gDs ts xs ρ μ Q) := id rfl
@[simp] theorem g_tpl {ts : List Tgt} {xs : List D} {Q : Env → Mu → Prop} : gD (.tp ts) (.lst xs) ρ μ Q = (xs.length = ts.length ∧ gDs ts xs ρ μ Q) := id rfl
@[simp] theorem gs_nil {xs : List D} {Q : Env → Mu → Prop} : gDs [] xs ρ μ Q = (xs = [] ∧ Q ρ μ) := id rfl
@[simp] theorem gs_cons {t : Tgt} {ts : List Tgt} {x : D} {xs : List D} {Q : Env → Mu → Prop} : gDs (t :: ts) (x :: xs) ρ μ Q = gD t x ρ μ fun ρ1 μ1 => gDs ts xs ρ1 μ1 Q := id rfl
@[simp] theorem l_nil {tg : Tgt} {tb : ST} : loopD tg tb DD [] ρ μ = DD.nx ρ μ := id rfl
@[simp] theorem cp_nil {tg : Tgt} {tt : BT} {te : ET} {acc : List D} : compD tg tt te ρ [] acc μ PA' = PA' acc μ := id rfl
theorem l_cons {tg : Tgt} {tb : ST} {d : D} {ds : List D} : loopD tg tb DD (d :: ds) ρ μ = gD tg d ρ μ fun ρ1 μ1 => tb { DD with nx := loopD tg tb DD ds, ct := loopD tg tb DD ds, bk := DD.nx } ρ1 μ1 := id rfl
theorem cp_cons {tg : Tgt} {tt : BT} {te : ET} {acc ds : List D} {d : D} : compD tg tt te ρ (d :: ds) acc μ PA' = gD tg d ρ μ fun ρ1 μ1 => tt ρ1 μ1 fun b μ2 =>
    if b = true then te ρ1 μ2 fun y μ3 => acc.length < sizeLine ∧ compD tg tt te ρ ds (acc ++ [y]) μ3 PA' else compD tg tt te ρ ds acc μ2 PA' := id rfl
@[simp] theorem wipe_nil : wipeD ρ [] = ρ := id rfl
@[simp] theorem wipe_cons {v : Nat} {vs : List Nat} : wipeD ρ (v :: vs) = (wipeD ρ vs).set v none := id rfl
theorem len_small {α : Type} {l : List α} (h : l.length ≤ 1000) : l.length ≤ sizeLine := Nat.le_trans h (by rw [sizeLine_eq]; decide)
@[simp] theorem sl_0 : 0 ≤ sizeLine := Nat.zero_le _
/-! isinstance -/
@[simp] theorem d_isi1 {x : D} {n : String} : dIsi [x, .ty n] μ P = match tyN x with | some t => n ∈ clss ∧ P (.bl (isTy t n)) μ | none => False := id rfl
@[simp] theorem d_isi2 {x : D} {cs : List D} : dIsi [x, .tup cs] μ P = match tyN x, tyNs cs with | some t, some ns => (∀ n, n ∈ ns → n ∈ clss) ∧ P (.bl (ns.any (isTy t))) μ | _, _ => False := id rfl
@[simp] theorem sized_non : sized .non := trivial
@[simp] theorem sized_bl {b : Bool} : sized (.bl b) := trivial
@[simp] theorem sized_int {b : Int} : sized (.int b) := trivial
@[simp] theorem sized_lst {b : List D} : sized (.lst b) := trivial
@[simp] theorem sized_tup {b : List D} : sized (.tup b) := trivial
@[simp] theorem sized_str {x : Str} : sized (.str x) = (x.length ≤ sizeLine) := id rfl
@[simp] theorem tru_non : dTru .non = some false := id rfl
@[simp] theorem tru_bl {b : Bool} : dTru (.bl b) = some b := id rfl
@[simp] theorem tru_int {b : Int} : dTru (.int b) = some (b != 0) := id rfl
@[simp] theorem tru_str {x : Str} : dTru (.str x) = some ((x.length : Int) != 0) := id rfl
@[simp] theorem tru_lst {xs : List D} : dTru (.lst xs) = some (!xs.isEmpty) := id rfl
@[simp] theorem tru_tup {xs : List D} : dTru (.tup xs) = some (!xs.isEmpty) := id rfl
/-! operators on what is known -/
@[simp] theorem d_add_int {i j : Int} : dAdd (.int i) (.int j) μ P = P (.int (i + j)) μ := id rfl
@[simp] theorem d_add_str {i j : Str} : dAdd (.str i) (.str j) μ P = (i.length + j.length ≤ sizeLine ∧ P (.str (i ++ j)) μ) := id rfl
@[simp] theorem d_add_lst {i j : List D} : dAdd (.lst i) (.lst j) μ P = (i.length + j.length ≤ sizeLine ∧ P (.lst (i ++ j)) μ) := id rfl
@[simp] theorem d_add_tup {i j : List D} : dAdd (.tup i) (.tup j) μ P = (i.length + j.length ≤ sizeLine ∧ P (.tup (i ++ j)) μ) := id rfl
@[simp] theorem d_sub {i j : Int} : dSub (.int i) (.int j) μ P = P (.int (i - j)) μ := id rfl
@[simp] theorem d_mul {i j : Int} : dMul (.int i) (.int j) μ P = (CMul i j ∧ P (.int (i * j)) μ) := id rfl
@[simp] theorem d_mod {i j : Int} : dMod (.int i) (.int j) μ P = (0 < j ∧ P (.int (i % j)) μ) := id rfl
@[simp] theorem d_fdiv {i j : Int} : dFdiv (.int i) (.int j) μ P = (CDiv i j ∧ P (.int (i / j)) μ) := id rfl
@[simp] theorem d_pow {i j : Int} : dPow (.int i) (.int j) μ P = (CPow i j ∧ P (.int (i ^ j.toNat)) μ) := id rfl
@[simp] theorem d_lt {i j : Int} : dLt (.int i) (.int j) μ P = P (.bl (decide (i < j))) μ := id rfl
@[simp] theorem d_le {i j : Int} : dLe (.int i) (.int j) μ P = P (.bl (decide (i ≤ j))) μ := id rfl
@[simp] theorem d_gt {i j : Int} : dGt (.int i) (.int j) μ P = P (.bl (decide (j < i))) μ := id rfl
@[simp] theorem d_ge {i j : Int} : dGe (.int i) (.int j) μ P = P (.bl (decide (j ≤ i))) μ := id rfl
@[simp] theorem d_neg {i : Int} : dNeg (.int i) μ P = P (.int (-i)) μ := id rfl
@[simp] theorem d_is {x : D} : dIs x .non μ P = P (.bl (isNon x)) μ := id rfl
@[simp] theorem d_isnot {x : D} : dIsNot x .non μ P = P (.bl (!isNon x)) μ := id rfl
@[simp] theorem isNon_non : isNon .non = true := id rfl
@[simp] theorem isNon_bl {b : Bool} : isNon (.bl b) = false := id rfl
@[simp] theorem isNon_int {b : Int} : isNon (.int b) = false := id rfl
@[simp] theorem isNon_str {b : Str} : isNon (.str b) = false := id rfl
@[simp] theorem isNon_lst {b : List D} : isNon (.lst b) = false := id rfl
@[simp] theorem isNon_tup {b : List D} : isNon (.tup b) = false := id rfl
@[simp] theorem d_len_lst {xs : List D} : dLen [.lst xs] μ P = P (.int xs.length) μ := id rfl
@[simp] theorem d_len_fz {xs : List D} : dLen [.fz xs] μ P = P (.int xs.length) μ := id rfl
@[simp] theorem d_len_tup {xs : List D} : dLen [.tup xs] μ P = P (.int xs.length) μ := id rfl
@[simp] theorem d_len_str {x : Str} : dLen [.str x] μ P = (x.length ≤ sizeLine ∧ P (.int x.length) μ) := id rfl
@[simp] theorem d_int_int {i : Int} : dIntOf [.int i] μ P = P (.int i) μ := id rfl
@[simp] theorem d_str_int {i : Int} : dStrOf [.int i] μ P = (i.natAbs.log2 < 1920 ∧ P (.str (toString i)) μ) := id rfl
@[simp] theorem d_tup_lst {xs : List D} : dTupOf [.lst xs] μ P = P (.tup xs) μ := id rfl
@[simp] theorem d_tup_tup {xs : List D} : dTupOf [.tup xs] μ P = P (.tup xs) μ := id rfl
@[simp] theorem d_lst_lst {xs : List D} : dLstOf [.lst xs] μ P = P (.lst xs) μ := id rfl
@[simp] theorem d_lst_tup {xs : List D} : dLstOf [.tup xs] μ P = P (.lst xs) μ := id rfl
@[simp] theorem d_ix_lst {xs : List D} {i : Int} : dIx (.lst xs) (.int i) μ P = match atI xs i with | some d => P d μ | none => False := id rfl
@[simp] theorem d_ix_tup {xs : List D} {i : Int} : dIx (.tup xs) (.int i) μ P = match atI xs i with | some d => P d μ | none => False := id rfl
@[simp] theorem d_ix_str {z : Str} {i : Int} : dIx (.str z) (.int i) μ P = match atI z.cps.toList i with | some c => z.length ≤ sizeLine ∧ P (.str ⟨#[c]⟩) μ | none => False := id rfl
@[simp] theorem d_ix_loc {n : Nat} {i : Int} : dIx (.loc n) (.int i) μ P = match μ[n]? with
    | some (some (.lst xs)) => match atI xs i with
      | some d => P d μ
      | none => False
    | _ => False := id rfl
@[simp] theorem s_put {te tx ti : ET} : sPut te tx ti DD ρ μ = te ρ μ fun d μ1 => tx ρ μ1 fun x μ2 => ti ρ μ2 fun i μ3 => match x, i with
  | .loc n, .int k => match μ3[n]? with
    | some (some (.lst xs)) => match ixN xs.length k with
      | some j => DD.nx ρ (μ3.set n (some (.lst (xs.set j d))))
      | none => False
    | _ => False
  | _, _ => False := id rfl
theorem cmul_r {i j : Int} (h : j.natAbs < 2 ^ 64) : CMul i j := .inr (by omega)
theorem cmul_l {i j : Int} (h : i.natAbs < 2 ^ 64) : CMul i j := .inl (by omega)
@[simp] theorem atI0 {α : Type} {a : α} {l : List α} : atI (a :: l) (0 : Int) = some a := by simp [atI, ixN]
@[simp] theorem atI1 {α : Type} {a b : α} {l : List α} : atI (a :: b :: l) (1 : Int) = some b := by
  have h : (1 : Int) < ((a :: b :: l).length : Int) := by simp only [List.length_cons]; omega
  simp only [atI, ixN]; rw [if_pos (by decide), if_pos h]; rfl
@[simp] theorem atI2 {α : Type} {a b c : α} {l : List α} : atI (a :: b :: c :: l) (2 : Int) = some c := by
  have h : (2 : Int) < ((a :: b :: c :: l).length : Int) := by simp only [List.length_cons]; omega
  simp only [atI, ixN]; rw [if_pos (by decide), if_pos h]; rfl
@[simp] theorem atI3 {α : Type} {a b c d : α} {l : List α} : atI (a :: b :: c :: d :: l) (3 : Int) = some d := by
  have h : (3 : Int) < ((a :: b :: c :: d :: l).length : Int) := by simp only [List.length_cons]; omega
  simp only [atI, ixN]; rw [if_pos (by decide), if_pos h]; rfl
theorem atI_nat' {α : Type} {l : List α} {i : Int} (h0 : 0 ≤ i) (h : i < (l.length : Int)) : ∃ x, l[i.toNat]? = some x ∧ atI l i = some x := by
  have hi : i.toNat < l.length := by omega
  refine ⟨l[i.toNat], List.getElem?_eq_getElem hi, ?_⟩
  simp only [atI, ixN]
  rw [if_pos h0, if_pos h]
  exact List.getElem?_eq_getElem hi
end
end Tr
set_option Elab.async false
set_option linter.all false
set_option maxRecDepth 100000
namespace Tr
open PySem PySem.Spec PyProof.Rows L2 RZ

/-! ### plain data -/
mutual
/-- plain data, n deep at most -/
def ok : Nat → D → Bool
  | _, .non => true
  | _, .bl _ => true
  | _, .int _ => true
  | _, .str x => PyData.strOk x && decide (x.length ≤ 1000)
  | n + 1, .lst xs => okA n xs && decide (xs.length ≤ 1000)
  | n + 1, .tup xs => okA n xs && decide (xs.length ≤ 1000)
  | _, _ => false
def okA : Nat → List D → Bool
  | _, [] => true
  | n, d :: ds => ok n d && okA n ds
end
/-! a comprehension whose element is a function of the item -/
theorem comp_map {tg : Tgt} {te : ET} {ρ : Tr.Env} {f : D → D} : ∀ (ds acc : List D) (μ : Mu) (P : KA), acc.length + ds.length ≤ 1000 →
    (∀ d, d ∈ ds → ∀ P : KD, P (f d) μ → gD tg d ρ μ fun ρ1 μ1 => te ρ1 μ1 P) → P (acc ++ ds.map f) μ → compD tg bYes te ρ ds acc μ P
  | [], acc, μ, P, _, _, h => by simpa using h
  | d :: ds, acc, μ, P, hl, he, h => by
    rw [cp_cons]
    have := he d List.mem_cons_self (fun y μ3 => acc.length < sizeLine ∧ compD tg bYes te ρ ds (acc ++ [y]) μ3 P) ?_
    · simpa using this
    · simp only [List.length_cons] at hl
      refine ⟨Nat.lt_of_lt_of_le (show acc.length < 1001 by omega) (by rw [sizeLine_eq]; decide), comp_map ds (acc ++ [f d]) μ P (by simp; omega) (fun d' hd' => he d' (List.mem_cons_of_mem _ hd')) (by simpa using h)⟩
theorem okA_mem {n : Nat} : ∀ {ds : List D} {d : D}, okA n ds = true → d ∈ ds → ok n d = true
  | [], _, _, h => by cases h
  | e :: ds, d, h, hm => by
    simp only [okA, Bool.and_eq_true] at h
    rcases List.mem_cons.mp hm with z | z
    · rw [z]; exact h.1
    · exact okA_mem h.2 z
theorem boolsOf_map {α : Type} (f : α → Bool) : ∀ l : List α, boolsOf (l.map fun x => D.bl (f x)) = some (l.map f)
  | [] => rfl
  | x :: l => by simp [boolsOf, boolsOf_map f l]
/-- a letter by the order of texts -/
theorem le_sign (a b : Nat) : (!decide ([b] < [a])) = decide (a ≤ b) := by
  have : ([b] < [a]) ↔ b < a := by
    constructor
    · intro h
      cases h with
      | rel h => exact h
      | cons h => cases h
    · exact fun h => List.Lex.rel h
  by_cases h : b < a
  · simp [this, h, Nat.not_le.mpr h]
  · simp [this, h, Nat.le_of_not_lt h]
theorem comp_mapG {α : Type} {tg : Tgt} {te : ET} {ρ : Tr.Env} (g f : α → D) : ∀ (l : List α) (acc : List D) (μ : Mu) (P : KA), acc.length + l.length ≤ 1000 →
    (∀ a, a ∈ l → ∀ P : KD, P (f a) μ → gD tg (g a) ρ μ fun ρ1 μ1 => te ρ1 μ1 P) → P (acc ++ l.map f) μ → compD tg bYes te ρ (l.map g) acc μ P
  | [], acc, μ, P, _, _, h => by simpa using h
  | a :: l, acc, μ, P, hl, he, h => by
    rw [List.map_cons, cp_cons]
    have := he a List.mem_cons_self (fun y μ3 => acc.length < sizeLine ∧ compD tg bYes te ρ (l.map g) (acc ++ [y]) μ3 P) ?_
    · simpa using this
    · simp only [List.length_cons] at hl
      refine ⟨Nat.lt_of_lt_of_le (show acc.length < 1001 by omega) (by rw [sizeLine_eq]; decide), comp_mapG g f l (acc ++ [f a]) μ P (by simp; omega) (fun d' hd' => he d' (List.mem_cons_of_mem _ hd')) (by simpa using h)⟩
theorem comp_signs {tg : Tgt} {te : ET} {ρ : Tr.Env} (x : Str) (f : Nat → D) (μ : Mu) (P : KA) (hl : x.length ≤ 1000) (he : ∀ c, c ∈ x.cps.toList → ∀ P : KD, P (f c) μ → gD tg (.str ⟨#[c]⟩) ρ μ fun ρ1 μ1 => te ρ1 μ1 P)
    (h : P (x.cps.toList.map f) μ) : compD tg bYes te ρ (Tr.signs x) [] μ P := comp_mapG (fun c => D.str ⟨#[c]⟩) f x.cps.toList [] μ P (by simpa [Str.length] using hl) he (by simpa using h)
theorem all_bl {α : Type} (l : List α) (f : α → Bool) (μ : Mu) (P : KD) (h : P (.bl (l.all f)) μ) : dAll [.lst (l.map fun a => .bl (f a))] μ P := by
  simp only [dAll, boolsOf_map]
  simpa [List.all_map, Function.comp_def] using h
theorem any_bl {α : Type} (l : List α) (f : α → Bool) (μ : Mu) (P : KD) (h : P (.bl (l.any f)) μ) : dAny [.lst (l.map fun a => .bl (f a))] μ P := by
  simp only [dAny, boolsOf_map]
  simpa [List.any_map, Function.comp_def] using h
mutual
theorem ok_up : ∀ {n : Nat} {d : D}, ok n d = true → ok (n + 1) d = true
  | n, .non, _ => by cases n <;> rfl
  | n, .bl _, _ => by cases n <;> rfl
  | n, .int _, _ => by cases n <;> rfl
  | n, .str _, h => by cases n <;> simpa [ok] using h
  | 0, .lst _, h => by cases h
  | 0, .tup _, h => by cases h
  | n + 1, .lst xs, h => by
    simp only [ok, Bool.and_eq_true] at h ⊢
    exact ⟨okA_mono h.1, h.2⟩
  | n + 1, .tup xs, h => by
    simp only [ok, Bool.and_eq_true] at h ⊢
    exact ⟨okA_mono h.1, h.2⟩
  | n, .fz _, h => by cases n <;> cases h
  | n, .dT _ _, h => by cases n <;> cases h
  | n, .dK _ _, h => by cases n <;> cases h
  | n, .ins _ _ _, h => by cases n <;> cases h
  | n, .exc _ _ _, h => by cases n <;> cases h
  | n, .hx _ _ _ _ _, h => by cases n <;> cases h
  | n, .loc _, h => by cases n <;> cases h
  | n, .ref _, h => by cases n <;> cases h
  | n, .ty _, h => by cases n <;> cases h
theorem okA_mono : ∀ {n : Nat} {ds : List D}, okA n ds = true → okA (n + 1) ds = true
  | _, [], _ => rfl
  | n, d :: ds, h => by
    simp only [okA, Bool.and_eq_true] at h ⊢
    exact ⟨ok_up h.1, okA_mono h.2⟩
end
end Tr
set_option Elab.async false
set_option linter.all false
set_option maxRecDepth 100000
namespace Tr
open PySem PySem.Spec PyProof.Rows L2 RZ

/-! ### the draws: the bag is a list that changes -/
def Bg (c : Cell) : Prop := ∃ (ns : List Int) (a b m : Int), c = .lst [.lst (ns.map D.int), .int a, .int b, .int m] ∧ ns.length ≤ 63 ∧ 0 ≤ a
def BagAt (μ : Mu) (n : Nat) : Prop := ∃ c, μ[n]? = some (some c) ∧ Bg c
/-- the bag at n may have turned -/
def Dr (n : Nat) (μ μ' : Mu) : Prop := ∃ c, Bg c ∧ μ' = μ.set n (some c)
def sp_bag : RAD := fun ds μ P => ∃ ns : List Int, ds = [.fz (ns.map D.int)] ∧ ns.length ≤ 63 ∧ ∀ c, Bg c → P (.loc μ.length) (μ ++ [some c])
def sp_draw : RAD := fun ds μ P => ∃ (n : Nat) (many : Int), ds = [.loc n, .int many] ∧ BagAt μ n ∧ 0 < many ∧ many < 1073741824 ∧ ∀ r μ', 0 ≤ r → r < many → Dr n μ μ' → P (.int r) μ'
/-- what may be picked from -/
def picks : D → List D
  | .lst xs => xs
  | .tup xs => xs
  | .str z => signs z
  | _ => []
def sp_pick : RAD := fun ds μ P => ∃ (n : Nat) (x : D), ds = [.loc n, x] ∧ BagAt μ n ∧ picks x ≠ [] ∧ (picks x).length < 1000 ∧ ∀ d μ', d ∈ picks x → Dr n μ μ' → P d μ'

def okS : Nat → D → Bool
  | 0, _ => false
  | n + 1, d => ok n d
@[simp] theorem okS_8 {d : D} : okS 8 d = ok 7 d := rfl
def sp_same (n : Nat) : RAD := fun ds μ P => ∃ x, ds = [x, x] ∧ okS n x = true ∧ P (.bl true) μ

def tr_bag : ST :=
  (sSeq (sSet 1 (eComp (itAny (eSl (eVar 0) oNo (oYes (eC (.int 63))))) (.nm 3) bYes (eCall dIntOf (aCons (eVar 3) aNil)) [3]))
  (sSeq (sSet 2 (eOp dAdd (eC (.int 120310)) (eOp dMul (eC (.int 61)) (eCall dLen (aCons (eVar 1) aNil)))))
  (sSeq (sFor (itAny (eVar 1)) (.nm 3)
  (sSet 2 (eOp dMod (eCall dIntOf (aCons (eOp dAdd (eOp dMul (eVar 2) (eC (.int 6947))) (eVar 3)) aNil)) (eC (.int 2147483423)))))
  (sRet (eLstL (aCons (eVar 1) (aCons (eC (.int 0)) (aCons (eC (.int 0)) (aCons (eVar 2) aNil)))))))))
def dr_end : ST :=
  (sSeq (sSet 5 (eOp dMod (eCall dIntOf (aCons (eOp dIx (eVar 0) (eC (.int 2))) aNil)) (eVar 1)))
  (sSeq (sPut (eOp dFdiv (eCall dIntOf (aCons (eOp dIx (eVar 0) (eC (.int 2))) aNil)) (eVar 1)) (eVar 0) (eC (.int 2)))
  (sRet (eVar 5))))
def dr_fresh : ST :=
  (sSeq (sSet 3 (eOp dMod (eCall dIntOf (aCons (eOp dAdd (eOp dAdd (eOp dMul (eVar 2) (eC (.int 43051))) (eOp dMul (eOp dIx (eVar 0) (eC (.int 1))) (eC (.int 39119)))) (eOp dIx (eVar 0) (eC (.int 3)))) aNil)) (eC (.int 2147483587))))
  (sSeq (sSet 4 (eOp dMod (eCall dIntOf (aCons (eOp dAdd (eOp dMul (eVar 3) (eVar 3)) (eOp dMul (eOp dIx (eVar 0) (eC (.int 1))) (eC (.int 60607)))) aNil)) (eC (.int 998244353))))
  (sRet (eOp dMod (eOp dFdiv (eOp dMod (eCall dIntOf (aCons (eOp dAdd (eOp dMul (eVar 4) (eC (.int 46819))) (eVar 3)) aNil)) (eC (.int 2147483549))) (eC (.int 23))) (eVar 1)))))
def dr_mid : ST :=
  (sSeq (sIf (bOr (bB (eOp dGt (eOp dIx (eVar 0) (eC (.int 1))) (eCall dLen (aCons (eOp dIx (eVar 0) (eC (.int 0))) aNil)))) (bB (eOp dLt (eVar 2) (eOp dPow (eC (.int 10)) (eC (.int 18)))))) dr_fresh sNext)
  (sPut (eVar 2) (eVar 0) (eC (.int 2))))
def tr_draw : ST :=
  (sSeq (sIf (bB (eOp dLt (eOp dIx (eVar 0) (eC (.int 2))) (eC (.int 2))))
  (sSeq (sPut (eOp dAdd (eOp dIx (eVar 0) (eC (.int 1))) (eC (.int 1))) (eVar 0) (eC (.int 1)))
  (sSeq (sSet 2 (eOp dAdd (eOp dIx (eVar 0) (eC (.int 3))) (eOp dMul (eOp dIx (eVar 0) (eC (.int 1))) (eC (.int 9241)))))
  (sSeq (sIf (bB (eOp dLe (eOp dIx (eVar 0) (eC (.int 1))) (eCall dLen (aCons (eOp dIx (eVar 0) (eC (.int 0))) aNil))))
  (sSet 2 (eOp dIx (eOp dIx (eVar 0) (eC (.int 0))) (eOp dSub (eOp dIx (eVar 0) (eC (.int 1))) (eC (.int 1))))) sNext)
  dr_mid))) sNext)
  dr_end)
def tr_pick : ST :=
  (sRet (eOp dIx (eVar 1) (eCall sp_draw (aCons (eVar 0) (aCons (eCall dLen (aCons (eVar 1) aNil)) aNil)))))
def tr_same (n : Nat) : ST :=
  (sSeq (sIf (bOr (bB (eOp dIs (eVar 1) (eC .non))) (bB (eOp dIs (eVar 0) (eC .non))))
  (sRet (eAnd (eOp dIs (eVar 1) (eC .non)) (eOp dIs (eVar 0) (eC .non)))) sNext)
  (sSeq (sIf (bOr (bT (eCall dIsi (aCons (eVar 1) (aCons (eTup (aCons (eC (.ty "list")) (aCons (eC (.ty "tuple")) aNil))) aNil)))) (bT (eCall dIsi (aCons (eVar 0) (aCons (eTup (aCons (eC (.ty "list")) (aCons (eC (.ty "tuple")) aNil))) aNil)))))
  (sSeq (sIf (bOr (bB (eOp dNe (eCall dIsi (aCons (eVar 1) (aCons (eC (.ty "list")) aNil))) (eCall dIsi (aCons (eVar 0) (aCons (eC (.ty "list")) aNil))))) (bB (eOp dNe (eCall dIsi (aCons (eVar 1) (aCons (eC (.ty "tuple")) aNil))) (eCall dIsi (aCons (eVar 0) (aCons (eC (.ty "tuple")) aNil))))))
  (sRet (eC (.bl false))) sNext)
  (sRet (eAnd (eOp dEq (eCall dLen (aCons (eVar 0) aNil)) (eCall dLen (aCons (eVar 1) aNil))) (eCall dAll (aCons (eComp (itZip (aCons (eVar 0) (aCons (eVar 1) aNil))) (.tp [(.nm 2), (.nm 3)]) bYes (eCall (sp_same n) (aCons (eVar 2) (aCons (eVar 3) aNil))) [2, 3]) aNil))))) sNext)
  (sSeq (sIf (bOr (bB (eOp dNe (eCall dIsi (aCons (eVar 1) (aCons (eC (.ty "bool")) aNil))) (eCall dIsi (aCons (eVar 0) (aCons (eC (.ty "bool")) aNil))))) (bB (eOp dNe (eCall dIsi (aCons (eVar 1) (aCons (eC (.ty "str")) aNil))) (eCall dIsi (aCons (eVar 0) (aCons (eC (.ty "str")) aNil))))))
  (sRet (eC (.bl false))) sNext)
  (sRet (eAnd (eOp dEq (eCall dIsi (aCons (eVar 1) (aCons (eC (.ty "int")) aNil))) (eCall dIsi (aCons (eVar 0) (aCons (eC (.ty "int")) aNil)))) (eOp dEq (eVar 0) (eVar 1)))))))
theorem BagAt.lt {μ : Mu} {n : Nat} (h : BagAt μ n) : n < μ.length := by
  obtain ⟨c, h, _⟩ := h
  exact (List.getElem?_eq_some_iff.mp h).1
theorem Dr.refl {μ : Mu} {n : Nat} (h : BagAt μ n) : Dr n μ μ := by
  obtain ⟨c, h, g⟩ := h
  obtain ⟨hl, e⟩ := List.getElem?_eq_some_iff.mp h
  exact ⟨c, g, by rw [← e, List.set_getElem_self]⟩
theorem Dr.at {μ μ' : Mu} {n : Nat} (h : BagAt μ n) (d : Dr n μ μ') : BagAt μ' n := by
  obtain ⟨c, g, rfl⟩ := d
  exact ⟨c, by rw [List.getElem?_set_self h.lt], g⟩
theorem Dr.trans {μ μ' μ'' : Mu} {n : Nat} (d : Dr n μ μ') (e : Dr n μ' μ'') : Dr n μ μ'' := by
  obtain ⟨c, g, rfl⟩ := d
  obtain ⟨c', g', rfl⟩ := e
  exact ⟨c', g', by rw [List.set_set]⟩
theorem Dr.len {μ μ' : Mu} {n : Nat} (d : Dr n μ μ') : μ'.length = μ.length := by
  obtain ⟨c, g, rfl⟩ := d
  simp
theorem Dr.other {μ μ' : Mu} {n m : Nat} (d : Dr n μ μ') (h : m ≠ n) : μ'[m]? = μ[m]? := by
  obtain ⟨c, g, rfl⟩ := d
  rw [List.getElem?_set_ne (Ne.symm h)]
/-- behind the first change of the bag -/
theorem draw_set {μ : Mu} {n : Nat} {c c' : Cell} (h : μ[n]? = some (some c)) : (μ.set n (some c'))[n]? = some (some c') := List.getElem?_set_self (List.getElem?_eq_some_iff.mp h).1
theorem hs_draw (n : Nat) (many : Int) (μ : Mu) (Pd : KD) (hb : BagAt μ n) (h0 : 0 < many) (h1 : many < 1073741824) (hP : ∀ r μ', 0 ≤ r → r < many → Dr n μ μ' → Pd (.int r) μ') :
    tr_draw { nx := fun _ μ' => Pd .non μ', rt := Pd } [some (.loc n), some (.int many), none, none, none, none] μ := by
  obtain ⟨c, hm, ns, a, b, m, rfl, hl, ha⟩ := hb
  unfold tr_draw
  have i1 : ∀ x y z w : D, ixN [x, y, z, w].length 1 = some 1 := fun _ _ _ _ => rfl
  have i2 : ∀ x y z w : D, ixN [x, y, z, w].length 2 = some 2 := fun _ _ _ _ => rfl
  have c1 : ∀ x : Int, CMul x 9241 := fun x => cmul_r (by decide)
  have c2 : ∀ x : Int, CMul x 43051 := fun x => cmul_r (by decide)
  have c3 : ∀ x : Int, CMul x 39119 := fun x => cmul_r (by decide)
  have c4 : ∀ x : Int, CMul x 60607 := fun x => cmul_r (by decide)
  have c5 : ∀ x : Int, CMul x 46819 := fun x => cmul_r (by decide)
  have cd : ∀ x : Int, CDiv x many := fun x => ⟨h0, h1⟩
  have cd23 : ∀ x : Int, CDiv x 23 := fun x => ⟨by decide, by decide⟩
  -- the end: a digit of the number at hand
  have fin : ∀ (μ1 : Mu) (e z : Int) (f : Option D) (f3 f4 : Option D), Dr n μ μ1 → 0 ≤ e → μ1[n]? = some (some (.lst [.lst (ns.map D.int), .int e, .int z, .int m])) →
      dr_end { nx := fun _ μ' => Pd .non μ', rt := Pd } [some (.loc n), some (.int many), f, f3, f4, none] μ1 := by
    intro μ1 e z f f3 f4 hd he h3
    simp only [dr_end, s_seq, s_set, e_op, e_call, a_cons, a_nil, e_v0, e_v1, e_v5, e_c, d_ix_loc, h3, atI2, d_int_int, d_mod, s_put, d_fdiv, i2, s_ret, List.set_cons_succ, List.set_cons_zero]
    refine ⟨h0, cd _, ?_⟩
    exact hP _ _ (Int.emod_nonneg _ (by omega)) (Int.emod_lt_of_pos _ h0) (hd.trans ⟨_, ⟨ns, e, _, m, rfl, hl, he⟩, rfl⟩)
  by_cases hb : b < 2
  · simp only [s_seq, s_if, b_b, e_op, e_v0, e_c, d_ix_loc, hm, atI2, d_lt, onB_bl, hb, decide_true, if_true, s_put, atI1, d_add_int, i1, List.set_cons_succ, List.set_cons_zero]
    have h3 := draw_set (c' := .lst [.lst (ns.map D.int), .int (a + 1), .int b, .int m]) hm
    have hd : Dr n μ (μ.set n (some (.lst [.lst (ns.map D.int), .int (a + 1), .int b, .int m]))) := ⟨_, ⟨ns, a + 1, b, m, rfl, hl, by omega⟩, rfl⟩
    generalize μ.set n (some (.lst [.lst (ns.map D.int), .int (a + 1), .int b, .int m])) = μ1 at h3 hd
    simp only [s_set, e_op, e_v0, e_c, d_ix_loc, h3, atI3, atI1, d_mul, c1, true_and, d_add_int, List.set_cons_succ, List.set_cons_zero, e_call, a_cons, a_nil, atI0, d_len_lst, d_le, onB_bl, List.length_map]
    have last : ∀ μ2, Dr n μ μ2 → ∀ x : Int, 0 < (23 : Int) → Pd (.int (x / 23 % many)) μ2 := fun μ2 h x _ => hP _ _ (Int.emod_nonneg _ (by omega)) (Int.emod_lt_of_pos _ h0) h
    have sm : ∀ x : Int, CMul (x % 2147483587) (x % 2147483587) := fun x => cmul_l (by omega)
    -- the number that is taken
    have mid : ∀ cz : Int, dr_mid { nx := dr_end { nx := fun _ μ' => Pd .non μ', rt := Pd }, rt := Pd } [some (.loc n), some (.int many), some (.int cz), none, none, none] μ1 := by
      intro cz
      have fresh : ∀ nx, dr_fresh { nx := nx, rt := Pd } [some (.loc n), some (.int many), some (.int cz), none, none, none] μ1 := by
        intro nx
        simp only [dr_fresh, s_seq, s_set, e_op, e_v0, e_v1, e_v2, e_v3, e_v4, e_c, d_ix_loc, h3, atI3, atI1, d_mul, c2, c3, c4, c5, sm, true_and, d_add_int, List.set_cons_succ, List.set_cons_zero, e_call, a_cons, a_nil, d_int_int, d_mod, s_ret, d_fdiv, cd23]
        exact ⟨by decide, by decide, by decide, h0, last _ hd _ (by decide)⟩
      simp only [dr_mid, s_seq, s_if, b_or, b_b, e_op, e_v0, e_c, d_ix_loc, h3, atI1, atI0, e_call, a_cons, a_nil, d_len_lst, d_gt, onB_bl, List.length_map, decide_eq_true_eq]
      by_cases hg : (ns.length : Int) < a + 1
      · simp only [hg, if_true]
        exact fresh _
      · simp only [hg, if_false, e_v2, d_pow, d_lt, onB_bl, decide_eq_true_eq]
        refine ⟨⟨by decide, by decide, by decide⟩, ?_⟩
        split
        · exact fresh _
        · simp only [s_next, s_put, e_v2, e_v0, e_c, h3, i2, List.set_cons_succ, List.set_cons_zero]
          exact fin _ (a + 1) cz _ _ _ (hd.trans ⟨_, ⟨ns, a + 1, cz, m, rfl, hl, by omega⟩, rfl⟩) (by omega) (draw_set h3)
    simp only [s_seq, s_if, b_b, e_op, e_v0, e_c, d_ix_loc, h3, atI1, atI0, e_call, a_cons, a_nil, d_len_lst, d_le, onB_bl, List.length_map]
    split
    · rename_i hle
      have hle : a + 1 ≤ (ns.length : Int) := by simpa using hle
      have hx : ∃ cz : Int, atI (ns.map D.int) (a + 1 - 1) = some (.int cz) := by
        obtain ⟨x, e1, e2⟩ := atI_nat' (l := ns.map D.int) (i := a + 1 - 1) (by omega) (by rw [List.length_map]; omega)
        rw [List.getElem?_map] at e1
        cases q : ns[(a + 1 - 1).toNat]? with
        | none => rw [q] at e1; cases e1
        | some cz => rw [q] at e1; cases e1; exact ⟨cz, e2⟩
      obtain ⟨cz, hx⟩ := hx
      simp only [s_set, e_op, e_v0, e_c, d_ix_loc, h3, atI0, atI1, d_sub, d_ix_lst, hx, List.set_cons_succ, List.set_cons_zero]
      exact mid cz
    · simp only [s_next]
      exact mid _
  · simp only [s_seq, s_if, b_b, e_op, e_v0, e_c, d_ix_loc, hm, atI2, d_lt, onB_bl, hb, decide_false, Bool.false_eq_true, if_false, s_next]
    exact fin μ a b _ _ _ (Dr.refl ⟨_, hm, ns, a, b, m, rfl, hl, ha⟩) ha hm

theorem hs_pick (n : Nat) (x : D) (μ : Mu) (Pd : KD) (hb : BagAt μ n) (h0 : picks x ≠ []) (h1 : (picks x).length < 1000) (hP : ∀ d μ', d ∈ picks x → Dr n μ μ' → Pd d μ') :
    tr_pick { nx := fun _ μ' => Pd .non μ', rt := Pd } [some (.loc n), some x] μ := by
  have l0 : 0 < (picks x).length := List.length_pos_iff.mpr h0
  unfold tr_pick
  have dr : ∀ (k : Nat) (Q : KD), 0 < k → k < 1000 → (∀ r μ', 0 ≤ r → r < (k : Int) → Dr n μ μ' → Q (.int r) μ') → sp_draw [.loc n, .int (k : Int)] μ Q := fun k Q h0 h1 h => ⟨n, k, rfl, hb, by omega, by omega, h⟩
  cases x with
  | lst xs =>
    simp only [s_ret, e_op, e_v1, e_v0, e_call, a_cons, a_nil, d_len_lst]
    refine dr _ _ l0 h1 fun r μ' r0 r1 hd => ?_
    obtain ⟨d, e1, e2⟩ := atI_nat' r0 r1
    simp only [d_ix_lst, e2]
    exact hP d μ' (List.mem_of_getElem? e1) hd
  | tup xs =>
    simp only [s_ret, e_op, e_v1, e_v0, e_call, a_cons, a_nil, d_len_tup]
    refine dr _ _ l0 h1 fun r μ' r0 r1 hd => ?_
    obtain ⟨d, e1, e2⟩ := atI_nat' r0 r1
    simp only [d_ix_tup, e2]
    exact hP d μ' (List.mem_of_getElem? e1) hd
  | str z =>
    have hz : z.length ≤ sizeLine := by
      have : z.length < 1000 := by simpa [picks, Tr.signs, Str.length] using h1
      rw [sizeLine_eq]
      omega
    simp only [s_ret, e_op, e_v1, e_v0, e_call, a_cons, a_nil, d_len_str]
    refine ⟨hz, dr z.length _ (by simpa [picks, Tr.signs, Str.length] using l0) (by simpa [picks, Tr.signs, Str.length] using h1) fun r μ' r0 r1 hd => ?_⟩
    obtain ⟨c, e1, e2⟩ := atI_nat' (l := z.cps.toList) r0 (by simpa [Str.length] using r1)
    simp only [d_ix_str, e2]
    exact ⟨hz, hP _ μ' (by simp only [picks, Tr.signs, List.mem_map]; exact ⟨c, List.mem_of_getElem? e1, rfl⟩) hd⟩
  | _ => exact absurd rfl h0

/-! ### loops, comprehensions with draws -/
theorem loop_inv {tg : Tgt} {tb : ST} {DD : EndsD} (I : List D → Tr.Env → Mu → Prop) : ∀ (ds : List D) (ρ : Tr.Env) (μ : Mu), I ds ρ μ →
    (∀ d ds ρ μ, ∀ nx : Tr.Env → Mu → Prop, I (d :: ds) ρ μ → (∀ ρ' μ', I ds ρ' μ' → nx ρ' μ') → gD tg d ρ μ fun ρ1 μ1 => tb { DD with nx := nx, ct := nx, bk := DD.nx } ρ1 μ1) →
    (∀ ρ' μ', I [] ρ' μ' → DD.nx ρ' μ') → loopD tg tb DD ds ρ μ
  | [], ρ, μ, h, _, e => e ρ μ h
  | d :: ds, ρ, μ, h, st, e => by
    rw [l_cons]
    exact st d ds ρ μ _ h fun ρ' μ' h' => loop_inv I ds ρ' μ' h' st e
theorem comp_draw {tg : Tgt} {te : ET} {ρ : Tr.Env} {n : Nat} {C : D → Prop} : ∀ (ds acc : List D) (μ : Mu) (P : KA), acc.length + ds.length ≤ 1000 → BagAt μ n →
    (∀ d, d ∈ ds → ∀ μ1 (Q : KD), BagAt μ1 n → (∀ y μ2, C y → Dr n μ1 μ2 → Q y μ2) → gD tg d ρ μ1 fun ρ1 μ2 => te ρ1 μ2 Q) →
    (∀ ys μ', ys.length = ds.length → (∀ y, y ∈ ys → C y) → Dr n μ μ' → P (acc ++ ys) μ') → compD tg bYes te ρ ds acc μ P
  | [], acc, μ, P, _, hb, _, h => by simpa using h [] μ rfl (by simp) (Dr.refl hb)
  | d :: ds, acc, μ, P, hl, hb, he, h => by
    rw [cp_cons]
    have := he d List.mem_cons_self μ (fun y μ3 => acc.length < sizeLine ∧ compD tg bYes te ρ ds (acc ++ [y]) μ3 P) hb ?_
    · simpa using this
    · intro y μ2 hy hd
      simp only [List.length_cons] at hl
      refine ⟨Nat.lt_of_lt_of_le (show acc.length < 1001 by omega) (by rw [sizeLine_eq]; decide), comp_draw ds (acc ++ [y]) μ2 P (by simp; omega) (hd.at hb) (fun d' hd' => he d' (List.mem_cons_of_mem _ hd')) fun ys μ' hlen hys hd' => ?_⟩
      have := h (y :: ys) μ' (by simp [hlen]) (by simp; exact ⟨hy, hys⟩) (hd.trans hd')
      simpa using this

/-! ### the bag is made -/
theorem hs_bag (ns : List Int) (μ : Mu) (Pd : KD) (hl : ns.length ≤ 63) (hP : ∀ c, Bg c → Pd (.loc μ.length) (μ ++ [some c])) : tr_bag { nx := fun _ μ' => Pd .non μ', rt := Pd } [some (.fz (ns.map D.int)), none, none, none] μ := by
  have cut : cutD (ns.map D.int) none (some 63) = ns.map D.int := by
    unfold cutD
    have e : HT.sIx (ns.map D.int).length (ns.map D.int).length (some (63 : Int)) = min 63 (ns.map D.int).length := HT.sIx_nat _ _ 63
    rw [e, HT.sIx_none, List.length_map, Nat.min_eq_right hl, Nat.sub_zero, List.drop_zero]
    exact List.take_of_length_le (by simp)
  unfold tr_bag
  simp only [s_seq, s_set, e_comp, it_any, e_sl, e_v0, o_no, o_yes, e_c, dSl, cut, wipe_cons, wipe_nil, List.set_cons_succ, List.set_cons_zero]
  refine comp_map (f := id) (ns.map D.int) [] μ _ (by simp; omega) (fun d hd P h => ?_) ?_
  · obtain ⟨i, _, rfl⟩ := List.mem_map.mp hd
    simpa using h
  · simp only [List.nil_append, List.map_id, e_op, e_c, e_call, a_cons, a_nil, e_v1, d_len_lst, d_mul, d_add_int, s_for, it_any, List.set_cons_succ, List.set_cons_zero]
    refine ⟨cmul_l (by decide), ?_⟩
    refine loop_inv (fun ds ρ μ' => (∀ d, d ∈ ds → ∃ i : Int, d = .int i) ∧ μ' = μ ∧ ∃ (m : Int) (f : Option D), ρ = [some (.fz (ns.map D.int)), some (.lst (ns.map D.int)), some (.int m), f]) _ _ _ ⟨fun d hd => ?_, rfl, _, _, rfl⟩ ?_ ?_
    · obtain ⟨i, _, rfl⟩ := List.mem_map.mp hd
      exact ⟨i, rfl⟩
    · rintro d ds ρ μ' nx ⟨hd, rfl, m, f, rfl⟩ hn
      obtain ⟨i, rfl⟩ := hd d List.mem_cons_self
      simp only [g_nm, s_set, e_op, e_call, a_cons, a_nil, e_v2, e_v3, e_c, d_mul, d_add_int, d_int_int, d_mod, List.set_cons_succ, List.set_cons_zero]
      exact ⟨cmul_r (by decide), by decide, hn _ _ ⟨fun d' hd' => hd d' (List.mem_cons_of_mem _ hd'), rfl, _, _, rfl⟩⟩
    · rintro ρ' μ' ⟨-, rfl, m, f, rfl⟩
      simp only [s_ret, e_lstL, a_cons, a_nil, e_v1, e_v2, e_c]
      exact ⟨len_small (by simp), hP _ ⟨ns, 0, 0, m, rfl, hl, by decide⟩⟩

/-! ### the same data -/
theorem ok_ty {n : Nat} {d : D} (h : ok n d = true) : ∃ t, tyN d = some t := by
  cases d <;> first | exact ⟨_, rfl⟩ | (cases n <;> simp [ok] at h)
theorem eqv_refl_s (x : D) (p : PyData) (hp : toPy x = some p) (hf : match x with | .bl _ | .int _ | .str _ => True | _ => False) : PyData.eqv p p = true := by
  cases x <;> simp at hf <;> simp [toPy] at hp <;> subst hp <;> simp [PyData.eqv]
theorem comp_zip_same {sp : RAD} {ρ : Tr.Env} {i j : Nat} (hij : i ≠ j) : ∀ (ds acc : List D) (μ : Mu) (P : KA), acc.length + ds.length ≤ 1000 → i < ρ.length → j < ρ.length →
    (∀ d, d ∈ ds → ∀ P : KD, P (.bl true) μ → sp [d, d] μ P) → P (acc ++ ds.map fun _ => .bl true) μ →
    compD (.tp [.nm i, .nm j]) bYes (eCall sp (aCons (eVar i) (aCons (eVar j) aNil))) ρ (zipD ds ds) acc μ P
  | [], acc, μ, P, _, _, _, _, h => by simpa [zipD] using h
  | d :: ds, acc, μ, P, hl, hi, hj, he, h => by
    show compD _ _ _ _ (.tup [d, d] :: zipD ds ds) acc μ P
    rw [cp_cons]
    have v1 : ∀ Q : KD, eVar i ((ρ.set i (some d)).set j (some d)) μ Q = Q d μ := fun Q => by
      rw [e_var, List.getElem?_set_ne (Ne.symm hij), List.getElem?_set_self hi]
    have v2 : ∀ Q : KD, eVar j ((ρ.set i (some d)).set j (some d)) μ Q = Q d μ := fun Q => by
      rw [e_var, List.getElem?_set_self (by simpa using hj)]
    simp only [g_tp, gs_cons, gs_nil, g_nm, List.length_cons, List.length_nil, true_and, b_yes, if_true, e_call, a_cons, a_nil, v1, v2]
    simp only [List.length_cons] at hl
    refine he d List.mem_cons_self _ ⟨Nat.lt_of_lt_of_le (show acc.length < 1001 by omega) (by rw [sizeLine_eq]; decide), ?_⟩
    exact comp_zip_same hij ds (acc ++ [.bl true]) μ P (by simp; omega) hi hj (fun d' hd' => he d' (List.mem_cons_of_mem _ hd')) (by simpa using h)
theorem hs_same (n : Nat) (x : D) (μ : Mu) (Pd : KD) (hx : okS (n + 1) x = true) (hP : Pd (.bl true) μ) :
    tr_same n { nx := fun _ μ' => Pd .non μ', rt := Pd } [some x, some x, none, none] μ := by
  have l2 : (2 : Nat) ≤ sizeLine := by rw [sizeLine_eq]; decide
  have shb : ∀ b : Bool, SeqAt.shaped (.bool b) = true := fun b => by cases b <;> decide +kernel
  have shi : ∀ b : Int, SeqAt.shaped (.int b) = true := fun b => by simp [SeqAt.shaped, PyData.canLay0, PyData.depth]
  have shs : ∀ b : Str, PyData.strOk b = true → SeqAt.shaped (.str b) = true := fun b h => by simp [SeqAt.shaped, PyData.canLay0, PyData.depth, h]
  have sq : ∀ k, n = k + 1 → ∀ ds : List D, okA k ds = true → ∀ d, d ∈ ds → ∀ P : KD, P (.bl true) μ → sp_same n [d, d] μ P := fun k e ds h d hd P hP => ⟨d, rfl, by rw [e]; exact okA_mem h hd, hP⟩
  replace hx : ok n x = true := hx
  unfold tr_same
  cases x with
  | non => simpa using hP
  | bl b => simp [tyN, tyNs, clss, isTy, dNe, dEq, toPy, PyData.eqv, shb, l2]; exact hP
  | int b => simp [tyN, tyNs, clss, isTy, dNe, dEq, toPy, PyData.eqv, shb, shi, l2]; exact hP
  | str b =>
    simp [ok] at hx
    simp [tyN, tyNs, clss, isTy, dNe, dEq, toPy, PyData.eqv, shb, shs b hx.1, l2]; exact hP
  | lst xs =>
    obtain ⟨k, rfl⟩ : ∃ k, n = k + 1 := by cases n; · cases hx
                                           · exact ⟨_, rfl⟩
    simp [ok] at hx
    simp [tyN, tyNs, clss, isTy, dNe, dEq, toPy, PyData.eqv, shb, shi, l2]
    refine comp_zip_same (by decide) xs [] μ _ (by simpa using hx.2) (by simp) (by simp) (sq k rfl xs hx.1) ?_
    simp only [dAll, List.nil_append, boolsOf_map (fun _ => true)]
    have e : (xs.map fun _ => true).all id = true := by simp [List.all_eq_true]
    rw [e]
    exact hP
  | tup xs =>
    obtain ⟨k, rfl⟩ : ∃ k, n = k + 1 := by cases n; · cases hx
                                           · exact ⟨_, rfl⟩
    simp [ok] at hx
    simp [tyN, tyNs, clss, isTy, dNe, dEq, toPy, PyData.eqv, shb, shi, l2]
    refine comp_zip_same (by decide) xs [] μ _ (by simpa using hx.2) (by simp) (by simp) (sq k rfl xs hx.1) ?_
    simp only [dAll, List.nil_append, boolsOf_map (fun _ => true)]
    have e : (xs.map fun _ => true).all id = true := by simp [List.all_eq_true]
    rw [e]
    exact hP
  | _ => simp [ok] at hx
end Tr
set_option Elab.async false
set_option linter.all false
set_option maxRecDepth 100000
namespace Tr
open PySem PySem.Spec PyProof.Rows L2 RZ TL

/-! ### texts by their signs -/
theorem len_codes (x : Str) : x.length = x.cps.toList.length := by simp [Str.length]
/-- signs that are signs, m at most -/
def Sg (x : Str) (m : Nat) : Prop := (∀ c, c ∈ x.cps.toList → c < 1114112) ∧ x.cps.toList.length ≤ m
theorem strOk_iff {x : Str} : PyData.strOk x = true ↔ ∀ c, c ∈ x.cps.toList → c < 1114112 := by
  unfold PyData.strOk
  rw [Array.all_eq_true_iff_forall_mem]
  simp
theorem Sg.ok {x : Str} {m n : Nat} (h : Sg x m) (hm : m ≤ 1000) : Tr.ok n (.str x) = true := by
  have a := strOk_iff.mpr h.1
  have b : x.length ≤ 1000 := by rw [len_codes]; exact Nat.le_trans h.2 hm
  cases n <;> simp [Tr.ok, a, b]
theorem ok_sg {x : Str} {n : Nat} (h : Tr.ok n (.str x) = true) : Sg x 1000 := by
  have h : PyData.strOk x = true ∧ x.length ≤ 1000 := by cases n <;> simpa [Tr.ok] using h
  exact ⟨strOk_iff.mp h.1, by rw [← len_codes]; exact h.2⟩
theorem Sg.mono {x : Str} {m k : Nat} (h : Sg x m) (hk : m ≤ k) : Sg x k := ⟨h.1, Nat.le_trans h.2 hk⟩
theorem codes_app (x y : Str) : (x ++ y).cps.toList = x.cps.toList ++ y.cps.toList := tl_append x y
theorem Sg.app {x y : Str} {m k : Nat} (h : Sg x m) (g : Sg y k) : Sg (x ++ y) (m + k) := by
  refine ⟨fun c hc => ?_, ?_⟩
  · rw [codes_app] at hc
    exact (List.mem_append.mp hc).elim (h.1 c) (g.1 c)
  · rw [codes_app, List.length_append]
    have := h.2; have := g.2
    omega
theorem codes_cut (z : Str) (lo hi : Option Int) : (cutS z lo hi).cps.toList = (z.cps.toList.drop (HT.sIx z.length 0 lo)).take (HT.sIx z.length z.length hi - HT.sIx z.length 0 lo) := by simp [cutS]
theorem Sg.cut {x : Str} {m : Nat} (h : Sg x m) (lo hi : Option Int) : Sg (cutS x lo hi) m := by
  refine ⟨fun c hc => ?_, ?_⟩
  · rw [codes_cut] at hc
    exact h.1 c (List.mem_of_mem_drop (List.mem_of_mem_take hc))
  · rw [codes_cut, List.length_take, List.length_drop]
    have := h.2
    omega
theorem Sg.line {x : Str} {m : Nat} (h : Sg x m) (hm : m ≤ 1000) : x.length ≤ sizeLine := by
  rw [len_codes, sizeLine_eq]
  have := h.2
  omega
theorem joinL_signs : ∀ cs : List Nat, joinL [] (cs.map fun c => [c]) = cs
  | [] => rfl
  | [c] => rfl
  | c :: d :: r => by
    show [c] ++ ([] ++ joinL [] ((d :: r).map fun c => [c])) = _
    rw [joinL_signs (d :: r)]
    rfl
theorem join_signs (cs : List Nat) : (Txt.join (Str.ofString "") (cs.map fun c => (⟨#[c]⟩ : Str))).cps.toList = cs := by
  show TL.tl _ = cs
  rw [join_eq, tl_join, List.map_map]
  exact joinL_signs cs
theorem strs_signs : ∀ (ys : List D), (∀ y, y ∈ ys → ∃ c : Nat, c < 128 ∧ y = .str ⟨#[c]⟩) → ∃ cs : List Nat, (∀ c, c ∈ cs → c < 128) ∧ cs.length = ys.length ∧ strsOf ys = some (cs.map fun c => (⟨#[c]⟩ : Str))
  | [], _ => ⟨[], by simp, rfl, rfl⟩
  | y :: ys, h => by
    obtain ⟨c, hc, rfl⟩ := h y List.mem_cons_self
    obtain ⟨cs, h1, h2, h3⟩ := strs_signs ys fun y' hy => h y' (List.mem_cons_of_mem _ hy)
    refine ⟨c :: cs, fun d hd => ?_, by simp [h2], by simp [strsOf, h3]⟩
    rcases List.mem_cons.mp hd with z | z
    · rw [z]; exact hc
    · exact h1 d z
/-- signs joined -/
theorem join_draw {ys : List D} {μ : Mu} {P : KD} (h : ∀ y, y ∈ ys → ∃ c : Nat, c < 128 ∧ y = .str ⟨#[c]⟩) (hl : ys.length ≤ 1000) (hP : ∀ x, Sg x ys.length → P (.str x) μ) : dJoin (Str.ofString "") (.lst ys) μ P := by
  obtain ⟨cs, h1, h2, h3⟩ := strs_signs ys h
  simp only [dJoin, h3]
  refine ⟨?_, hP _ ⟨fun c hc => ?_, ?_⟩⟩
  · have e1 : ((cs.map fun c => (⟨#[c]⟩ : Str)).map (·.length)).sum = cs.length := by
      rw [List.map_map]
      have : (List.map ((fun x => x.length) ∘ fun c => (⟨#[c]⟩ : Str)) cs) = List.replicate cs.length 1 := by
        rw [List.eq_replicate_iff]
        refine ⟨by simp, fun b hb => ?_⟩
        obtain ⟨c, _, rfl⟩ := List.mem_map.mp hb
        rfl
      rw [this]
      simp
    have e2 : (Str.ofString "").length = 0 := by decide
    rw [e1, e2, h2]
    omega
  · rw [join_signs] at hc
    exact Nat.lt_trans (h1 c hc) (by decide)
  · rw [join_signs, h2]
    exact Nat.le_refl _
/-- a written text of small signs -/
theorem sg_of {x : Str} {m : Nat} (h : (x.cps.toList.all (fun c => decide (c < 128)) && decide (x.cps.toList.length ≤ m)) = true) : Sg x m := by
  simp only [Bool.and_eq_true, List.all_eq_true, decide_eq_true_eq] at h
  exact ⟨fun c hc => Nat.lt_trans (h.1 c hc) (by decide), h.2⟩
theorem small_of {x : Str} (h : x.cps.toList.all (fun c => decide (c < 128)) = true) : ∀ y, y ∈ Tr.signs x → ∃ c : Nat, c < 128 ∧ y = .str ⟨#[c]⟩ := fun y hy => by
  obtain ⟨c, hc, rfl⟩ := List.mem_map.mp hy
  exact ⟨c, of_decide_eq_true (List.all_eq_true.mp h c hc), rfl⟩
/-- str of a number -/
theorem codes_num (n : Nat) : (Str.ofString (toString ((n : Nat) : Int))).cps.toList = numL n := tl_num n
theorem log_small {i : Int} (h : i.natAbs < 2 ^ 64) : i.natAbs.log2 < 1920 := by
  by_cases z : i.natAbs = 0
  · rw [z]; decide
  · exact Nat.lt_trans ((Nat.log2_lt z).mpr h) (by decide)
theorem eqv_str (x y : Str) : PyData.eqv (.str x) (.str y) = decide (x.cps.toList = y.cps.toList) := by
  simp only [PyData.eqv]
  by_cases h : x = y
  · subst h; simp
  · have h2 : ¬ x.cps.toList = y.cps.toList := fun e => h (by cases x; cases y; simp only [Str.mk.injEq]; exact Array.toList_inj.mp e)
    simp [h, h2]
theorem shaped_str {x : Str} (h : ∀ c, c ∈ x.cps.toList → c < 1114112) : SeqAt.shaped (.str x) = true := by simp [SeqAt.shaped, PyData.canLay0, PyData.depth, strOk_iff.mpr h]
theorem shaped_int (i : Int) : SeqAt.shaped (.int i) = true := by simp [SeqAt.shaped, PyData.canLay0, PyData.depth]
theorem shaped_bool (b : Bool) : SeqAt.shaped (.bool b) = true := by cases b <;> decide +kernel
end Tr
set_option Elab.async false
set_option linter.all false
set_option maxRecDepth 100000
namespace Tr
open PySem PySem.Spec PyProof.Rows L2 RZ TL
/-! ### numbers written out -/
theorem numL_fold (n : Nat) : (numL n).foldl (fun (a : Int) (c : Nat) => a * 10 + ((c : Int) - 48)) 0 = n := by
  induction n using Nat.strongRecOn with
  | _ n ih =>
    by_cases h : n < 10
    · rw [numL_lt h]; simp; omega
    · rw [numL_step (by omega), List.foldl_append, ih (n / 10) (by omega)]
      simp only [List.foldl_cons, List.foldl_nil]
      omega
theorem numL_head (n : Nat) : (numL n).head? = some 48 → n = 0 := by
  induction n using Nat.strongRecOn with
  | _ n ih =>
    by_cases h : n < 10
    · rw [numL_lt h]; simp
    · rw [numL_step (by omega)]
      intro q
      have e : (numL (n / 10) ++ [48 + n % 10]).head? = (numL (n / 10)).head? := by
        have := numL_ne (n / 10)
        cases hh : numL (n / 10) with
        | nil => exact absurd hh this
        | cons _ _ => rfl
      have := ih (n / 10) (by omega) (e ▸ q)
      omega
theorem numL_long : ∀ (k n : Nat), 10 ^ k ≤ n → k + 1 ≤ (numL n).length
  | 0, n, _ => by
    have := numL_ne n
    cases h : numL n with
    | nil => exact absurd h this
    | cons _ _ => simp
  | k + 1, n, h => by
    have h10 : 10 ≤ n := Nat.le_trans (by rw [Nat.pow_succ]; have := Nat.pow_pos (n := k) (show 0 < 10 by decide); omega) h
    rw [numL_step h10, List.length_append]
    have := numL_long k (n / 10) (by rw [Nat.pow_succ] at h; omega)
    simp; omega
theorem num_str (n : Nat) : (toString ((n : Nat) : Int) : String) = toString (n : Int) := rfl
theorem e_v12 {ρ : Env} {μ : Mu} {P : KD} {a1 a2 a3 a4 a5 a6 a7 a8 a9 a10 a11 a12 : Option D} {d : D} {r : Env} : eVar 12 (a1 :: a2 :: a3 :: a4 :: a5 :: a6 :: a7 :: a8 :: a9 :: a10 :: a11 :: a12 :: some d :: r) μ P = P d μ := id rfl
theorem e_v13 {ρ : Env} {μ : Mu} {P : KD} {a0 a1 a2 a3 a4 a5 a6 a7 a8 a9 a10 a11 a12 : Option D} {d : D} {r : Env} : eVar 13 (a0 :: a1 :: a2 :: a3 :: a4 :: a5 :: a6 :: a7 :: a8 :: a9 :: a10 :: a11 :: a12 :: some d :: r) μ P = P d μ := id rfl
theorem e_v14 {ρ : Env} {μ : Mu} {P : KD} {b0 a0 a1 a2 a3 a4 a5 a6 a7 a8 a9 a10 a11 a12 : Option D} {d : D} {r : Env} : eVar 14 (b0 :: a0 :: a1 :: a2 :: a3 :: a4 :: a5 :: a6 :: a7 :: a8 :: a9 :: a10 :: a11 :: a12 :: some d :: r) μ P = P d μ := id rfl
theorem e_v15 {ρ : Env} {μ : Mu} {P : KD} {b1 b0 a0 a1 a2 a3 a4 a5 a6 a7 a8 a9 a10 a11 a12 : Option D} {d : D} {r : Env} : eVar 15 (b1 :: b0 :: a0 :: a1 :: a2 :: a3 :: a4 :: a5 :: a6 :: a7 :: a8 :: a9 :: a10 :: a11 :: a12 :: some d :: r) μ P = P d μ := id rfl
@[simp] theorem pck_n {ds : List D} : pick [] ds = [] := id rfl
@[simp] theorem pck_0 {l : List Nat} {d : D} {ds : List D} : pick (0 :: l) (d :: ds) = d :: pick l (d :: ds) := id rfl
@[simp] theorem pck_1 {l : List Nat} {d e : D} {ds : List D} : pick (1 :: l) (d :: e :: ds) = e :: pick l (d :: e :: ds) := id rfl
@[simp] theorem pck_2 {l : List Nat} {d e f : D} {ds : List D} : pick (2 :: l) (d :: e :: f :: ds) = f :: pick l (d :: e :: f :: ds) := id rfl
@[simp] theorem pck_3 {l : List Nat} {d e f g : D} {ds : List D} : pick (3 :: l) (d :: e :: f :: g :: ds) = g :: pick l (d :: e :: f :: g :: ds) := id rfl
/-! ### cut lists -/
theorem okA_iff {n : Nat} : ∀ {xs : List D}, okA n xs = true ↔ ∀ x, x ∈ xs → ok n x = true
  | [] => by simp [okA]
  | x :: xs => by simp [okA, okA_iff (xs := xs)]
theorem cut_mem {xs : List D} {lo hi : Option Int} {x : D} (h : x ∈ cutD xs lo hi) : x ∈ xs := List.mem_of_mem_drop (List.mem_of_mem_take h)
theorem cut_len {xs : List D} {lo hi : Option Int} : (cutD xs lo hi).length ≤ xs.length := by
  unfold cutD
  rw [List.length_take, List.length_drop]
  omega
theorem okA_cut {n : Nat} {xs : List D} {lo hi : Option Int} (h : okA n xs = true) : okA n (cutD xs lo hi) = true := okA_iff.mpr fun x hx => okA_mem h (cut_mem hx)
theorem okA_app {n : Nat} {xs ys : List D} (h : okA n xs = true) (g : okA n ys = true) : okA n (xs ++ ys) = true := okA_iff.mpr fun x hx => (List.mem_append.mp hx).elim (okA_mem h) (okA_mem g)
theorem ok_tup {n : Nat} {xs : List D} (h : okA n xs = true) (hl : xs.length ≤ 1000) : ok (n + 1) (.tup xs) = true := by simp [ok, h, hl]
theorem ok_lst {n : Nat} {xs : List D} (h : okA n xs = true) (hl : xs.length ≤ 1000) : ok (n + 1) (.lst xs) = true := by simp [ok, h, hl]
theorem ok_int {n : Nat} {i : Int} : ok n (.int i) = true := by cases n <;> rfl
theorem ok_non {n : Nat} : ok n .non = true := by cases n <;> rfl
theorem ok_bl {n : Nat} {i : Bool} : ok n (.bl i) = true := by cases n <;> rfl
theorem ok_le {n m : Nat} {d : D} (h : n ≤ m) (g : ok n d = true) : ok m d = true := by
  induction h with
  | refl => exact g
  | step _ ih => exact ok_up ih
end Tr
set_option Elab.async false
set_option linter.all false
set_option maxRecDepth 100000
namespace Tr
open PySem PySem.Spec PyProof.Rows L2 RZ
/-! ### what the top has written -/
def Sn (K : PySem.W.Frag) (mg : Str → Option Value) (x : Str) (st : Stmt) : Prop := ∃ f fd, mg x = some (.ref f) ∧ Fun K x x st f fd
theorem sn_mk {K : PySem.W.Frag} {h : Heap} {mg : Str → Option Value} {x : Str} {st : Stmt} {f : Addr} {oc : Value} {od an : Option Addr} {sl : Array (Option Value)} {kV dc pm cd ct : Value} (X : K.In h) (G : h.Ns mainGlobals mg)
    (a : PySem.W.nsIn K mainGlobals x = some (some (.ref f))) (l : K.lookup f = some ⟨oc, od, .func (PySem.W.fnOf x x (defArgs st) (defBody st) (defScope st) .none kV dc pm an cd ct), sl⟩) (c : PySem.W.codeIn K cd x = true) (k : PySem.W.keepIn K (.ref f) = true) : Sn K mg x st :=
  ⟨f, _, PySem.W.mg_of X G a, fun_mk l c k⟩
theorem Sn.fni {P : Program} {wd : World} {K : PySem.W.Frag} {mg : Str → Option Value} {base : Heap} {x : Str} {st : Stmt} {k : Nat} {ps : List Str} {sp : RAD} (S : Sn K mg x st) (h : ∀ f fd, Fun K x x st f fd → FnD P wd K mg base k f fd ps sp)
    (hb : ∀ (kV doc pm : Value) (an : Option Addr) (cdv ct : Value) (us : List Value), us.length = ps.length → bindArgs (PySem.W.fnOf x x (defArgs st) (defBody st) (defScope st) .none kV doc pm an cdv ct) ⟨us, []⟩ = pure (ps.zip us)) : FnI P wd K mg base x st k ps sp := by
  obtain ⟨f, fd, hm, F⟩ := S
  exact fni_mk F hm (h f fd F) (F.binds hb)
theorem Sn.none {P : Program} {wd : World} {K : PySem.W.Frag} {mg : Str → Option Value} {base : Heap} {x : Str} {st : Stmt} {k : Nat} {ps : List Str} {sp : RAD} (S : Sn K mg x st) (hsp : ∀ ds μ P, ¬ sp ds μ P)
    (hb : ∀ (kV doc pm : Value) (an : Option Addr) (cdv ct : Value) (us : List Value), us.length = ps.length → bindArgs (PySem.W.fnOf x x (defArgs st) (defBody st) (defScope st) .none kV doc pm an cdv ct) ⟨us, []⟩ = pure (ps.zip us)) : FnI P wd K mg base x st k ps sp :=
  S.fni (fun f fd F => ⟨fun vs H Q E ⟨Ex, Ee, Hz, w, ds, Pd, g, r, q, f⟩ => (hsp _ _ _ q).elim, fun A outer s H args us vs Q E hr he hb hv ⟨Ex, Ee, Hz, w, ds, Pd, g, r, q, f⟩ => (hsp _ _ _ q).elim⟩) hb
/-- the script at the law's start -/
theorem script_rp {K : PySem.W.Frag} {w : Wo} {H : Hp} {a : Addr} {ns : List Int} (l : ¬ Live w a) (hS : SqL K H a (ns.map V.int)) : RpAll K w H [.fz (ns.map D.int)] [.ref a] := by
  refine ⟨_, _, rfl, ⟨a, ns.map V.int, rfl, ?_, ?_⟩, rfl⟩
  · rcases hS with (h | ⟨o, h⟩) | h
    · exact .inl ⟨l, .inl h⟩
    · exact .inl ⟨l, .inr ⟨o, h⟩⟩
    · exact .inr h
  · clear hS
    induction ns with
    | nil => rfl
    | cons n ns ih => exact ⟨_, _, rfl, rfl, ih⟩
/-- the law is walked -/
theorem law_sp {K : PySem.W.Frag} {sp : RAD} {H : Hp} {a : Addr} {ns : List Int} (hsp : ∀ μ P, (∀ μ', P (.bl true) μ') → sp [.fz (ns.map D.int)] μ P) (hS : SqL K H a (ns.map V.int)) :
    SpOf K sp [.ref a] H (fun v _ => v = .bl true) fun _ _ _ => False := by
  refine ⟨fun _ _ _ _ => False, fun _ _ _ => False, H, ⟨[], [], []⟩, [.fz (ns.map D.int)], fun d _ => d = .bl true, Gd0.full ⟨rfl, List.nodup_nil, by simp, by simp, by simp⟩, script_rp (by simp [Live]) hS, hsp _ _ fun _ => rfl, fun d v w' H' _ _ r e => ?_⟩
  subst e
  exact r
end Tr
set_option Elab.async false
set_option linter.all false
set_option maxRecDepth 100000
namespace Tr
open PySem PySem.Spec PyProof.Rows L2 RZ
/-! ### objects -/
def lookD (f : Str) : List Str → List D → Option D
  | n :: ns, d :: ds => if f = n then some d else lookD f ns ds
  | _, _ => none
def putN (f : Str) : List Str → List Str
  | [] => [f]
  | n :: ns => if n = f then f :: ns else n :: putN f ns
def putD (f : Str) (d : D) : List Str → List D → List D
  | n :: ns, x :: ds => if n = f then d :: ds else x :: putD f d ns ds
  | _, _ => [d]
/-- the fields of an object: its class, names, things -/
def insOf (d : D) (μ : Mu) : Option (Addr × List Str × List D) := match d with
  | .ins C ns ds => some (C, ns, ds)
  | .loc n => match μ[n]? with
    | some (some (.ins C ns ds)) => some (C, ns, ds)
    | _ => none
  | _ => none
section
variable {K : KK} {w : Wo} {H : Hp}
theorem look_rp {f : Str} {x : D} : ∀ {fs : List (Str × V)} {ds : List D}, RpAll K w H ds (fs.map (·.2)) → lookD f (fs.map (·.1)) ds = some x → ∃ v, fs.lookup f = some v ∧ Rp K w H x v
  | [], ds, _, h => by simp [lookD] at h
  | (n, v) :: fs, [], _, h => by simp [lookD] at h
  | (n, v) :: fs, d :: ds, ⟨v', r, e, h1, h2⟩, h => by
    simp at e
    obtain ⟨rfl, rfl⟩ := e
    simp only [List.map_cons, lookD] at h
    by_cases q : f = n
    · rw [if_pos q] at h
      cases h
      exact ⟨v, by simp [List.lookup, q], h1⟩
    · rw [if_neg q] at h
      obtain ⟨u, e1, e2⟩ := look_rp h2 h
      refine ⟨u, ?_, e2⟩
      have : (f == n) = false := by simpa using q
      simp [List.lookup, this, e1]
theorem look_no {f : Str} : ∀ {fs : List (Str × V)} {ds : List D}, RpAll K w H ds (fs.map (·.2)) → lookD f (fs.map (·.1)) ds = none → fs.lookup f = none
  | [], ds, _, h => rfl
  | (n, v) :: fs, [], h, _ => by cases h
  | (n, v) :: fs, d :: ds, ⟨v', r, e, h1, h2⟩, h => by
    simp at e
    obtain ⟨rfl, rfl⟩ := e
    simp only [List.map_cons, lookD] at h
    by_cases q : f = n
    · rw [if_pos q] at h; cases h
    · rw [if_neg q] at h
      have : (f == n) = false := by simpa using q
      simp [List.lookup, this, look_no h2 h]
theorem putF_cons {f n : Str} {v y : V} {fs : List (Str × V)} : putF f v ((n, y) :: fs) = if n = f then (n, v) :: fs else (n, y) :: putF f v fs := rfl
theorem put_names {f : Str} {v : V} : ∀ {fs : List (Str × V)}, (putF f v fs).map (·.1) = putN f (fs.map (·.1))
  | [] => rfl
  | (n, y) :: fs => by
    rw [putF_cons]
    simp only [List.map_cons, putN]
    by_cases q : n = f
    · simp [q]
    · simp [q, put_names (fs := fs)]
theorem put_rp {f : Str} {x : D} {v : V} : ∀ {fs : List (Str × V)} {ds : List D}, RpAll K w H ds (fs.map (·.2)) → Rp K w H x v → RpAll K w H (putD f x (fs.map (·.1)) ds) ((putF f v fs).map (·.2))
  | [], _, h, r => ⟨v, [], rfl, r, rfl⟩
  | (n, y) :: fs, [], h, _ => by cases h
  | (n, y) :: fs, d :: ds, ⟨v', r, e, h1, h2⟩, hr => by
    simp at e
    obtain ⟨rfl, rfl⟩ := e
    rw [putF_cons]
    simp only [List.map_cons, putD]
    by_cases q : n = f
    · simp only [q, if_true, List.map_cons]
      exact ⟨v, _, rfl, hr, h2⟩
    · simp only [q, if_false, List.map_cons]
      exact ⟨_, _, rfl, h1, put_rp h2 hr⟩
theorem Gd.ins {d : D} {v : V} {C : Addr} {ns : List Str} {ds : List D} (g : Gd K w H) (r : Rp K w H d v) (h : insOf d w.mu = some (C, ns, ds)) :
    ∃ a dx fs, v = .ref a ∧ H a = some (.ins C dx fs) ∧ fs.map (·.1) = ns ∧ RpAll K w H ds (fs.map (·.2)) := by
  unfold insOf at h
  split at h
  · cases h
    obtain ⟨a, dx, fs, e, _, h1, h2, h3⟩ := r
    exact ⟨a, dx, fs, e, h1, h2, h3⟩
  · split at h
    · rename_i hm
      cases h
      obtain ⟨a, e, _, dx, fs, h1, h2, h3⟩ := g.at r hm
      exact ⟨a, dx, fs, e, h1, h2, h3⟩
    · cases h
  · cases h
end
/-! a field -/
def eFld (Cs : List Addr) (f : Str) (t : ET) : ET := fun ρ μ P => t ρ μ fun d μ1 => match insOf d μ1 with
  | some (C, ns, ds) => C ∈ Cs ∧ match lookD f ns ds with
    | some x => P x μ1
    | none => False
  | none => False
/-- a class whose objects' fields are plain -/
def FldC (K : PySem.W.Frag) (f : Str) (Cs : List Addr) : Prop := ∀ C, C ∈ Cs → Cls K C ∧ NoAttr K C f
section
variable {Ex : KX} {Ee : XK} {Hz : Hp} {X : Cx} {e : Expr} {es : List Expr} {pos p : Pos} {t te to_ : ET} {sa : AT}
theorem te_fld {Cs : List Addr} {f : Str} (hc : FldC X.K f Cs) (h : PE X e (LE ⟨X.K, Ex, Ee, Hz⟩ t)) (hb : attributeBase e f X.env (eval e X.env) = eval e X.env := by rfl) : PE X (.Attribute e f pos) (LE ⟨X.K, Ex, Ee, Hz⟩ (eFld Cs f t)) :=
  te_of (pe_fld h hb) fun σ H Q ⟨w, ρ, P, g, er, t, fn⟩ => ⟨w, ρ, _, g, er, t, fun d v w1 H1 e1 g1 r1 t1 => by
    split at t1
    · rename_i C ns ds hi
      obtain ⟨a, dx, fs, e2, h1, h2, h3⟩ := g1.ins r1 hi
      obtain ⟨hC, t1⟩ := t1
      split at t1
      · rename_i x hx
        subst h2
        obtain ⟨u, h4, h5⟩ := look_rp h3 hx
        exact ⟨a, C, dx, fs, u, e2, h1, (hc C hC).1, (hc C hC).2, h4, (fn.mono e1).now g1 h5 t1⟩
      · exact t1.elim
    · exact t1.elim⟩
/-! o.f = e, o an object that may change -/
def sFldD (Cs : List Addr) (f : Str) (to te : ET) : ST := fun DD ρ μ => te ρ μ fun d μ1 => to ρ μ1 fun x μ2 => match x with
  | .loc n => match μ2[n]? with
    | some (some (.ins C ns ds)) => C ∈ Cs ∧ ns.length < 1000 ∧ DD.nx ρ (μ2.set n (some (.ins C (putN f ns) (putD f d ns ds))))
    | _ => False
  | _ => False
theorem ss_fld {Cs : List Addr} {f : Str} {o : Expr} (hc : FldC X.K f Cs) (ho : PE X o (LE ⟨X.K, Ex, Ee, Hz⟩ to_)) (he : PE X e (LE ⟨X.K, Ex, Ee, Hz⟩ te)) (hs : swapsWith e (some (.Attribute o f p)) pos.line X.env = pure false := by rfl) :
    PS X (.Assign [.Attribute o f p] e pos) (LS ⟨X.K, Ex, Ee, Hz⟩ (sFldD Cs f to_ te)) :=
  ss_of (ps_fld ho he hs) fun E σ H ⟨w, ρ, DD, g, er, t, fn⟩ => ⟨w, ρ, _, g, er, t, fun d v w1 H1 e1 g1 r1 t1 => ⟨w1, ρ, _, g1, er.mono e1.toKp, t1, fun dx vx w2 H2 e2 g2 r2 t2 => by
    split at t2
    · split at t2
      · rename_i n _ C ns ds hm
        obtain ⟨hC, hl, t2⟩ := t2
        obtain ⟨a, e3, ea, dx, fs, h1, h2, h3⟩ := g2.at r2 hm
        subst h2
        have hd := Rp.mono e2.toKp _ _ r1
        have kp := Kp.put (o := .ins C dx (putF f v fs)) (c' := .ins C (putN f (fs.map (·.1))) (putD f d (fs.map (·.1)) ds)) (H := H2) ea hm
        have ev := Ev.put (o := .ins C dx (putF f v fs)) (c' := .ins C (putN f (fs.map (·.1))) (putD f d (fs.map (·.1)) ds)) g2.toGd0 ea hm
        refine ⟨a, C, dx, fs, e3, h1, (hc C hC).1, (hc C hC).2, by simpa using hl, ?_⟩
        exact fn.nx ρ σ (w2.put n _) _ ((e1.trans e2).trans ev) (g2.put ea hm ⟨dx, _, upd_same, put_names, RpAll.mono kp _ _ (put_rp h3 hd)⟩) (er.mono ((e1.trans e2).trans ev).toKp) t2
      · exact t2.elim
    · exact t2.elim⟩⟩
/-! C(..): an object that may change; or one that stands for good -/
structure MkI (P : Program) (wd : World) (K : PySem.W.Frag) (mg : Str → Option Value) (base : Heap) (x : Str) (C : Addr) (k : Nat) (ps : List Str) (sp : RAD) : Prop where
  ex : ∃ f fd, FnD P wd K mg base k f fd ps sp ∧ Mk K C f ∧ mg x = some (.ref C) ∧ Binds K fd ps []
def mkL (C : Addr) (sp : RAD) : RAD := fun ds μ P => sp (.loc μ.length :: ds) (μ ++ [some (.ins C [] [])]) fun d μ' => d = .non ∧ P (.loc μ.length) μ'
def mkF (C : Addr) (sp : RAD) : RAD := fun ds μ P => sp (.loc μ.length :: ds) (μ ++ [some (.ins C [] [])]) fun d μ' => d = .non ∧ ∃ ns xs, μ'[μ.length]? = some (some (.ins C ns xs)) ∧ P (.ins C ns xs) (μ'.set μ.length none)
section
variable {C : Addr} {sp : RAD} {w : Wo} {H : Hp} {ds : List D} {vs : List V} {x dx : Addr} {P : KD} {Q : VK}
theorem mk_start (g : Gd ⟨X.K, Ex, Ee, Hz⟩ w H) (hx : H x = none) (hdx : H dx = none) (hne : dx ≠ x) : Ev w H (w.add x (.ins C [] [])) (upd (upd H dx (.own x)) x (.ins C dx [])) ∧ Gd ⟨X.K, Ex, Ee, Hz⟩ (w.add x (.ins C [] [])) (upd (upd H dx (.own x)) x (.ins C dx [])) := by
  have hx' : (upd H dx (.own x)) x = none := by rw [upd_ne (Ne.symm hne)]; exact hx
  have g1 : Gd ⟨X.K, Ex, Ee, Hz⟩ w (upd H dx (.own x)) := g.new hdx
  exact ⟨(Ev.new g.toGd0 hdx).trans (Ev.add g1.toGd0 hx'), g1.add hx' ⟨dx, [], upd_same, rfl, rfl⟩⟩
theorem mkL_sp (g : Gd ⟨X.K, Ex, Ee, Hz⟩ w H) (r : RpAll X.K w H ds vs) (t : mkL C sp ds w.mu P) (f : Fin ⟨X.K, Ex, Ee, Hz⟩ w H P Q) (hx : H x = none) (hdx : H dx = none) (hne : dx ≠ x) :
    SpOf X.K sp (.ref x :: (vs ++ [])) (upd (upd H dx (.own x)) x (.ins C dx [])) (fun v H2 => v = .non ∧ Q (.ref x) H2) E0 := by
  obtain ⟨ev, g1⟩ := mk_start (X := X) (C := C) g hx hdx hne
  have hat : (w.am ++ [x])[w.mu.length]? = some x := by rw [← g.len]; simp
  rw [List.append_nil]
  refine ⟨Ex, Ee, Hz, w.add x (.ins C [] []), .loc w.mu.length :: ds, _, g1, ⟨_, _, rfl, ⟨x, rfl, hat⟩, RpAll.mono ev.toKp _ _ r⟩, t, fun d v w2 H2 e2 g2 r2 t2 => ?_⟩
  obtain ⟨rfl, t2⟩ := t2
  exact ⟨r2, f (.loc w.mu.length) (.ref x) w2 H2 (ev.trans e2) g2 ⟨x, rfl, e2.toKp.amk hat⟩ t2⟩
theorem mkF_sp (g : Gd ⟨X.K, Ex, Ee, Hz⟩ w H) (r : RpAll X.K w H ds vs) (t : mkF C sp ds w.mu P) (f : Fin ⟨X.K, Ex, Ee, Hz⟩ w H P Q) (hx : H x = none) (hdx : H dx = none) (hne : dx ≠ x) :
    SpOf X.K sp (.ref x :: (vs ++ [])) (upd (upd H dx (.own x)) x (.ins C dx [])) (fun v H2 => v = .non ∧ Q (.ref x) H2) E0 := by
  obtain ⟨ev, g1⟩ := mk_start (X := X) (C := C) g hx hdx hne
  have hat : (w.am ++ [x])[w.mu.length]? = some x := by rw [← g.len]; simp
  rw [List.append_nil]
  refine ⟨Ex, Ee, Hz, w.add x (.ins C [] []), .loc w.mu.length :: ds, _, g1, ⟨_, _, rfl, ⟨x, rfl, hat⟩, RpAll.mono ev.toKp _ _ r⟩, t, fun d v w2 H2 e2 g2 r2 t2 => ?_⟩
  obtain ⟨rfl, ns, xs, hm, t2⟩ := t2
  have ha := e2.toKp.amk hat
  obtain ⟨dx', fs, h1, h2, h3⟩ := g2.cell _ _ _ ha hm
  exact ⟨r2, f (.ins C ns xs) (.ref x) (w2.fix w.mu.length) H2 ((ev.trans e2).trans Ev.fix) g2.fix ⟨x, dx', fs, rfl, fix_dead g2.toGd0 ha, h1, h2, RpAll.mono Ev.fix.toKp _ _ h3⟩ t2⟩
end
theorem te_makeL {x : Str} {C : Addr} {k j : Nat} {ps : List Str} {sp : RAD} (M : MkI X.prog X.w X.K X.mg X.base x C k ps sp) (hr : Room j X.A) (hg : Gl X x) (ha : PA X (e :: es) (LA ⟨X.K, Ex, Ee, Hz⟩ sa)) (hk : k + 1 ≤ j := by decide)
    (hdb : (x == ("__debug__" : Str)) = false := by decide) (he : starEach (e :: es) X.env = (false, eval e X.env) :: starEach es X.env := by rfl) (hpl : (backTo pos (starEach es X.env)).any (·.1) = false := by rfl) :
    PE X (.Call (.Name x p) (e :: es) [] pos) (LE ⟨X.K, Ex, Ee, Hz⟩ (eCall (mkL C sp) sa)) := by
  obtain ⟨f, fd, F, m, hm, hb⟩ := M.ex
  exact te_of (pe_make m F (hr.mono hk) hg hm hb .nil pass0 ha hdb he hpl) fun σ H Q ⟨w, ρ, P, g, er, t, fn⟩ => ⟨w, ρ, _, g, er, t, fun ds vs w1 H1 e1 g1 r1 t1 x dx hx hdx hne =>
    mkL_sp g1 r1 t1 (fn.mono e1) hx hdx hne⟩
theorem te_makeF {x : Str} {C : Addr} {k j : Nat} {ps : List Str} {sp : RAD} (M : MkI X.prog X.w X.K X.mg X.base x C k ps sp) (hr : Room j X.A) (hg : Gl X x) (ha : PA X (e :: es) (LA ⟨X.K, Ex, Ee, Hz⟩ sa)) (hk : k + 1 ≤ j := by decide)
    (hdb : (x == ("__debug__" : Str)) = false := by decide) (he : starEach (e :: es) X.env = (false, eval e X.env) :: starEach es X.env := by rfl) (hpl : (backTo pos (starEach es X.env)).any (·.1) = false := by rfl) :
    PE X (.Call (.Name x p) (e :: es) [] pos) (LE ⟨X.K, Ex, Ee, Hz⟩ (eCall (mkF C sp) sa)) := by
  obtain ⟨f, fd, F, m, hm, hb⟩ := M.ex
  exact te_of (pe_make m F (hr.mono hk) hg hm hb .nil pass0 ha hdb he hpl) fun σ H Q ⟨w, ρ, P, g, er, t, fn⟩ => ⟨w, ρ, _, g, er, t, fun ds vs w1 H1 e1 g1 r1 t1 x dx hx hdx hne =>
    mkF_sp g1 r1 t1 (fn.mono e1) hx hdx hne⟩
/-! o.m(..) -/
structure MtI (P : Program) (wd : World) (K : PySem.W.Frag) (mg : Str → Option Value) (base : Heap) (C : Addr) (m : Str) (k : Nat) (ps : List Str) (sp : RAD) : Prop where
  ex : ∃ f fd, FnD P wd K mg base k f fd ps sp ∧ Meth K C m f ∧ Cls K C ∧ Binds K fd ps []
def eMeth (C : Addr) (m : Str) (sp : RAD) (t : ET) (sa : AT) : ET := fun ρ μ P => t ρ μ fun d μ1 => match insOf d μ1 with
  | some (C', ns, ds) => C' = C ∧ lookD m ns ds = none ∧ sa ρ μ1 fun xs μ2 => sp (d :: xs) μ2 P
  | none => False
theorem te_meth {C : Addr} {m : Str} {k j : Nat} {ps : List Str} {sp : RAD} {o : Expr} {apos : Pos} {pl : Sem Bool} (M : MtI X.prog X.w X.K X.mg X.base C m k ps sp) (hr : Room j X.A) (ho : PE X o (LE ⟨X.K, Ex, Ee, Hz⟩ t)) (ha : PA X (e :: es) (LA ⟨X.K, Ex, Ee, Hz⟩ sa)) (hk : k ≤ j := by decide)
    (he : starEach (e :: es) X.env = (false, eval e X.env) :: starEach es X.env := by rfl) (hpl : (backTo pos (starEach es X.env)).any (·.1) = false := by rfl)
    (hev : eval (.Call (.Attribute o m apos) (e :: es) [] pos) X.env = (do
      let ov ← eval o X.env
      standAt apos.atName
      let (f, first) ← holding [ov] (getMethod ov m pl)
      callWith pos f first (backTo pos (starEach (e :: es) X.env)) (backToKw pos (keywordEach [] X.env))) := by rfl) :
    PE X (.Call (.Attribute o m apos) (e :: es) [] pos) (LE ⟨X.K, Ex, Ee, Hz⟩ (eMeth C m sp t sa)) := by
  obtain ⟨f, fd, F, mt, cl, hb⟩ := M.ex
  exact te_of (pe_meth ho cl mt F (hr.mono hk) hb .nil pass0 ha he hpl hev) fun σ H Q ⟨w, ρ, P, g, er, t, fn⟩ => ⟨w, ρ, _, g, er, t, fun d v w1 H1 e1 g1 r1 t1 => by
    split at t1
    · rename_i C' ns ds hi
      obtain ⟨rfl, hno, t1⟩ := t1
      obtain ⟨a, dx, fs, e2, h1, h2, h3⟩ := g1.ins r1 hi
      subst h2
      refine ⟨a, dx, fs, e2, h1, look_no h3 hno, w1, ρ, _, g1, er.mono e1.toKp, t1, fun xs us w2 H2 e3 g2 r2 t2 => ?_⟩
      show SpOf X.K sp (v :: (us ++ [])) H2 Q E0
      rw [List.append_nil]
      exact ⟨Ex, Ee, Hz, w2, d :: xs, P, g2, ⟨_, _, rfl, Rp.mono e3.toKp _ _ r1, r2⟩, t2, fn.mono (e1.trans e3)⟩
    · exact t1.elim⟩
theorem te_meth0 {C : Addr} {m : Str} {k j : Nat} {ps : List Str} {sp : RAD} {o : Expr} {apos : Pos} {pl : Sem Bool} (M : MtI X.prog X.w X.K X.mg X.base C m k ps sp) (hr : Room j X.A) (ho : PE X o (LE ⟨X.K, Ex, Ee, Hz⟩ t)) (hk : k ≤ j := by decide)
    (hev : eval (.Call (.Attribute o m apos) [] [] pos) X.env = (do
      let ov ← eval o X.env
      standAt apos.atName
      let (f, first) ← holding [ov] (getMethod ov m pl)
      callWith pos f first (backTo pos (starEach [] X.env)) (backToKw pos (keywordEach [] X.env))) := by rfl) :
    PE X (.Call (.Attribute o m apos) [] [] pos) (LE ⟨X.K, Ex, Ee, Hz⟩ (eMeth C m sp t aNil)) := by
  obtain ⟨f, fd, F, mt, cl, hb⟩ := M.ex
  exact te_of (pe_meth0 ho cl mt F (hr.mono hk) hb .nil pass0 hev) fun σ H Q ⟨w, ρ, P, g, er, t, fn⟩ => ⟨w, ρ, _, g, er, t, fun d v w1 H1 e1 g1 r1 t1 => by
    split at t1
    · rename_i C' ns ds hi
      obtain ⟨rfl, hno, t1⟩ := t1
      obtain ⟨a, dx, fs, e2, h1, h2, h3⟩ := g1.ins r1 hi
      subst h2
      refine ⟨a, dx, fs, e2, h1, look_no h3 hno, ?_⟩
      exact ⟨Ex, Ee, Hz, w1, [d], P, g1, ⟨_, _, rfl, r1, rfl⟩, t1, fn.mono e1⟩
    · exact t1.elim⟩
end
end Tr
set_option Elab.async false
set_option linter.all false
set_option maxRecDepth 100000
namespace Tr
open PySem PySem.Spec PyProof.Rows L2 RZ
/-! ### plain data compared -/
mutual
def deq : D → D → Bool
  | .non, .non => true
  | .bl a, .bl b => a == b
  | .bl a, .int j => (if a then 1 else 0) == j
  | .int i, .bl b => i == (if b then 1 else 0)
  | .int i, .int j => i == j
  | .str x, .str y => x == y
  | .lst xs, .lst ys => deqA xs ys
  | .tup xs, .tup ys => deqA xs ys
  | _, _ => false
def deqA : List D → List D → Bool
  | [], [] => true
  | x :: xs, y :: ys => deq x y && deqA xs ys
  | _, _ => false
end
theorem toPy_lst {xs : List D} {p : PyData} (h : toPy (.lst xs) = some p) : ∃ ps, toPyA xs = some ps ∧ p = .list ps := by
  unfold toPy at h
  cases q : toPyA xs with
  | none => rw [q] at h; cases h
  | some ps => rw [q] at h; cases h; exact ⟨ps, rfl, rfl⟩
theorem toPy_tup {xs : List D} {p : PyData} (h : toPy (.tup xs) = some p) : ∃ ps, toPyA xs = some ps ∧ p = .tuple ps := by
  unfold toPy at h
  cases q : toPyA xs with
  | none => rw [q] at h; cases h
  | some ps => rw [q] at h; cases h; exact ⟨ps, rfl, rfl⟩
theorem toPyA_cons {x : D} {xs : List D} {ps : List PyData} (h : toPyA (x :: xs) = some ps) : ∃ p r, toPy x = some p ∧ toPyA xs = some r ∧ ps = p :: r := by
  unfold toPyA at h
  cases q1 : toPy x with
  | none => rw [q1] at h; cases h
  | some p =>
    cases q2 : toPyA xs with
    | none => rw [q1, q2] at h; cases h
    | some r => rw [q1, q2] at h; cases h; exact ⟨p, r, rfl, rfl, rfl⟩
mutual
theorem eqv_deq : ∀ (x y : D) (p q : PyData), toPy x = some p → toPy y = some q → PyData.eqv p q = deq x y
  | .lst xs, y, p, q, hp, hq => by
    obtain ⟨ps, h1, rfl⟩ := toPy_lst hp
    cases y with
    | lst ys =>
      obtain ⟨qs, h2, rfl⟩ := toPy_lst hq
      simp only [PyData.eqv, deq]
      exact eqvA_deq xs ys ps qs h1 h2
    | tup ys => obtain ⟨qs, h2, rfl⟩ := toPy_tup hq; simp only [PyData.eqv, deq]
    | _ => simp [toPy] at hq <;> subst hq <;> simp only [PyData.eqv, deq]
  | .tup xs, y, p, q, hp, hq => by
    obtain ⟨ps, h1, rfl⟩ := toPy_tup hp
    cases y with
    | tup ys =>
      obtain ⟨qs, h2, rfl⟩ := toPy_tup hq
      simp only [PyData.eqv, deq]
      exact eqvA_deq xs ys ps qs h1 h2
    | lst ys => obtain ⟨qs, h2, rfl⟩ := toPy_lst hq; simp only [PyData.eqv, deq]
    | _ => simp [toPy] at hq <;> subst hq <;> simp only [PyData.eqv, deq]
  | .non, y, p, q, hp, hq => by
    simp [toPy] at hp; subst hp
    cases y with
    | lst ys => obtain ⟨qs, h2, rfl⟩ := toPy_lst hq; simp only [PyData.eqv, deq]
    | tup ys => obtain ⟨qs, h2, rfl⟩ := toPy_tup hq; simp only [PyData.eqv, deq]
    | _ => simp [toPy] at hq <;> subst hq <;> simp only [PyData.eqv, deq]
  | .bl b, y, p, q, hp, hq => by
    simp [toPy] at hp; subst hp
    cases y with
    | lst ys => obtain ⟨qs, h2, rfl⟩ := toPy_lst hq; simp only [PyData.eqv, deq]
    | tup ys => obtain ⟨qs, h2, rfl⟩ := toPy_tup hq; simp only [PyData.eqv, deq]
    | _ => simp [toPy] at hq <;> subst hq <;> simp only [PyData.eqv, deq]
  | .int b, y, p, q, hp, hq => by
    simp [toPy] at hp; subst hp
    cases y with
    | lst ys => obtain ⟨qs, h2, rfl⟩ := toPy_lst hq; simp only [PyData.eqv, deq]
    | tup ys => obtain ⟨qs, h2, rfl⟩ := toPy_tup hq; simp only [PyData.eqv, deq]
    | _ => simp [toPy] at hq <;> subst hq <;> simp only [PyData.eqv, deq]
  | .str b, y, p, q, hp, hq => by
    simp [toPy] at hp; subst hp
    cases y with
    | lst ys => obtain ⟨qs, h2, rfl⟩ := toPy_lst hq; simp only [PyData.eqv, deq]
    | tup ys => obtain ⟨qs, h2, rfl⟩ := toPy_tup hq; simp only [PyData.eqv, deq]
    | _ => simp [toPy] at hq <;> subst hq <;> simp only [PyData.eqv, deq]
  | .fz _, _, _, _, hp, _ => by simp [toPy] at hp
  | .dT _ _, _, _, _, hp, _ => by simp [toPy] at hp
  | .dK _ _, _, _, _, hp, _ => by simp [toPy] at hp
  | .ins _ _ _, _, _, _, hp, _ => by simp [toPy] at hp
  | .exc _ _ _, _, _, _, hp, _ => by simp [toPy] at hp
  | .hx _ _ _ _ _, _, _, _, hp, _ => by simp [toPy] at hp
  | .loc _, _, _, _, hp, _ => by simp [toPy] at hp
  | .ref _, _, _, _, hp, _ => by simp [toPy] at hp
  | .ty _, _, _, _, hp, _ => by simp [toPy] at hp
theorem eqvA_deq : ∀ (xs ys : List D) (ps qs : List PyData), toPyA xs = some ps → toPyA ys = some qs → PyData.eqvAll ps qs = deqA xs ys
  | [], [], ps, qs, h1, h2 => by simp [toPyA] at h1 h2; subst h1; subst h2; simp only [PyData.eqvAll, deqA]
  | [], y :: ys, ps, qs, h1, h2 => by
    simp [toPyA] at h1; subst h1
    obtain ⟨q, r, _, _, rfl⟩ := toPyA_cons h2
    simp only [PyData.eqvAll, deqA]
  | x :: xs, [], ps, qs, h1, h2 => by
    simp [toPyA] at h2; subst h2
    obtain ⟨q, r, _, _, rfl⟩ := toPyA_cons h1
    simp only [PyData.eqvAll, deqA]
  | x :: xs, y :: ys, ps, qs, h1, h2 => by
    obtain ⟨p, r, a1, a2, rfl⟩ := toPyA_cons h1
    obtain ⟨q, t, b1, b2, rfl⟩ := toPyA_cons h2
    simp only [PyData.eqvAll, deqA]
    rw [eqv_deq x y p q a1 b1, eqvA_deq xs ys r t a2 b2]
end
mutual
theorem ok_py : ∀ (n : Nat) (d : D), ok n d = true → ∃ p, toPy d = some p ∧ p.canLay0 = true ∧ p.depth ≤ n
  | _, .non, _ => ⟨_, rfl, by simp [PyData.canLay0], by simp [PyData.depth]⟩
  | _, .bl b, _ => ⟨_, rfl, by simp [PyData.canLay0], by simp [PyData.depth]⟩
  | _, .int b, _ => ⟨_, rfl, by simp [PyData.canLay0], by simp [PyData.depth]⟩
  | n, .str b, h => by
    have h : PyData.strOk b = true ∧ b.length ≤ 1000 := by cases n <;> simpa [ok] using h
    exact ⟨_, rfl, by simp [PyData.canLay0, h.1], by simp [PyData.depth]⟩
  | 0, .lst _, h => by simp [ok] at h
  | 0, .tup _, h => by simp [ok] at h
  | n + 1, .lst xs, h => by
    simp only [ok, Bool.and_eq_true] at h
    obtain ⟨ps, h1, h2, h3⟩ := okA_py n xs h.1
    exact ⟨.list ps, by simp [toPy, h1], by simp [PyData.canLay0, h2], by simp [PyData.depth]; omega⟩
  | n + 1, .tup xs, h => by
    simp only [ok, Bool.and_eq_true] at h
    obtain ⟨ps, h1, h2, h3⟩ := okA_py n xs h.1
    exact ⟨.tuple ps, by simp [toPy, h1], by simp [PyData.canLay0, h2], by simp [PyData.depth]; omega⟩
  | n, .fz _, h => by cases n <;> cases h
  | n, .dT _ _, h => by cases n <;> cases h
  | n, .dK _ _, h => by cases n <;> cases h
  | n, .ins _ _ _, h => by cases n <;> cases h
  | n, .exc _ _ _, h => by cases n <;> cases h
  | n, .hx _ _ _ _ _, h => by cases n <;> cases h
  | n, .loc _, h => by cases n <;> cases h
  | n, .ref _, h => by cases n <;> cases h
  | n, .ty _, h => by cases n <;> cases h
theorem okA_py : ∀ (n : Nat) (ds : List D), okA n ds = true → ∃ ps, toPyA ds = some ps ∧ PyData.canLayAll0 ps = true ∧ PyData.depthAll ps ≤ n
  | n, [], _ => ⟨[], rfl, by simp [PyData.canLayAll0], by simp [PyData.depthAll]⟩
  | n, d :: ds, h => by
    simp only [okA, Bool.and_eq_true] at h
    obtain ⟨p, h1, h2, h3⟩ := ok_py n d h.1
    obtain ⟨ps, h4, h5, h6⟩ := okA_py n ds h.2
    exact ⟨p :: ps, by simp [toPyA, h1, h4], by simp [PyData.canLayAll0, h2, h5], by simp [PyData.depthAll]; omega⟩
end
theorem d_eq {n : Nat} {x y : D} {μ : Mu} {P : KD} (hx : ok n x = true) (hy : ok n y = true) (hn : n ≤ 64) : dEq x y μ P = P (.bl (deq x y)) μ := by
  obtain ⟨p, h1, h2, h3⟩ := ok_py n x hx
  obtain ⟨q, h4, h5, h6⟩ := ok_py n y hy
  have s1 : SeqAt.shaped p = true := by simp [SeqAt.shaped, h2]; omega
  have s2 : SeqAt.shaped q = true := by simp [SeqAt.shaped, h5]; omega
  simp only [dEq, h1, h4, s1, s2, and_self, true_and, eqv_deq x y p q h1 h4]
theorem d_ne {n : Nat} {x y : D} {μ : Mu} {P : KD} (hx : ok n x = true) (hy : ok n y = true) (hn : n ≤ 64) : dNe x y μ P = P (.bl (!deq x y)) μ := by
  obtain ⟨p, h1, h2, h3⟩ := ok_py n x hx
  obtain ⟨q, h4, h5, h6⟩ := ok_py n y hy
  have s1 : SeqAt.shaped p = true := by simp [SeqAt.shaped, h2]; omega
  have s2 : SeqAt.shaped q = true := by simp [SeqAt.shaped, h5]; omega
  simp only [dNe, h1, h4, s1, s2, and_self, true_and, eqv_deq x y p q h1 h4]
mutual
theorem deq_self : ∀ (n : Nat) (d : D), ok n d = true → deq d d = true
  | _, .non, _ => by simp [deq]
  | _, .bl b, _ => by simp [deq]
  | _, .int b, _ => by simp [deq]
  | n, .str b, h => by simp [deq]
  | 0, .lst _, h => by simp [ok] at h
  | 0, .tup _, h => by simp [ok] at h
  | n + 1, .lst xs, h => by
    simp only [ok, Bool.and_eq_true] at h
    simp only [deq]
    exact deqA_self n xs h.1
  | n + 1, .tup xs, h => by
    simp only [ok, Bool.and_eq_true] at h
    simp only [deq]
    exact deqA_self n xs h.1
  | n, .fz _, h => by cases n <;> cases h
  | n, .dT _ _, h => by cases n <;> cases h
  | n, .dK _ _, h => by cases n <;> cases h
  | n, .ins _ _ _, h => by cases n <;> cases h
  | n, .exc _ _ _, h => by cases n <;> cases h
  | n, .hx _ _ _ _ _, h => by cases n <;> cases h
  | n, .loc _, h => by cases n <;> cases h
  | n, .ref _, h => by cases n <;> cases h
  | n, .ty _, h => by cases n <;> cases h
theorem deqA_self : ∀ (n : Nat) (ds : List D), okA n ds = true → deqA ds ds = true
  | n, [], _ => by simp [deqA]
  | n, d :: ds, h => by
    simp only [okA, Bool.and_eq_true] at h
    simp only [deqA, deq_self n d h.1, deqA_self n ds h.2, Bool.and_self]
end
@[simp] theorem deq_int {i j : Int} : deq (.int i) (.int j) = (i == j) := by simp only [deq]
@[simp] theorem deq_str {i j : Str} : deq (.str i) (.str j) = (i == j) := by simp only [deq]
@[simp] theorem deq_bl {i j : Bool} : deq (.bl i) (.bl j) = (i == j) := by simp only [deq]
@[simp] theorem deq_non : deq .non .non = true := by simp only [deq]
@[simp] theorem deq_lst {i j : List D} : deq (.lst i) (.lst j) = deqA i j := by simp only [deq]
@[simp] theorem deq_tup {i j : List D} : deq (.tup i) (.tup j) = deqA i j := by simp only [deq]
@[simp] theorem deqA_nil : deqA [] [] = true := by simp only [deqA]
@[simp] theorem deqA_cons {x y : D} {xs ys : List D} : deqA (x :: xs) (y :: ys) = (deq x y && deqA xs ys) := by simp only [deqA]
end Tr
set_option Elab.async false
set_option linter.all false
set_option maxRecDepth 100000
set_option maxHeartbeats 2000000
namespace Tr
open PySem PySem.Spec PyProof.Rows L2 RZ
/-! ### except (C, D) as n -/
theorem fly_keeps {B h g : Heap} {l : List PySem.Env} {a : Addr} {Z : Obj → Prop} (k : ∀ b o, h.get? b = some o → g.get? b = some o) (x : HandSPX.FlyingZ B l a Z h) : HandSPX.FlyingZ B l a Z g := by
  obtain ⟨y1, y2, y3, oe, vs, T, oT, ts, z1, z2, z3, z4, z5, z6, z7, z8, z9⟩ := x
  exact ⟨fun b o e => k b o (y1 b o e), y2, y3.of_keeps fun b o e _ => ⟨o, k b o e, rfl⟩, oe, vs, T, oT, ts, k _ _ z1, z2, z3, z4, z5, z6, k _ _ z7, z8, z9⟩
/-- the clause's word of classes, looked up in the suite, takes an exception of the class cls as T says -/
def Tests (X : Cx) (t : Expr) (T : Value → Option Bool) : Prop := ∀ (a : Addr) (pn pins : List (Addr × Obj)) (σ : L2.St) (H : Hp) (s : Shared) (cls : Value) (b : Bool), Inv (X.suite a pn) pins σ H s →
  PySem.W.Looks (model X.prog X.w) s.heap (typeOf (.ref a)) cls → T cls = some b → ∀ (Q : Bool → Shared → Prop) (E1 E2 : Value → Shared → Prop),
    (∀ g, (∀ c o, s.heap.get? c = some o → g.get? c = some o) → Q b { s with heap := g }) →
    wpAny (model X.prog X.w) (X.A.mark (some (.ref a))) (eval t X.env) (fun c s1 => wpAny (model X.prog X.w) (X.A.mark (some (.ref a))) (excMatches (.ref a) c) Q E1 s1) E2 s
theorem name_is {X : Cx} {a : Addr} {pn pins : List (Addr × Obj)} {σ : L2.St} {H : Hp} {s : Shared} {x : Str} {c : Value} {p : Pos} {Q : Value → Shared → Prop} {E : Value → Shared → Prop} (hc : Names X x c) (I : Inv (X.suite a pn) pins σ H s) (h : Q c s) :
    wpAny (model X.prog X.w) (X.A.mark (some (.ref a))) (eval (.Name x p) X.env) Q E s := by
  rcases hc with ⟨g, nd, m | ⟨m, v, nn⟩⟩
  · exact ld_glob (X := X.suite a pn) I g m h nd
  · exact ld_blt (X := X.suite a pn) I g m v h nn nd
theorem tests_two {X : Cx} {x y : Str} {c d : Value} {p q r : Pos} {k : Nat} (hc : Names X x c) (hd : Names X y d)
    (h1 : starEach [.Name x p, .Name y q] X.env = (false, eval (.Name x p) X.env) :: starEach [.Name y q] X.env := by rfl) (h2 : starEach [.Name y q] X.env = (false, eval (.Name y q) X.env) :: starEach [] X.env := by rfl) :
    Tests X (.Tuple [.Name x p, .Name y q] k r) (fun cls => PySem.W.exmAny X.K cls [c, d]) := by
  intro a pn pins σ H s cls b I LT hT Q E1 E2 h
  refine wpAny_Tuple_spliced ?_
  rw [h1, h2]
  show wpAny _ _ (spliced ((false, eval (.Name x p) X.env) :: (false, eval (.Name y q) X.env) :: backTo r (starEach [] X.env))) _ _ s
  refine Calls.spliced_cons (name_is hc I (Calls.spliced_cons (name_is hd I ?_)))
  show wpAny _ _ (spliced []) _ _ s
  refine Calls.spliced_nil ⟨by simp [sizeLine_eq], ?_⟩
  have k : ∀ e o, s.heap.get? e = some o → (s.heap.push { cls := .type "tuple", data := .seq [c, d].toArray }).get? e = some o := fun e o q => Heap.get?_push_of_some _ q
  exact (PySem.W.exm_tup2 (I.kIn.keeps k) (LT.keeps k) (Heap.get?_push_size _ rfl) hT).here (h _ k)
/-- what the body's exceptions must meet -/
def wAsT (T : Value → Option Bool) (i : Nat) (ts : Addr → Value → Option Addr → TS) (Wout : WX) (D : Ends) : WX := fun cls d σ H => ∃ b, T cls = some b ∧
  (b = true → ∀ a : Addr, H a = none → ts a cls d { nx := fun σ' H' => D.nx (σ'.set i none) H', rt := D.rt, bk := fun σ' H' => D.bk (σ'.set i none) H', ct := fun σ' H' => D.ct (σ'.set i none) H' } (σ.set i (some (.ref a))) H) ∧
  (b = false → Wout cls d σ H)
section
variable {X : Cx} {t : Expr} {T : Value → Option Bool} {n : Str} {i : Nat} {body suite : List Stmt} {b0 : Stmt} {pos pos' : Pos} {tb : WX → TS} {ts : Addr → Value → Option Addr → TS} {Wout : WX}
/-- the suite has ended: the name goes -/
theorem suite_end {a : Addr} {q : Addr × Obj} {pins : List (Addr × Obj)} {D : Ends} {f : Flow} {s : Shared} (ok : X.Ok) (hN : X.N.Nodup) (hi : X.N[i]? = some n) (hl : X.env.kindOf n = some .local)
    (h : SP (X.suite a (q :: (X.pn ++ pins))) [] { nx := fun σ' H' => D.nx (σ'.set i none) H', rt := D.rt, bk := fun σ' H' => D.bk (σ'.set i none) H', ct := fun σ' H' => D.ct (σ'.set i none) H' } f s) :
    wpAny (model X.prog X.w) X.A (do bindName X.env n .none; unbindBehindTheSuite X.env n pos') (fun _ s7 => SP X pins D f s7) X.xe s := by
  rcases f with u | _ | _ | _
  all_goals first
    | (obtain ⟨v, σ6, H6, S6, r6, q6⟩ := h
       exact gone_ok (S6.unsuite ok) hN hi hl fun s7 J7 => ⟨v, _, _, J7, r6, q6⟩)
    | (obtain ⟨σ6, H6, S6, q6⟩ := h
       exact gone_ok (S6.unsuite ok) hN hi hl fun s7 J7 => ⟨_, _, J7, q6⟩)
theorem ps_try_asT (hs : X.stack = X.env :: X.outer) (hf : X.env.frame = some X.env.locals) (hN : X.N.Nodup) (hi : X.N[i]? = some n) (hl : X.env.kindOf n = some .local) (ht : Tests X t T) (tk : L2N.Takes X Wout)
    (hb : ∀ (W : WX) (pn : List (Addr × Obj)) (xe : Value → Shared → Prop), L2N.Takes (X.tr pn xe) W → PassesOwn (model X.prog X.w) X.A X.env xe → PSs (X.tr pn xe) body (tb W))
    (hu : ∀ (a : Addr) (oe : Obj) (cls : Value) (d : Option Addr) (pn : List (Addr × Obj)), L2N.Zn cls d oe → (∃ vs, oe.data = .fields vs) → PSs (X.suite a ((a, oe) :: pn)) (b0 :: suite) (ts a cls d)) :
    PS X (.Try body [.ExceptHandler (some t) (some n) (b0 :: suite) pos'] [] [] pos) (fun D σ H => tb (wAsT T i ts Wout D) D σ H) := by
  constructor
  intro pins s σ H D I h
  have ok := I.ok
  have fr : X.A.frames = some (X.env :: X.outer) := by rw [ok.frames, hs]
  apply wpAny_Try_except
  let catch_ : Value → Shared → Prop := fun e s1 => wpAny (model X.prog X.w) X.A (noteFrame e X.env) (fun _ s2 => wpAny (model X.prog X.w) X.A (setFlight e none)
    (fun _ s3 => wpAny (model X.prog X.w) X.A (handleBy e X.env [.ExceptHandler (some t) (some n) (b0 :: suite) pos']) (SP X pins D) X.xe s3) X.xe s2) X.xe s1
  have hbody := hb (wAsT T i ts Wout D) (X.pn ++ pins) catch_ ?take PassesOwn.looking
  case take =>
    rintro u s1 ⟨a, B, sI, pins1, σ1, H1, cls, d, rfl, J0, nb, up, sky, na, os, ag, b, hT, hyes, hno⟩
    have J : Inv X pins σ1 H1 sI := J0.ofTry ok
    rw [show (X.tr (X.pn ++ pins) catch_).stack = X.env :: X.outer from hs] at sky
    refine L2N.Sky.land L2N.Zn.steady fr hf sky fun h3 fl3 up3 => ?_
    have away : ∀ {g : Heap} {o : Obj} {vs : Array Value}, g.FunFrames B (X.env :: X.outer) → g.get? a = some o → o.data = .fields vs → a ∉ frs (X.env :: X.outer) := by
      intro g o vs ff e dd hm
      obtain ⟨_, o1, e1, nf⟩ := ff.mem hm
      rw [e] at e1
      exact nf _ ((Option.some.inj e1) ▸ dd)
    have fit : ∀ {g : Heap}, HandSPX.FlyingZ B (X.env :: X.outer) a (L2N.Zn cls d) g → sI.heap.UpToSlots g → ∃ oe vs, g.get? a = some oe ∧ L2N.Zn cls d oe ∧ oe.data = .fields vs ∧ Inv X pins σ1 H1 { s1 with heap := g } ∧ Inv (X.suite a ((a, oe) :: (X.pn ++ pins))) [] σ1 H1 { s1 with heap := g } := by
      intro g fl u
      obtain ⟨oe, vs, e1, e2, e3⟩ := fl.there
      have out := away fl.2.2.1 e1 e3
      have J1 : Inv X pins σ1 H1 { s1 with heap := g } := J.landed nb fl.1 u os ag
      refine ⟨oe, vs, e1, e2, e3, J1, J1.suite e1 e3 na (fun z => out ?_) fun z => out ?_⟩
      · exact List.mem_filterMap.mpr ⟨X.env, List.mem_cons_self, by rw [hf, z]⟩
      · obtain ⟨v, hv, hq⟩ := List.mem_filterMap.mp z
        exact List.mem_filterMap.mpr ⟨v, List.mem_cons_of_mem _ hv, hq⟩
    obtain ⟨oe3, vs3, e3, z3, d3, J3, S3⟩ := fit fl3 (up.trans up3)
    refine wpAny_handleBy_cons (codeAny_handlers_test ?_) (by intro q; cases q)
    have LT : PySem.W.Looks (model X.prog X.w) h3 (typeOf (.ref a)) cls := fun A Q E z k q => wpAny_typeOf_ref (k _ _ e3) (by rw [z3.1]; exact q)
    refine ht a _ _ σ1 H1 _ cls b S3 LT hT _ _ _ fun g kg => ?_
    have flg := fly_keeps kg fl3
    have upg : sI.heap.UpToSlots g := (up.trans up3).trans fun c o e _ => ⟨o.slots, kg c o e⟩
    cases b
    · show wpAny _ X.A (handleBy (.ref a) X.env []) _ _ _
      refine wpAny_handleBy_nil ?_
      obtain ⟨_, _, _, oe, vs, T0, _, _, q1, _, q3, q4, _⟩ := id flg
      unfold PySem.passOn
      refine wpAny_bind (wpAny_field q1 q3 q4 ?_)
      rw [if_neg (show ¬ ((Value.ref T0 == Value.none) = true) by simp)]
      have last : wpAny (model X.prog X.w) X.A (setFlight (.ref a) X.env.frame) (fun _ s4 => wpAny (model X.prog X.w) X.A (throw (.ref a) : Sem Flow) (SP X pins D) X.xe s4) X.xe { s1 with heap := g } := by
        rw [hf]
        refine HandSPX.setFlight_upZ flg fun h4 hh up4 => wpAny_throw (tk _ _ ?_)
        exact ⟨a, B, sI, pins, σ1, H1, cls, d, rfl, J, nb, upg.trans up4, .inr (.inr (by rw [hs]; exact hh)), na, os, ag, hno rfl⟩
      first
        | exact wpAny_bind (wpAny_pure (wpAny_bind last))
        | exact wpAny_bind last
    · refine codeAny_handlers_suite_as (HandSPX.lands_againZ flg fun h4 fl4 up4 => ?_)
      obtain ⟨oe4, vs4, _, z4, d4, J4, S4⟩ := fit fl4 (upg.trans up4)
      refine store_ok (X := X.suite a ((a, oe4) :: (X.pn ++ pins))) (v := .ref a) S4 hN hi (.inl hl) rfl (fun s5 S5 => ?_) (.inr hl)
      have ran := (hu a oe4 cls d (X.pn ++ pins) z4 ⟨_, d4⟩).run [] s5 _ H1 _ S5 (hyes rfl a na)
      exact wpAny_mono ran (fun f s6 q => suite_end ok hN hi hl q) fun _ _ z => z.elim
  refine wpAny_mono (hbody.run [] s σ H D (I.toTry _) h) (fun f s1 q => ?_) fun _ _ z => z
  rcases f with u | _ | _ | _
  all_goals first
    | (obtain ⟨v, σ6, H6, S6, r6, q6⟩ := q
       exact ⟨v, _, _, S6.ofTry ok, r6, q6⟩)
    | (obtain ⟨σ6, H6, S6, q6⟩ := q
       first
       | exact ⟨_, _, S6.ofTry ok, q6⟩
       | exact wpAny_execs_nil ⟨_, _, S6.ofTry ok, q6⟩)
end
end Tr
set_option Elab.async false
set_option linter.all false
set_option maxRecDepth 100000
set_option maxHeartbeats 2000000
namespace Tr
open PySem PySem.Spec PyProof.Rows L2 RZ
/-! ### exceptions of a class of one's own with an __init__, over any base -/
structure ExC (K : PySem.W.Frag) (C : Addr) (B newId initId : String) (bmB : List Value) : Prop where
  F : ExcBaseFacts B newId initId bmB
  SF : StoreFacts B bmB "object.__setattr__" "object"
  ini : PySem.W.excInitIn K C bmB newId = true
  ov : PySem.W.excOver K C bmB = true
  hd : PySem.W.hasDictIn K C = true
  sa : PySem.W.findIn K (.ref C) "__setattr__" = some (some (.builtin "object.__setattr__"))
  exC : PySem.W.subIn K (.ref C) (.type "BaseException") = some true
  tyC : PySem.W.typeIn K (.ref C) = some (.type "type")
  kC : PySem.W.keepIn K (.ref C) = true
section
variable {X : Cx} {pins : List (Addr × Obj)} {σ : L2.St} {H : Hp} {s : Shared} {a C dx : Addr} {f : Str} {y : V} {u : Value} {fs : List (Str × V)} {B newId initId : String} {bmB : List Value}
/-- the run of C(..), C's __init__ keeping sp -/
theorem run_exc {CX : CXT} {fI : Addr} {k : Nat} {fd : FuncData} {ps : List Str} {sp : Sp} {us : List Value} {vs : List V} {Q : VK} (T : ExC X.K C B newId initId bmB) (iC : PySem.W.findIn X.K (.ref C) "__init__" = some (some (.ref fI)))
    (tI : PySem.W.typeIn X.K (.ref fI) = some (.type "function")) (G : FnOk X.prog X.w X.K X.mg X.base CX k fI fd ps sp) (hr : Room (k + 1) X.A) (hb : Binds X.K fd ps []) (hx : Passes CX X E0) (I : Inv X pins σ H s) (r : Vals vs us) (hz : vs.length ≤ 1000)
    (h : ∀ a, H a = none → sp (.ref a :: vs) (upd H a (exo a C none)) (fun v H2 => v = .non ∧ Q (.ref a) H2) E0) : wpAny (model X.prog X.w) X.A (call (.ref C) us) (EP X pins σ Q) X.xe s := by
  obtain ⟨nm, N, qn, bs, bm, hdct, sn, sub, ab, col, dd, k0, k1, k2, k3, k5, hC, hT⟩ := PySem.W.excInit_of I.kIn T.ini
  rcases s with ⟨hp, g, dr, tk, os⟩
  let p : Addr := hp.objs.size + 1
  let hp2 : Heap := (hp.push (PySem.W.kdv_tup us)).push (PySem.HandSPX.excO C hp.objs.size)
  have up : ∀ b o, hp.get? b = some o → hp2.get? b = some o := fun b o e => Heap.get?_push_of_some _ (Heap.get?_push_of_some _ e)
  have new : hp.objs.size ≤ p := Nat.le_succ _
  have at_ : hp2.get? p = some (PySem.HandSPX.excO C hp.objs.size) := by
    show ((hp.push (PySem.W.kdv_tup us)).push (PySem.HandSPX.excO C hp.objs.size)).get? (hp.objs.size + 1) = _
    heap_get
  have none_ : H p = none := I.hok.fresh new
  have J : Inv X pins σ (upd H p (exo p C none)) ⟨hp2, g, dr, tk, os⟩ := I.laid (t' := tk) (a := p) (o := exo p C none) (h' := hp2) up new (exo_ok at_)
  have now := h p none_
  have vals : Vals (V.ref p :: vs) (Value.ref p :: us) := .cons rfl r
  have len : (Value.ref p :: us ++ []).length = ps.length := by rw [List.append_nil, ← vals.length, G.len _ _ _ _ now]
  have few : us.length ≤ sizeLine := by rw [← Paired.length r, sizeLine_eq]; omega
  have bind := hb _ (Value.ref p :: us) J.kIn len
  rw [List.append_nil] at bind
  have ran := G.run _ X.stack _ _ ⟨Value.ref p :: us, []⟩ (Value.ref p :: us) _ _ E0 (hr.make C us []) (J.env0.make C us []) bind vals now
  refine wpAny_call (PySem.HandSPX.call_own T.F hT hC (PySem.W.looks_findIn I.kIn iC) (fun self => PySem.W.bind_fn I.kIn self tI) few (codeAny_mono ran fun res s' q => ?_))
  cases res with
  | error er => exact hx pins σ _ _ er s' J q
  | ok fl =>
    cases fl with
    | ret u =>
      obtain ⟨v, H2, J2, rv, ev, q2⟩ := J.after q
      subst ev
      exact ⟨rv, .ref p, H2, J2, rfl, q2⟩
    | _ => exact q.elim
def tExn (C : Addr) (sp : Sp) (ta : TA) : TE := fun σ H Q => ta σ H fun vs H1 => vs.length ≤ 1000 ∧ ∀ a, H1 a = none → sp (.ref a :: vs) (upd H1 a (exo a C none)) (fun v H2 => v = .non ∧ Q (.ref a) H2) E0
theorem pe_exn {CX : CXT} {x : Str} {fI : Addr} {k : Nat} {fd : FuncData} {ps : List Str} {sp : Sp} {e : Expr} {es : List Expr} {ta : TA} {p pos : Pos} (T : ExC X.K C B newId initId bmB) (iC : PySem.W.findIn X.K (.ref C) "__init__" = some (some (.ref fI)))
    (tI : PySem.W.typeIn X.K (.ref fI) = some (.type "function")) (G : FnOk X.prog X.w X.K X.mg X.base CX k fI fd ps sp) (hr : Room (k + 1) X.A) (hb : Binds X.K fd ps []) (hx : Passes CX X E0) (hg : Gl X x) (hm : X.mg x = some (.ref C)) (ha : PA X (e :: es) ta)
    (hdb : (x == ("__debug__" : Str)) = false := by decide) (he : starEach (e :: es) X.env = (false, eval e X.env) :: starEach es X.env := by rfl) (hpl : (backTo pos (starEach es X.env)).any (·.1) = false := by rfl) :
    PE X (.Call (.Name x p) (e :: es) [] pos) (tExn C sp ta) :=
  ⟨fun pins s σ H Q I h => wpAny_Call_Name_kw (ld_glob I hg hm (PySem.W.callWith_K (h₀ := X.base) I.ok.mod.kin T.kC
    (thn (ha.run pos pins s σ H _ I h) fun us s1 ⟨vs, H1, I1, r1, hz, q1⟩ => ⟨I1.kIn, run_exc T iC tI G hr hb hx I1 r1 hz q1⟩) he hpl) hdb)⟩
/-! self.f = y there -/
theorem xst_new {Q : Unit → Shared → Prop} {E : Value → Shared → Prop} {A : Around} (T : ExC X.K C B newId initId bmB) (I : Inv X pins σ H s) (e : H a = some (exo a C none)) (hno : PySem.W.findIn X.K (.ref C) f = some none) (ry : RelV y u)
    (h : ∀ d s', H d = none → d ≠ a → Inv X pins σ (upd (upd H d (exd d [(f, y)])) a (exo a C (some d))) s' → Q () s') : wpAny (model X.prog X.w) A (setAttr (.ref a) f u) Q E s := by
  obtain ⟨t1, ho⟩ := exo_at I.hok e
  have tk : PySem.W.takerIn X.K C f = some none := by unfold PySem.W.takerIn; rw [hno]; rfl
  obtain ⟨cd, hc, hd⟩ := PySem.W.any_some T.hd
  rcases s with ⟨hp, g, dr, t, os⟩
  refine PySem.W.set_plain (od := none) I.kIn ⟨ho, rfl, rfl, trivial⟩ T.sa ?_
  refine PySem.W.osa_openX (od := none) T.SF I.kIn ⟨ho, rfl, rfl, trivial⟩ T.ov tk fun b => ?_
  refine wpAny_bind (wpAny_pure (wpAny_bind (PySem.W.instanceDict_exc (t := t1) (c2 := .none) ho (PySem.W.looks_clsIn I.kIn hc) hd ?_)))
  let D : Addr := hp.objs.size
  let h1 : Heap := hp.push (PySem.W.dictOf [] 0)
  let h2 : Heap := h1.update a fun o => { o with dict := some D }
  have nD : H D = none := I.hok.fresh (Nat.le_refl _)
  have neq : D ≠ a := Nat.ne_of_gt (Heap.lt_size ho)
  have k1 : ∀ c o, hp.get? c = some o → h1.get? c = some o := fun c o q => Heap.get?_push_of_some _ q
  have e1 : h1.get? D = some (PySem.W.dictOf [] 0) := Heap.get?_push_at rfl rfl
  have e2 : h2.get? D = some (PySem.W.dictOf [] 0) := (Heap.get?_update_ne _ _ _ _ neq).trans e1
  have empty : ∀ {g : Heap}, g.get? D = some (PySem.W.dictOf [] 0) → g.Ns D fun _ => none := fun {g} q => ⟨_, #[], _, q, rfl, fun e he => absurd he (by simp), fun _ => rfl⟩
  have J1 : Inv X pins σ (upd H D (exd D [])) ⟨h1, g, dr, t, os⟩ := I.laid (t' := t) (a := D) (o := exd D []) (h' := h1) k1 (Nat.le_refl _) (exd_ok (Heap.Ns1.of_empty (empty e1)) fun _ => True.intro)
  have at2 : h2.get? a = some { cls := .ref C, dict := some D, data := .fields #[.ref t1, .none, .none, .none, .bool false, .none] } := Heap.get?_update_self _ (k1 _ _ ho) rfl
  have J2 : Inv X pins σ (upd (upd H D (exd D [])) a (exo a C (some D))) ⟨h2, g, dr, t, os⟩ :=
    J1.write (t' := t) (x := a) (e := a) (o := exo a C (some D)) (h' := h2) (by rw [upd_ne neq.symm, e]; exact True.intro) (.inl rfl) (fun c o hne q => (Heap.get?_update_ne _ _ _ _ hne).trans q) ⟨_, at2⟩ (exo_ok at2)
  show wpAny _ _ (Builtin.ObjectAttr.storeInDict D (.str f t) f u) _ _ (⟨h2, g, dr, t + 1, os⟩ : Shared)
  refine PySem.HandSPX.store_in_new (empty e2) fun h3 tk' hn hs => ?_
  have there : ∃ o, h3.get? D = some o := let ⟨o, _, _, q, _⟩ := hn; ⟨o, q⟩
  have J3 := J2.write (t' := tk') (x := D) (e := D) (o := exd D [(f, y)]) (h' := h3) (by rw [upd_ne neq, upd_same]; exact True.intro) (.inl rfl) (fun c o hne q => (hs.2 c hne).trans q) there (exd_ok hn (relO_put (fs := []) ry fun _ => True.intro))
  have same : upd (upd (upd H D (exd D [])) a (exo a C (some D))) D (exd D [(f, y)]) = upd (upd H D (exd D [(f, y)])) a (exo a C (some D)) := by
    funext c
    by_cases c1 : c = D
    · subst c1
      rw [upd_same, upd_ne neq, upd_same]
    · rw [upd_ne c1]
      by_cases c2 : c = a
      · subst c2
        rw [upd_same, upd_same]
      · rw [upd_ne c2, upd_ne c2, upd_ne c1, upd_ne c1]
  rw [same] at J3
  exact h D _ nD neq J3
/-- a further one -/
theorem xst_old {Q : Unit → Shared → Prop} {E : Value → Shared → Prop} {A : Around} (T : ExC X.K C B newId initId bmB) (I : Inv X pins σ H s) (e : H a = some (exo a C (some dx))) (ed : H dx = some (exd dx fs)) (hl : fs.length ≤ 900) (hno : PySem.W.findIn X.K (.ref C) f = some none) (ry : RelV y u)
    (h : ∀ s', Inv X pins σ (upd H dx (exd dx ((f, y) :: fs))) s' → Q () s') : wpAny (model X.prog X.w) A (setAttr (.ref a) f u) Q E s := by
  obtain ⟨t1, ho⟩ := exo_at I.hok e
  obtain ⟨mA, ns, rel⟩ := exd_at I.hok ed
  have wi := within_of rel
  have tk : PySem.W.takerIn X.K C f = some none := by unfold PySem.W.takerIn; rw [hno]; rfl
  obtain ⟨cd, hc, hd⟩ := PySem.W.any_some T.hd
  rcases s with ⟨hp, g, dr, t, os⟩
  obtain ⟨oD, _, _, od, _, _⟩ := ns.count wi
  refine PySem.W.set_plain (od := some oD) I.kIn ⟨ho, rfl, rfl, od⟩ T.sa ?_
  refine PySem.W.osa_openX (od := some oD) T.SF I.kIn ⟨ho, rfl, rfl, od⟩ T.ov tk fun b => ?_
  refine wpAny_bind (wpAny_pure (wpAny_bind (wpAny_bind (wpAny_loadPart ho (wpAny_bind ((PySem.W.looks_clsIn (M := model X.prog X.w) I.kIn hc).at ?_))))))
  rw [hd]
  refine wpAny_pure (a := some dx) ?_
  show wpAny _ _ (Builtin.ObjectAttr.storeInDict dx (.str f t) f u) _ _ (⟨hp, g, dr, t + 1, os⟩ : Shared)
  refine PySem.OEX.store_in_old ns wi (by rw [List.length_map]; omega) fun h' tk' hn hs => ?_
  have there : ∃ o, h'.get? dx = some o := let ⟨o, _, _, q, _⟩ := hn; ⟨o, q⟩
  exact h _ (I.write (t' := tk') (x := dx) (e := dx) (o := exd dx ((f, y) :: fs)) (h' := h') (by rw [ed]; exact True.intro) (.inl rfl) (fun c o hne q => (hs.2 c hne).trans q) there (exd_ok hn (relO_put ry rel)))
/-- the facts of a class of exceptions, its base left open -/
def XC (K : PySem.W.Frag) (C : Addr) : Prop := ∃ B newId initId bmB, ExC K C B newId initId bmB
def tXst (K : PySem.W.Frag) (f : Str) (to te : TE) : TS := fun D σ H => te σ H fun y H1 => to σ H1 fun x H2 => ∃ a C : Addr, x = .ref a ∧ XC K C ∧ PySem.W.findIn K (.ref C) f = some none ∧
  ((H2 a = some (exo a C none) ∧ ∀ d, H2 d = none → d ≠ a → D.nx σ (upd (upd H2 d (exd d [(f, y)])) a (exo a C (some d)))) ∨
    ∃ (d : Addr) (fs : List (Str × V)), H2 a = some (exo a C (some d)) ∧ H2 d = some (exd d fs) ∧ fs.length ≤ 900 ∧ D.nx σ (upd H2 d (exd d ((f, y) :: fs))))
theorem ps_xst {o e : Expr} {to te : TE} {p' pos : Pos} (ho : PE X o to) (he : PE X e te) (hs : swapsWith e (some (.Attribute o f p')) pos.line X.env = pure false := by rfl) : PS X (.Assign [.Attribute o f p'] e pos) (tXst X.K f to te) := by
  constructor
  intro pins s σ H D I h
  apply plainObj_wpAny_Assign_Attribute _ hs
  apply thn (he.run pins s σ H _ I h)
  rintro v s1 ⟨y, H1, I1, r1, q1⟩
  apply thn (ho.run pins s1 σ H1 _ I1 q1)
  rintro u s2 ⟨x, H2, I2, r2, a, C, ex, ⟨_, _, _, _, T⟩, hno, q⟩
  subst ex
  cases (show u = Value.ref a from r2)
  rcases q with ⟨ea, q⟩ | ⟨d, fs, ea, ed, hl, q⟩
  · exact xst_new T I2 ea hno r1 fun d s' n ne J => ⟨σ, _, J, q d n ne⟩
  · exact xst_old T I2 ea ed hl hno r1 fun s' J => ⟨σ, _, J, q⟩
/-! e.f, e at hand -/
def tXgt (K : PySem.W.Frag) (f : Str) (te : TE) : TE := fun σ H Q => te σ H fun x H1 => ∃ (a C d : Addr) (fs : List (Str × V)) (v : V), x = .ref a ∧ XfC K C ∧ PySem.W.findIn K (.ref C) f = some none ∧ H1 a = some (exo a C (some d)) ∧ H1 d = some (exd d fs) ∧ fs.lookup f = some v ∧ Q v H1
theorem pe_xgt {e : Expr} {te : TE} {pos : Pos} (he : PE X e te) (hb : attributeBase e f X.env (eval e X.env) = eval e X.env := by rfl) : PE X (.Attribute e f pos) (tXgt X.K f te) := by
  constructor
  intro pins s σ H Q I h
  apply attr_of hb
  apply thn (he.run pins s σ H _ I h)
  rintro u s1 ⟨x, H1, I1, rx, a, C, d, fs, v, ex, T, hno, ea, ed, l, q⟩
  subst ex
  cases (show u = Value.ref a from rx)
  obtain ⟨t1, ho⟩ := exo_at I1.hok ea
  obtain ⟨mA, ns, rel⟩ := exd_at I1.hok ed
  obtain ⟨oD, hD, hl⟩ := lookIn_ns ns
  obtain ⟨z, hz, rz⟩ := RelO.some_of (v := v) (o := mA f) (by rw [← l]; exact rel f)
  have J : PySem.W.InstAt s1.heap a _ C (some oD) := ⟨ho, rfl, rfl, hD⟩
  exact HandSPX.exc_get I1.kIn J T.ga T.gg T.exC (PySem.W.findObj_own T.hdC hno rfl (by rw [hl, hz])) (handed_of rz) ⟨v, H1, I1.tok _, rz, q⟩
/-! e.f, e handled -/
def tXpn (a C d : Addr) (f : Str) (te : TE) : TE := fun σ H Q => te σ H fun x H1 => ∃ (fs : List (Str × V)) (v : V), x = .ref a ∧ H1 d = some (exd d fs) ∧ fs.lookup f = some v ∧ Q v H1
theorem pe_xpn {oe : Obj} {d : Addr} {e : Expr} {te : TE} {pos : Pos} (hp : (a, oe) ∈ X.pn) (hc : oe.cls = .ref C) (hd : oe.dict = some d) (hf : ∃ vs, oe.data = .fields vs) (T : XfC X.K C) (hno : PySem.W.findIn X.K (.ref C) f = some none)
    (he : PE X e te) (hb : attributeBase e f X.env (eval e X.env) = eval e X.env := by rfl) : PE X (.Attribute e f pos) (tXpn a C d f te) := by
  constructor
  intro pins s σ H Q I h
  apply attr_of hb
  apply thn (he.run pins s σ H _ I h)
  rintro u s1 ⟨x, H1, I1, rx, fs, v, ex, ed, l, q⟩
  subst ex
  cases (show u = Value.ref a from rx)
  obtain ⟨vs, hf⟩ := hf
  have ho := (I1.pin (a, oe) (List.mem_append_left _ hp)).1
  obtain ⟨mA, ns, rel⟩ := exd_at I1.hok ed
  obtain ⟨oD, hD, hl⟩ := lookIn_ns ns
  obtain ⟨z, hz, rz⟩ := RelO.some_of (v := v) (o := mA f) (by rw [← l]; exact rel f)
  have J : PySem.W.InstAt s1.heap a oe C (some oD) := ⟨ho, hc, by unfold PySem.W.notCls; rw [hf] <;> rfl, by rw [hd]; exact hD⟩
  exact HandSPX.exc_get I1.kIn J T.ga T.gg T.exC (PySem.W.findObj_own T.hdC hno rfl (by rw [hl, hz])) (handed_of rz) ⟨v, H1, I1.tok _, rz, q⟩
/-! raise e, e made here -/
theorem pmk_exo {e : Expr} {te : TE} (hx : X.ex = []) (he : PE X e te) : L2N.PMk X e fun σ H Q => te σ H fun x H1 => ∃ (a C : Addr) (d : Option Addr), x = .ref a ∧ H1 a = some (exo a C d) ∧ Fr0 X.H_0 a ∧ Raises X (.ref C) ∧ Q (.ref C) d (delH H1 a) := by
  intro pins s σ H Q I h
  apply thn (he.run pins s σ H _ I h)
  rintro u s1 ⟨x, H1, I1, rx, a, C, d, ex, ea, h0, hr, q⟩
  subst ex
  cases (show u = Value.ref a from rx)
  obtain ⟨t1, ho⟩ := exo_at I1.hok ea
  obtain ⟨G, kG, nG, J⟩ := I1.untrack ea h0 hx
  exact ⟨a, _, _, { s1 with heap := G }, delH H1 a, .ref C, d, rfl, J, kG, nG, ho, ⟨rfl, rfl, fun vs z => by cases z; rfl⟩, rfl, rfl, delH_same, rfl, I1.bare, hr, q⟩
end
end Tr
set_option Elab.async false
set_option linter.all false
set_option maxRecDepth 100000
set_option maxHeartbeats 2000000
namespace Tr
open PySem PySem.Spec PyProof.Rows L2 RZ
/-! ### C(k = v) for an exception class: its base's __new__ takes the keywords and lets them lie -/
section
open Builtin Builtin.ObjectAttr
variable {M : Model} {prog : Program} {w : World} {A : Around} {E : Value → Shared → Prop} {R : Result → Shared → Prop} {h : Heap} {g : Array GenState} {d : Drawn} {t : Nat} {os : OsState}
variable {nm q : Str} {C N : Addr} {bs bm bmB : List Value} {hdct : Bool} {sn : List Str} {sub : List Value} {ab : Bool} {col : Option Bool} {dd : Option Addr} {k0 k1 k2 k3 k5 : Option Value} {B newId initId : String} {xs : List Value} {kw : List (Str × Value)}
theorem kw_check (F : ExcBaseFacts B newId initId bmB) (hT : ∀ Y : String, bm.contains (.type Y) = bmB.contains (.type Y)) {Q : Unit → Shared → Prop}
    (at_ : h.get? C = some (excClassObj nm q C N bs bm hdct sn sub ab col dd k0 k1 k2 k3 k5 newId)) (hq : Q () ⟨h, g, d, t, os⟩) : wpAny M A (checkBuiltinCall newId ⟨.ref C :: xs, kw⟩) Q E ⟨h, g, d, t, os⟩ := by
  have isB : (Value.ref C :: bm).contains (.type B) = true := by rw [List.contains_cons, hT, F.hasB, Bool.or_true]
  have star := F.noStar
  simp only [checkBuiltinCall, F.newKind, F.newSplit, F.newRow]
  repeat (first
    | refine wpAny_loadPart_at at_ ?_
    | (refine wpAny_isSubtype_exc at_ ?_
       rw [isB])
    | refine wpAny_staticBase_exc at_ ?_
    | refine wpAny_madeBy_exc at_ ?_
    | simp only [bne_self_eq_false, Bool.false_eq_true, if_false]
    | wp_step)
  exact hq
theorem kw_new (F : ExcBaseFacts B newId initId bmB) (hT : ∀ Y : String, bm.contains (.type Y) = bmB.contains (.type Y)) (at_ : h.get? C = some (excClassObj nm q C N bs bm hdct sn sub ab col dd k0 k1 k2 k3 k5 newId))
    (hq : R (.ok (.ret (.ref (h.objs.size + 1)))) ⟨(h.push (PySem.W.kdv_tup xs)).push (PySem.HandSPX.excO C h.objs.size), g, d, t, os⟩) (few : xs.length ≤ sizeLine) :
    codeAny (model prog w) A (.builtin newId ⟨.ref C :: xs, kw⟩) R ⟨h, g, d, t, os⟩ := by
  have ends := F.ends
  have isB : (Value.ref C :: bm).contains (.type B) = true := by rw [List.contains_cons, hT, F.hasB, Bool.or_true]
  have noA : (Value.ref C :: bm).contains (.type "AttributeError") = false := by rw [List.contains_cons, hT, F.noAttr]; rfl
  have noN : (Value.ref C :: bm).contains (.type "NameError") = false := by rw [List.contains_cons, hT, F.noName]; rfl
  refine codeAny_builtinAt F.entry ?_
  unfold Builtin.«BaseException.__new__»
  refine PySem.wpAt_bind ?_
  show PySem.wpAt _ _ _ (PySem.stack >>= _) _ _ _
  refine PySem.wpAt_bind (PySem.wpAt_stack fun p below => PySem.wpAt_of_wpAny ?_)
  wp_walk
  refine PySem.wpAt_of_wpAny ?_
  rw [F.owner]
  repeat (first
    | with_reducible refine wpAny_madeHere_exc F.canon at_ ?_
    | with_reducible refine wpAny_loadPart_at at_ ?_
    | (with_reducible refine wpAny_isSubtype_exc at_ ?_
       first | rw [isB] | rw [noA] | rw [noN])
    | wp_step)
  show R _ _
  rw [Heap.size_push]
  exact hq
theorem kw_type (F : ExcBaseFacts B newId initId bmB) (hT : ∀ Y : String, bm.contains (.type Y) = bmB.contains (.type Y)) {fI : Addr} {Q : PySem.Fin → Shared → Prop} (at_ : h.get? C = some (excClassObj nm q C N bs bm hdct sn sub ab col dd k0 k1 k2 k3 k5 newId))
    (li : PySem.W.Looks (model prog w) h (typeLookup (.ref C) "__init__") (some (.ref fI))) (lb : ∀ self, PySem.W.Looks (model prog w) h (bindSpecial (.ref fI) self) (.ref fI, [self])) (few : xs.length ≤ sizeLine)
    (hq : codeAny (model prog w) A (.call (.ref fI) ⟨.ref (h.objs.size + 1) :: xs, kw⟩) (fun r s' => match r with | .ok (.ret v) => v = .none ∧ Q (.done (.ret (.ref (h.objs.size + 1)))) s' | .ok _ => False | .error e => E e s')
      ⟨(h.push (PySem.W.kdv_tup xs)).push (PySem.HandSPX.excO C h.objs.size), g, d, t, os⟩) :
    wpAny (model prog w) A (Builtin.«type.__call__» ⟨.ref C :: xs, kw⟩) Q E ⟨h, g, d, t, os⟩ := by
  repeat (first
    | with_reducible refine wpAny_loadPart_at at_ ?_
    | with_reducible refine wpAny_madeBy_exc at_ ?_
    | wp_step)
  refine codeAny_call_builtin_code (Code.quiet_builtin _ F.quiet) (kw_check F hT at_ ?_)
  refine kw_new F hT at_ ?_ few
  show wpAny _ _ _ _ _ _
  have up : ∀ b o, h.get? b = some o → ((h.push (PySem.W.kdv_tup xs)).push (PySem.HandSPX.excO C h.objs.size)).get? b = some o := fun b o e => Heap.get?_push_of_some _ (Heap.get?_push_of_some _ e)
  have at2 := up _ _ at_
  have new : ((h.push (PySem.W.kdv_tup xs)).push (PySem.HandSPX.excO C h.objs.size)).get? (h.objs.size + 1) = some (PySem.HandSPX.excO C h.objs.size) := by heap_get
  have self : (Value.ref C :: bm).contains (.ref C) = true := by simp
  have li2 := li.keeps up
  have lb2 := (lb (.ref (h.objs.size + 1))).keeps up
  unfold isInstance
  repeat (first
    | with_reducible refine wpAny_loadPart_at new ?_
    | (with_reducible refine wpAny_isSubtype_exc at2 ?_
       rw [self])
    | wp_step)
  show wpAny _ _ (typeLookup (.ref C) _) _ _ _
  refine li2.at ?_
  refine wpAny_holding (wpAny_bind (lb2.at ?_))
  refine wpAny_bind (wpAny_call (codeAny_mono hq fun r s' z => ?_))
  rcases r with e | (v | _ | _ | _)
  all_goals first
    | exact z
    | exact z.elim
    | skip
  obtain ⟨rfl, z⟩ := z
  first
    | exact wpAny_pure (wpAny_pure z)
    | (wp_walk; exact z)
theorem kw_call (F : ExcBaseFacts B newId initId bmB) (hT : ∀ Y : String, bm.contains (.type Y) = bmB.contains (.type Y)) {fI : Addr} (at_ : h.get? C = some (excClassObj nm q C N bs bm hdct sn sub ab col dd k0 k1 k2 k3 k5 newId))
    (li : PySem.W.Looks (model prog w) h (typeLookup (.ref C) "__init__") (some (.ref fI))) (lb : ∀ self, PySem.W.Looks (model prog w) h (bindSpecial (.ref fI) self) (.ref fI, [self])) (few : xs.length ≤ sizeLine)
    (hq : codeAny (model prog w) (A.under (.builtin "type.__call__" ⟨.ref C :: xs, kw⟩)) (.call (.ref fI) ⟨.ref (h.objs.size + 1) :: xs, kw⟩) (PySem.W.InitBack (h.objs.size + 1) R)
      ⟨(h.push (PySem.W.kdv_tup xs)).push (PySem.HandSPX.excO C h.objs.size), g, d, t, os⟩) :
    codeAny (model prog w) A (.call (.ref C) ⟨xs, kw⟩) R ⟨h, g, d, t, os⟩ := by
  have f1 := tc_lookup
  have f2 := tc_bind (.ref C)
  have tyIs : (⟨h, g, d, t, os⟩ : Shared).TypeIs (.ref C) "type" := ⟨_, at_, rfl⟩
  refine codeAny_of_tree ?_
  show wpAny _ _ (callAny (.ref C) _) _ _ _
  repeat (any_goals (first
    | assumption
    | with_reducible refine wpAny_loadPart_at at_ ?_
    | wp_step))
  refine ⟨rfl, ?_⟩
  refine codeAny_call_builtin_at (Code.quiet_builtin _ (by decide +kernel)) entry_typeCall (wpAny_check_type_call_sub at_ (kw_type F hT at_ li lb few ?_))
  refine codeAny_mono hq fun r s' z => ?_
  rcases r with e | (v | _ | _ | _)
  all_goals exact z
end
end Tr
set_option Elab.async false
set_option linter.all false
set_option maxRecDepth 100000
set_option maxHeartbeats 2000000
namespace Tr
open PySem PySem.Spec PyProof.Rows L2 RZ
/-! ### exceptions as values -/
section
variable {K : PySem.W.Frag} {w : Wo} {H H' : Hp}
theorem more_ev (g : Gd0 K w H) (k : ∀ b o, H b = some o → H' b = some o) : Ev w H w H' := by
  refine ⟨⟨⟨[], by simp⟩, fun a o e _ l => ⟨k a o e, l⟩, fun a n => ?_⟩, rfl, fun a ha => ?_⟩
  · cases e : H a with
    | none => exact absurd e n
    | some o => rw [k a o e]; exact fun z => nomatch z
  · cases e : H a with
    | none => exact absurd e (g.trk a (List.mem_append_right _ ha))
    | some o => exact k a o e
theorem more_gd0 (g : Gd0 K w H) (k : ∀ b o, H b = some o → H' b = some o) : Gd0 K w H' := by
  have same : ∀ a, H a ≠ none → H' a = H a := fun a n => by
    cases e : H a with
    | none => exact absurd e n
    | some o => exact k a o e
  refine ⟨g.len, g.nd, fun a ha => by rw [same a (g.trk a ha)]; exact g.trk a ha, g.apart, fun n a c e1 e2 => ?_⟩
  exact (g.cell n a c e1 e2).mono (more_ev g k).toKp (same a (g.trk a (List.mem_append_left _ (List.mem_of_getElem? e1))))
theorem more_gd {k' : KK} (g : Gd k' w H) (k : ∀ b o, H b = some o → H' b = some o) : Gd k' w H' := g.step (more_ev g.toGd0 k) (more_gd0 g.toGd0 k)
theorem RpAll.snoc {ds : List D} {vs : List V} {d : D} {v : V} (h : RpAll K w H ds vs) (r : Rp K w H d v) : RpAll K w H (ds ++ [d]) (vs ++ [v]) := h.append ⟨v, [], rfl, r, rfl⟩
theorem RpAll.rev : ∀ {ds : List D} {vs : List V}, RpAll K w H ds vs → RpAll K w H ds.reverse vs.reverse
  | [], _, h => by rw [show _ = [] from h]; exact rfl
  | d :: ds, _, ⟨v, r, e, h1, h2⟩ => by
    subst e
    rw [List.reverse_cons, List.reverse_cons]
    exact RpAll.snoc (RpAll.rev h2) h1
end
/-- what stands in the dict of an exception whose __init__ stores its parameters ns and then its code -/
def fsX (code : Str) (ns : List Str) (vs : List V) : List (Str × V) := ("code", .str code) :: (ns.zip vs).reverse
def spX (C : Addr) (ns : List Str) (code : Str) : Sp := fun vs H Q _ => ∃ a args, vs = .ref a :: args ∧ args.length = ns.length ∧ H a = some (exo a C none) ∧ ∀ H' d, (∀ b o, H b = some o → b ≠ a → H' b = some o) → H d = none → H' a = some (exo a C (some d)) →
  H' d = some (exd d (fsX code ns args)) → Q .non H'
def dXn (C : Addr) (ns : List Str) (code : Str) : RAD := fun ds μ P => ds.length = ns.length ∧ ds.length ≤ 1000 ∧ P (.exc C ("code" :: ns.reverse) (.str code :: ds.reverse)) μ
theorem d_xn {C : Addr} {ns : List Str} {code : Str} {ds : List D} {μ : Mu} {P : KD} : dXn C ns code ds μ P = (ds.length = ns.length ∧ ds.length ≤ 1000 ∧ P (.exc C ("code" :: ns.reverse) (.str code :: ds.reverse)) μ) := id rfl
theorem xn_sp {K : KK} {w : Wo} {H : Hp} {C : Addr} {ns : List Str} {code : Str} {ds : List D} {vs : List V} {P : KD} {Q : VK} (g : Gd K w H) (r : RpAll K w H ds vs) (t : dXn C ns code ds w.mu P) (f : Fin K w H P Q) (a : Addr) (ha : H a = none) :
    spX C ns code (.ref a :: vs) (upd H a (exo a C none)) (fun v H2 => v = .non ∧ Q (.ref a) H2) E0 := by
  obtain ⟨hl, _, t⟩ := t
  have hv : vs.length = ns.length := by rw [r.length, hl]
  refine ⟨a, vs, rfl, hv, upd_same, fun H' d kp nd ea ed => ⟨rfl, ?_⟩⟩
  have nda : d ≠ a := fun z => by
    rw [z, upd_same] at nd
    cases nd
  rw [upd_ne nda] at nd
  have k : ∀ b o, H b = some o → H' b = some o := fun b o e => by
    have ne : b ≠ a := fun z => by rw [z, ha] at e; cases e
    exact kp b o (by rw [upd_ne ne]; exact e) ne
  refine f (.exc C ("code" :: ns.reverse) (.str code :: ds.reverse)) _ w H' (more_ev g.toGd0 k) (more_gd g k) ⟨a, some d, fsX code ns vs, rfl, g.dead ha, ea, ⟨g.dead nd, ed⟩, ?_, _, _, rfl, rfl, ?_⟩ t
  · unfold fsX
    rw [List.map_cons, List.map_reverse, List.map_fst_zip (by omega)]
  · have := RpAll.mono (more_ev g.toGd0 k).toKp _ _ r.rev
    rw [List.map_reverse, List.map_snd_zip (by omega)]
    exact this
/-- a class x of exceptions at C, whose __init__ stores its parameters ns and its code -/
structure XnI (P : Program) (wd : World) (K : PySem.W.Frag) (mg : Str → Option Value) (base : Heap) (x : Str) (C : Addr) (st : Stmt) (k : Nat) (ns : List Str) (code : Str) : Prop where
  ex : ∃ (f : Addr) (fd : FuncData) (qual B newId initId : String) (bmB : List Value), FnOk P wd K mg base CX0 k f fd ("self" :: ns) (spX C ns code) ∧ Fun K "__init__" qual st f fd ∧ PySem.W.findIn K (.ref C) "__init__" = some (some (.ref f)) ∧
    PySem.W.typeIn K (.ref f) = some (.type "function") ∧ ExC K C B newId initId bmB ∧ mg x = some (.ref C) ∧ Binds K fd ("self" :: ns) []
section
variable {Ex : KX} {Ee : XK} {Hz : Hp} {X : Cx} {e : Expr} {es : List Expr} {pos p : Pos} {t : ET} {sa : AT} {x : Str} {C : Addr} {st : Stmt} {k j : Nat} {ns : List Str} {code : Str}
theorem te_xn (G : XnI X.prog X.w X.K X.mg X.base x C st k ns code) (hr : Room j X.A) (hg : Gl X x) (ha : PA X (e :: es) (LA ⟨X.K, Ex, Ee, Hz⟩ sa)) (hk : k + 1 ≤ j := by first | decide | omega) (hdb : (x == ("__debug__" : Str)) = false := by decide)
    (he : starEach (e :: es) X.env = (false, eval e X.env) :: starEach es X.env := by rfl) (hpl : (backTo pos (starEach es X.env)).any (·.1) = false := by rfl) : PE X (.Call (.Name x p) (e :: es) [] pos) (LE ⟨X.K, Ex, Ee, Hz⟩ (eCall (dXn C ns code) sa)) := by
  obtain ⟨f, fd, qual, B, n1, n2, bm, F, _, iC, tI, T, hm, hb⟩ := G.ex
  exact te_of (pe_exn T iC tI F (hr.mono hk) hb pass0 hg hm ha hdb he hpl) fun σ H Q ⟨w, ρ, P, g, er, t, fn⟩ => ⟨w, ρ, _, g, er, t, fun ds vs w1 H1 e1 g1 r1 t1 => ⟨by rw [r1.length]; exact t1.2.1, xn_sp g1 r1 t1 (fn.mono e1)⟩⟩
/-! a field -/
def XfdC (K : PySem.W.Frag) (f : Str) (Cs : List Addr) : Prop := ∀ C, C ∈ Cs → XfC K C ∧ PySem.W.findIn K (.ref C) f = some none
def eXf (Cs : List Addr) (f : Str) (t : ET) : ET := fun ρ μ P => t ρ μ fun d μ1 => match d with
  | .exc C ns ds => C ∈ Cs ∧ match lookD f ns ds with
    | some y => P y μ1
    | none => False
  | _ => False
theorem te_xf {Cs : List Addr} {f : Str} (hc : XfdC X.K f Cs) (h : PE X e (LE ⟨X.K, Ex, Ee, Hz⟩ t)) (hb : attributeBase e f X.env (eval e X.env) = eval e X.env := by rfl) : PE X (.Attribute e f pos) (LE ⟨X.K, Ex, Ee, Hz⟩ (eXf Cs f t)) :=
  te_of (pe_xgt h hb) fun σ H Q ⟨w, ρ, P, g, er, t, fn⟩ => ⟨w, ρ, _, g, er, t, fun d v w1 H1 e1 g1 r1 t1 => by
    split at t1
    · rename_i C ns ds
      obtain ⟨hC, t1⟩ := t1
      split at t1
      · rename_i y hy
        obtain ⟨a, od, fs, h1, h2, h3, h4, h5, h6⟩ := r1
        subst h5
        obtain ⟨u, l, r⟩ := look_rp h6 hy
        cases od with
        | none =>
          rw [show fs = [] from h4] at l
          cases l
        | some d => exact ⟨a, C, d, fs, u, h1, (hc C hC).1, (hc C hC).2, h3, h4.2, l, (fn.mono e1).now g1 r t1⟩
      · exact t1.elim
    · exact t1.elim⟩
/-! isinstance -/
structure ExX (K : PySem.W.Frag) (C : Addr) : Prop where
  cl : (PySem.W.clsIn K C).isSome = true
  ga : PySem.W.findIn K (.ref C) "__getattribute__" = some (some (.builtin "BaseException.__getattribute__"))
  gg : PySem.W.findIn K (.ref C) "__getattr__" = some none
  ex : PySem.W.subIn K (.ref C) (.type "BaseException") = some true
  ca : PySem.W.findIn K (.ref C) "__class__" = some (some (.builtin "object.__class__"))
  ob : PySem.W.mroIn K C (.type "object") = some true
/-- what the built-in __class__ says of itself -/
structure ClD (K : PySem.W.Frag) : Prop where
  g : PySem.W.specialIn K (.builtin "object.__class__") "__get__" = some (some (.builtin "getset_descriptor.__get__"))
  t : PySem.W.takesIn K (.builtin "object.__class__") = some true
def rIsX (K : PySem.W.Frag) : List V → Hp → VK → Prop := fun xs H Q => ∃ (a C : Addr) (od : Option Addr) (c : V) (u : Value) (b : Bool), xs = [.ref a, c] ∧ ClsV c u ∧ H a = some (exo a C od) ∧ (∀ d, od = some d → ∃ fs, H d = some (exd d fs)) ∧ ExX K C ∧ ClD K ∧ PySem.W.kitOne K (.ref C) u = some b ∧ Q (.bl b) H
theorem call_isX : CallR X (.builtin "isinstance") (rIsX X.K) := by
  intro pins s σ H xs us Q I r h
  obtain ⟨a, C, od, c, u, b, rfl, kc, ea, ed, T, D, e, q⟩ := h
  obtain ⟨u1, u2, rfl, r1, r2⟩ := vals2 r
  have e2 := kc.eq r2
  subst e2
  cases (show u1 = Value.ref a from r1)
  obtain ⟨t1, ho⟩ := exo_at I.hok ea
  have J : ∃ oD, PySem.W.InstAt s.heap a { cls := .ref C, dict := od, data := .fields #[.ref t1, .none, .none, .none, .bool false, .none] } C oD := by
    cases od with
    | none => exact ⟨none, ho, rfl, rfl, trivial⟩
    | some d =>
      obtain ⟨fs, z⟩ := ed d rfl
      obtain ⟨mA, nsx, rel⟩ := exd_at I.hok z
      obtain ⟨oD, hD, _⟩ := lookIn_ns nsx
      exact ⟨some oD, ho, rfl, rfl, hD⟩
  obtain ⟨oD, J⟩ := J
  exact PySem.W.kia_one (PySem.W.kitx_exc T.cl T.ga T.gg T.ex T.ca D.g D.t T.ob) I.kIn J e (fun z => nomatch z) fun tk => ⟨.bl b, H, I.tok tk, rfl, q⟩
end
/-- isinstance of an exception, by a table -/
def dIsX (T : Addr → D → Option Bool) : RAD := fun ds μ P => match ds with
  | [.exc C _ _, c] => match T C c with
    | some b => P (.bl b) μ
    | none => False
  | _ => False
def clsD : D → Option Value
  | .ref a => some (.ref a)
  | .ty n => some (.type n)
  | _ => none
def IsXT (K : PySem.W.Frag) (T : Addr → D → Option Bool) : Prop := ClD K ∧ ∀ C c b, T C c = some b → ExX K C ∧ ∃ u, clsD c = some u ∧ PySem.W.kitOne K (.ref C) u = some b
theorem cls_rp {K : KK} {w : Wo} {H : Hp} {c : D} {v : V} {u : Value} (h : clsD c = some u) (r : Rp K w H c v) : ClsV v u := by
  unfold clsD at h
  split at h
  · cases h
    rw [show v = _ from r]
    exact .own _
  · cases h
    rw [show v = _ from r]
    exact .ty _
  · cases h
theorem cd_isX {K : KK} {T : Addr → D → Option Bool} (hT : IsXT K T) : CallD K (rIsX K) (dIsX T) := by
  intro w H vs ds P Q g r t f
  unfold dIsX at t
  split at t
  · obtain ⟨x, y, rfl, h1, h2⟩ := rpAll2 r
    split at t
    · rename_i b hb
      obtain ⟨tx, u, hu, hk⟩ := hT.2 _ _ _ hb
      obtain ⟨a, od, fs, e1, e2, e3, e4, e5, e6⟩ := h1
      subst e1
      refine ⟨a, _, od, y, u, b, rfl, cls_rp hu h2, e3, fun d z => ?_, tx, hT.1, hk, f.bl g t⟩
      subst z
      exact ⟨fs, e4.2⟩
    · exact t.elim
  · exact t.elim
end Tr
namespace Tr
open PySem PySem.Spec PyProof.Rows L2 RZ
section
variable {P : Program} {wd : World} {K : KK} {mg : Str → Option Value} {base : Heap} {C f : Addr} {fd : FuncData} {st : Stmt} {qual n m code : Str}
/-- a parameter may be read -/
structure NmOk (st : Stmt) (n : Str) : Prop where
  vis : Vis (defScope st) n
  d1 : (n == ("__debug__" : Str)) = false
  d2 : (n == ("__classdict__" : Str)) = false
theorem ok_init0 {p5 p6 p7 p8 : Pos} {k : Nat} (S : FnScope ["self"] ["self"] (defScope st)) (v0 : NmOk st "self") (hb : defBody st = [.Assign [.Attribute (.Name "self" p5) "code" p6] (.Constant (.str code) k p7) p8])
    (F : Fun K "__init__" qual st f fd) (T : XC K C) (h2 : PySem.W.findIn K (.ref C) "code" = some none) : FnOk P wd K mg base CX0 1 f fd ["self"] (spX C [] code) := by
  refine F.ok S (fun vs H Q E h => ?_) (fun cdv A outer s H vs Q E hr h => ?_)
  · obtain ⟨a, args, rfl, l, _⟩ := h
    simp [l]
  · obtain ⟨a, args, rfl, l, ea, kk⟩ := h
    match args, l with
    | [], _ =>
      rw [hb]
      refine ⟨_, pss_one (ps_xst (pv 0 rfl v0.vis) pe_str), ?_⟩
      refine ⟨_, rfl, a, C, rfl, T, h2, .inl ⟨ea, fun d nd ne => ?_⟩⟩
      exact kk _ d (fun b o e nb => by rw [upd_ne nb, upd_ne (ne_of_none e nd)]; exact e) nd upd_same (by rw [upd_ne ne, upd_same]; rfl)
theorem ok_init1 {p1 p2 p3 p4 p5 p6 p7 p8 : Pos} {k : Nat} (S : FnScope ["self", n] ["self", n] (defScope st)) (v0 : NmOk st "self") (v1 : NmOk st n) (hb : defBody st = [.Assign [.Attribute (.Name "self" p1) n p2] (.Name n p3) p4, .Assign [.Attribute (.Name "self" p5) "code" p6] (.Constant (.str code) k p7) p8])
    (F : Fun K "__init__" qual st f fd) (T : XC K C) (h1 : PySem.W.findIn K (.ref C) n = some none) (h2 : PySem.W.findIn K (.ref C) "code" = some none) : FnOk P wd K mg base CX0 1 f fd ["self", n] (spX C [n] code) := by
  refine F.ok S (fun vs H Q E h => ?_) (fun cdv A outer s H vs Q E hr h => ?_)
  · obtain ⟨a, args, rfl, l, _⟩ := h
    simp [l]
  · obtain ⟨a, args, rfl, l, ea, kk⟩ := h
    match args, l with
    | [v], _ =>
      rw [hb]
      refine ⟨_, pss_cons (ps_xst (pv 0 rfl v0.vis) (pv 1 rfl v1.vis v1.d1 v1.d2)) (pss_one (ps_xst (pv 0 rfl v0.vis) pe_str)), ?_⟩
      refine ⟨_, rfl, _, rfl, a, C, rfl, T, h1, .inl ⟨ea, fun d nd ne => ?_⟩⟩
      have had : a ≠ d := Ne.symm ne
      refine ⟨_, rfl, a, C, rfl, T, h2, .inr ⟨d, _, upd_same, by rw [upd_ne ne, upd_same], by simp, ?_⟩⟩
      exact kk _ d (fun b o e nb => by rw [upd_ne (ne_of_none e nd), upd_ne nb, upd_ne (ne_of_none e nd)]; exact e) nd (by rw [upd_ne had, upd_same]) (by rw [upd_same]; rfl)
theorem ok_init2 {p1 p2 p3 p4 q1 q2 q3 q4 p5 p6 p7 p8 : Pos} {k : Nat} (S : FnScope ["self", n, m] ["self", n, m] (defScope st)) (v0 : NmOk st "self") (v1 : NmOk st n) (v2 : NmOk st m)
    (hb : defBody st = [.Assign [.Attribute (.Name "self" p1) n p2] (.Name n p3) p4, .Assign [.Attribute (.Name "self" q1) m q2] (.Name m q3) q4, .Assign [.Attribute (.Name "self" p5) "code" p6] (.Constant (.str code) k p7) p8])
    (F : Fun K "__init__" qual st f fd) (T : XC K C) (h1 : PySem.W.findIn K (.ref C) n = some none) (h3 : PySem.W.findIn K (.ref C) m = some none) (h2 : PySem.W.findIn K (.ref C) "code" = some none) : FnOk P wd K mg base CX0 1 f fd ["self", n, m] (spX C [n, m] code) := by
  refine F.ok S (fun vs H Q E h => ?_) (fun cdv A outer s H vs Q E hr h => ?_)
  · obtain ⟨a, args, rfl, l, _⟩ := h
    simp [l]
  · obtain ⟨a, args, rfl, l, ea, kk⟩ := h
    match args, l with
    | [v, u], _ =>
      rw [hb]
      refine ⟨_, pss_cons (ps_xst (pv 0 rfl v0.vis) (pv 1 rfl v1.vis v1.d1 v1.d2)) (pss_cons (ps_xst (pv 0 rfl v0.vis) (pv 2 rfl v2.vis v2.d1 v2.d2)) (pss_one (ps_xst (pv 0 rfl v0.vis) pe_str))), ?_⟩
      refine ⟨_, rfl, _, rfl, a, C, rfl, T, h1, .inl ⟨ea, fun d nd ne => ?_⟩⟩
      have had : a ≠ d := Ne.symm ne
      refine ⟨_, rfl, _, rfl, a, C, rfl, T, h3, .inr ⟨d, _, upd_same, by rw [upd_ne ne, upd_same], by simp, ?_⟩⟩
      refine ⟨_, rfl, a, C, rfl, T, h2, .inr ⟨d, _, by rw [upd_ne had, upd_same], upd_same, by simp, ?_⟩⟩
      exact kk _ d (fun b o e nb => by rw [upd_ne (ne_of_none e nd), upd_ne (ne_of_none e nd), upd_ne nb, upd_ne (ne_of_none e nd)]; exact e) nd (by rw [upd_ne had, upd_ne had, upd_same]) (by rw [upd_same]; rfl)
end
end Tr
set_option Elab.async false
set_option linter.all false
set_option maxRecDepth 100000
set_option maxHeartbeats 2000000
namespace Tr
open PySem PySem.Spec PyProof.Rows L2 RZ
section
variable {Ex : KX} {Ee : XK} {Hz : Hp} {X : Cx} {pins : List (Addr × Obj)} {σ : L2.St} {H : Hp} {s : Shared} {C : Addr} {B newId initId : String} {bmB : List Value}
/-- C(k = v, ..), all by keywords -/
theorem run_excK {fI : Addr} {k : Nat} {fd : FuncData} {ps : List Str} {sp : Sp} {kw : List (Str × Value)} {vs : List V} {us : List Value} {Q : VK} (T : ExC X.K C B newId initId bmB) (iC : PySem.W.findIn X.K (.ref C) "__init__" = some (some (.ref fI)))
    (tI : PySem.W.typeIn X.K (.ref fI) = some (.type "function")) (G : FnOk X.prog X.w X.K X.mg X.base CX0 k fI fd ps sp) (hr : Room (k + 1) X.A) (I : Inv X pins σ H s) (r : Vals vs us) (hb : ∀ (s' : Shared) (p : Addr), BindsTo s' fd ⟨[.ref p], kw⟩ (ps.zip (.ref p :: us)))
    (h : ∀ a, H a = none → sp (.ref a :: vs) (upd H a (exo a C none)) (fun v H2 => v = .non ∧ Q (.ref a) H2) E0) : wpAny (model X.prog X.w) X.A (call (.ref C) [] kw) (EP X pins σ Q) X.xe s := by
  obtain ⟨nm, N, qn, bs, bm, hdct, sn, sub, ab, col, dd, k0, k1, k2, k3, k5, hC, hT⟩ := PySem.W.excInit_of I.kIn T.ini
  rcases s with ⟨hp, g, dr, tk, os⟩
  let p : Addr := hp.objs.size + 1
  let hp2 : Heap := (hp.push (PySem.W.kdv_tup [])).push (PySem.HandSPX.excO C hp.objs.size)
  have up : ∀ b o, hp.get? b = some o → hp2.get? b = some o := fun b o e => Heap.get?_push_of_some _ (Heap.get?_push_of_some _ e)
  have new : hp.objs.size ≤ p := Nat.le_succ _
  have at_ : hp2.get? p = some (PySem.HandSPX.excO C hp.objs.size) := by
    show ((hp.push (PySem.W.kdv_tup [])).push (PySem.HandSPX.excO C hp.objs.size)).get? (hp.objs.size + 1) = _
    heap_get
  have none_ : H p = none := I.hok.fresh new
  have J : Inv X pins σ (upd H p (exo p C none)) ⟨hp2, g, dr, tk, os⟩ := I.laid (t' := tk) (a := p) (o := exo p C none) (h' := hp2) up new (exo_ok at_)
  have now := h p none_
  have vals : Vals (V.ref p :: vs) (Value.ref p :: us) := .cons rfl r
  have ran := G.run _ X.stack _ _ ⟨[Value.ref p], kw⟩ (Value.ref p :: us) _ _ E0 (hr.make C [] kw) (J.env0.make C [] kw) (hb _ p) vals now
  refine wpAny_call (kw_call T.F hT hC (PySem.W.looks_findIn I.kIn iC) (fun self => PySem.W.bind_fn I.kIn self tI) (by rw [sizeLine_eq]; decide) (codeAny_mono ran fun res s' q => ?_))
  cases res with
  | error er => exact q.elim
  | ok fl =>
    cases fl with
    | ret u =>
      obtain ⟨v, H2, J2, rv, ev, q2⟩ := J.after q
      subst ev
      exact ⟨rv, .ref p, H2, J2, rfl, q2⟩
    | _ => exact q.elim
/-- C() -/
theorem pe_exn0 {x : Str} {fI : Addr} {k : Nat} {fd : FuncData} {ps : List Str} {sp : Sp} {p pos : Pos} (T : ExC X.K C B newId initId bmB) (iC : PySem.W.findIn X.K (.ref C) "__init__" = some (some (.ref fI)))
    (tI : PySem.W.typeIn X.K (.ref fI) = some (.type "function")) (G : FnOk X.prog X.w X.K X.mg X.base CX0 k fI fd ps sp) (hr : Room (k + 1) X.A) (hb : Binds X.K fd ps []) (hg : Gl X x) (hm : X.mg x = some (.ref C))
    (hdb : (x == ("__debug__" : Str)) = false := by decide) : PE X (.Call (.Name x p) [] [] pos) (tExn C sp tNil) := by
  constructor
  intro pins s σ H Q I h
  refine wpAny_Call_Name_kw (ld_glob I hg hm ?_ hdb)
  exact PySem.W.callWith_K0 I.kIn T.kC (run_exc (us := []) T iC tI G hr hb pass0 I .nil h.1 h.2)
variable {x : Str} {st : Stmt} {k j : Nat} {ns : List Str} {code : Str} {p pos : Pos}
theorem te_xn0 (G : XnI X.prog X.w X.K X.mg X.base x C st k ns code) (hr : Room j X.A) (hg : Gl X x) (hk : k + 1 ≤ j := by first | decide | omega) (hdb : (x == ("__debug__" : Str)) = false := by decide) :
    PE X (.Call (.Name x p) [] [] pos) (LE ⟨X.K, Ex, Ee, Hz⟩ (eCall (dXn C ns code) aNil)) := by
  obtain ⟨f, fd, qual, B, n1, n2, bm, F, _, iC, tI, T, hm, hb⟩ := G.ex
  exact te_of (pe_exn0 T iC tI F (hr.mono hk) hb hg hm hdb) fun σ H Q ⟨w, ρ, P, g, er, t, fn⟩ => ⟨by show (0 : Nat) ≤ 1000; decide, xn_sp (ds := []) (vs := []) g (show RpAll X.K w H [] [] from rfl) t fn⟩
/-- C(k = v, ..), names ks as they are written; pm: which of them stands at each parameter -/
theorem te_xnK {sa : AT} {kws : List Keyword} {ks : List Str} (pm : List Nat) (G : XnI X.prog X.w X.K X.mg X.base x C st k ns code) (hr : Room j X.A) (hg : Gl X x) (hkw : PK X kws (LA ⟨X.K, Ex, Ee, Hz⟩ sa))
    (hbn : ∀ (qual : Str) (kV doc pmm : Value) (an : Option Addr) (cdv ct self : Value) (ws : List Value), ws.length = ks.length → bindArgs (PySem.W.fnOf "__init__" qual (defArgs st) (defBody st) (defScope st) .none kV doc pmm an cdv ct) ⟨[self], ks.zip ws⟩ = pure ((("self" : Str) :: ns).zip (self :: pm.map fun i => ws.getD i .none)))
    (hpm : ∀ i, i ∈ pm → i < ks.length := by decide) (hk : k + 1 ≤ j := by first | decide | omega) (hall : (backToKw pos (keywordEach kws X.env)).all (·.1.isSome) = true := by rfl) (hks : (backToKw pos (keywordEach kws X.env)).filterMap (·.1) = ks := by rfl)
    (hdb : (x == ("__debug__" : Str)) = false := by decide) (hpl : ((backTo pos (starEach [] X.env)).any (·.1) || (backToKw pos (keywordEach kws X.env)).any (·.1.isNone)) = false := by rfl) :
    PE X (.Call (.Name x p) [] kws pos) (LE ⟨X.K, Ex, Ee, Hz⟩ (eCallP (dXn C ns code) pm ks.length sa)) := by
  obtain ⟨f, fd, qual, B, n1, n2, bm, F, U, iC, tI, T, hm, hb⟩ := G.ex
  refine ⟨fun pins s σ H Q I ⟨w, ρ, P, g, er, t, f'⟩ => ?_⟩
  refine wpAny_Call_Name_kw (ld_glob I hg hm ?_ hdb)
  refine PySem.W.callWith_KW0 (h₀ := X.base) I.ok.mod.kin T.kC hall ?_ hpl
  refine thn (hkw.run pos pins s σ H (fun vs H1 => ∃ w1 ds, Gd ⟨X.K, Ex, Ee, Hz⟩ w1 H1 ∧ RpAll X.K w1 H1 ds vs ∧ ds.length = ks.length ∧ dXn C ns code (pick pm ds) w1.mu P ∧ Fin ⟨X.K, Ex, Ee, Hz⟩ w1 H1 P Q) I ⟨w, ρ, _, g, er, t, fun ds vs w1 H1 e1 g1 r1 ⟨hl, t1⟩ => ⟨w1, ds, g1, r1, hl, t1, f'.mono e1⟩⟩) ?_
  rintro ws s2 ⟨zs, H2, I2, rz, w1, ds, g1, r1, hl, t1, f1⟩
  refine ⟨I2.kIn, ?_⟩
  rw [hks]
  have hz : ws.length = ks.length := by rw [← rz.length, r1.length, hl]
  have r3 := pick_rel r1 (pm := pm) (fun i hi => by rw [hl]; exact hpm i hi)
  obtain ⟨oc, od, kV, doc, pmv, an, cdv, ct, osl, rfl, lk, hcd⟩ := U.ex
  exact run_excK T iC tI F (hr.mono hk) I2 (vals_pick rz (pm := pm)) (fun s' q => .of_eq (hbn qual kV doc pmv an cdv ct _ ws hz)) (xn_sp g1 r3 t1 f1)
/-! C(), a class of exceptions without an __init__ of its own -/
theorem te_xb0 {B newId initId : String} {bmB : List Value} (F : ExcBaseFacts B newId initId bmB) (q : PySem.W.excIn X.K C bmB newId = true) (gC : X.mg x = some (.ref C)) (kC : PySem.W.keepIn X.K (.ref C) = true) (hg : Gl X x) (hdb : (x == ("__debug__" : Str)) = false := by decide) :
    PE X (.Call (.Name x p) [] [] pos) (LE ⟨X.K, Ex, Ee, Hz⟩ (eC (.exc C [] []))) := by
  constructor
  intro pins s σ H Q I ⟨w, ρ, P, g, er, t, fn⟩
  refine wpAny_Call_Name_kw (ld_glob I hg gC ?_ hdb)
  refine PySem.W.callWith_K0 I.kIn kC ?_
  obtain ⟨bm, N, nm, qn, bs, hdct, sn, sub, ab, col, dd, k0, k1, k2, k3, k5, mN, hC, hN, hni, T⟩ := exc_obj I.kIn q
  refine wpAny_call_exc_subT F T hC hN hni (fun h' a hm => ?_) (by rw [sizeLine_eq]; decide)
  have hn : H a = none := I.hok.gone hm.new
  obtain ⟨t0, ht, _, _⟩ := hm.there
  refine ⟨.ref a, upd H a (exo a C none), I.laidN hm.keeps hm.new hn (exo_ok ht), rfl, ?_⟩
  exact fn (.exc C [] []) _ w _ (Ev.new g.toGd0 hn) (g.new hn) ⟨a, none, [], rfl, g.dead hn, upd_same, rfl, rfl, rfl⟩ t
end
/-! a list times a number -/
def dRep : R2D := fun x y μ P => match x, y with
  | .lst xs, .int k => 0 ≤ k ∧ k < 1000 ∧ xs.length * k.toNat ≤ 1000 ∧ P (.lst (List.replicate k.toNat xs).flatten) μ
  | _, _ => False
theorem RpAll.rep {K : KK} {w : Wo} {H : Hp} {ds : List D} {vs : List V} (r : RpAll K w H ds vs) : ∀ n : Nat, RpAll K w H (List.replicate n ds).flatten (List.replicate n vs).flatten
  | 0 => rfl
  | n + 1 => by
    rw [List.replicate_succ, List.replicate_succ, List.flatten_cons, List.flatten_cons]
    exact r.append (RpAll.rep r n)
theorem od_rep {K : KK} : OpD K rRep dRep := by
  intro w H x y dx dy P Q g rx ry t f
  unfold dRep at t
  split at t
  · obtain ⟨a, vs, e1, h1, r1⟩ := rx
    obtain ⟨t1, t2, t3, t4⟩ := t
    exact ⟨a, _, vs, e1, ry, h1.2, by omega, by omega, by rw [r1.length, sizeLine_eq]; omega, fun p hp => f.lst g hp (r1.rep _) t4⟩
  · exact t.elim
/-! classes by number -/
def cA (cs : List Addr) (i : Nat) : Addr := cs.getD i 0
def cAs (cs : List Addr) (l : List Nat) : List Addr := l.map (cA cs)
end Tr
set_option Elab.async false
set_option linter.all false
set_option maxRecDepth 100000
namespace Tr
open PySem PySem.Spec PyProof.Rows L2 RZ
/-! ### defs that raise -/
abbrev RAX := List D → Mu → KD → KX → Prop
def noX : KX := fun _ _ _ _ => False
def SpX (K : PySem.W.Frag) (sp : RAX) : Sp := fun vs H Q E => ∃ Ex Hz w ds P, Gd ⟨K, Ex, E, Hz⟩ w H ∧ RpAll K w H ds vs ∧ sp ds w.mu P Ex ∧ Fin ⟨K, Ex, E, Hz⟩ w H P Q
abbrev FnX (P : Program) (wd : World) (K : PySem.W.Frag) (mg : Str → Option Value) (base : Heap) (k : Nat) (f : Addr) (fd : FuncData) (ps : List Str) (sp : RAX) : Prop := FnOk P wd K mg base (L2N.CX P wd) k f fd ps (SpX K sp)
theorem Fin.swap {K : PySem.W.Frag} {Ex Ex' : KX} {E E' : XK} {H0 H0' : Hp} {w : Wo} {H : Hp} {P : KD} {Q : VK} (f : Fin ⟨K, Ex, E, H0⟩ w H P Q) (g : Gd ⟨K, Ex, E, H0⟩ w H) : Fin ⟨K, Ex', E', H0'⟩ w H P Q := fun d v w' H' e g' r p =>
  f d v w' H' e (g.step e g'.toGd0) r p
/-- what a def may let out is let out nowhere -/
def noR (sp : RAX) : RAD := fun ds μ P => sp ds μ P noX
theorem FnX.toD {P : Program} {wd : World} {K : PySem.W.Frag} {mg : Str → Option Value} {base : Heap} {k : Nat} {f : Addr} {fd : FuncData} {ps : List Str} {sp : RAX} (F : FnX P wd K mg base k f fd ps sp) : FnD P wd K mg base k f fd ps (noR sp) := by
  have to : ∀ vs H Q E, SpOf K (noR sp) vs H Q E → SpX K sp vs H Q (fun _ _ _ => False) := fun vs H Q E ⟨Ex, Ee, Hz, w, ds, Pd, g, r, q, fn⟩ =>
    ⟨noX, H, w, ds, Pd, ⟨g.toGd0, fun _ _ _ _ _ _ _ _ _ z => z.elim, fun _ h => h⟩, r, q, fn.swap g⟩
  refine ⟨fun vs H Q E h => F.len _ _ _ _ (to vs H Q E h), fun A outer s H args us vs Q E hr he hb hv h => ?_⟩
  refine codeAny_mono (F.run A outer s H args us vs Q _ hr he hb hv (to vs H Q E h)) fun r s' hq => ?_
  cases r with
  | error e =>
    obtain ⟨_, _, _, _, _, _, _, _, _, _, _, _, z⟩ := hq
    exact z.elim
  | ok fl => cases fl <;> exact hq
/-- a raising def of the text that stands under its name -/
structure FxI (P : Program) (wd : World) (K : PySem.W.Frag) (mg : Str → Option Value) (base : Heap) (x : Str) (st : Stmt) (k : Nat) (ps : List Str) (sp : RAX) : Prop where
  ex : ∃ (f : Addr) (fd : FuncData), FnX P wd K mg base k f fd ps sp ∧ mg x = some (.ref f) ∧ Fun K x x st f fd ∧ Binds K fd ps []
theorem FxI.toI {P : Program} {wd : World} {K : PySem.W.Frag} {mg : Str → Option Value} {base : Heap} {x : Str} {st : Stmt} {k : Nat} {ps : List Str} {sp : RAX} (F : FxI P wd K mg base x st k ps sp) : FnI P wd K mg base x st k ps (noR sp) := by
  obtain ⟨f, fd, a, b, c, d⟩ := F.ex
  exact ⟨f, fd, a.toD, b, c, d⟩
/-- where this body's exceptions go -/
abbrev Tk (X : Cx) (Ee : XK) : Prop := L2N.Takes X fun cls d _ H => Ee cls d H
theorem tk_cx {P : Program} {wd : World} {K : PySem.W.Frag} {mg : Str → Option Value} {base : Heap} {N : List Str} {qual : Str} {scope : Scope} {f : Addr} {cd : Value} {A : Around} {outer : List PySem.Env} {s : Shared} {H : Hp} {E : XK} :
    Tk (cxOf (L2N.CX P wd) P wd K mg base N qual scope f cd A outer s H E) E := L2N.takes_of rfl rfl rfl rfl
section
variable {Ex : KX} {Ee : XK} {Hz : Hp} {X : Cx} {e : Expr} {es : List Expr} {pos p rpos : Pos} {sa : AT} {x : Str} {st : Stmt} {k j : Nat} {ps ns : List Str} {sp : RAX} {C : Addr} {code : Str}
def eCallX (sp : RAX) (Ex : KX) (s : AT) : ET := fun ρ μ P => s ρ μ fun ds μ1 => sp ds μ1 P Ex
theorem te_fx (F : FxI X.prog X.w X.K X.mg X.base x st k ps sp) (tk : Tk X Ee) (hr : Room j X.A) (hg : Gl X x) (ha : PA X (e :: es) (LA ⟨X.K, Ex, Ee, Hz⟩ sa)) (hk : k ≤ j := by first | decide | omega) (hdb : (x == ("__debug__" : Str)) = false := by decide)
    (he : starEach (e :: es) X.env = (false, eval e X.env) :: starEach es X.env := by rfl) (hpl : (backTo pos (starEach es X.env)).any (·.1) = false := by rfl) : PE X (.Call (.Name x p) (e :: es) [] pos) (LE ⟨X.K, Ex, Ee, Hz⟩ (eCallX sp Ex sa)) := by
  obtain ⟨f, fd, a, b, c, d⟩ := F.ex
  exact te_of (pe_call a (hr.mono hk) hg b c.kp d .nil (E := Ee) (fun pins σ H s e s' I q => L2N.passes_call tk (fun _ _ _ _ h => h) pins σ H s e s' I q) ha hdb he hpl) fun σ H Q ⟨w, ρ, P, g, er, t, fn⟩ => ⟨w, ρ, _, g, er, t, fun ds vs w1 H1 e1 g1 r1 t1 => by
    show SpX X.K sp (vs ++ []) H1 Q Ee
    rw [List.append_nil]
    exact ⟨Ex, Hz, w1, ds, P, g1, r1, t1, fn.mono e1⟩⟩
/-- raise C(..) -/
def sRaise (Ex : KX) (C : Addr) (ns : List Str) (code : Str) (s : AT) : ST := fun _ ρ μ => s ρ μ fun ds μ1 => ds.length = ns.length ∧ ds.length ≤ 1000 ∧ Ex C ("code" :: ns.reverse) (.str code :: ds.reverse) μ1
/-- an exception that has just been made is let out -/
theorem raise_fx {w : Wo} {H : Hp} {ds : List D} {vs : List V} (g : Gd ⟨X.K, Ex, Ee, X.H_0⟩ w H) (r : RpAll X.K w H ds vs) (T : ∃ B n1 n2 bm, ExC X.K C B n1 n2 bm) (hl : ds.length = ns.length) (t : Ex C ("code" :: ns.reverse) (.str code :: ds.reverse) w.mu) (a : Addr) (ha : H a = none) :
    spX C ns code (.ref a :: vs) (upd H a (exo a C none)) (fun v H2 => v = .non ∧ ∃ (b C' : Addr) (d : Option Addr), V.ref a = .ref b ∧ H2 b = some (exo b C' d) ∧ Fr0 X.H_0 b ∧ L2.Raises X (.ref C') ∧ Ee (.ref C') d (delH H2 b)) E0 := by
  obtain ⟨B, n1, n2, bm, T⟩ := T
  have hv : vs.length = ns.length := by rw [r.length, hl]
  refine ⟨a, vs, rfl, hv, upd_same, fun H' d kp nd ea ed => ⟨rfl, a, C, some d, rfl, ea, fr0_none ?_, raises_own T.exC T.tyC, ?_⟩⟩
  · cases q : X.H_0 a with
    | none => rfl
    | some o => exact absurd ha (g.fr a (by show X.H_0 a ≠ none; rw [q]; exact fun z => nomatch z))
  · have nda : d ≠ a := fun z => by
      rw [z, upd_same] at nd
      cases nd
    rw [upd_ne nda] at nd
    have kk : ∀ b o, H b = some o → delH H' a b = some o := fun b o e => by
      have ne : b ≠ a := fun z => by rw [z, ha] at e; cases e
      rw [delH_ne ne]
      exact kp b o (by rw [upd_ne ne]; exact e) ne
    have ev := more_ev g.toGd0 kk
    refine g.fx C ("code" :: ns.reverse) (.str code :: ds.reverse) (some d) w (delH H' a) ev (more_gd0 g.toGd0 kk) ⟨fsX code ns vs, ⟨g.dead nd, by rw [delH_ne nda]; exact ed⟩, ?_, ⟨_, _, rfl, rfl, ?_⟩⟩ t
    · unfold fsX
      rw [List.map_cons, List.map_reverse, List.map_fst_zip (by omega)]
    · have := RpAll.mono ev.toKp _ _ r.rev
      rw [List.map_reverse, List.map_snd_zip (by omega)]
      exact this
theorem ss_raise (G : XnI X.prog X.w X.K X.mg X.base x C st k ns code) (tk : Tk X Ee) (hr : Room j X.A) (hg : Gl X x) (ha : PA X (e :: es) (LA ⟨X.K, Ex, Ee, X.H_0⟩ sa)) (hc : X.calm = true := by rfl) (hx : X.ex = [] := by rfl) (hk : k + 1 ≤ j := by first | decide | omega) (hdb : (x == ("__debug__" : Str)) = false := by decide)
    (he : starEach (e :: es) X.env = (false, eval e X.env) :: starEach es X.env := by rfl) (hpl : (backTo pos (starEach es X.env)).any (·.1) = false := by rfl) :
    PS X (.Raise (some (.Call (.Name x p) (e :: es) [] pos)) none rpos) (LS ⟨X.K, Ex, Ee, X.H_0⟩ (sRaise Ex C ns code sa)) := by
  obtain ⟨f, fd, qual, B, n1, n2, bm, F, U, iC, tI, T, hm, hb⟩ := G.ex
  refine ⟨fun pins s σ H D I q => (L2N.ps_raise hc tk (pmk_exo hx (pe_exn T iC tI F (hr.mono hk) hb pass0 hg hm ha hdb he hpl))).run pins s σ H D I ?_⟩
  obtain ⟨w, ρ, DD, g, er, t, fn⟩ := q
  exact ⟨w, ρ, _, g, er, t, fun ds vs w1 H1 e1 g1 r1 ⟨hl, hz, tx⟩ => ⟨by rw [r1.length]; exact hz, fun a ha => raise_fx g1 r1 ⟨B, n1, n2, bm, T⟩ hl tx a ha⟩⟩
theorem ss_raise0 (G : XnI X.prog X.w X.K X.mg X.base x C st k [] code) (tk : Tk X Ee) (hr : Room j X.A) (hg : Gl X x) (hc : X.calm = true := by rfl) (hx : X.ex = [] := by rfl) (hk : k + 1 ≤ j := by first | decide | omega) (hdb : (x == ("__debug__" : Str)) = false := by decide) :
    PS X (.Raise (some (.Call (.Name x p) [] [] pos)) none rpos) (LS ⟨X.K, Ex, Ee, X.H_0⟩ (sRaise Ex C [] code aNil)) := by
  obtain ⟨f, fd, qual, B, n1, n2, bm, F, U, iC, tI, T, hm, hb⟩ := G.ex
  refine ⟨fun pins s σ H D I q => (L2N.ps_raise hc tk (pmk_exo hx (pe_exn0 T iC tI F (hr.mono hk) hb hg hm hdb))).run pins s σ H D I ?_⟩
  obtain ⟨w, ρ, DD, g, er, ⟨hl, hz, tx⟩, fn⟩ := q
  exact ⟨by show (0 : Nat) ≤ 1000; decide, fun a ha => raise_fx (ds := []) (vs := []) g (show RpAll X.K w H [] [] from rfl) ⟨B, n1, n2, bm, T⟩ hl tx a ha⟩
/-- what is never run -/
def sNo : ST := fun _ _ _ => False
def eNo : ET := fun _ _ _ => False
def bNo : BT := fun _ _ _ => False
theorem ss_no {s : Stmt} : PS X s (LS ⟨X.K, Ex, Ee, Hz⟩ sNo) := ⟨fun _ _ _ _ _ _ ⟨_, _, _, _, _, t, _⟩ => t.elim⟩
theorem sss_no {s : List Stmt} : PSs X s (LS ⟨X.K, Ex, Ee, Hz⟩ sNo) := ⟨fun _ _ _ _ _ _ ⟨_, _, _, _, _, t, _⟩ => t.elim⟩
theorem te_no : PE X e (LE ⟨X.K, Ex, Ee, Hz⟩ eNo) := ⟨fun _ _ _ _ _ _ ⟨_, _, _, _, _, t, _⟩ => t.elim⟩
theorem tb_no : PT X e (LB ⟨X.K, Ex, Ee, Hz⟩ bNo) := ⟨fun _ _ _ _ _ _ ⟨_, _, _, _, _, t, _⟩ => t.elim⟩
end
/-- a raising def by its body -/
theorem fx_ok {P : Program} {wd : World} {K : PySem.W.Frag} {mg : Str → Option Value} {base : Heap} {x qual : Str} {st : Stmt} {f : Addr} {fd : FuncData} {N ps : List Str} {k : Nat} {sp : RAX} {t : KX → ST} (F : Fun K x qual st f fd) (S : FnScope N ps (defScope st))
    (hb : ∀ (Ex : KX) (cdv : Value) (A : Around) (outer : List PySem.Env) (s : Shared) (H : Hp) (E : XK), Room k (A.deeper (envOfC qual (defScope st) s.heap.objs.size f cdv)) →
      PSs (cxOf (L2N.CX P wd) P wd K mg base N qual (defScope st) f cdv A outer s H E) (defBody st) (LS ⟨K, Ex, E, H⟩ (t Ex)))
    (len : ∀ ds μ Pd Ex, sp ds μ Pd Ex → ds.length = ps.length) (hs : ∀ ds μ Pd Ex, sp ds μ Pd Ex → t Ex { nx := fun _ μ' => Pd .non μ', rt := Pd } (startD N ds) μ) : FnX P wd K mg base (k + 1) f fd ps sp := by
  obtain ⟨oc, od, kV, doc, pm, an, cdv, ct, osl, rfl, lk, hcd⟩ := F.ex
  refine fn_of lk hcd S (fun vs H Q E h => ?_) fun A outer s H vs Q E hr h => ?_
  · obtain ⟨Ex, Hz, w, ds, Pd, g, r, q, f⟩ := h
    rw [r.length]
    exact len ds _ Pd Ex q
  · obtain ⟨Ex, Hz, w, ds, Pd, g, r, q, fn⟩ := h
    have g1 : Gd ⟨K, Ex, E, H⟩ w H := ⟨g.toGd0, g.fx, fun _ h => h⟩
    have fn1 : Fin ⟨K, Ex, E, H⟩ w H Pd Q := fn.swap g
    refine ⟨_, hb Ex cdv A outer s H E hr, w, startD N ds, _, g1, envR_start r, hs ds _ Pd Ex q, ?_⟩
    exact ⟨fun ρ' σ' w' H' e g' er' p => fn1 .non .non w' H' e g' rfl p, fn1, fun _ _ _ _ _ _ _ p => p.elim, fun _ _ _ _ _ _ _ p => p.elim⟩
end Tr
set_option Elab.async false
set_option linter.all false
set_option maxRecDepth 100000
set_option maxHeartbeats 2000000
namespace Tr
open PySem PySem.Spec PyProof.Rows L2 RZ LamX
/-! ### a lambda is made: its table grows, all else stands -/
section
variable {X : Cx} {pins : List (Addr × Obj)} {σ : L2.St} {H : Hp} {s : Shared}
abbrev lamQ (X : Cx) : Str := X.env.qual ++ "<lambda>"
abbrev lamObj (X : Cx) (params : Arguments) (body : Expr) (scope : Scope) (pm : Value) (c' : Addr) (ctv : Value) : Obj := PySem.W.kla_obj "<lambda>" (lamQ X) params body scope (cloFrom X.env.cells scope.names []) pm c' ctv
/-- what stands behind the making: the new function at f, its code at c' -/
structure Lam (X : Cx) (H : Hp) (P : Addr) (params : Arguments) (body : Expr) (scope : Scope) (f c' : Addr) (H1 : Hp) (s1 : Shared) : Prop where
  ob : ∃ pm ctv, s1.heap.get? f = some (lamObj X params body scope pm c' ctv)
  nf : H1 f = none
  fr : f ∉ frs X.stack
  co : H1 c' = some (CodeO c' (lamQ X))
  st : ∀ b o, b ≠ P → H b = some o → H1 b = some o
  tb : ∃ ps ps' : Array Value, H P = some (.tbl ps) ∧ H1 P = some (.tbl ps') ∧ TriplesOk ps'.toList ∧ ∀ at_ cv, codeAmong at_ ps'.toList = some cv → codeAmong at_ ps.toList = some cv ∨ (cv = .ref c' ∧ H c' = none)
theorem lam_out (I : Inv X pins σ H s) {f : Addr} (hf : s.heap.objs.size ≤ f) : f ∉ frs X.stack := fun z => by
  rcases List.mem_cons.mp (I.stkSub f z) with rfl | z
  · exact absurd (Nat.lt_of_lt_of_le I.lt hf) (Nat.lt_irrefl _)
  · exact I.nofs hf z
theorem lam_mk {c P : Addr} {params : Arguments} {body : Expr} {scope : Scope} {pos : Pos} {E Q : Value → Shared → Prop} {ps : Array Value} (I : Inv X pins σ H s) (B : TabB X.base X.mg c P) (hcode : X.env.code = .ref c) (hP : H P = some (.tbl ps)) (ht : TriplesOk ps.toList)
    (ha : ∀ at_ cv, codeAmong at_ ps.toList = some cv → ∃ d, cv = .ref d ∧ H d = some (CodeO d (lamQ X))) (hdef : defaultsOf params X.env = ([], [])) (hfree : ∀ y ∈ scope.names, y.2 = .free → ∃ d, X.env.cells.lookup y.1 = some d)
    (k : ∀ f c' H1 s1, Inv X pins σ H1 s1 → Lam X H P params body scope f c' H1 s1 → Q (.ref f) s1) : wpAny (model X.prog X.w) X.A (eval (.Lambda params body scope pos) X.env) Q E s := by
  have here : s.heap.get? P = some { cls := .none, data := .fields ps } := I.hok P _ hP
  apply PySem.W.kla_eval hdef
  rcases e : codeAmong pos ps.toList with _ | cv
  · apply PySem.W.kla_makeFunction (mg := X.mg) (c := c) (P := P) (ps := ps) (closure_ok hfree) I.ok.glob (I.mod.glob.keeps I.bk) hcode (B.code.keeps I.bk) here ht e B.gP (B.bm.keeps I.bk)
    intro c' ctv h' tk but new lt rec_ tab
    obtain ⟨d, oc, vs, t, ed, o1, o2, o3⟩ := rec_
    cases ed
    have big : s.heap.objs.size ≤ h'.objs.size := Nat.le_trans new (Nat.le_of_lt lt)
    have n1 : H c' = none := I.hok.fresh new
    have n2 : H h'.objs.size = none := I.hok.fresh big
    have up : ∀ b o, h'.get? b = some o → (h'.push (lamObj X params body scope ((X.mg "__name__").getD .none) c' ctv)).get? b = some o := fun b o q => Heap.get?_push_of_some _ q
    have J := inv_table (t' := tk) (c := c') (q := lamQ X) (more := #[rawInt pos.line, rawInt pos.col, .ref c']) I hP (fun b o hb q => up b o (but b o hb q)) (up P _ tab) new ⟨oc, vs, t, up c' oc o1, o2, o3⟩
    have pc : P ≠ c' := ne_of_none hP n1
    have fl : h'.objs.size ≠ c' := Nat.ne_of_gt lt
    have fP : h'.objs.size ≠ P := Nat.ne_of_gt (Nat.lt_of_lt_of_le (Heap.lt_size here) big)
    have eL : (ps ++ #[rawInt pos.line, rawInt pos.col, .ref c']).toList = ps.toList ++ [rawInt pos.line, rawInt pos.col, .ref c'] := by simp
    refine k _ c' _ _ J ⟨⟨_, ctv, Heap.get?_push_size _ rfl⟩, ?_, lam_out I big, upd_same, fun b o hb q => ?_, ps, ps ++ #[rawInt pos.line, rawInt pos.col, .ref c'], hP, ?_, ?_, fun at_ cv hcv => ?_⟩
    · rw [upd_ne fl, upd_ne fP]; exact n2
    · rw [upd_ne (ne_of_none q n1), upd_ne hb]; exact q
    · rw [upd_ne pc, upd_same]
    · rw [eL]; exact TriplesOk_snoc _ _ _ _ ht
    · rw [eL] at hcv
      exact (among_app _ ht hcv).imp id fun z => ⟨z, n1⟩
  · obtain ⟨c', rfl, hc⟩ := ha pos cv e
    apply PySem.W.kla_makeFunctionHit (mg := X.mg) (c := c) (P := P) (ps := ps) (closure_ok hfree) I.ok.glob (I.mod.glob.keeps I.bk) hcode (B.code.keeps I.bk) here ht e (B.bm.keeps I.bk)
    intro ctv h' tk ext big
    have J : Inv X pins σ H { s with heap := h'.push (lamObj X params body scope ((X.mg "__name__").getD .none) c' ctv), toks := tk } := I.kept fun b o q => Heap.get?_push_of_some _ (ext b o q)
    exact k _ c' H _ J ⟨⟨_, ctv, Heap.get?_push_size _ rfl⟩, I.hok.fresh big, lam_out I big, hc, fun _ _ _ q => q, ps, ps, hP, hP, ht, fun _ _ q => .inl q⟩
end
/-! ### the lambda's body -/
def lamN (X : Cx) (A : Around) (outer : List PySem.Env) (s : Shared) (H : Hp) (E : XK) (scope : Scope) (f c' : Addr) : Cx := Cx.tr (lamCx X A outer s H E scope f c') [] (fun e s' =>
  wpAny (model X.prog X.w) (A.deeper (lamEnv X scope s.heap.objs.size f c')) (leaving (lamEnv X scope s.heap.objs.size f c') e) (fun _ t => L2N.CX X.prog X.w outer H s E e t) (fun e' t => L2N.CX X.prog X.w outer H s E e' t) s')
theorem tk_lam {X : Cx} {A : Around} {outer : List PySem.Env} {s : Shared} {H : Hp} {E : XK} {scope : Scope} {f c' : Addr} : Tk (lamN X A outer s H E scope f c') E := L2N.takes_of rfl rfl rfl rfl
section
variable {X : Cx} {pins : List (Addr × Obj)} {σ : L2.St} {H : Hp} {s : Shared} {CXg : CXT} {Eg : XK} {Ng : List Str} {qg : Str} {sg : Scope} {g f c' : Addr} {cdg : Value} {params : Arguments} {body : Expr} {scope : Scope} {k i : Nat} {a : Str} {pn : List (Addr × Obj)} {xe : Value → Shared → Prop}
/-- the def that got the lambda, entered at s; its body within a try -/
abbrev gotCx (X : Cx) (CXg : CXT) (Ng : List Str) (qg : Str) (sg : Scope) (g : Addr) (cdg : Value) (s : Shared) (H : Hp) (Eg : XK) (pn : List (Addr × Obj)) (xe : Value → Shared → Prop) : Cx := Cx.tr (cxOf CXg X.prog X.w X.K X.mg X.base Ng qg sg g cdg X.A X.stack s H Eg) pn xe
theorem pe_ask {W : WX} {E : XK} {tb : TE} {p1 p2 : Pos} (I : Inv X pins σ H s) (L : LamS X.env.scope scope) (O : ∃ pm ctv, s.heap.get? f = some (lamObj X params body scope pm c' ctv)) (nf : H f = none) (fr : f ∉ frs X.stack)
    (bnd : ∀ (cl : List (Str × Addr)) (pm cv ctv : Value), bindArgs (PySem.W.kla_fn "<lambda>" (lamQ X) params body scope cl pm cv ctv) ⟨[], []⟩ = pure []) (tk : L2N.Takes (gotCx X CXg Ng qg sg g cdg s H Eg pn xe) W) (hW : ∀ cls d τ G, E cls d G → W cls d τ G)
    (hr : Room (k + 1) (X.A.deeper (envOfC qg sg s.heap.objs.size g cdg))) (hbody : ∀ (A : Around) (outer : List PySem.Env) (t : Shared) (G : Hp), Room k (A.deeper (lamEnv X scope t.heap.objs.size f c')) → PE (lamN X A outer t G E scope f c') body tb)
    (hN : Ng[i]? = some a) (hv : Vis sg a) (hd : (a == ("__debug__" : Str)) = false := by decide) (hcd : (a == ("__classdict__" : Str)) = false := by decide) :
    PE (gotCx X CXg Ng qg sg g cdg s H Eg pn xe) (.Call (.Name a p1) [] [] p2) (fun τ G Q => τ[i]? = some (some (.ref f)) ∧ G c' = some (CodeO c' (lamQ X)) ∧ tb σ G Q) := by
  constructor
  rintro pz sz τ G Q Iz ⟨at_i, code_, told⟩
  obtain ⟨pm, ctv, O⟩ := O
  apply wpAny_Call_Name_kw
  apply thn ((pe_var (pos := p1) hN hv hd hcd).run pz sz τ G (fun v G1 => v = V.ref f ∧ G1 = G) Iz ⟨_, at_i, rfl, rfl⟩)
  rintro u s1 ⟨v, G1, J, ru, rfl, rfl⟩
  obtain rfl : u = .ref f := ru
  have O1 : s1.heap.get? f = some (lamObj X params body scope pm c' ctv) := J.base.keep f _ O nf fr fun z => nomatch (show f ∈ ([] : List Addr) from z)
  have un : Un (frs X.stack) [] H G1 s.heap s1.heap := J.base
  obtain ⟨⟨oc, vs, t, k1, k2, k3⟩, -⟩ := J.hok c' _ code_
  apply PySem.W.callWith_F0 ⟨_, _, _, _, O1⟩
  have ran : codeAny (model X.prog X.w) (X.A.deeper (envOfC qg sg s.heap.objs.size g cdg)) (.call (.ref f) ⟨[], []⟩) (CR (L2N.CX X.prog X.w) (envOfC qg sg s.heap.objs.size g cdg :: X.stack) X.prog X.w G1 s1 Q E) s1 := by
    apply PySem.W.kla_callFunE hr.depth O1 rfl L.co L.gen rfl ⟨c', oc, vs, t, rfl, k1, k2, k3⟩
    rw [bnd]
    apply wpAny_pure
    apply wpAny_newFunctionEnv (fun y hy => (L.own y hy).2) (fun y hy => absurd hy (by simp)) (fun h1 ns sb => ?_) L.kind
    refine ⟨J.nolimit.fresh _ sb, ?_⟩
    have up : ∀ b o, s1.heap.get? b = some o → h1.get? b = some o := fun b o q => sb.extBut b o (Nat.ne_of_lt (Heap.lt_size q)) (Heap.get?_push_of_some _ q)
    have start := lam_start2 (A := X.A.deeper (envOfC qg sg s.heap.objs.size g cdg)) (E := E) (c' := c') (f := f) (tk := s1.toks + ([] : List (Str × Value)).length) I L J.env0 hr.hd un ns up
    have ready := start.toTry (fun e s' => wpAny (model X.prog X.w) ((X.A.deeper (envOfC qg sg s.heap.objs.size g cdg)).deeper (lamEnv X scope s1.heap.objs.size f c')) (leaving (lamEnv X scope s1.heap.objs.size f c') e)
      (fun _ t => L2N.CX X.prog X.w (envOfC qg sg s.heap.objs.size g cdg :: X.stack) G1 s1 E e t) (fun e' t => L2N.CX X.prog X.w (envOfC qg sg s.heap.objs.size g cdg :: X.stack) G1 s1 E e' t) s')
    apply PySem.W.kla_codeExpr
    refine wpAny_mono ((hbody _ _ s1 G1 (hr.deeper _)).run [] _ σ G1 Q ready told) ?_ fun _ _ z => z
    rintro v s2 ⟨x, G2, J2, rx, q⟩
    exact ⟨x, G2, J2.os, J2.bare, J2.base, J2.hok, rx, q⟩
  apply wpAny_call (codeAny_mono ran fun r s2 q => ?_)
  rcases r with e | fl
  · exact L2N.passes_call (X := gotCx X CXg Ng qg sg g cdg s H Eg pn xe) tk hW pz τ G1 s1 e s2 J q
  · cases fl with
    | ret u => exact J.after q
    | _ => exact q.elim
end
end Tr
set_option Elab.async false
set_option linter.all false
set_option maxRecDepth 100000
set_option maxHeartbeats 2000000
namespace Tr
open PySem PySem.Spec PyProof.Rows L2 RZ LamX
/-! ### the world behind a lambda -/
theorem Gd0.tab {K : PySem.W.Frag} {w : Wo} {H : Hp} {n : Nat} {P : Addr} {q : Str} (g : Gd0 K w H) (h : w.mu[n]? = some (some (.tbl P q))) : w.am[n]? = some P ∧ TabO w H P q := by
  have hn : n < w.am.length := by rw [g.len]; exact (List.getElem?_eq_some_iff.mp h).1
  obtain ⟨a, ha⟩ : ∃ a, w.am[n]? = some a := ⟨_, List.getElem?_eq_getElem hn⟩
  obtain ⟨rfl, t⟩ := g.cell n a _ ha h
  exact ⟨ha, t⟩
theorem lam_ev {X : Cx} {K : PySem.W.Frag} {w : Wo} {H H1 : Hp} {n : Nat} {P f c' : Addr} {params : Arguments} {body : Expr} {scope : Scope} {s1 : Shared} (g : Gd0 K w H) (h : w.mu[n]? = some (some (.tbl P (lamQ X)))) (L : Lam X H P params body scope f c' H1 s1) :
    Ev w H w H1 ∧ Gd0 K w H1 := by
  obtain ⟨ha, ps0, hP0, ht0, hc0⟩ := g.tab h
  obtain ⟨ps, ps', hP, hP', ht', hc'⟩ := L.tb
  rw [hP] at hP0
  cases hP0
  have lp : Live w P := .inl ⟨n, _, ha, h⟩
  have kp : Kp w H w H1 := ⟨⟨[], by simp⟩, fun a o e _ l => ⟨L.st a o (fun z => l (z ▸ lp)) e, l⟩, fun a z => by
    by_cases q : a = P
    · rw [q, hP']; exact fun z => nomatch z
    · cases e : H a with
      | none => exact absurd e z
      | some o => rw [L.st a o q e]; exact fun z => nomatch z⟩
  have same : ∀ a, a ≠ P → H a ≠ none → H1 a = H a := fun a q z => by
    cases e : H a with
    | none => exact absurd e z
    | some o => exact L.st a o q e
  refine ⟨⟨kp, rfl, fun a hh => same a (fun z => g.apart P (List.mem_of_getElem? ha) (z ▸ hh)) (g.trk a (List.mem_append_right _ hh))⟩, g.len, g.nd, fun a hh => kp.dom a (g.trk a hh), g.apart, fun m a c e1 e2 => ?_⟩
  by_cases q : a = P
  · subst q
    obtain rfl := nodup_get g.nd e1 ha
    rw [h] at e2
    cases e2
    refine ⟨rfl, ps', hP', ht', fun at_ cv hcv => ?_⟩
    rcases hc' at_ cv hcv with z | ⟨rfl, z⟩
    · obtain ⟨d, e3, e4, e5⟩ := hc0 at_ cv z
      refine ⟨d, e3, L.st d _ (fun z => ?_) e4, e5⟩
      rw [z, hP] at e4
      cases e4
    · exact ⟨c', rfl, L.co, g.dead z⟩
  · exact (g.cell m a c e1 e2).mono kp (same a q (g.trk a (List.mem_append_left _ (List.mem_of_getElem? e1))))
/-! ### the handled exception -/
/-- the exception at a, of the class at C, its dict d, is pinned -/
def PinX (X : Cx) (a C : Addr) (d : Option Addr) : Prop := ∃ oe : Obj, (a, oe) ∈ X.pn ∧ oe.cls = .ref C ∧ oe.dict = d ∧ ∃ vs, oe.data = .fields vs
def eHx (a C : Addr) (d : Option Addr) (f : Str) (t : ET) : ET := fun ρ μ P => t ρ μ fun x μ1 => match x with
  | .hx a' C' d' ns ds => (a' = a ∧ C' = C ∧ d' = d) ∧ match lookD f ns ds with
    | some y => P y μ1
    | none => False
  | _ => False
section
variable {Ex : KX} {Ee : XK} {Hz : Hp} {X : Cx} {e : Expr} {es : List Expr} {pos p : Pos} {t : ET} {sa : AT} {x : Str} {k j : Nat} {a C : Addr} {d : Option Addr} {f : Str}
theorem te_hx {Cs : List Addr} (hp : PinX X a C d) (hc : XfdC X.K f Cs) (hC : C ∈ Cs) (h : PE X e (LE ⟨X.K, Ex, Ee, Hz⟩ t)) (hb : attributeBase e f X.env (eval e X.env) = eval e X.env := by rfl) : PE X (.Attribute e f pos) (LE ⟨X.K, Ex, Ee, Hz⟩ (eHx a C d f t)) := by
  obtain ⟨oe, h1, h2, h3, h4⟩ := hp
  cases d with
  | none =>
    -- no dict: no field
    constructor
    intro pins s σ H Q I ⟨w, ρ, P, g, er, t, fn⟩
    apply attr_of hb
    refine thn (h.run pins s σ H (fun _ _ => False) I ⟨w, ρ, _, g, er, t, fun y v w1 H1 e1 g1 r1 t1 => ?_⟩) fun _ _ ⟨_, _, _, _, z⟩ => z.elim
    split at t1
    · obtain ⟨⟨rfl, rfl, rfl⟩, t1⟩ := t1
      obtain ⟨_, fs, z, e2, _⟩ := r1
      rw [show fs = [] from z] at e2
      rw [← e2] at t1
      simp [lookD] at t1
    · exact t1
  | some d =>
    exact te_of (pe_xpn h1 h2 h3 h4 (hc C hC).1 (hc C hC).2 h hb) fun σ H Q ⟨w, ρ, P, g, er, t, fn⟩ => ⟨w, ρ, _, g, er, t, fun y v w1 H1 e1 g1 r1 t1 => by
      split at t1
      · obtain ⟨⟨rfl, rfl, rfl⟩, t1⟩ := t1
        obtain ⟨ev, fs, z, e2, r⟩ := r1
        split at t1
        · rename_i y hy
          subst e2
          obtain ⟨u, l, r'⟩ := look_rp r hy
          exact ⟨fs, u, ev, z.2, l, (fn.mono e1).now g1 r' t1⟩
        · exact t1.elim
      · exact t1.elim⟩
end
/-! ### a def called with the handled exception -/
structure FnP (P : Program) (wd : World) (K : PySem.W.Frag) (mg : Str → Option Value) (base : Heap) (k : Nat) (f : Addr) (fd : FuncData) (ps : List Str) (sp : Addr → Addr → Option Addr → RAD) : Prop where
  len : ∀ a C d vs H Q, SpOf K (sp a C d) vs H Q E0 → vs.length = ps.length
  run : ∀ (A : Around) (outer : List PySem.Env) (s : Shared) (H : Hp) (args : Args) (us : List Value) (vs : List V) (Q : VK) (p : Addr × Obj) (C : Addr), L2H.RoomH k A → L2H.Hot1 A p → L2H.PinOk outer H s p → p.2.cls = .ref C → (∃ fs, p.2.data = .fields fs) →
    Env0 P wd K mg base A outer s H → BindsTo s fd args (ps.zip us) → Vals vs us → SpOf K (sp p.1 C p.2.dict) vs H Q E0 → codeAny (model P wd) A (.call (.ref f) args) (CR CX0 outer P wd H s Q E0) s
theorem fnp_ok {P : Program} {wd : World} {K : PySem.W.Frag} {mg : Str → Option Value} {base : Heap} {x qual : Str} {st : Stmt} {f : Addr} {fd : FuncData} {N ps : List Str} {k : Nat} {sp : Addr → Addr → Option Addr → RAD} {t : Addr → Addr → Option Addr → ST} (F : Fun K x qual st f fd) (S : FnScope N ps (defScope st))
    (hb : ∀ (Ex : KX) (Ee : XK) (Hz : Hp) (p : Addr × Obj) (C : Addr) (cdv : Value) (A : Around) (outer : List PySem.Env) (s : Shared) (H : Hp), p.2.cls = .ref C → (∃ fs, p.2.data = .fields fs) → L2H.RoomH k (A.deeper (envOfC qual (defScope st) s.heap.objs.size f cdv)) →
      PSs (L2H.cxH CX0 P wd K mg base N qual (defScope st) f cdv A outer s H E0 p) (defBody st) (LS ⟨K, Ex, Ee, Hz⟩ (t p.1 C p.2.dict)))
    (len : ∀ a C d ds μ Pd, sp a C d ds μ Pd → ds.length = ps.length) (hs : ∀ a C d ds μ Pd, sp a C d ds μ Pd → t a C d { nx := fun _ μ' => Pd .non μ', rt := Pd } (startD N ds) μ) : FnP P wd K mg base (k + 1) f fd ps sp := by
  have len' : ∀ a C d vs H Q, SpOf K (sp a C d) vs H Q E0 → vs.length = ps.length := fun a C d vs H Q ⟨Ex, Ee, Hz, w, ds, Pd, g, r, q, fn⟩ => by
    rw [r.length]
    exact len a C d ds _ Pd q
  refine ⟨len', fun A outer s H args us vs Q p C hr hot pin hcl hfs e0 hbd rv hsp => ?_⟩
  obtain ⟨oc, od, kV, doc, pm, an, cdv, ct, osl, rfl, lk, hcd⟩ := F.ex
  have hl := len' _ _ _ _ _ _ hsp
  have inK : K.In s.heap := e0.mod.kin.keeps fun b o z => (e0.bs b o z).1
  have kinds : ∀ y ∈ ps.zip us, (defScope st).names.lookup y.1 = some .local ∨ ((defScope st).names.lookup y.1 = some .cell ∧ ((cellsFrom (s.heap.objs.size + 1) (defScope st).names []).lookup y.1).isSome = true) := fun ⟨n, v⟩ hy =>
    (S.par n (List.of_mem_zip hy).1).imp id fun z => ⟨z, PySem.W.cellsFrom_some _ _ _ (.inl z)⟩
  apply codeAny_call_function hr.depth (inK _ _ lk) rfl S.co S.gen rfl (PySem.W.codeRec_of inK hcd) (hbd _ _ _ _ ?_)
  apply wpAny_newFunctionEnv_cells S.kind kinds
  rintro env rfl s1 y
  refine ⟨(e0.mod.nolimit.keeps fun b o z => (e0.bs b o z).1).keeps y.toInCall.keep, codeAny_func ?_⟩
  obtain ⟨Ex, Ee, Hz, w, ds, Pd, g, r, q, fn⟩ := hsp
  have I := L2H.inv_startH (CX := CX0) (P := P) (w := wd) (mg := mg) (base := base) (qual := qual) (f := f) (cd := cdv) (E := E0) S pin e0 hl rv y
  have ran := (hb Ex Ee Hz p C cdv A outer s H hcl hfs (hr.deeper _)).run [] s1 (L2.start N vs) H { nx := fun _ H' => Q .non H', rt := Q } I ⟨w, startD N ds, { nx := fun _ μ' => Pd .non μ', rt := Pd }, g, envR_start r, hs _ _ _ ds _ Pd q,
    ⟨fun ρ' σ' w' H' ev g' er' z => fn .non .non w' H' ev g' rfl z, fn, fun _ _ _ _ _ _ _ z => z.elim, fun _ _ _ _ _ _ _ z => z.elim⟩⟩
  refine wpAny_mono ran (fun fl s' z => ?_) fun e s' z => z
  have fin : ∀ {σ' : L2.St} {H' : Hp} {v : V} {u : Value}, Inv (L2H.cxH CX0 P wd K mg base N qual (defScope st) f cdv A outer s H E0 p) [] σ' H' s' → RelV v u → Q v H' → CE outer P wd H s Q u s' := fun {σ' H' v u} J r2 z => ⟨v, H', J.os, J.bare, J.base, J.hok, r2, z⟩
  rcases fl with u | _ | _ | _
  all_goals first
    | (obtain ⟨v, σ', H', J, r2, z⟩ := z
       exact fin J r2 z)
    | (obtain ⟨σ', H', J, z⟩ := z
       first
       | exact fin (v := V.non) (u := Value.none) J rfl z
       | exact z.elim)
/-- such a def that stands under its name -/
structure FpI (P : Program) (wd : World) (K : PySem.W.Frag) (mg : Str → Option Value) (base : Heap) (x : Str) (st : Stmt) (k : Nat) (ps : List Str) (sp : Addr → Addr → Option Addr → RAD) : Prop where
  ex : ∃ (f : Addr) (fd : FuncData), FnP P wd K mg base k f fd ps sp ∧ mg x = some (.ref f) ∧ Fun K x x st f fd ∧ Binds K fd ps []
section
variable {Ex : KX} {Ee : XK} {Hz : Hp} {X : Cx} {e : Expr} {es : List Expr} {pos p : Pos} {sa : AT} {x : Str} {st : Stmt} {k j : Nat} {ps : List Str} {sp : Addr → Addr → Option Addr → RAD}
theorem te_fp {p0 : Addr × Obj} {C : Addr} (F : FpI X.prog X.w X.K X.mg X.base x st k ps sp) (hr : L2H.RoomH j X.A) (hot : L2H.Hot1 X.A p0) (hp : p0 ∈ X.pn) (hcl : p0.2.cls = .ref C) (hfs : ∃ fs, p0.2.data = .fields fs) (hg : Gl X x) (ha : PA X (e :: es) (LA ⟨X.K, Ex, Ee, Hz⟩ sa))
    (hk : k ≤ j := by first | decide | omega) (hdb : (x == ("__debug__" : Str)) = false := by decide) (he : starEach (e :: es) X.env = (false, eval e X.env) :: starEach es X.env := by rfl) (hpl : (backTo pos (starEach es X.env)).any (·.1) = false := by rfl) :
    PE X (.Call (.Name x p) (e :: es) [] pos) (LE ⟨X.K, Ex, Ee, Hz⟩ (eCall (sp p0.1 C p0.2.dict) sa)) := by
  obtain ⟨f, fd, F, hm, U, hb⟩ := F.ex
  constructor
  intro pins s σ H Q I ⟨w, ρ, P, g, er, t, fn⟩
  apply wpAny_Call_Name_kw
  apply ld_glob I hg hm _ hdb
  apply PySem.W.callWith_K (h₀ := X.base) I.ok.mod.kin U.kp _ he hpl
  apply thn (ha.run pos pins s σ H (fun vs H1 => SpOf X.K (sp p0.1 C p0.2.dict) vs H1 Q E0) I ⟨w, ρ, _, g, er, t, fun ds vs w1 H1 e1 g1 r1 t1 => ⟨Ex, Ee, Hz, w1, ds, P, g1, r1, t1, fn.mono e1⟩⟩)
  rintro us s1 ⟨vs, H1, J, rv, q⟩
  refine ⟨J.kIn, ?_⟩
  have hl : us.length = ps.length := by rw [← rv.length]; exact F.len _ _ _ _ _ _ q
  have bd := hb s1 us J.kIn (by rw [List.append_nil]; exact hl)
  rw [List.append_nil] at bd
  have pn := J.pin p0 (List.mem_append_left _ hp)
  have hpin : L2H.PinOk X.stack H1 s1 p0 := ⟨pn.1, pn.2.1, fun z => (List.mem_cons.mp (J.stkSub p0.1 z)).elim pn.2.2.1 pn.2.2.2.1, pn.2.2.2.2⟩
  apply wpAny_call (codeAny_mono (F.run X.A X.stack s1 H1 ⟨us, []⟩ us vs Q p0 C (⟨by have := hr.dp; omega, by have := hr.un; omega⟩) hot hpin hcl hfs J.env0 bd rv q) fun r s2 z => ?_)
  rcases r with er | fl
  · exact z.elim
  · cases fl with
    | ret u => exact J.after z
    | _ => exact z.elim
end
theorem hu64h {A : Around} {k : Nat} (hr : L2H.RoomH k A) : A.units + 64 < cLine := by have := hr.un; omega
theorem hu65h {A : Around} {k : Nat} (hr : L2H.RoomH k A) : A.units + 65 < cLine := by have := hr.un; omega
end Tr
set_option Elab.async false
set_option linter.all false
set_option maxRecDepth 100000
set_option maxHeartbeats 2000000
namespace Tr
open PySem PySem.Spec PyProof.Rows L2 RZ LamX
/-! ### t(lambda: e): what e is worth, told; or the exception that it lets out, by the suite -/
/-- Pt: the table of the maker's code, its cell n0; Cs: the classes that may come; bs: the suite -/
def eTry (n0 : Nat) (Pt : Addr) (q : Str) (Cs : List Addr) (bs : Addr → Addr → Option Addr → ST) (tb : KX → ET) : ET := fun ρ μ P => μ[n0]? = some (some (.tbl Pt q)) ∧
  tb (fun C ns ds μ2 => C ∈ Cs ∧ ∀ a d, bs a C d { nx := fun _ μ' => P .non μ', rt := P } [none, some (.hx a C d ns ds)] μ2) ρ μ fun d μ1 => P (.tup [.str "told", d]) μ1
section
variable {Ex : KX} {Ee : XK} {Hz : Hp} {X : Cx} {x ask en sk mi : Str} {st b0 : Stmt} {suite : List Stmt} {g : Addr} {fd : FuncData} {c Pt CS CM : Addr} {n0 k : Nat} {Cs : List Addr} {bs : Addr → Addr → Option Addr → ST} {tb : KX → ET} {params : Arguments} {body : Expr} {scope : Scope}
  {p lpos pos q1 q2 q3 q4 q5 q6 q7 q8 q9 qa : Pos} {j1 j2 j3 : Nat}
theorem takes_no {X : Cx} : L2N.Takes X fun _ _ _ _ => False := fun u s' ⟨_, _, _, _, _, _, _, _, _, _, _, _, _, _, _, _, z⟩ => z.elim
theorem te_try (F : Fun X.K x x st g fd) (hm : X.mg x = some (.ref g)) (S : FnScope [ask, en] [ask] (defScope st)) (hne : ask ≠ en) (hva : Vis (defScope st) ask) (hve : (defScope st).names.lookup en = some .local)
    (shape : defBody st = [.Try [.Return (some (.Tuple [.Constant (.str "told") j1 q1, .Call (.Name ask q2) [] [] q3] j2 q4)) q5] [.ExceptHandler (some (.Tuple [.Name sk q6, .Name mi q7] j3 q8)) (some en) (b0 :: suite) q9] [] [] qa])
    (bt : ∀ (kV doc pm : Value) (an : Option Addr) (cdv ct : Value) (us : List Value), us.length = 1 → bindArgs (PySem.W.fnOf x x (defArgs st) (defBody st) (defScope st) .none kV doc pm an cdv ct) ⟨us, []⟩ = pure ([ask].zip us))
    (hsk : (defScope st).names.lookup sk = some .globalImplicit ∧ X.mg sk = some (.ref CS) ∧ (sk == ("__debug__" : Str)) = false) (hmi : (defScope st).names.lookup mi = some .globalImplicit ∧ X.mg mi = some (.ref CM) ∧ (mi == ("__debug__" : Str)) = false)
    (hT : ∀ C, C ∈ Cs → PySem.W.exmAny X.K (.ref C) [.ref CS, .ref CM] = some true)
    (hsuite : ∀ (Ex : KX) (Ee : XK) (Hz : Hp) (cdv : Value) (s : Shared) (H : Hp) (a : Addr) (oe : Obj) (C : Addr) (d : Option Addr) (pn : List (Addr × Obj)), C ∈ Cs → oe.cls = .ref C → oe.dict = d → (∃ vs, oe.data = .fields vs ∧ vs[2]? = some .none) → Room (k + 1) (X.A.deeper (envOfC x (defScope st) s.heap.objs.size g cdv)) →
      PSs ((cxOf CX0 X.prog X.w X.K X.mg X.base [ask, en] x (defScope st) g cdv X.A X.stack s H E0).nox.suite a ((a, oe) :: pn)) (b0 :: suite) (LS ⟨X.K, Ex, Ee, Hz⟩ (bs a C d)))
    (B : TabB X.base X.mg c Pt) (hcode : X.env.code = .ref c) (hr : Room (k + 2) X.A) (L : LamS X.env.scope scope) (hdef : defaultsOf params X.env = ([], []))
    (bnd : ∀ (q : Str) (cl : List (Str × Addr)) (pm cv ctv : Value), bindArgs (PySem.W.kla_fn "<lambda>" q params body scope cl pm cv ctv) ⟨[], []⟩ = pure [])
    (hbody : ∀ (Ex : KX) (Hz : Hp) (A : Around) (outer : List PySem.Env) (s : Shared) (H : Hp) (E : XK) (f c' : Addr), Room k (A.deeper (lamEnv X scope s.heap.objs.size f c')) → PE (lamN X A outer s H E scope f c') body (LE ⟨X.K, Ex, E, Hz⟩ (tb Ex)))
    (hg : Gl X x) (hdb : (x == ("__debug__" : Str)) = false := by decide) (had : (ask == ("__debug__" : Str)) = false := by decide) (hac : (ask == ("__classdict__" : Str)) = false := by decide) :
    PE X (.Call (.Name x p) [.Lambda params body scope lpos] [] pos) (LE ⟨X.K, Ex, Ee, Hz⟩ (eTry n0 Pt (lamQ X) Cs bs tb)) := by
  obtain ⟨oc, od, kV, doc, pm, an, cdv, ct, osl, rfl, lk, hcd⟩ := F.ex
  constructor
  intro pins s σ H Q I ⟨w, ρ, P, gd, er, ⟨hcell, t⟩, fn⟩
  obtain ⟨hat, ps, hP, htr, hco⟩ := gd.toGd0.tab hcell
  apply wpAny_Call_Name_kw
  apply ld_glob I hg hm _ hdb
  apply PySem.W.callWith_K (h₀ := X.base) I.ok.mod.kin F.kp _ (by rfl) (by rfl)
  show wpAny _ _ (spliced ((false, eval (.Lambda params body scope lpos) X.env) :: backTo pos (starEach [] X.env))) _ _ s
  apply Calls.spliced_cons
  refine lam_mk I B hcode hP htr (fun at_ cv hcv => ?_) hdef (L.has I.ok) fun f c' H1 s1 J LM => ?_
  · obtain ⟨d, e1, e2, _⟩ := hco at_ cv hcv
    exact ⟨d, e1, e2⟩
  refine Calls.spliced_nil ⟨J.kIn, ?_⟩
  obtain ⟨ev1, gd0⟩ := lam_ev gd.toGd0 hcell LM
  have g1 : Gd ⟨X.K, Ex, Ee, Hz⟩ w H1 := gd.step ev1 gd0
  have fn1 := fn.mono ev1
  have er1 := er.mono ev1.toKp
  have two : (2 : Nat) ≤ sizeLine := by rw [sizeLine_eq]; decide
  have ran : codeAny (model X.prog X.w) X.A (.call (.ref g) ⟨[.ref f], []⟩) (CR CX0 X.stack X.prog X.w H1 s1 Q E0) s1 := by
    refine run_ofS (N := [ask, en]) (ps := [ask]) (us := [.ref f]) (vs := [.ref f]) lk hcd S hr J.env0 (.of_eq (bt kV doc pm an cdv ct [.ref f] rfl)) (.cons rfl .nil) rfl fun hr' => ?_
    have nd : ([ask, en] : List Str).Nodup := by simp [hne]
    let Xg : Cx := (cxOf CX0 X.prog X.w X.K X.mg X.base [ask, en] x (defScope st) g cdv X.A X.stack s1 H1 E0).nox
    let Ex' : KX := fun C ns ds μ2 => C ∈ Cs ∧ ∀ a d, bs a C d { nx := fun _ μ' => P .non μ', rt := P } [none, some (.hx a C d ns ds)] μ2
    let T : Value → Option Bool := fun cls => PySem.W.exmAny X.K cls [.ref CS, .ref CM]
    let ts : Addr → Value → Option Addr → TS := fun a cls d D τ G => ∃ (C : Addr) (Ex : KX) (Ee : XK) (Hz : Hp), cls = .ref C ∧ C ∈ Cs ∧ (τ.length = 2 → LS ⟨X.K, Ex, Ee, Hz⟩ (bs a C d) D τ G)
    let act : XK → TE := fun E' τ G Q => τ[0]? = some (some (.ref f)) ∧ G c' = some (CodeO c' (lamQ X)) ∧ LE ⟨X.K, Ex', E', Hz⟩ (tb Ex') σ G Q
    let tbd : WX → TS := fun W D τ G => ∃ E' : XK, (∀ cls d τ' G', E' cls d G' → W cls d τ' G') ∧ tRet (tTup (tCons (tC (.str "told")) (tCons (act E') tNil))) D τ G
    have names1 : Names Xg sk (.ref CS) := ⟨hsk.1, hsk.2.2, .inl hsk.2.1⟩
    have names2 : Names Xg mi (.ref CM) := ⟨hmi.1, hmi.2.2, .inl hmi.2.1⟩
    have tried : PS Xg (.Try [.Return (some (.Tuple [.Constant (.str "told") j1 q1, .Call (.Name ask q2) [] [] q3] j2 q4)) q5] [.ExceptHandler (some (.Tuple [.Name sk q6, .Name mi q7] j3 q8)) (some en) (b0 :: suite) q9] [] [] qa) (fun D τ G => tbd (wAsT T 1 ts (fun _ _ _ _ => False) D) D τ G) := by
      refine ps_try_asT (X := Xg) (tb := tbd) (ts := ts) rfl rfl nd rfl hve (tests_two names1 names2) takes_no (fun W pn xe tk _ => ⟨fun pz sz τ G D Iz ⟨E', hW, q⟩ => ?_⟩) fun a oe cls d pn hz hv => ⟨fun pz sz τ G D Iz ⟨C, Ex, Ee, Hz, e1, hC, q⟩ => ?_⟩
      · have asks := pe_ask (p1 := q2) (p2 := q3) (i := 0) (pn := pn) (xe := xe) (CXg := CX0) (Eg := E0) (qg := x) (cdg := cdv) (Ng := [ask, en]) (tb := LE ⟨X.K, Ex', E', Hz⟩ (tb Ex')) J L LM.ob LM.nf LM.fr (bnd (lamQ X)) tk hW hr' (fun A outer t G hr2 => hbody Ex' Hz A outer t G E' f c' hr2) rfl hva had hac
        exact (pss_one (ps_ret (pos := q5) (pe_tup (x1 := j2) (pos := q4) (pa_cons (pe_str (pos := q1) (j := j1)) (pa_cons asks pa_nil))))).run pz sz τ G D Iz q
      · subst e1
        obtain ⟨vs, hv⟩ := hv
        obtain ⟨h1, h2, h3⟩ := hz
        exact (hsuite Ex Ee Hz cdv s1 H1 a oe C d pn hC h1 h2 ⟨vs, hv, h3 vs hv⟩ hr').run pz sz τ G D Iz (q Iz.len)
    refine ⟨_, shape ▸ (pss_one tried).nox, ?_⟩
    let E' : XK := fun cls d G => ∃ C ns ds w1, cls = .ref C ∧ Gd ⟨X.K, Ex, Ee, Hz⟩ w1 G ∧ XRep X.K w1 G d ns ds ∧ Ex' C ns ds w1.mu ∧ Fin ⟨X.K, Ex, Ee, Hz⟩ w1 G P Q
    refine ⟨E', fun cls d τ G ⟨C, ns, ds, w1, e1, gw, ⟨fs, r1, r2, r3⟩, ⟨hC, hx⟩, fw⟩ => ?_, ?_⟩
    · subst e1
      refine ⟨true, hT C hC, fun _ a na => ⟨C, Ex, Ee, Hz, rfl, hC, fun hlen => ?_⟩, fun z => Bool.noConfusion z⟩
      refine ⟨w1, [none, some (.hx a C d ns ds)], { nx := fun _ μ' => P .non μ', rt := P }, gw, ⟨by rw [hlen]; rfl, fun i y hy => ?_⟩, hx a d, ⟨fun ρ' σ' w' H' ev g' er' z => fw .non .non w' H' ev g' rfl z, fw, fun _ _ _ _ _ _ _ z => z.elim, fun _ _ _ _ _ _ _ z => z.elim⟩⟩
      match i, hy with
      | 0, hy => cases hy
      | 1, hy =>
        cases hy
        refine ⟨.ref a, List.getElem?_set_self ?_, rfl, fs, r1, r2, r3⟩
        rw [List.length_set] at hlen
        omega
      | i + 2, hy => simp at hy
    · refine ⟨rfl, LM.co, w, ρ, _, ⟨gd0, fun C ns ds d w' H' ev g' r z => ⟨C, ns, ds, w', rfl, g1.step ev g', r, z, fn1.mono ev⟩, g1.fr⟩, er1, t, fun d v w' H' ev g' r z => ?_⟩
      have g2 : Gd ⟨X.K, Ex, Ee, Hz⟩ w' H' := g1.step ev g'.toGd0
      have both : RpAll X.K w' H' [.str "told", d] [V.str "told", v] := ⟨_, _, rfl, rfl, v, [], rfl, r, rfl⟩
      exact ⟨two, fun l hl => (fn1.mono ev).tup g2 hl both z⟩
  apply wpAny_call (codeAny_mono ran fun r s2 z => ?_)
  rcases r with er | fl
  · exact z.elim
  · cases fl with
    | ret u => exact J.after z
    | _ => exact z.elim
end
end Tr
set_option Elab.async false
set_option linter.all false
set_option maxRecDepth 100000
set_option maxHeartbeats 2000000
namespace Tr
open PySem PySem.Spec PyProof.Rows L2 RZ LamX
/-! ### tuples of the module -/
def flatD : D → Option V
  | .non => some .non
  | .bl b => some (.bl b)
  | .int i => some (.int i)
  | .str x => some (.str x)
  | _ => none
theorem flat_rp {K : PySem.W.Frag} {w : Wo} {H : Hp} {d : D} {v : V} (h : flatD d = some v) : Rp K w H d v := by
  cases d <;> simp [flatD] at h <;> subst h <;> rfl
def flatA : List D → Option (List V)
  | [] => some []
  | d :: ds => match flatD d, flatA ds with
    | some v, some vs => some (v :: vs)
    | _, _ => none
theorem flatA_rp {K : PySem.W.Frag} {w : Wo} {H : Hp} : ∀ {ds : List D} {vs : List V}, flatA ds = some vs → RpAll K w H ds vs
  | [], vs, h => by cases h; rfl
  | d :: ds, vs, h => by
    unfold flatA at h
    cases q1 : flatD d with
    | none => rw [q1] at h; cases h
    | some v =>
      cases q2 : flatA ds with
      | none => rw [q1, q2] at h; cases h
      | some us => rw [q1, q2] at h; cases h; exact ⟨v, us, rfl, flat_rp q1, flatA_rp q2⟩
/-- the module's name x stands for the tuple of these -/
def TupG (K : PySem.W.Frag) (mg : Str → Option Value) (x : Str) (ds : List D) : Prop := ∃ a vs, mg x = some (.ref a) ∧ KT K a vs ∧ flatA ds = some vs ∧ ∃ o, K.lookup a = some o ∧ o.cls = .type "tuple" ∧ o.dict = none
theorem kt_of {K : PySem.W.Frag} {x : Str} {vs : List He.Dv} (h : He.tupB K x vs = true) : KT K (He.ga K x) (vs.map (He.Dv.v K)) := by
  unfold He.tupB at h
  rcases q : K.lookup (He.ga K x) with _ | ⟨oc, od, dt, osl⟩
  · rw [q] at h; cases h
  · rw [q] at h
    cases oc with
    | type c =>
      cases dt with
      | seq its n =>
        have h : (decide (c = "tuple") && (decide (its.size ≤ sizeLine) && He.relAll (vs.map (He.Dv.v K)) its.toList)) = true := h
        simp only [Bool.and_eq_true, decide_eq_true_eq] at h
        obtain ⟨rfl, h2, h3⟩ := h
        exact ⟨_, its, n, q, rfl, rfl, h2, He.relAll_ok h3⟩
      | _ => cases h
    | _ => cases dt <;> cases h
section
variable {Ex : KX} {Ee : XK} {Hz : Hp} {X : Cx} {e o : Expr} {es : List Expr} {pos p apos : Pos} {t ta : ET} {sa : AT} {x : Str} {ds : List D}
theorem te_gtup (hg : Gl X x) (h : TupG X.K X.mg x ds) (hdb : (x == ("__debug__" : Str)) = false := by decide) : PE X (.Name x p) (LE ⟨X.K, Ex, Ee, Hz⟩ (eC (.tup ds))) := by
  obtain ⟨a, vs, hm, hk, hf, _⟩ := h
  exact te_of (pe_glob hg hm (v := .ref a) rfl hdb) fun σ H Q ⟨w, ρ, P, g, _, t, fn⟩ => fn.now g (show Rp X.K w H (.tup ds) (.ref a) from ⟨a, vs, rfl, .inr hk, flatA_rp hf⟩) t
/-! ### t.index(x), a tuple of texts -/
def firstAt (z : Str) : List Str → Option Nat
  | [] => none
  | y :: ys => if y = z then some 0 else (firstAt z ys).map (· + 1)
theorem firstAt_ok {z : Str} : ∀ {ys : List Str} {j : Nat}, firstAt z ys = some j → ys[j]? = some z ∧ ∀ m, m < j → ys[m]? ≠ some z
  | [], _, h => by cases h
  | y :: ys, j, h => by
    unfold firstAt at h
    by_cases q : y = z
    · rw [if_pos q] at h; cases h; subst q; exact ⟨rfl, fun m hm => absurd hm (Nat.not_lt_zero _)⟩
    · rw [if_neg q] at h
      cases r : firstAt z ys with
      | none => rw [r] at h; cases h
      | some i =>
        rw [r] at h
        cases h
        obtain ⟨h1, h2⟩ := firstAt_ok r
        refine ⟨by simpa using h1, fun m hm => ?_⟩
        cases m with
        | zero => simpa using q
        | succ m => simpa using h2 m (by simpa using hm)
/-- x.index(e), x a tuple of texts of the module -/
def eTIx (ss : List Str) (t : ET) : ET := fun ρ μ P => t ρ μ fun d μ1 => match d with
  | .str z => match firstAt z ss with
    | some j => P (.int (j : Nat)) μ1
    | none => False
  | _ => False
theorem te_tindex {ss : List Str} {p2 : Pos} (hg : Gl X x) (h : TupG X.K X.mg x (ss.map D.str)) (he : PE X e (LE ⟨X.K, Ex, Ee, Hz⟩ t)) (hbase : attributeBase (.Name x p2) "index" X.env (eval (.Name x p2) X.env) = eval (.Name x p2) X.env := by rfl)
    (hfew : ((backTo pos (starEach [e] X.env)).all (fun x => !x.1) && (backToKw pos (keywordEach [] X.env)).all (fun x => x.1.isSome) && decide ([e].length + ([] : List Keyword).length + (if ([] : List Keyword).isEmpty then 0 else 1) < 30)) = true := by rfl)
    (hline : (apos.endLine == pos.line) = true := by rfl) (hs : starEach [e] X.env = (false, eval e X.env) :: starEach [] X.env := by rfl) (hpl : (backTo pos (starEach [] X.env)).any (·.1) = false := by rfl) (hdb : (x == ("__debug__" : Str)) = false := by decide) :
    PE X (.Call (.Attribute (.Name x p2) "index" apos) [e] [] pos) (LE ⟨X.K, Ex, Ee, Hz⟩ (eTIx ss t)) := by
  obtain ⟨a, vs, hm, hk, hf, o, ho1, ho2, ho3⟩ := h
  have hv : vs = ss.map V.str := by
    clear hk
    induction ss generalizing vs with
    | nil => cases hf; rfl
    | cons z ss ih =>
      simp only [List.map_cons, flatA, flatD] at hf
      cases q : flatA (ss.map D.str) with
      | none => rw [q] at hf; cases hf
      | some us => rw [q] at hf; cases hf; rw [ih us q]; rfl
  subst hv
  exact te_of (pe_bm PySem.F.plainAttrs_tuple PySem.F.slot_tuple_index PySem.F.type_tuple_index mt_tup_index (pe_glob hg hm (v := .ref a) rfl hdb) (pa_cons he pa_nil hs) hbase hfew hline hs hpl) fun σ H Q ⟨w, ρ, P, g, er, t, fn⟩ =>
    ⟨.inr (.inl ⟨rfl, o, ho1, ho2, ho3⟩), w, ρ, _, g, er, t, fun d v w1 H1 e1 g1 r1 t1 => by
      split at t1
      · rename_i z
        split at t1
        · rename_i j hj
          obtain ⟨k1, k2⟩ := firstAt_ok hj
          exact ⟨a, ss, z, j, rfl, by rw [show v = _ from r1], .inr hk, k1, k2, (fn.mono e1).int g1 t1⟩
        · exact t1.elim
      · exact t1.elim⟩
end
/-! ### what is plain data is in a list of such -/
theorem toPyA_any {n : Nat} {x : D} : ∀ {ys : List D}, okA n ys = true → ok n x = true → ∃ p ps, toPy x = some p ∧ toPyA ys = some ps ∧ (ps.any fun z => PyData.eqv z p) = ys.any fun y => deq y x
  | [], _, hx => by
    obtain ⟨p, h1, _⟩ := ok_py n x hx
    exact ⟨p, [], h1, rfl, rfl⟩
  | y :: ys, h, hx => by
    simp only [okA, Bool.and_eq_true] at h
    obtain ⟨p, ps, h1, h2, h3⟩ := toPyA_any h.2 hx
    obtain ⟨q, h4, _⟩ := ok_py n y h.1
    exact ⟨p, q :: ps, h1, by simp [toPyA, h4, h2], by simp only [List.any_cons, h3, eqv_deq y x q p h4 h1]⟩
theorem d_in_tup {n : Nat} {x : D} {ys : List D} {μ : Mu} {P : KD} (hx : ok n x = true) (hy : ok n (.tup ys) = true) (hn : n ≤ 64) : dIn x (.tup ys) μ P = P (.bl (ys.any fun y => deq y x)) μ := by
  obtain ⟨m, rfl⟩ : ∃ m, n = m + 1 := by cases n; · simp [ok] at hy
                                         · exact ⟨_, rfl⟩
  simp only [ok, Bool.and_eq_true] at hy
  have hy1 := okA_mono hy.1
  obtain ⟨p, ps, h1, h2, h3⟩ := toPyA_any hy1 hx
  obtain ⟨q, h4, h5, h6⟩ := ok_py _ x hx
  obtain ⟨qs, h7, h8, h9⟩ := okA_py _ ys hy.1
  rw [h1] at h4; cases h4
  rw [h2] at h7; cases h7
  have s1 : SeqAt.shaped p = true := by simp [SeqAt.shaped, h5]; omega
  have s2 : SeqAt.shaped (.tuple ps) = true := by simp [SeqAt.shaped, PyData.canLay0, PyData.depth, h8]; omega
  unfold dIn
  cases x <;> simp only [h1, h2, s1, s2, and_self, true_and, h3]
end Tr
set_option Elab.async false
set_option linter.all false
set_option maxRecDepth 100000
set_option maxHeartbeats 2000000
namespace Tr
open PySem PySem.Spec PyProof.Rows L2 RZ LamX
/-! ### the rule of t(lambda: e), by what is known of t -/
structure TryI (P : Program) (wd : World) (K : PySem.W.Frag) (mg : Str → Option Value) (base : Heap) (x : Str) (k : Nat) (Cs : List Addr) (bs : Addr → Addr → Option Addr → ST) : Prop where
  ex : ∃ (ask en sk mi : Str) (st b0 : Stmt) (suite : List Stmt) (g : Addr) (fd : FuncData) (CS CM : Addr) (q1 q2 q3 q4 q5 q6 q7 q8 q9 qa : Pos) (j1 j2 j3 : Nat),
    Fun K x x st g fd ∧ mg x = some (.ref g) ∧ FnScope [ask, en] [ask] (defScope st) ∧ ask ≠ en ∧ Vis (defScope st) ask ∧ (defScope st).names.lookup en = some .local ∧
    defBody st = [.Try [.Return (some (.Tuple [.Constant (.str "told") j1 q1, .Call (.Name ask q2) [] [] q3] j2 q4)) q5] [.ExceptHandler (some (.Tuple [.Name sk q6, .Name mi q7] j3 q8)) (some en) (b0 :: suite) q9] [] [] qa] ∧
    (∀ (kV doc pm : Value) (an : Option Addr) (cdv ct : Value) (us : List Value), us.length = 1 → bindArgs (PySem.W.fnOf x x (defArgs st) (defBody st) (defScope st) .none kV doc pm an cdv ct) ⟨us, []⟩ = pure ([ask].zip us)) ∧
    ((defScope st).names.lookup sk = some .globalImplicit ∧ mg sk = some (.ref CS) ∧ (sk == ("__debug__" : Str)) = false) ∧ ((defScope st).names.lookup mi = some .globalImplicit ∧ mg mi = some (.ref CM) ∧ (mi == ("__debug__" : Str)) = false) ∧
    (∀ C, C ∈ Cs → PySem.W.exmAny K (.ref C) [.ref CS, .ref CM] = some true) ∧
    (∀ (A : Around) (outer : List PySem.Env) (Ex : KX) (Ee : XK) (Hz : Hp) (cdv : Value) (s : Shared) (H : Hp) (a : Addr) (oe : Obj) (C : Addr) (d : Option Addr) (pn : List (Addr × Obj)), C ∈ Cs → oe.cls = .ref C → oe.dict = d → (∃ vs, oe.data = .fields vs ∧ vs[2]? = some .none) → Room (k + 1) (A.deeper (envOfC x (defScope st) s.heap.objs.size g cdv)) →
      PSs ((cxOf CX0 P wd K mg base [ask, en] x (defScope st) g cdv A outer s H E0).nox.suite a ((a, oe) :: pn)) (b0 :: suite) (LS ⟨K, Ex, Ee, Hz⟩ (bs a C d))) ∧
    (ask == ("__debug__" : Str)) = false ∧ (ask == ("__classdict__" : Str)) = false
theorem te_tryI {Ex : KX} {Ee : XK} {Hz : Hp} {X : Cx} {x : Str} {c Pt : Addr} {n0 k : Nat} {Cs : List Addr} {bs : Addr → Addr → Option Addr → ST} {tb : KX → ET} {params : Arguments} {body : Expr} {scope : Scope} {p lpos pos : Pos}
    (TY : TryI X.prog X.w X.K X.mg X.base x k Cs bs) (B : TabB X.base X.mg c Pt) (hcode : X.env.code = .ref c) (hr : Room (k + 2) X.A) (L : LamS X.env.scope scope) (hdef : defaultsOf params X.env = ([], []))
    (bnd : ∀ (q : Str) (cl : List (Str × Addr)) (pm cv ctv : Value), bindArgs (PySem.W.kla_fn "<lambda>" q params body scope cl pm cv ctv) ⟨[], []⟩ = pure [])
    (hbody : ∀ (Ex : KX) (Hz : Hp) (A : Around) (outer : List PySem.Env) (s : Shared) (H : Hp) (E : XK) (f c' : Addr), Room k (A.deeper (lamEnv X scope s.heap.objs.size f c')) → PE (lamN X A outer s H E scope f c') body (LE ⟨X.K, Ex, E, Hz⟩ (tb Ex)))
    (hg : Gl X x) (hdb : (x == ("__debug__" : Str)) = false := by decide) : PE X (.Call (.Name x p) [.Lambda params body scope lpos] [] pos) (LE ⟨X.K, Ex, Ee, Hz⟩ (eTry n0 Pt (lamQ X) Cs bs tb)) := by
  obtain ⟨ask, en, sk, mi, st, b0, suite, g, fd, CS, CM, q1, q2, q3, q4, q5, q6, q7, q8, q9, qa, j1, j2, j3, F, hm, S, hne, hva, hve, shape, bt, hsk, hmi, hT, hs, had, hac⟩ := TY.ex
  exact te_try F hm S hne hva hve shape bt hsk hmi hT (hs X.A X.stack) B hcode hr L hdef bnd hbody hg hdb had hac
end Tr
set_option Elab.async false
set_option linter.all false
set_option maxRecDepth 100000
namespace Tr
open PySem PySem.Spec PyProof.Rows L2 RZ LamX
theorem Sn.fxi {P : Program} {wd : World} {K : PySem.W.Frag} {mg : Str → Option Value} {base : Heap} {x : Str} {st : Stmt} {k : Nat} {ps : List Str} {sp : RAX} (S : Sn K mg x st) (h : ∀ f fd, Fun K x x st f fd → FnX P wd K mg base k f fd ps sp)
    (hb : ∀ (kV doc pm : Value) (an : Option Addr) (cdv ct : Value) (us : List Value), us.length = ps.length → bindArgs (PySem.W.fnOf x x (defArgs st) (defBody st) (defScope st) .none kV doc pm an cdv ct) ⟨us, []⟩ = pure (ps.zip us)) : FxI P wd K mg base x st k ps sp := by
  obtain ⟨f, fd, hm, F⟩ := S
  exact ⟨f, fd, h f fd F, hm, F, F.binds hb⟩
theorem Sn.fpi {P : Program} {wd : World} {K : PySem.W.Frag} {mg : Str → Option Value} {base : Heap} {x : Str} {st : Stmt} {k : Nat} {ps : List Str} {sp : Addr → Addr → Option Addr → RAD} (S : Sn K mg x st) (h : ∀ f fd, Fun K x x st f fd → FnP P wd K mg base k f fd ps sp)
    (hb : ∀ (kV doc pm : Value) (an : Option Addr) (cdv ct : Value) (us : List Value), us.length = ps.length → bindArgs (PySem.W.fnOf x x (defArgs st) (defBody st) (defScope st) .none kV doc pm an cdv ct) ⟨us, []⟩ = pure (ps.zip us)) : FpI P wd K mg base x st k ps sp := by
  obtain ⟨f, fd, hm, F⟩ := S
  exact ⟨f, fd, h f fd F, hm, F, F.binds hb⟩
/-- a def whose code object is known -/
theorem fn_ok_cd {P : Program} {wd : World} {K : PySem.W.Frag} {mg : Str → Option Value} {base : Heap} {x qual : Str} {st : Stmt} {p : Str × Option Str} {fd : FuncData} {N ps : List Str} {k : Nat} {sp : RAD} {t : ST} (F : Fun K x qual st (He.fAd K p) fd) (S : FnScope N ps (defScope st))
    (hb : ∀ (Ex : KX) (Ee : XK) (Hz : Hp) (cdv : Value) (A : Around) (outer : List PySem.Env) (s : Shared) (H : Hp) (E : XK), cdv = .ref (He.codeOf K p) → Room k (A.deeper (envOfC qual (defScope st) s.heap.objs.size (He.fAd K p) cdv)) →
      PSs (cxOf CX0 P wd K mg base N qual (defScope st) (He.fAd K p) cdv A outer s H E).nox (defBody st) (LS ⟨K, Ex, Ee, Hz⟩ t))
    (len : ∀ ds μ Pd, sp ds μ Pd → ds.length = ps.length) (hs : ∀ ds μ Pd, sp ds μ Pd → t { nx := fun _ μ' => Pd .non μ', rt := Pd } (startD N ds) μ) : FnD P wd K mg base (k + 1) (He.fAd K p) fd ps sp := by
  obtain ⟨oc, od, kV, doc, pm, an, cdv, ct, osl, rfl, lk, hcd⟩ := F.ex
  obtain ⟨c, rfl⟩ := He.codeIn_ref hcd
  have hc : Value.ref c = .ref (He.codeOf K p) := by rw [He.codeOf_eq lk rfl]
  refine fn_of lk hcd S (fun vs H Q E h => ?_) fun A outer s H vs Q E hr h => ?_
  · obtain ⟨Ex, Ee, Hz, w, ds, Pd, g, r, q, f⟩ := h
    rw [r.length]
    exact len ds _ Pd q
  · obtain ⟨Ex, Ee, Hz, w, ds, Pd, g, r, q, f⟩ := h
    refine ⟨_, (hb Ex Ee Hz _ A outer s H E hc hr).nox, w, startD N ds, _, g, envR_start r, hs ds _ Pd q, ?_⟩
    exact ⟨fun ρ' σ' w' H' e g' er' p => f .non .non w' H' e g' rfl p, f, fun _ _ _ _ _ _ _ p => p.elim, fun _ _ _ _ _ _ _ p => p.elim⟩
/-- the law is walked: the table of its code object is tracked -/
theorem law_sp1 {K : PySem.W.Frag} {sp : RAD} {H : Hp} {a Pt : Addr} {q : Str} {ns : List Int} (hsp : ∀ P, (∀ μ', P (.bl true) μ') → sp [.fz (ns.map D.int)] [some (.tbl Pt q)] P) (hK : K.lookup Pt = none) (hT : H Pt = some (.tbl #[])) (hS : SqL K H a (ns.map V.int)) :
    SpOf K sp [.ref a] H (fun v _ => v = .bl true) fun _ _ _ => False := by
  refine ⟨fun _ _ _ _ => False, fun _ _ _ => False, H, ⟨[Pt], [some (.tbl Pt q)], []⟩, [.fz (ns.map D.int)], fun d _ => d = .bl true, Gd0.full ?g, script_rp ?l hS, hsp _ fun _ => rfl, fun d v w' H' _ _ r e => ?_⟩
  case g =>
    refine ⟨rfl, by simp, fun b hb => ?_, fun b _ hb => (nomatch hb), fun n b c h1 h2 => ?_⟩
    · have hb : b ∈ [Pt] := by simpa using hb
      rw [List.mem_singleton.mp hb, hT]
      exact fun z => nomatch z
    · cases n with
      | zero =>
        cases h1
        cases h2
        exact ⟨rfl, #[], hT, trivial, fun pos cv z => by cases z⟩
      | succ n => simp at h1
  case l =>
    rintro (⟨n, c, h1, h2⟩ | h)
    · cases n with
      | zero =>
        cases h1
        rcases hS with (h | ⟨o, h⟩) | ⟨o, its, n, h, _⟩
        · rw [hT] at h; cases h
        · rw [hT] at h; cases h
        · rw [hK] at h; cases h
      | succ n => simp at h1
    · cases h
  · subst e
    exact r
/-! ### what is read off the top -/
def clsC (K : PySem.W.Frag) (bm : List Value) (newId : String) (p : Str × List Str) : Bool :=
  PySem.W.excInitIn K (He.ga K p.1) bm newId && (PySem.W.excOver K (He.ga K p.1) bm && (PySem.W.hasDictIn K (He.ga K p.1) && (He.eqO (PySem.W.findIn K (.ref (He.ga K p.1)) "__setattr__") (some (some (.builtin "object.__setattr__"))) &&
  (decide (PySem.W.subIn K (.ref (He.ga K p.1)) (.type "BaseException") = some true) && (decide (PySem.W.typeIn K (.ref (He.ga K p.1)) = some (.type "type")) && (PySem.W.keepIn K (.ref (He.ga K p.1)) &&
  (He.eqO (PySem.W.findIn K (.ref (He.ga K p.1)) "__init__") (some (some (.ref (He.ma K (He.ga K p.1) "__init__")))) && (decide (PySem.W.typeIn K (.ref (He.ma K (He.ga K p.1) "__init__")) = some (.type "function")) &&
  (xfB K (He.ga K p.1) && ((("code" : Str) :: p.2)).all fun f => He.eqO (PySem.W.findIn K (.ref (He.ga K p.1)) f) (some none))))))))))
theorem ba2 {a b : Bool} (h : (a && b) = true) : a = true ∧ b = true := Bool.and_eq_true_iff.mp h
structure ClsF (K : PySem.W.Frag) (bm : List Value) (newId : String) (p : Str × List Str) : Prop where
  ini : PySem.W.excInitIn K (He.ga K p.1) bm newId = true
  ov : PySem.W.excOver K (He.ga K p.1) bm = true
  hd : PySem.W.hasDictIn K (He.ga K p.1) = true
  sa : PySem.W.findIn K (.ref (He.ga K p.1)) "__setattr__" = some (some (.builtin "object.__setattr__"))
  exC : PySem.W.subIn K (.ref (He.ga K p.1)) (.type "BaseException") = some true
  tyC : PySem.W.typeIn K (.ref (He.ga K p.1)) = some (.type "type")
  kC : PySem.W.keepIn K (.ref (He.ga K p.1)) = true
  iC : PySem.W.findIn K (.ref (He.ga K p.1)) "__init__" = some (some (.ref (He.ma K (He.ga K p.1) "__init__")))
  tI : PySem.W.typeIn K (.ref (He.ma K (He.ga K p.1) "__init__")) = some (.type "function")
  xf : XfC K (He.ga K p.1)
  no : ∀ f, f ∈ (("code" : Str) :: p.2) → PySem.W.findIn K (.ref (He.ga K p.1)) f = some none
theorem clsF {K : PySem.W.Frag} {bm : List Value} {newId : String} {p : Str × List Str} (h : clsC K bm newId p = true) : ClsF K bm newId p := by
  unfold clsC at h
  obtain ⟨h1, h⟩ := ba2 h
  obtain ⟨h2, h⟩ := ba2 h
  obtain ⟨h3, h⟩ := ba2 h
  obtain ⟨h4, h⟩ := ba2 h
  obtain ⟨h5, h⟩ := ba2 h
  obtain ⟨h6, h⟩ := ba2 h
  obtain ⟨h7, h⟩ := ba2 h
  obtain ⟨h8, h⟩ := ba2 h
  obtain ⟨h9, h⟩ := ba2 h
  obtain ⟨h10, h⟩ := ba2 h
  exact ⟨h1, h2, h3, He.eqO_ok h4, of_decide_eq_true h5, of_decide_eq_true h6, h7, He.eqO_ok h8, of_decide_eq_true h9, xfB_ok h10, fun f hf => He.eqO_ok (List.all_eq_true.mp h f hf)⟩
theorem ClsF.fd {K : PySem.W.Frag} {bm : List Value} {newId : String} {p : Str × List Str} {f : Str} (F : ClsF K bm newId p) (h : f ∈ (("code" : Str) :: p.2)) : XfC K (He.ga K p.1) ∧ PySem.W.findIn K (.ref (He.ga K p.1)) f = some none := ⟨F.xf, F.no f h⟩
theorem fun_of {K : PySem.W.Frag} {x qual : Str} {st : Stmt} {f : Addr} {fd : FuncData} (F : FunD K x qual (defArgs st) (defBody st) (defScope st) [] [] f fd) : Fun K x qual st f fd := by
  obtain ⟨oc, od, dV, kV, doc, pm, an, cdv, ct, osl, h1, h2, h3, h4, _⟩ := F.ex
  rcases h4 with ⟨_, h4⟩ | ⟨h4, _⟩
  · subst h4
    exact ⟨⟨oc, od, kV, doc, pm, an, cdv, ct, osl, h1, h2, h3⟩, F.kp⟩
  · exact absurd rfl h4
theorem xc_of {K : PySem.W.Frag} {bm : List Value} {newId initId B : String} {p : Str × List Str} (C : ClsF K bm newId p) (F : ExcBaseFacts B newId initId bm) (SF : StoreFacts B bm "object.__setattr__" "object") : ExC K (He.ga K p.1) B newId initId bm :=
  ⟨F, SF, C.ini, C.ov, C.hd, C.sa, C.exC, C.tyC, C.kC⟩
theorem sn_of {fa : List He.Fa} {fn : List He.DefD} {ts : List He.Tab} {tf : List He.Defn} {ex : PySem.W.Frag → Bool} {K : PySem.W.Frag} {h : Heap} {mg : Str → Option Value} {w : World} (X : K.In h) (G : h.Ns mainGlobals mg) (c : He.SaysX fa fn ts tf ex w h K) {x : Str} {st : Stmt} (i j : Nat) (hi : fn[i]? = some ⟨(x, none), x, x, defArgs st, defBody st, defScope st, [], []⟩) (hj : fa[j]? = some (.glo x)) : Sn K mg x st := by
  obtain ⟨fd, F0⟩ := c.t.d.def_ i hi
  exact ⟨_, fd, He.glo_ok X G (c.t.d.fact j hj), fun_of F0⟩
def tailV : List Value := [.type "ValueError", .type "Exception", .type "BaseException", .type "object"]
def tailL : List Value := [.type "LookupError", .type "Exception", .type "BaseException", .type "object"]
def tailI : List Value := [.type "IndexError", .type "LookupError", .type "Exception", .type "BaseException", .type "object"]
/-- a tuple of the module -/
def tupD (K : PySem.W.Frag) (x : Str) (vs : List He.Dv) : Bool := He.eqO (PySem.W.nsIn K mainGlobals x) (some (some (.ref (He.ga K x)))) && (He.tupB K x vs && (match K.lookup (He.ga K x) with
  | some ⟨.type c, none, _, _⟩ => decide (c = "tuple")
  | _ => false))
theorem tupG_of {K : PySem.W.Frag} {h : Heap} {mg : Str → Option Value} {x : Str} {vs : List He.Dv} {ds : List D} (X : K.In h) (G : h.Ns mainGlobals mg) (c : tupD K x vs = true) (e : flatA ds = some (vs.map (He.Dv.v K))) : TupG K mg x ds := by
  obtain ⟨c1, c2⟩ := ba2 c
  obtain ⟨c2, c3⟩ := ba2 c2
  refine ⟨He.ga K x, _, PySem.W.mg_of X G (He.eqO_ok c1), kt_of c2, e, ?_⟩
  split at c3
  · rename_i q
    exact ⟨_, q, by rw [of_decide_eq_true c3], rfl⟩
  · cases c3
/-- a def called with the handled exception, of one of these classes -/
theorem fnp_okC {P : Program} {wd : World} {K : PySem.W.Frag} {mg : Str → Option Value} {base : Heap} {x qual : Str} {st : Stmt} {f : Addr} {fd : FuncData} {N ps : List Str} {k : Nat} {sp : Addr → Addr → Option Addr → RAD} {t : Addr → Addr → Option Addr → ST} {Cs : List Addr} (F : Fun K x qual st f fd) (S : FnScope N ps (defScope st))
    (hb : ∀ (Ex : KX) (Ee : XK) (Hz : Hp) (p : Addr × Obj) (C : Addr) (cdv : Value) (A : Around) (outer : List PySem.Env) (s : Shared) (H : Hp), p.2.cls = .ref C → (∃ fs, p.2.data = .fields fs) → C ∈ Cs → L2H.RoomH k (A.deeper (envOfC qual (defScope st) s.heap.objs.size f cdv)) →
      PSs (L2H.cxH CX0 P wd K mg base N qual (defScope st) f cdv A outer s H E0 p) (defBody st) (LS ⟨K, Ex, Ee, Hz⟩ (t p.1 C p.2.dict)))
    (len : ∀ a C d ds μ Pd, sp a C d ds μ Pd → ds.length = ps.length) (hC : ∀ a C d ds μ Pd, sp a C d ds μ Pd → C ∈ Cs) (hs : ∀ a C d ds μ Pd, sp a C d ds μ Pd → t a C d { nx := fun _ μ' => Pd .non μ', rt := Pd } (startD N ds) μ) : FnP P wd K mg base (k + 1) f fd ps sp :=
  fnp_ok (t := fun a C d DD ρ μ => C ∈ Cs ∧ t a C d DD ρ μ) F S (fun Ex Ee Hz p C cdv A outer s H h1 h2 hr => ⟨fun pins s' σ H' D I ⟨w, ρ, DD, g, er, ⟨hc, tt⟩, fn⟩ =>
    (hb Ex Ee Hz p C cdv A outer s H h1 h2 hc hr).run pins s' σ H' D I ⟨w, ρ, DD, g, er, tt, fn⟩⟩) len fun a C d ds μ Pd h => ⟨hC a C d ds μ Pd h, hs a C d ds μ Pd h⟩
end Tr
set_option Elab.async false
set_option linter.all false
set_option maxRecDepth 100000
namespace W02
open PySem PySem.Spec PyProof.Rows L2 RZ LamX Tr
def i_DIRECTIONS : List Str := ["stay", "north", "east", "south", "west"]
abbrev t_DIRECTIONS : List D := i_DIRECTIONS.map D.str
abbrev t_ROW_MOVES : List D := [.int (0), .int (-1), .int (0), .int (1), .int (0)]
abbrev t_COLUMN_MOVES : List D := [.int (0), .int (0), .int (1), .int (0), .int (-1)]
/-! ### what each def promises -/
def isNum (d : D) (lo hi : Int) : Bool := match d with
  | .int i => decide (lo ≤ i) && decide (i ≤ hi)
  | _ => false
def isToll : D → Bool
  | .non => true
  | d => isNum d 0 99
def isWind : D → Bool
  | .tup xs => decide (xs.length = 5) && xs.all isToll
  | _ => false
def dirOf : D → Option Nat
  | .str z => firstAt z i_DIRECTIONS
  | _ => none
def rowM (i : Nat) : Int := [0, -1, 0, 1, 0].getD i 0
def colM (i : Nat) : Int := [0, 0, 1, 0, -1].getD i 0
def sp_is_number : RAD := fun ds μ P => ∃ v lo hi, ds = [v, .int lo, .int hi] ∧ ok 3 v = true ∧ P (.bl (isNum v lo hi)) μ
def sp_is_toll : RAD := fun ds μ P => ∃ v, ds = [v] ∧ ok 3 v = true ∧ P (.bl (isNum v 0 99)) μ
def sp_is_wind : RAD := fun ds μ P => ∃ v, ds = [v] ∧ ok 3 v = true ∧ P (.bl (isWind v)) μ
def sp_moved_cell (IM : Addr) : RAX := fun ds μ P Ex => ∃ (r c : Int) (d : D), ds = [.tup [.int r, .int c], d] ∧ ok 3 d = true ∧ match dirOf d with
  | some i => P (.tup [.int (r + rowM i), .int (c + colM i)]) μ
  | none => Ex IM ["code", "value"] [.str "InvalidMirror", d] μ
def sp_field (IM a C : Addr) (d : Option Addr) : RAD := fun ds μ P => ∃ x, ds = [.hx a C d ["code", "value"] [.str "InvalidMirror", x]] ∧ C ∈ [IM] ∧ P (.tup [x]) μ
def spDraws (C : D → Prop) : RAD := fun ds μ P => ∃ n, ds = [.loc n] ∧ BagAt μ n ∧ ∀ d μ', C d → Dr n μ μ' → P d μ'
def sp_gust : RAD := spDraws fun d => ∃ xs, d = .tup xs ∧ xs.length = 5 ∧ xs.all isToll = true
def mvL : List (Int × Int) := [(0, 0), (-1, 0), (0, 1), (1, 0), (0, -1)]
def sp_moves : RAD := fun ds μ P => ds = [] ∧ P (.lst (mvL.map fun p => .tup [.int p.1, .int p.2])) μ
def sp_is_gust : RAD := sp_is_wind
def sp_words : RAD := fun ds μ P => ds = [] ∧ P (.lst t_DIRECTIONS) μ
def lq : Str := "law.<locals>.<lambda>"
def sp_law (Pt : Addr) : RAD := fun ds μ P => ∃ ns : List Int, ds = [.fz (ns.map D.int)] ∧ ns.length ≤ 63 ∧ μ = [some (.tbl Pt lq)] ∧ ∀ μ', P (.bl true) μ'
/-- the suite of the handler -/
def b_suite (IM a C : Addr) (d : Option Addr) : ST := sRet (eOp dAdd (eTup (aCons (eC (.str "no")) (aCons (eHx a C d "code" (eVar 1)) aNil))) (eCall (sp_field IM a C d) (aCons (eVar 1) aNil)))
/-! ### the text by places -/
def topS (i : Nat) : Stmt := PySem.Challenge.pw_highestsky_k02_winds_and_directions.main.body.getD i (.Pass ⟨0, 0, 0, 0⟩)
abbrev s_InvalidMirror : Stmt := inClass (topS 3) 0
abbrev s_try : Stmt := topS 20
abbrev CsA (IM : Addr) : List Addr := [IM]
structure Txt (K : PySem.W.Frag) (mg : Str → Option Value) (IM : Addr) : Prop where
  n_all : mg "all" = none
  n_bool : mg "bool" = none
  n_int : mg "int" = none
  n_isinstance : mg "isinstance" = none
  n_len : mg "len" = none
  n_list : mg "list" = none
  n_range : mg "range" = none
  n_str : mg "str" = none
  n_tuple : mg "tuple" = none
  n_zip : mg "zip" = none
  c_MOST_TOLL : ∃ t, mg "MOST_TOLL" = some (.int 99 t)
  t_DIRECTIONS : TupG K mg "DIRECTIONS" t_DIRECTIONS
  t_ROW_MOVES : TupG K mg "ROW_MOVES" t_ROW_MOVES
  t_COLUMN_MOVES : TupG K mg "COLUMN_MOVES" t_COLUMN_MOVES
  fd_code : XfdC K "code" (CsA IM)
  fd_row : XfdC K "row" (CsA IM)
  fd_column : XfdC K "column" (CsA IM)
  fd_line : XfdC K "line" (CsA IM)
  fd_why : XfdC K "why" (CsA IM)
  fd_at : XfdC K "at" (CsA IM)
  fd_most : XfdC K "most" (CsA IM)
  fd_value : XfdC K "value" (CsA IM)
structure Xns (P : Program) (wd : World) (K : PySem.W.Frag) (mg : Str → Option Value) (base : Heap) (IM : Addr) : Prop where
  x_InvalidMirror : XnI P wd K mg base "InvalidMirror" IM s_InvalidMirror 1 ["value"] "InvalidMirror"
section
variable {P : Program} {wd : World} {K : PySem.W.Frag} {mg : Str → Option Value} {base : Heap}

abbrev s_is_number : Stmt := topS 6
def n_is_number : List Str := ["value", "least", "most"]
theorem sc_is_number : FnScope ["value", "least", "most"] ["value", "least", "most"] (defScope s_is_number) := ⟨rfl, rfl, rfl, by decide +kernel, rfl, by decide +kernel, by decide +kernel⟩
def b_is_number (IM : Addr)   : ST :=
  (sRet (eAnd (eCall dIsi (aCons (eVar 0) (aCons (eC (.ty "int")) aNil))) (eAnd (eNot (eCall dIsi (aCons (eVar 0) (aCons (eC (.ty "bool")) aNil)))) (eChain dLe dLe (eVar 1) (eVar 0) (eVar 2)))))
theorem pb_is_number (IM : Addr) {fa : Addr} (T : Txt K mg IM) (XX : Xns P wd K mg base IM)   (Ex : KX) (Ee : XK) (Hz : Hp)
    (cdv : Value) (A : Around) (outer : List PySem.Env) (s : Shared) (H : Hp) (E : XK)  (hr : Room (0) (A.deeper (envOfC "is_number" (defScope s_is_number) s.heap.objs.size fa cdv))) :
    PSs (cxOf CX0 P wd K mg base ["value", "least", "most"] "is_number" (defScope s_is_number) fa cdv A outer s H E).nox (defBody s_is_number) (LS ⟨K, Ex, Ee, Hz⟩ (b_is_number IM)) :=
  (ss_one (ss_ret (te_and (te_callB call_isiA cd_isi (by rfl) T.n_isinstance (by decide +kernel) (ta_cons (te_var (pv 0)) (ta_cons (te_ty (by rfl) T.n_int (by decide +kernel)) ta_nil))) (te_and (te_not (te_callB call_isiA cd_isi (by rfl) T.n_isinstance (by decide +kernel) (ta_cons (te_var (pv 0)) (ta_cons (te_ty (by rfl) T.n_bool (by decide +kernel)) ta_nil)))) (te_one (te_chain op_leA od_le op_leA od_le (te_var (pv 1)) (te_var (pv 0)) (te_var (pv 2))))))))
abbrev s_is_toll : Stmt := topS 11
def n_is_toll : List Str := ["value"]
theorem sc_is_toll : FnScope ["value"] ["value"] (defScope s_is_toll) := ⟨rfl, rfl, rfl, by decide +kernel, rfl, by decide +kernel, by decide +kernel⟩
def b_is_toll (IM : Addr)   : ST :=
  (sRet (eCall sp_is_number (aCons (eVar 0) (aCons (eC (.int 0)) (aCons (eC (.int 99)) aNil)))))
theorem pb_is_toll (IM : Addr) {fa : Addr} (T : Txt K mg IM) (XX : Xns P wd K mg base IM)  (G_is_number : FnI P wd K mg base "is_number" s_is_number 1 ["value", "least", "most"] sp_is_number) (Ex : KX) (Ee : XK) (Hz : Hp)
    (cdv : Value) (A : Around) (outer : List PySem.Env) (s : Shared) (H : Hp) (E : XK)  (hr : Room (1) (A.deeper (envOfC "is_toll" (defScope s_is_toll) s.heap.objs.size fa cdv))) :
    PSs (cxOf CX0 P wd K mg base ["value"] "is_toll" (defScope s_is_toll) fa cdv A outer s H E).nox (defBody s_is_toll) (LS ⟨K, Ex, Ee, Hz⟩ (b_is_toll IM)) :=
  (ss_one (ss_ret (te_fn G_is_number hr rfl (ta_cons (te_var (pv 0)) (ta_cons te_int (ta_cons (te_gint rfl T.c_MOST_TOLL) ta_nil))))))
abbrev s_is_wind : Stmt := topS 12
def n_is_wind : List Str := ["value", "toll"]
theorem sc_is_wind : FnScope ["value", "toll"] ["value"] (defScope s_is_wind) := ⟨rfl, rfl, rfl, by decide +kernel, rfl, by decide +kernel, by decide +kernel⟩
def b_is_wind (IM : Addr)   : ST :=
  (sSeq (sIf (bOr (bNot (bT (eCall dIsi (aCons (eVar 0) (aCons (eC (.ty "tuple")) aNil))))) (bB (eOp dNe (eCall dLen (aCons (eVar 0) aNil)) (eCall dLen (aCons (eC (.tup t_DIRECTIONS)) aNil)))))
  (sRet (eC (.bl false))) sNext)
  (sRet (eCall dAll (aCons (eComp (itAny (eVar 0)) (.nm 1) bYes (eOr (eOp dIs (eVar 1) (eC .non)) (eCall sp_is_toll (aCons (eVar 1) aNil))) [1]) aNil))))
theorem pb_is_wind (IM : Addr) {fa : Addr} (T : Txt K mg IM) (XX : Xns P wd K mg base IM)  (G_is_toll : FnI P wd K mg base "is_toll" s_is_toll 2 ["value"] sp_is_toll) (Ex : KX) (Ee : XK) (Hz : Hp)
    (cdv : Value) (A : Around) (outer : List PySem.Env) (s : Shared) (H : Hp) (E : XK)  (hr : Room (2) (A.deeper (envOfC "is_wind" (defScope s_is_wind) s.heap.objs.size fa cdv))) :
    PSs (cxOf CX0 P wd K mg base ["value", "toll"] "is_wind" (defScope s_is_wind) fa cdv A outer s H E).nox (defBody s_is_wind) (LS ⟨K, Ex, Ee, Hz⟩ (b_is_wind IM)) :=
  (ss_cons (ss_if (PW.pt (tw_or (tb_not (tb_truth (te_callB call_isiA cd_isi (by rfl) T.n_isinstance (by decide +kernel) (ta_cons (te_var (pv 0)) (ta_cons (te_ty (by rfl) T.n_tuple (by decide +kernel)) ta_nil))))) (tw_or1 (tb_cmp (op_neD (hu64 hr)) od_ne (te_callB call_len cd_len (by rfl) T.n_len (by decide +kernel) (ta_cons (te_var (pv 0)) ta_nil)) (te_callB call_len cd_len (by rfl) T.n_len (by decide +kernel) (ta_cons (te_gtup rfl T.t_DIRECTIONS) ta_nil)) (nomark _)))))
  (ss_one (ss_ret te_bl)) ss_nil)
  (ss_one (ss_ret (te_callB (cr_all rfl) cd_all (by rfl) T.n_all (by decide +kernel) (ta_cons (te_comp rfl sc_is_wind.nd (ti_any (te_var (pv 0))) (blkOk_by (own := [("toll", 1)]) (N := n_is_wind) (sc := defScope s_is_wind) (by decide +kernel)) (fun _ _ _ _ _ => (tg_nm (i := 1) sc_is_wind.nd rfl (Or.inl rfl))) (fun _ _ _ _ _ => tts_nil) (fun _ _ _ _ _ => (te_or (te_cmp op_isN od_is (te_var (pv 1)) te_non (nomark _)) (te_one (te_fn G_is_toll hr rfl (ta_cons (te_var (pv 1)) ta_nil))))) (by decide)) ta_nil)))))
abbrev s_moved_cell : Stmt := topS 13
def n_moved_cell : List Str := ["cell", "direction", "at", "row", "column"]
theorem sc_moved_cell : FnScope ["cell", "direction", "at", "row", "column"] ["cell", "direction"] (defScope s_moved_cell) := ⟨rfl, rfl, rfl, by decide +kernel, rfl, by decide +kernel, by decide +kernel⟩
def b_moved_cell (IM : Addr) (Ex : KX)  : ST :=
  (sSeq (sIf (bB (eOp dNotIn (eVar 1) (eC (.tup t_DIRECTIONS))))
  (sRaise Ex IM ["value"] "InvalidMirror" (aCons (eVar 1) aNil)) sNext)
  (sSeq (sSet 2 (eTIx i_DIRECTIONS (eVar 1)))
  (sSeq (sAsg (.tp [(.nm 3), (.nm 4)]) (eVar 0))
  (sRet (eTup (aCons (eOp dAdd (eVar 3) (eOp dIx (eC (.tup t_ROW_MOVES)) (eVar 2))) (aCons (eOp dAdd (eVar 4) (eOp dIx (eC (.tup t_COLUMN_MOVES)) (eVar 2))) aNil)))))))
theorem pb_moved_cell (IM : Addr) {fa : Addr} (T : Txt K mg IM) (XX : Xns P wd K mg base IM)   (Ex : KX)
    (cdv : Value) (A : Around) (outer : List PySem.Env) (s : Shared) (H : Hp) (E : XK) (hr : Room (2) (A.deeper (envOfC "moved_cell" (defScope s_moved_cell) s.heap.objs.size fa cdv))) :
    PSs (cxOf (L2N.CX P wd) P wd K mg base ["cell", "direction", "at", "row", "column"] "moved_cell" (defScope s_moved_cell) fa cdv A outer s H E) (defBody s_moved_cell) (LS ⟨K, Ex, E, H⟩ (b_moved_cell IM Ex)) :=
  have tk := tk_cx (P := P) (wd := wd) (K := K) (mg := mg) (base := base) (N := ["cell", "direction", "at", "row", "column"]) (qual := "moved_cell") (scope := defScope s_moved_cell) (f := fa) (cd := cdv) (A := A) (outer := outer) (s := s) (H := H) (E := E)
  (ss_cons (ss_if (tb_cmp (op_notInA (hu65 hr)) od_notin (te_var (pv 1)) (te_gtup rfl T.t_DIRECTIONS) (by rfl))
  (ss_one (ss_raise XX.x_InvalidMirror tk hr rfl (ta_cons (te_var (pv 1)) ta_nil))) ss_nil)
  (ss_cons (ss_set (i := 2) sc_moved_cell.nd rfl (Or.inl rfl) (te_tindex rfl T.t_DIRECTIONS (te_var (pv 1))))
  (ss_cons (ss_asg (te_var (pv 0)) (tg_tp rfl (tgs_cons (tg_nm (i := 3) sc_moved_cell.nd rfl (Or.inl rfl)) (tgs_cons (tg_nm (i := 4) sc_moved_cell.nd rfl (Or.inl rfl)) tgs_nil))))
  (ss_one (ss_ret (te_tup (ta_cons (te_op op_addA od_add (te_var (pv 3)) (te_ix (te_gtup rfl T.t_ROW_MOVES) (te_var (pv 2)) (fun _ _ => rfl))) (ta_cons (te_op op_addA od_add (te_var (pv 4)) (te_ix (te_gtup rfl T.t_COLUMN_MOVES) (te_var (pv 2)) (fun _ _ => rfl))) ta_nil))))))))
abbrev s_bag : Stmt := topS 15
def n_bag : List Str := ["_law_script", "_law_cells_z", "_law_mark", "_law_cell_z"]
theorem sc_bag : FnScope ["_law_script", "_law_cells_z", "_law_mark", "_law_cell_z"] ["_law_script"] (defScope s_bag) := ⟨rfl, rfl, rfl, by decide +kernel, rfl, by decide +kernel, by decide +kernel⟩
def b_bag (IM : Addr)   : ST :=
  (sSeq (sSet 1 (eComp (itAny (eSl (eVar 0) oNo (oYes (eC (.int 63))))) (.nm 3) bYes (eCall dIntOf (aCons (eVar 3) aNil)) [3]))
  (sSeq (sSet 2 (eOp dAdd (eC (.int 120310)) (eOp dMul (eC (.int 61)) (eCall dLen (aCons (eVar 1) aNil)))))
  (sSeq (sFor (itAny (eVar 1)) (.nm 3)
  (sSet 2 (eOp dMod (eCall dIntOf (aCons (eOp dAdd (eOp dMul (eVar 2) (eC (.int 6947))) (eVar 3)) aNil)) (eC (.int 2147483423)))))
  (sRet (eLstL (aCons (eVar 1) (aCons (eC (.int 0)) (aCons (eC (.int 0)) (aCons (eVar 2) aNil)))))))))
theorem pb_bag (IM : Addr) {fa : Addr} (T : Txt K mg IM) (XX : Xns P wd K mg base IM)   (Ex : KX) (Ee : XK) (Hz : Hp)
    (cdv : Value) (A : Around) (outer : List PySem.Env) (s : Shared) (H : Hp) (E : XK)  (hr : Room (0) (A.deeper (envOfC "_law_bag" (defScope s_bag) s.heap.objs.size fa cdv))) :
    PSs (cxOf CX0 P wd K mg base ["_law_script", "_law_cells_z", "_law_mark", "_law_cell_z"] "_law_bag" (defScope s_bag) fa cdv A outer s H E).nox (defBody s_bag) (LS ⟨K, Ex, Ee, Hz⟩ (b_bag IM)) :=
  (ss_cons (ss_comp (i := 1) rfl sc_bag.nd rfl rfl (sw_true rfl rfl rfl (by decide +kernel)) (ti_any (te_sl (te_var (pv 0)) to_no (to_yes te_int))) (blkOk_by (own := [("_law_cell_z", 3)]) (N := n_bag) (sc := defScope s_bag) (by decide +kernel)) (fun _ _ _ _ _ => (tg_nm (i := 3) sc_bag.nd rfl (Or.inl rfl))) (fun _ _ _ _ _ => tts_nil) (fun _ _ _ _ _ => (te_callTy call_intA cd_int (by rfl) T.n_int (by decide +kernel) (ta_cons (te_var (pv 3)) ta_nil))) (by decide))
  (ss_cons (ss_set (i := 2) sc_bag.nd rfl (Or.inl rfl) (te_op op_addA od_add te_int (te_op op_mul od_mul te_int (te_callB call_len cd_len (by rfl) T.n_len (by decide +kernel) (ta_cons (te_var (pv 1)) ta_nil)))))
  (ss_cons (ss_for PassesOwn.never rfl (ti_any (te_var (pv 1))) (tg_nm (i := 3) sc_bag.nd rfl (Or.inl rfl))
  (ss_one (ss_set (i := 2) sc_bag.nd rfl (Or.inl rfl) (te_op op_mod od_mod (te_callTy call_intA cd_int (by rfl) T.n_int (by decide +kernel) (ta_cons (te_op op_addA od_add (te_op op_mul od_mul (te_var (pv 2)) te_int) (te_var (pv 3))) ta_nil)) te_int))))
  (ss_one (ss_ret (te_lstL (ta_cons (te_var (pv 1)) (ta_cons te_int (ta_cons te_int (ta_cons (te_var (pv 2)) ta_nil))))))))))
abbrev s_draw : Stmt := topS 16
def n_draw : List Str := ["_law_bag_here", "_law_many", "_law_cell_z", "_law_mixed", "_law_second", "_law_digit"]
theorem sc_draw : FnScope ["_law_bag_here", "_law_many", "_law_cell_z", "_law_mixed", "_law_second", "_law_digit"] ["_law_bag_here", "_law_many"] (defScope s_draw) := ⟨rfl, rfl, rfl, by decide +kernel, rfl, by decide +kernel, by decide +kernel⟩
def b_draw (IM : Addr)   : ST :=
  (sSeq (sIf (bB (eOp dLt (eOp dIx (eVar 0) (eC (.int 2))) (eC (.int 2))))
  (sSeq (sPut (eOp dAdd (eOp dIx (eVar 0) (eC (.int 1))) (eC (.int 1))) (eVar 0) (eC (.int 1)))
  (sSeq (sSet 2 (eOp dAdd (eOp dIx (eVar 0) (eC (.int 3))) (eOp dMul (eOp dIx (eVar 0) (eC (.int 1))) (eC (.int 9241)))))
  (sSeq (sIf (bB (eOp dLe (eOp dIx (eVar 0) (eC (.int 1))) (eCall dLen (aCons (eOp dIx (eVar 0) (eC (.int 0))) aNil))))
  (sSet 2 (eOp dIx (eOp dIx (eVar 0) (eC (.int 0))) (eOp dSub (eOp dIx (eVar 0) (eC (.int 1))) (eC (.int 1))))) sNext)
  (sSeq (sIf (bOr (bB (eOp dGt (eOp dIx (eVar 0) (eC (.int 1))) (eCall dLen (aCons (eOp dIx (eVar 0) (eC (.int 0))) aNil)))) (bB (eOp dLt (eVar 2) (eOp dPow (eC (.int 10)) (eC (.int 18))))))
  (sSeq (sSet 3 (eOp dMod (eCall dIntOf (aCons (eOp dAdd (eOp dAdd (eOp dMul (eVar 2) (eC (.int 43051))) (eOp dMul (eOp dIx (eVar 0) (eC (.int 1))) (eC (.int 39119)))) (eOp dIx (eVar 0) (eC (.int 3)))) aNil)) (eC (.int 2147483587))))
  (sSeq (sSet 4 (eOp dMod (eCall dIntOf (aCons (eOp dAdd (eOp dMul (eVar 3) (eVar 3)) (eOp dMul (eOp dIx (eVar 0) (eC (.int 1))) (eC (.int 60607)))) aNil)) (eC (.int 998244353))))
  (sRet (eOp dMod (eOp dFdiv (eOp dMod (eCall dIntOf (aCons (eOp dAdd (eOp dMul (eVar 4) (eC (.int 46819))) (eVar 3)) aNil)) (eC (.int 2147483549))) (eC (.int 23))) (eVar 1))))) sNext)
  (sPut (eVar 2) (eVar 0) (eC (.int 2))))))) sNext)
  (sSeq (sSet 5 (eOp dMod (eCall dIntOf (aCons (eOp dIx (eVar 0) (eC (.int 2))) aNil)) (eVar 1)))
  (sSeq (sPut (eOp dFdiv (eCall dIntOf (aCons (eOp dIx (eVar 0) (eC (.int 2))) aNil)) (eVar 1)) (eVar 0) (eC (.int 2)))
  (sRet (eVar 5)))))
theorem pb_draw (IM : Addr) {fa : Addr} (T : Txt K mg IM) (XX : Xns P wd K mg base IM)   (Ex : KX) (Ee : XK) (Hz : Hp)
    (cdv : Value) (A : Around) (outer : List PySem.Env) (s : Shared) (H : Hp) (E : XK)  (hr : Room (0) (A.deeper (envOfC "_law_draw" (defScope s_draw) s.heap.objs.size fa cdv))) :
    PSs (cxOf CX0 P wd K mg base ["_law_bag_here", "_law_many", "_law_cell_z", "_law_mixed", "_law_second", "_law_digit"] "_law_draw" (defScope s_draw) fa cdv A outer s H E).nox (defBody s_draw) (LS ⟨K, Ex, Ee, Hz⟩ (b_draw IM)) :=
  (ss_cons (ss_if (tb_cmp op_ltA od_lt (te_ix (te_var (pv 0)) te_int (fun _ _ => rfl)) te_int (nomark _))
  (ss_cons (ss_put (te_op op_addA od_add (te_ix (te_var (pv 0)) te_int (fun _ _ => rfl)) te_int) (te_var (pv 0)) te_int (pg_sub (te_var (pv 0)) te_int set_list))
  (ss_cons (ss_set (i := 2) sc_draw.nd rfl (Or.inl rfl) (te_op op_addA od_add (te_ix (te_var (pv 0)) te_int (fun _ _ => rfl)) (te_op op_mul od_mul (te_ix (te_var (pv 0)) te_int (fun _ _ => rfl)) te_int)))
  (ss_cons (ss_if (tb_cmp op_leA od_le (te_ix (te_var (pv 0)) te_int (fun _ _ => rfl)) (te_callB call_len cd_len (by rfl) T.n_len (by decide +kernel) (ta_cons (te_ix (te_var (pv 0)) te_int (fun _ _ => rfl)) ta_nil)) (nomark _))
  (ss_one (ss_set (i := 2) sc_draw.nd rfl (Or.inl rfl) (te_ix (te_ix (te_var (pv 0)) te_int (fun _ _ => rfl)) (te_op op_sub od_sub (te_ix (te_var (pv 0)) te_int (fun _ _ => rfl)) te_int) (fun _ _ => rfl)))) ss_nil)
  (ss_cons (ss_if (PW.pt (tw_or (tb_cmp op_gtA od_gt (te_ix (te_var (pv 0)) te_int (fun _ _ => rfl)) (te_callB call_len cd_len (by rfl) T.n_len (by decide +kernel) (ta_cons (te_ix (te_var (pv 0)) te_int (fun _ _ => rfl)) ta_nil)) (nomark _)) (tw_or1 (tb_cmp op_ltA od_lt (te_var (pv 2)) (te_op op_pow od_pow te_int te_int) (nomark _)))))
  (ss_cons (ss_set (i := 3) sc_draw.nd rfl (Or.inl rfl) (te_op op_mod od_mod (te_callTy call_intA cd_int (by rfl) T.n_int (by decide +kernel) (ta_cons (te_op op_addA od_add (te_op op_addA od_add (te_op op_mul od_mul (te_var (pv 2)) te_int) (te_op op_mul od_mul (te_ix (te_var (pv 0)) te_int (fun _ _ => rfl)) te_int)) (te_ix (te_var (pv 0)) te_int (fun _ _ => rfl))) ta_nil)) te_int))
  (ss_cons (ss_set (i := 4) sc_draw.nd rfl (Or.inl rfl) (te_op op_mod od_mod (te_callTy call_intA cd_int (by rfl) T.n_int (by decide +kernel) (ta_cons (te_op op_addA od_add (te_op op_mul od_mul (te_var (pv 3)) (te_var (pv 3))) (te_op op_mul od_mul (te_ix (te_var (pv 0)) te_int (fun _ _ => rfl)) te_int)) ta_nil)) te_int))
  (ss_one (ss_ret (te_op op_mod od_mod (te_op op_fdiv od_fdiv (te_op op_mod od_mod (te_callTy call_intA cd_int (by rfl) T.n_int (by decide +kernel) (ta_cons (te_op op_addA od_add (te_op op_mul od_mul (te_var (pv 4)) te_int) (te_var (pv 3))) ta_nil)) te_int) te_int) (te_var (pv 1))))))) ss_nil)
  (ss_one (ss_put (te_var (pv 2)) (te_var (pv 0)) te_int (pg_sub (te_var (pv 0)) te_int set_list))))))) ss_nil)
  (ss_cons (ss_set (i := 5) sc_draw.nd rfl (Or.inl rfl) (te_op op_mod od_mod (te_callTy call_intA cd_int (by rfl) T.n_int (by decide +kernel) (ta_cons (te_ix (te_var (pv 0)) te_int (fun _ _ => rfl)) ta_nil)) (te_var (pv 1))))
  (ss_cons (ss_put (te_op op_fdiv od_fdiv (te_callTy call_intA cd_int (by rfl) T.n_int (by decide +kernel) (ta_cons (te_ix (te_var (pv 0)) te_int (fun _ _ => rfl)) ta_nil)) (te_var (pv 1))) (te_var (pv 0)) te_int (pg_sub (te_var (pv 0)) te_int set_list))
  (ss_one (ss_ret (te_var (pv 5)))))))
abbrev s_pick : Stmt := topS 17
def n_pick : List Str := ["_law_bag_here", "_law_some"]
theorem sc_pick : FnScope ["_law_bag_here", "_law_some"] ["_law_bag_here", "_law_some"] (defScope s_pick) := ⟨rfl, rfl, rfl, by decide +kernel, rfl, by decide +kernel, by decide +kernel⟩
def b_pick (IM : Addr)   : ST :=
  (sRet (eOp dIx (eVar 1) (eCall sp_draw (aCons (eVar 0) (aCons (eCall dLen (aCons (eVar 1) aNil)) aNil)))))
theorem pb_pick (IM : Addr) {fa : Addr} (T : Txt K mg IM) (XX : Xns P wd K mg base IM)  (G_draw : FnI P wd K mg base "_law_draw" s_draw 1 ["_law_bag_here", "_law_many"] sp_draw) (Ex : KX) (Ee : XK) (Hz : Hp)
    (cdv : Value) (A : Around) (outer : List PySem.Env) (s : Shared) (H : Hp) (E : XK)  (hr : Room (1) (A.deeper (envOfC "_law_pick" (defScope s_pick) s.heap.objs.size fa cdv))) :
    PSs (cxOf CX0 P wd K mg base ["_law_bag_here", "_law_some"] "_law_pick" (defScope s_pick) fa cdv A outer s H E).nox (defBody s_pick) (LS ⟨K, Ex, Ee, Hz⟩ (b_pick IM)) :=
  (ss_one (ss_ret (te_ix (te_var (pv 1)) (te_fn G_draw hr rfl (ta_cons (te_var (pv 0)) (ta_cons (te_callB call_len cd_len (by rfl) T.n_len (by decide +kernel) (ta_cons (te_var (pv 1)) ta_nil)) ta_nil))) (fun _ _ => rfl))))
abbrev s_same : Stmt := topS 18
def n_same : List Str := ["_law_found", "_law_due", "_law_one", "_law_two"]
theorem sc_same : FnScope ["_law_found", "_law_due", "_law_one", "_law_two"] ["_law_found", "_law_due"] (defScope s_same) := ⟨rfl, rfl, rfl, by decide +kernel, rfl, by decide +kernel, by decide +kernel⟩
def b_same (IM : Addr) (n : Nat)   : ST :=
  (sSeq (sIf (bOr (bB (eOp dIs (eVar 1) (eC .non))) (bB (eOp dIs (eVar 0) (eC .non))))
  (sRet (eAnd (eOp dIs (eVar 1) (eC .non)) (eOp dIs (eVar 0) (eC .non)))) sNext)
  (sSeq (sIf (bOr (bT (eCall dIsi (aCons (eVar 1) (aCons (eTup (aCons (eC (.ty "list")) (aCons (eC (.ty "tuple")) aNil))) aNil)))) (bT (eCall dIsi (aCons (eVar 0) (aCons (eTup (aCons (eC (.ty "list")) (aCons (eC (.ty "tuple")) aNil))) aNil)))))
  (sSeq (sIf (bOr (bB (eOp dNe (eCall dIsi (aCons (eVar 1) (aCons (eC (.ty "list")) aNil))) (eCall dIsi (aCons (eVar 0) (aCons (eC (.ty "list")) aNil))))) (bB (eOp dNe (eCall dIsi (aCons (eVar 1) (aCons (eC (.ty "tuple")) aNil))) (eCall dIsi (aCons (eVar 0) (aCons (eC (.ty "tuple")) aNil))))))
  (sRet (eC (.bl false))) sNext)
  (sRet (eAnd (eOp dEq (eCall dLen (aCons (eVar 0) aNil)) (eCall dLen (aCons (eVar 1) aNil))) (eCall dAll (aCons (eComp (itZip (aCons (eVar 0) (aCons (eVar 1) aNil))) (.tp [(.nm 2), (.nm 3)]) bYes (eCall (sp_same n) (aCons (eVar 2) (aCons (eVar 3) aNil))) [2, 3]) aNil))))) sNext)
  (sSeq (sIf (bOr (bB (eOp dNe (eCall dIsi (aCons (eVar 1) (aCons (eC (.ty "bool")) aNil))) (eCall dIsi (aCons (eVar 0) (aCons (eC (.ty "bool")) aNil))))) (bB (eOp dNe (eCall dIsi (aCons (eVar 1) (aCons (eC (.ty "str")) aNil))) (eCall dIsi (aCons (eVar 0) (aCons (eC (.ty "str")) aNil))))))
  (sRet (eC (.bl false))) sNext)
  (sRet (eAnd (eOp dEq (eCall dIsi (aCons (eVar 1) (aCons (eC (.ty "int")) aNil))) (eCall dIsi (aCons (eVar 0) (aCons (eC (.ty "int")) aNil)))) (eOp dEq (eVar 0) (eVar 1)))))))
theorem pb_same (IM : Addr) (n : Nat) {fa : Addr} (T : Txt K mg IM) (XX : Xns P wd K mg base IM)  (G_same : FnI P wd K mg base "_law_same" s_same (n + 1) ["_law_found", "_law_due"] (sp_same n)) (Ex : KX) (Ee : XK) (Hz : Hp)
    (cdv : Value) (A : Around) (outer : List PySem.Env) (s : Shared) (H : Hp) (E : XK)  (hr : Room (n + 1) (A.deeper (envOfC "_law_same" (defScope s_same) s.heap.objs.size fa cdv))) :
    PSs (cxOf CX0 P wd K mg base ["_law_found", "_law_due", "_law_one", "_law_two"] "_law_same" (defScope s_same) fa cdv A outer s H E).nox (defBody s_same) (LS ⟨K, Ex, Ee, Hz⟩ (b_same IM n)) :=
  (ss_cons (ss_if (PW.pt (tw_or (tb_cmp op_isN od_is (te_var (pv 1)) te_non (nomark _)) (tw_or1 (tb_cmp op_isN od_is (te_var (pv 0)) te_non (nomark _)))))
  (ss_one (ss_ret (te_and (te_cmp op_isN od_is (te_var (pv 1)) te_non (nomark _)) (te_one (te_cmp op_isN od_is (te_var (pv 0)) te_non (nomark _)))))) ss_nil)
  (ss_cons (ss_if (PW.pt (tw_or (tb_truth (te_callB call_isiA cd_isi (by rfl) T.n_isinstance (by decide +kernel) (ta_cons (te_var (pv 1)) (ta_cons (te_tup (ta_cons (te_ty (by rfl) T.n_list (by decide +kernel)) (ta_cons (te_ty (by rfl) T.n_tuple (by decide +kernel)) ta_nil))) ta_nil)))) (tw_or1 (tb_truth (te_callB call_isiA cd_isi (by rfl) T.n_isinstance (by decide +kernel) (ta_cons (te_var (pv 0)) (ta_cons (te_tup (ta_cons (te_ty (by rfl) T.n_list (by decide +kernel)) (ta_cons (te_ty (by rfl) T.n_tuple (by decide +kernel)) ta_nil))) ta_nil)))))))
  (ss_cons (ss_if (PW.pt (tw_or (tb_cmp (op_neD (hu64 hr)) od_ne (te_callB call_isiA cd_isi (by rfl) T.n_isinstance (by decide +kernel) (ta_cons (te_var (pv 1)) (ta_cons (te_ty (by rfl) T.n_list (by decide +kernel)) ta_nil))) (te_callB call_isiA cd_isi (by rfl) T.n_isinstance (by decide +kernel) (ta_cons (te_var (pv 0)) (ta_cons (te_ty (by rfl) T.n_list (by decide +kernel)) ta_nil))) (nomark _)) (tw_or1 (tb_cmp (op_neD (hu64 hr)) od_ne (te_callB call_isiA cd_isi (by rfl) T.n_isinstance (by decide +kernel) (ta_cons (te_var (pv 1)) (ta_cons (te_ty (by rfl) T.n_tuple (by decide +kernel)) ta_nil))) (te_callB call_isiA cd_isi (by rfl) T.n_isinstance (by decide +kernel) (ta_cons (te_var (pv 0)) (ta_cons (te_ty (by rfl) T.n_tuple (by decide +kernel)) ta_nil))) (nomark _)))))
  (ss_one (ss_ret te_bl)) ss_nil)
  (ss_one (ss_ret (te_and (te_cmp (op_eqD (hu64 hr)) od_eq (te_callB call_len cd_len (by rfl) T.n_len (by decide +kernel) (ta_cons (te_var (pv 0)) ta_nil)) (te_callB call_len cd_len (by rfl) T.n_len (by decide +kernel) (ta_cons (te_var (pv 1)) ta_nil)) (nomark _)) (te_one (te_callB (cr_all rfl) cd_all (by rfl) T.n_all (by decide +kernel) (ta_cons (te_comp rfl sc_same.nd (ti_zip rfl T.n_zip (ta_cons (te_var (pv 0)) (ta_cons (te_var (pv 1)) ta_nil))) (blkOk_by (own := [("_law_one", 2), ("_law_two", 3)]) (N := n_same) (sc := defScope s_same) (by decide +kernel)) (fun _ _ _ _ _ => (tg_tp rfl (tgs_cons (tg_nm (i := 2) sc_same.nd rfl (Or.inl rfl)) (tgs_cons (tg_nm (i := 3) sc_same.nd rfl (Or.inl rfl)) tgs_nil)))) (fun _ _ _ _ _ => tts_nil) (fun _ _ _ _ _ => (te_fn G_same hr rfl (ta_cons (te_var (pv 2)) (ta_cons (te_var (pv 3)) ta_nil)))) (by decide)) ta_nil))))))) ss_nil)
  (ss_cons (ss_if (PW.pt (tw_or (tb_cmp (op_neD (hu64 hr)) od_ne (te_callB call_isiA cd_isi (by rfl) T.n_isinstance (by decide +kernel) (ta_cons (te_var (pv 1)) (ta_cons (te_ty (by rfl) T.n_bool (by decide +kernel)) ta_nil))) (te_callB call_isiA cd_isi (by rfl) T.n_isinstance (by decide +kernel) (ta_cons (te_var (pv 0)) (ta_cons (te_ty (by rfl) T.n_bool (by decide +kernel)) ta_nil))) (nomark _)) (tw_or1 (tb_cmp (op_neD (hu64 hr)) od_ne (te_callB call_isiA cd_isi (by rfl) T.n_isinstance (by decide +kernel) (ta_cons (te_var (pv 1)) (ta_cons (te_ty (by rfl) T.n_str (by decide +kernel)) ta_nil))) (te_callB call_isiA cd_isi (by rfl) T.n_isinstance (by decide +kernel) (ta_cons (te_var (pv 0)) (ta_cons (te_ty (by rfl) T.n_str (by decide +kernel)) ta_nil))) (nomark _)))))
  (ss_one (ss_ret te_bl)) ss_nil)
  (ss_one (ss_ret (te_and (te_cmp (op_eqD (hu64 hr)) od_eq (te_callB call_isiA cd_isi (by rfl) T.n_isinstance (by decide +kernel) (ta_cons (te_var (pv 1)) (ta_cons (te_ty (by rfl) T.n_int (by decide +kernel)) ta_nil))) (te_callB call_isiA cd_isi (by rfl) T.n_isinstance (by decide +kernel) (ta_cons (te_var (pv 0)) (ta_cons (te_ty (by rfl) T.n_int (by decide +kernel)) ta_nil))) (nomark _)) (te_one (te_cmp (op_eqD (hu64 hr)) od_eq (te_var (pv 0)) (te_var (pv 1)) (nomark _)))))))))
abbrev s_field : Stmt := topS 19
def n_field : List Str := ["_law_e"]
theorem sc_field : FnScope ["_law_e"] ["_law_e"] (defScope s_field) := ⟨rfl, rfl, rfl, by decide +kernel, rfl, by decide +kernel, by decide +kernel⟩
def b_field (IM : Addr)  (a C : Addr) (d : Option Addr) : ST :=
  (sSeq (sIf (bB (eOp dEq (eHx a C d "code" (eVar 0)) (eC (.str "InvalidChart"))))
  (sRet (eTup (aCons (eHx a C d "row" (eVar 0)) (aCons (eHx a C d "column" (eVar 0)) aNil)))) sNext)
  (sSeq (sIf (bB (eOp dEq (eHx a C d "code" (eVar 0)) (eC (.str "InvalidText"))))
  (sRet (eTup (aCons (eHx a C d "line" (eVar 0)) (aCons (eHx a C d "why" (eVar 0)) aNil)))) sNext)
  (sSeq (sIf (bB (eOp dIn (eHx a C d "code" (eVar 0)) (eTup (aCons (eC (.str "InvalidWind")) (aCons (eC (.str "InvalidRegion")) (aCons (eC (.str "InvalidPath")) (aCons (eC (.str "InvalidSquall")) aNil)))))))
  (sRet (eTup (aCons (eHx a C d "at" (eVar 0)) aNil))) sNext)
  (sSeq (sIf (bB (eOp dEq (eHx a C d "code" (eVar 0)) (eC (.str "TooMany"))))
  (sRet (eTup (aCons (eHx a C d "most" (eVar 0)) aNil))) sNext)
  (sRet (eIf (bB (eOp dIn (eHx a C d "code" (eVar 0)) (eTup (aCons (eC (.str "InvalidHeights")) (aCons (eC (.str "OtherChart")) (aCons (eC (.str "Ended")) aNil)))))) (eTup aNil) (eTup (aCons (eHx a C d "value" (eVar 0)) aNil))))))))
theorem pb_field (IM : Addr) {fa : Addr} (T : Txt K mg IM) (XX : Xns P wd K mg base IM)   (Ex : KX) (Ee : XK) (Hz : Hp) (p : Addr × Obj) (C : Addr)
    (cdv : Value) (A : Around) (outer : List PySem.Env) (s : Shared) (H : Hp) (hcl : p.2.cls = .ref C) (hfs : ∃ fs, p.2.data = .fields fs) (hC : C ∈ CsA IM) (hr : L2H.RoomH (1) (A.deeper (envOfC "_law_field" (defScope s_field) s.heap.objs.size fa cdv))) :
    PSs (L2H.cxH CX0 P wd K mg base ["_law_e"] "_law_field" (defScope s_field) fa cdv A outer s H E0 p) (defBody s_field) (LS ⟨K, Ex, Ee, Hz⟩ (b_field IM p.1 C p.2.dict)) :=
  have hp : PinX (L2H.cxH CX0 P wd K mg base ["_law_e"] "_law_field" (defScope s_field) fa cdv A outer s H E0 p) p.1 C p.2.dict := ⟨p.2, List.mem_cons_self, hcl, rfl, hfs⟩
  (ss_cons (ss_if (tb_cmp (op_eqD (hu64h hr)) od_eq (te_hx hp T.fd_code hC (te_var (pv 0))) te_str (nomark _))
  (ss_one (ss_ret (te_tup (ta_cons (te_hx hp T.fd_row hC (te_var (pv 0))) (ta_cons (te_hx hp T.fd_column hC (te_var (pv 0))) ta_nil))))) ss_nil)
  (ss_cons (ss_if (tb_cmp (op_eqD (hu64h hr)) od_eq (te_hx hp T.fd_code hC (te_var (pv 0))) te_str (nomark _))
  (ss_one (ss_ret (te_tup (ta_cons (te_hx hp T.fd_line hC (te_var (pv 0))) (ta_cons (te_hx hp T.fd_why hC (te_var (pv 0))) ta_nil))))) ss_nil)
  (ss_cons (ss_if (tb_cmp (op_inA (hu65h hr)) od_in (te_hx hp T.fd_code hC (te_var (pv 0))) (te_tup (ta_cons te_str (ta_cons te_str (ta_cons te_str (ta_cons te_str ta_nil))))) (by rfl))
  (ss_one (ss_ret (te_tup (ta_cons (te_hx hp T.fd_at hC (te_var (pv 0))) ta_nil)))) ss_nil)
  (ss_cons (ss_if (tb_cmp (op_eqD (hu64h hr)) od_eq (te_hx hp T.fd_code hC (te_var (pv 0))) te_str (nomark _))
  (ss_one (ss_ret (te_tup (ta_cons (te_hx hp T.fd_most hC (te_var (pv 0))) ta_nil)))) ss_nil)
  (ss_one (ss_ret (te_if (tb_cmp (op_inA (hu65h hr)) od_in (te_hx hp T.fd_code hC (te_var (pv 0))) (te_tup (ta_cons te_str (ta_cons te_str (ta_cons te_str ta_nil)))) (by rfl)) (te_tup ta_nil) (te_tup (ta_cons (te_hx hp T.fd_value hC (te_var (pv 0))) ta_nil)))))))))
abbrev s_gust : Stmt := topS 21
def n_gust : List Str := ["_law_bag_here", "_law_k"]
theorem sc_gust : FnScope ["_law_bag_here", "_law_k"] ["_law_bag_here"] (defScope s_gust) := ⟨rfl, rfl, rfl, by decide +kernel, rfl, by decide +kernel, by decide +kernel⟩
def b_gust (IM : Addr)   : ST :=
  (sRet (eCall dTupOf (aCons (eComp (itRange1 (aCons (eC (.int 5)) aNil)) (.nm 1) bYes (eCall sp_pick (aCons (eVar 0) (aCons (eLst (aCons (eC .non) (aCons (eC (.int 0)) (aCons (eC (.int 0)) (aCons (eC (.int 0)) (aCons (eC (.int 1)) (aCons (eC (.int 1)) (aCons (eC (.int 2)) (aCons (eC (.int 3)) (aCons (eC (.int 4)) (aCons (eC (.int 99)) (aCons (eCall sp_draw (aCons (eVar 0) (aCons (eC (.int 100)) aNil))) aNil)))))))))))) aNil))) [1]) aNil)))
theorem pb_gust (IM : Addr) {fa : Addr} (T : Txt K mg IM) (XX : Xns P wd K mg base IM)  (G_pick : FnI P wd K mg base "_law_pick" s_pick 2 ["_law_bag_here", "_law_some"] sp_pick) (G_draw : FnI P wd K mg base "_law_draw" s_draw 1 ["_law_bag_here", "_law_many"] sp_draw) (Ex : KX) (Ee : XK) (Hz : Hp)
    (cdv : Value) (A : Around) (outer : List PySem.Env) (s : Shared) (H : Hp) (E : XK)  (hr : Room (2) (A.deeper (envOfC "_law_gust" (defScope s_gust) s.heap.objs.size fa cdv))) :
    PSs (cxOf CX0 P wd K mg base ["_law_bag_here", "_law_k"] "_law_gust" (defScope s_gust) fa cdv A outer s H E).nox (defBody s_gust) (LS ⟨K, Ex, Ee, Hz⟩ (b_gust IM)) :=
  (ss_one (ss_ret (te_callTy call_tuple_of cd_tup (by rfl) T.n_tuple (by decide +kernel) (ta_cons (te_comp rfl sc_gust.nd (ti_range1 rfl T.n_range (ta_cons te_int ta_nil)) (blkOk_by (own := [("_law_k", 1)]) (N := n_gust) (sc := defScope s_gust) (by decide +kernel)) (fun _ _ _ _ _ => (tg_nm (i := 1) sc_gust.nd rfl (Or.inl rfl))) (fun _ _ _ _ _ => tts_nil) (fun _ _ _ _ _ => (te_fn G_pick hr rfl (ta_cons (te_var (pv 0)) (ta_cons (te_lst (ta_cons te_non (ta_cons te_int (ta_cons te_int (ta_cons te_int (ta_cons te_int (ta_cons te_int (ta_cons te_int (ta_cons te_int (ta_cons te_int (ta_cons te_int (ta_cons (te_fn G_draw hr rfl (ta_cons (te_var (pv 0)) (ta_cons te_int ta_nil))) ta_nil)))))))))))) ta_nil)))) (by decide)) ta_nil))))
abbrev s_moves : Stmt := topS 22
def n_moves : List Str := []
theorem sc_moves : FnScope [] [] (defScope s_moves) := ⟨rfl, rfl, rfl, by decide +kernel, rfl, by decide +kernel, by decide +kernel⟩
def b_moves (IM : Addr)   : ST :=
  (sRet (eLst (aCons (eTup (aCons (eC (.int 0)) (aCons (eC (.int 0)) aNil))) (aCons (eTup (aCons (eUn dNeg (eC (.int 1))) (aCons (eC (.int 0)) aNil))) (aCons (eTup (aCons (eC (.int 0)) (aCons (eC (.int 1)) aNil))) (aCons (eTup (aCons (eC (.int 1)) (aCons (eC (.int 0)) aNil))) (aCons (eTup (aCons (eC (.int 0)) (aCons (eUn dNeg (eC (.int 1))) aNil))) aNil)))))))
theorem pb_moves (IM : Addr) {fa : Addr} (T : Txt K mg IM) (XX : Xns P wd K mg base IM)   (Ex : KX) (Ee : XK) (Hz : Hp)
    (cdv : Value) (A : Around) (outer : List PySem.Env) (s : Shared) (H : Hp) (E : XK)  (hr : Room (0) (A.deeper (envOfC "_law_moves" (defScope s_moves) s.heap.objs.size fa cdv))) :
    PSs (cxOf CX0 P wd K mg base [] "_law_moves" (defScope s_moves) fa cdv A outer s H E).nox (defBody s_moves) (LS ⟨K, Ex, Ee, Hz⟩ (b_moves IM)) :=
  (ss_one (ss_ret (te_lst (ta_cons (te_tup (ta_cons te_int (ta_cons te_int ta_nil))) (ta_cons (te_tup (ta_cons (te_neg te_int) (ta_cons te_int ta_nil))) (ta_cons (te_tup (ta_cons te_int (ta_cons te_int ta_nil))) (ta_cons (te_tup (ta_cons te_int (ta_cons te_int ta_nil))) (ta_cons (te_tup (ta_cons te_int (ta_cons (te_neg te_int) ta_nil))) ta_nil))))))))
abbrev s_is_gust : Stmt := topS 23
def n_is_gust : List Str := ["_law_thing", "_law_cost"]
theorem sc_is_gust : FnScope ["_law_thing", "_law_cost"] ["_law_thing"] (defScope s_is_gust) := ⟨rfl, rfl, rfl, by decide +kernel, rfl, by decide +kernel, by decide +kernel⟩
def b_is_gust (IM : Addr)   : ST :=
  (sSeq (sIf (bOr (bNot (bT (eCall dIsi (aCons (eVar 0) (aCons (eC (.ty "tuple")) aNil))))) (bB (eOp dNe (eCall dLen (aCons (eVar 0) aNil)) (eC (.int 5)))))
  (sRet (eC (.bl false))) sNext)
  (sSeq (sFor (itAny (eVar 0)) (.nm 1)
  (sIf (bAnd (bB (eOp dIsNot (eVar 1) (eC .non))) (bOr (bT (eCall dIsi (aCons (eVar 1) (aCons (eC (.ty "bool")) aNil)))) (bOr (bNot (bT (eCall dIsi (aCons (eVar 1) (aCons (eC (.ty "int")) aNil))))) (bOr (bB (eOp dLt (eVar 1) (eC (.int 0)))) (bB (eOp dGt (eVar 1) (eC (.int 99))))))))
  (sRet (eC (.bl false))) sNext))
  (sRet (eC (.bl true)))))
theorem pb_is_gust (IM : Addr) {fa : Addr} (T : Txt K mg IM) (XX : Xns P wd K mg base IM)   (Ex : KX) (Ee : XK) (Hz : Hp)
    (cdv : Value) (A : Around) (outer : List PySem.Env) (s : Shared) (H : Hp) (E : XK)  (hr : Room (0) (A.deeper (envOfC "_law_is_gust" (defScope s_is_gust) s.heap.objs.size fa cdv))) :
    PSs (cxOf CX0 P wd K mg base ["_law_thing", "_law_cost"] "_law_is_gust" (defScope s_is_gust) fa cdv A outer s H E).nox (defBody s_is_gust) (LS ⟨K, Ex, Ee, Hz⟩ (b_is_gust IM)) :=
  (ss_cons (ss_if (PW.pt (tw_or (tb_not (tb_truth (te_callB call_isiA cd_isi (by rfl) T.n_isinstance (by decide +kernel) (ta_cons (te_var (pv 0)) (ta_cons (te_ty (by rfl) T.n_tuple (by decide +kernel)) ta_nil))))) (tw_or1 (tb_cmp (op_neD (hu64 hr)) od_ne (te_callB call_len cd_len (by rfl) T.n_len (by decide +kernel) (ta_cons (te_var (pv 0)) ta_nil)) te_int (nomark _)))))
  (ss_one (ss_ret te_bl)) ss_nil)
  (ss_cons (ss_for PassesOwn.never rfl (ti_any (te_var (pv 0))) (tg_nm (i := 1) sc_is_gust.nd rfl (Or.inl rfl))
  (ss_one (ss_if (PW.pt (tw_and (tb_cmp op_notN od_isnot (te_var (pv 1)) te_non (nomark _)) (tw_and1 (PW.pt (tw_or (tb_truth (te_callB call_isiA cd_isi (by rfl) T.n_isinstance (by decide +kernel) (ta_cons (te_var (pv 1)) (ta_cons (te_ty (by rfl) T.n_bool (by decide +kernel)) ta_nil)))) (tw_or (tb_not (tb_truth (te_callB call_isiA cd_isi (by rfl) T.n_isinstance (by decide +kernel) (ta_cons (te_var (pv 1)) (ta_cons (te_ty (by rfl) T.n_int (by decide +kernel)) ta_nil))))) (tw_or (tb_cmp op_ltA od_lt (te_var (pv 1)) te_int (nomark _)) (tw_or1 (tb_cmp op_gtA od_gt (te_var (pv 1)) te_int (nomark _))))))))))
  (ss_one (ss_ret te_bl)) ss_nil)))
  (ss_one (ss_ret te_bl))))
abbrev s_words : Stmt := topS 24
def n_words : List Str := []
theorem sc_words : FnScope [] [] (defScope s_words) := ⟨rfl, rfl, rfl, by decide +kernel, rfl, by decide +kernel, by decide +kernel⟩
def b_words (IM : Addr)   : ST :=
  (sRet (eLst (aCons (eC (.str "stay")) (aCons (eC (.str "north")) (aCons (eC (.str "east")) (aCons (eC (.str "south")) (aCons (eC (.str "west")) aNil)))))))
theorem pb_words (IM : Addr) {fa : Addr} (T : Txt K mg IM) (XX : Xns P wd K mg base IM)   (Ex : KX) (Ee : XK) (Hz : Hp)
    (cdv : Value) (A : Around) (outer : List PySem.Env) (s : Shared) (H : Hp) (E : XK)  (hr : Room (0) (A.deeper (envOfC "_law_words" (defScope s_words) s.heap.objs.size fa cdv))) :
    PSs (cxOf CX0 P wd K mg base [] "_law_words" (defScope s_words) fa cdv A outer s H E).nox (defBody s_words) (LS ⟨K, Ex, Ee, Hz⟩ (b_words IM)) :=
  (ss_one (ss_ret (te_lst (ta_cons te_str (ta_cons te_str (ta_cons te_str (ta_cons te_str (ta_cons te_str ta_nil))))))))
abbrev s_law : Stmt := topS 25
def n_law : List Str := ["_law_script", "_law_bag_here", "_law_turn", "_law_gust_here", "_law_spot", "_law_odd", "_law_bent", "_law_some", "_law_room", "_law_made", "_law_backs", "_law_bad", "_law_move", "_law_thing", "_law_word"]
theorem sc_law : FnScope ["_law_script", "_law_bag_here", "_law_turn", "_law_gust_here", "_law_spot", "_law_odd", "_law_bent", "_law_some", "_law_room", "_law_made", "_law_backs", "_law_bad", "_law_move", "_law_thing", "_law_word"] ["_law_script"] (defScope s_law) := ⟨rfl, rfl, rfl, by decide +kernel, rfl, by decide +kernel, by decide +kernel⟩
@[reducible] def c_law_0 (IM Pt : Addr) : ST :=
  (sSet 1 (eCall sp_bag (aCons (eVar 0) aNil)))
@[reducible] def c_law_1 (IM Pt : Addr) : ST :=
  (sRet (eC (.bl false)))
@[reducible] def c_law_2 (IM Pt : Addr) : ST :=
  (sIf (bNot (bT (eCall (sp_same 8) (aCons (eLst (aCons (eC (.tup t_DIRECTIONS)) (aCons (eCallP sp_is_wind [0] 1 (aCons (eTup (aCons (eC (.int 0)) (aCons (eC (.int 99)) (aCons (eC .non) (aCons (eC (.int 0)) (aCons (eC (.int 5)) aNil)))))) aNil)) aNil))) (aCons (eLst (aCons (eCall dTupOf (aCons (eCall sp_words aNil) aNil)) (aCons (eC (.bl true)) aNil))) aNil)))))
  (c_law_1 IM Pt) sNext)
@[reducible] def c_law_3 (IM Pt : Addr) : ST :=
  (sSet 3 (eCall sp_gust (aCons (eVar 1) aNil)))
@[reducible] def c_law_4 (IM Pt : Addr) : ST :=
  (sPar 4 5 (aCons (eCall sp_draw (aCons (eVar 1) (aCons (eC (.int 5)) aNil))) (aCons (eCall sp_pick (aCons (eVar 1) (aCons (eLst (aCons (eUn dNeg (eC (.int 1))) (aCons (eC (.int 100)) (aCons (eC (.bl true)) (aCons (eC (.bl false)) (aCons (eC (.str "1")) (aCons (eTup (aCons (eC (.int 0)) aNil)) (aCons (eLst aNil) (aCons (eC (.int 99)) (aCons (eC (.int 0)) (aCons (eC .non) (aCons (eC (.int 999999999)) aNil)))))))))))) aNil))) aNil)))
@[reducible] def c_law_5 (IM Pt : Addr) : ST :=
  (sSet 6 (eOp dAdd (eOp dAdd (eSl (eVar 3) oNo (oYes (eVar 4))) (eTup (aCons (eVar 5) aNil))) (eSl (eVar 3) (oYes (eOp dAdd (eVar 4) (eC (.int 1)))) oNo)))
@[reducible] def c_law_6 (IM Pt : Addr) : ST :=
  (sSet 7 (eLst (aCons (eVar 3) (aCons (eVar 6) (aCons (eOp dAdd (eSl (eVar 3) oNo (oYes (eVar 4))) (eSl (eVar 3) (oYes (eOp dAdd (eVar 4) (eC (.int 1)))) oNo)) (aCons (eOp dAdd (eOp dAdd (eSl (eVar 3) oNo (oYes (eVar 4))) (eTup (aCons (eC (.int 0)) aNil))) (eSl (eVar 3) (oYes (eVar 4)) oNo)) (aCons (eCall dLstOf (aCons (eVar 3) aNil)) (aCons (eTup (aCons (eVar 3) aNil)) (aCons (eVar 5) (aCons (eOp dIx (eVar 3) (eC (.int 0))) aNil))))))))))
@[reducible] def c_law_7 (IM Pt : Addr) : ST :=
  (sRet (eC (.bl false)))
@[reducible] def c_law_8 (IM Pt : Addr) : ST :=
  (sIf (bNot (bT (eCall (sp_same 8) (aCons (eComp (itAny (eVar 7)) (.nm 13) bYes (eCall sp_is_wind (aCons (eVar 13) aNil)) [13]) (aCons (eComp (itAny (eVar 7)) (.nm 13) bYes (eCall sp_is_gust (aCons (eVar 13) aNil)) [13]) aNil)))))
  (c_law_7 IM Pt) sNext)
@[reducible] def c_law_9 (IM Pt : Addr) : ST :=
  (sSet 8 (eTup (aCons (eCall sp_draw (aCons (eVar 1) (aCons (eC (.int 6)) aNil))) (aCons (eCall sp_draw (aCons (eVar 1) (aCons (eC (.int 6)) aNil))) aNil))))
@[reducible] def c_law_10 (IM Pt : Addr) : ST :=
  (sSet 9 (eComp (itAny (eCall sp_moves aNil)) (.nm 12) bYes (eTup (aCons (eOp dAdd (eOp dIx (eVar 8) (eC (.int 0))) (eOp dIx (eVar 12) (eC (.int 0)))) (aCons (eOp dAdd (eOp dIx (eVar 8) (eC (.int 1))) (eOp dIx (eVar 12) (eC (.int 1)))) aNil))) [12]))
@[reducible] def c_law_11 (IM Pt : Addr) : ST :=
  (sRet (eC (.bl false)))
@[reducible] def c_law_12 (IM Pt : Addr) : ST :=
  (sIf (bNot (bT (eCall (sp_same 8) (aCons (eComp (itAny (eCall sp_words aNil)) (.nm 14) bYes (eCall (noR (sp_moved_cell IM)) (aCons (eVar 8) (aCons (eVar 14) aNil))) [14]) (aCons (eVar 9) aNil)))))
  (c_law_11 IM Pt) sNext)
@[reducible] def c_law_13 (IM Pt : Addr) : ST :=
  (sRet (eC (.bl false)))
@[reducible] def c_law_14 (IM Pt : Addr) : ST :=
  (sIf (bNot (bT (eCall (sp_same 8) (aCons (eComp (itAny (eC (.tup t_DIRECTIONS))) (.nm 14) bYes (eCallP (noR (sp_moved_cell IM)) [1, 0] 2 (aCons (eVar 14) (aCons (eVar 8) aNil))) [14]) (aCons (eVar 9) aNil)))))
  (c_law_13 IM Pt) sNext)
@[reducible] def c_law_15 (IM Pt : Addr) : ST :=
  (sSet 10 (eLst (aCons (eCall (noR (sp_moved_cell IM)) (aCons (eCall (noR (sp_moved_cell IM)) (aCons (eVar 8) (aCons (eC (.str "north")) aNil))) (aCons (eC (.str "south")) aNil))) (aCons (eCall (noR (sp_moved_cell IM)) (aCons (eCall (noR (sp_moved_cell IM)) (aCons (eVar 8) (aCons (eC (.str "west")) aNil))) (aCons (eC (.str "east")) aNil))) aNil))))
@[reducible] def c_law_16 (IM Pt : Addr) : ST :=
  (sRet (eC (.bl false)))
@[reducible] def c_law_17 (IM Pt : Addr) : ST :=
  (sIf (bNot (bT (eCall (sp_same 8) (aCons (eVar 10) (aCons (eLst (aCons (eVar 8) (aCons (eVar 8) aNil))) aNil)))))
  (c_law_16 IM Pt) sNext)
@[reducible] def c_law_18 (IM Pt : Addr) : ST :=
  (sSet 11 (eCall sp_pick (aCons (eVar 1) (aCons (eLst (aCons (eC (.str "")) (aCons (eC (.str "North")) (aCons (eC (.str "nort")) (aCons (eC (.str "norths")) (aCons (eC (.str "up")) (aCons (eC .non) (aCons (eC (.int 0)) (aCons (eC (.int 1)) (aCons (eC (.bl true)) (aCons (eTup (aCons (eC (.str "north")) aNil)) (aCons (eLst (aCons (eC (.str "east")) aNil)) (aCons (eC (.str "stay ")) (aCons (eTup (aCons (eC (.int 0)) (aCons (eC (.int 1)) aNil))) aNil)))))))))))))) aNil))))
@[reducible] def c_law_19 (IM Pt : Addr) : ST :=
  (sRet (eC (.bl false)))
@[reducible] def c_law_20 (IM Pt : Addr) : ST :=
  (sIf (bNot (bT (eCall (sp_same 8) (aCons (eTry 0 Pt lq [IM] (b_suite IM) (fun Ex => (eCallX (sp_moved_cell IM) Ex (aCons (eVar 8) (aCons (eVar 11) aNil))))) (aCons (eTup (aCons (eC (.str "no")) (aCons (eC (.str "InvalidMirror")) (aCons (eVar 11) aNil)))) aNil)))))
  (c_law_19 IM Pt) sNext)
@[reducible] def c_law_21 (IM Pt : Addr) : ST :=
  (sFor (itRange1 (aCons (eC (.int 6)) aNil)) (.nm 2)
  (sSeq (c_law_3 IM Pt)
  (sSeq (c_law_4 IM Pt)
  (sSeq (c_law_5 IM Pt)
  (sSeq (c_law_6 IM Pt)
  (sSeq (c_law_8 IM Pt)
  (sSeq (c_law_9 IM Pt)
  (sSeq (c_law_10 IM Pt)
  (sSeq (c_law_12 IM Pt)
  (sSeq (c_law_14 IM Pt)
  (sSeq (c_law_15 IM Pt)
  (sSeq (c_law_17 IM Pt)
  (sSeq (c_law_18 IM Pt)
  (c_law_20 IM Pt))))))))))))))
@[reducible] def c_law_22 (IM Pt : Addr) : ST :=
  (sRet (eC (.bl true)))
def b_law (IM Pt : Addr)   : ST :=
  (sSeq (c_law_0 IM Pt)
  (sSeq (c_law_2 IM Pt)
  (sSeq (c_law_21 IM Pt)
  (c_law_22 IM Pt))))
theorem pb_law (IM Pt : Addr) {fa : Addr} (T : Txt K mg IM) (XX : Xns P wd K mg base IM) (TY : TryI P wd K mg base "_law_try" 4 [IM] (b_suite IM)) {c : Addr} (TB : TabB base mg c Pt) (G_bag : FnI P wd K mg base "_law_bag" s_bag 1 ["_law_script"] sp_bag) (G_same : FnI P wd K mg base "_law_same" s_same 9 ["_law_found", "_law_due"] (sp_same 8)) (G_words : FnI P wd K mg base "_law_words" s_words 1 [] sp_words) (G_is_wind : FnI P wd K mg base "is_wind" s_is_wind 3 ["value"] sp_is_wind) (G_gust : FnI P wd K mg base "_law_gust" s_gust 3 ["_law_bag_here"] sp_gust) (G_pick : FnI P wd K mg base "_law_pick" s_pick 2 ["_law_bag_here", "_law_some"] sp_pick) (G_draw : FnI P wd K mg base "_law_draw" s_draw 1 ["_law_bag_here", "_law_many"] sp_draw) (G_is_gust : FnI P wd K mg base "_law_is_gust" s_is_gust 1 ["_law_thing"] sp_is_gust) (G_moves : FnI P wd K mg base "_law_moves" s_moves 1 [] sp_moves) (G_moved_cell : FxI P wd K mg base "moved_cell" s_moved_cell 3 ["cell", "direction"] (sp_moved_cell IM)) (Ex : KX) (Ee : XK) (Hz : Hp)
    (cdv : Value) (A : Around) (outer : List PySem.Env) (s : Shared) (H : Hp) (E : XK) (hcd : cdv = .ref c) (hr : Room (10) (A.deeper (envOfC "law" (defScope s_law) s.heap.objs.size fa cdv))) :
    PSs (cxOf CX0 P wd K mg base ["_law_script", "_law_bag_here", "_law_turn", "_law_gust_here", "_law_spot", "_law_odd", "_law_bent", "_law_some", "_law_room", "_law_made", "_law_backs", "_law_bad", "_law_move", "_law_thing", "_law_word"] "law" (defScope s_law) fa cdv A outer s H E).nox (defBody s_law) (LS ⟨K, Ex, Ee, Hz⟩ (b_law IM Pt)) :=
  (ss_cons (ss_set (i := 1) sc_law.nd rfl (Or.inl rfl) (te_fn G_bag hr rfl (ta_cons (te_var (pv 0)) ta_nil)))
  (ss_cons (ss_if (tb_not (tb_truth (te_fn G_same hr rfl (ta_cons (te_lst (ta_cons (te_gtup rfl T.t_DIRECTIONS) (ta_cons (te_fnK (ks := ["value"]) [0] G_is_wind hr rfl (tk_cons (te_tup (ta_cons te_int (ta_cons te_int (ta_cons te_non (ta_cons te_int (ta_cons te_int ta_nil)))))) tk_nil) (fun _ _ _ _ _ _ ws hl => match ws, hl with | [_], _ => rfl)) ta_nil))) (ta_cons (te_lst (ta_cons (te_callTy call_tuple_of cd_tup (by rfl) T.n_tuple (by decide +kernel) (ta_cons (te_fn0 G_words hr rfl) ta_nil)) (ta_cons te_bl ta_nil))) ta_nil)))))
  (ss_one (ss_ret te_bl)) ss_nil)
  (ss_cons (ss_for PassesOwn.never rfl (ti_range1 rfl T.n_range (ta_cons te_int ta_nil)) (tg_nm (i := 2) sc_law.nd rfl (Or.inl rfl))
  (ss_cons (ss_set (i := 3) sc_law.nd rfl (Or.inl rfl) (te_fn G_gust hr rfl (ta_cons (te_var (pv 1)) ta_nil)))
  (ss_cons (ss_par (i := 4) (j := 5) rfl sc_law.nd rfl rfl (by decide) rfl rfl (ta_cons (te_fn G_draw hr rfl (ta_cons (te_var (pv 1)) (ta_cons te_int ta_nil))) (ta_cons (te_fn G_pick hr rfl (ta_cons (te_var (pv 1)) (ta_cons (te_lst (ta_cons (te_neg te_int) (ta_cons te_int (ta_cons te_bl (ta_cons te_bl (ta_cons te_str (ta_cons (te_tup (ta_cons te_int ta_nil)) (ta_cons (te_lst ta_nil) (ta_cons te_int (ta_cons te_int (ta_cons te_non (ta_cons te_int ta_nil)))))))))))) ta_nil))) ta_nil)) (by rfl))
  (ss_cons (ss_set (i := 6) sc_law.nd rfl (Or.inl rfl) (te_op op_addA od_add (te_op op_addA od_add (te_sl (te_var (pv 3)) to_no (to_yes (te_var (pv 4)))) (te_tup (ta_cons (te_var (pv 5)) ta_nil))) (te_sl (te_var (pv 3)) (to_yes (te_op op_addA od_add (te_var (pv 4)) te_int)) to_no)))
  (ss_cons (ss_set (i := 7) sc_law.nd rfl (Or.inl rfl) (te_lst (ta_cons (te_var (pv 3)) (ta_cons (te_var (pv 6)) (ta_cons (te_op op_addA od_add (te_sl (te_var (pv 3)) to_no (to_yes (te_var (pv 4)))) (te_sl (te_var (pv 3)) (to_yes (te_op op_addA od_add (te_var (pv 4)) te_int)) to_no)) (ta_cons (te_op op_addA od_add (te_op op_addA od_add (te_sl (te_var (pv 3)) to_no (to_yes (te_var (pv 4)))) (te_tup (ta_cons te_int ta_nil))) (te_sl (te_var (pv 3)) (to_yes (te_var (pv 4))) to_no)) (ta_cons (te_callTy call_list_of cd_lst (by rfl) T.n_list (by decide +kernel) (ta_cons (te_var (pv 3)) ta_nil)) (ta_cons (te_tup (ta_cons (te_var (pv 3)) ta_nil)) (ta_cons (te_var (pv 5)) (ta_cons (te_ix (te_var (pv 3)) te_int (fun _ _ => rfl)) ta_nil))))))))))
  (ss_cons (ss_if (tb_not (tb_truth (te_fn G_same hr rfl (ta_cons (te_comp rfl sc_law.nd (ti_any (te_var (pv 7))) (blkOk_by (own := [("_law_thing", 13)]) (N := n_law) (sc := defScope s_law) (by decide +kernel)) (fun _ _ _ _ _ => (tg_nm (i := 13) sc_law.nd rfl (Or.inl rfl))) (fun _ _ _ _ _ => tts_nil) (fun _ _ _ _ _ => (te_fn G_is_wind hr rfl (ta_cons (te_var (pv 13)) ta_nil))) (by decide)) (ta_cons (te_comp rfl sc_law.nd (ti_any (te_var (pv 7))) (blkOk_by (own := [("_law_thing", 13)]) (N := n_law) (sc := defScope s_law) (by decide +kernel)) (fun _ _ _ _ _ => (tg_nm (i := 13) sc_law.nd rfl (Or.inl rfl))) (fun _ _ _ _ _ => tts_nil) (fun _ _ _ _ _ => (te_fn G_is_gust hr rfl (ta_cons (te_var (pv 13)) ta_nil))) (by decide)) ta_nil)))))
  (ss_one (ss_ret te_bl)) ss_nil)
  (ss_cons (ss_set (i := 8) sc_law.nd rfl (Or.inr rfl) (te_tup (ta_cons (te_fn G_draw hr rfl (ta_cons (te_var (pv 1)) (ta_cons te_int ta_nil))) (ta_cons (te_fn G_draw hr rfl (ta_cons (te_var (pv 1)) (ta_cons te_int ta_nil))) ta_nil))))
  (ss_cons (ss_comp (i := 9) rfl sc_law.nd rfl rfl (sw_true rfl rfl rfl (by decide +kernel)) (ti_any (te_fn0 G_moves hr rfl)) (blkOk_by (own := [("_law_move", 12)]) (N := n_law) (sc := defScope s_law) (by decide +kernel)) (fun _ _ _ _ _ => (tg_nm (i := 12) sc_law.nd rfl (Or.inl rfl))) (fun _ _ _ _ _ => tts_nil) (fun _ _ _ _ _ => (te_tup (ta_cons (te_op op_addA od_add (te_ix (te_var (pv 8)) te_int (fun _ _ => rfl)) (te_ix (te_var (pv 12)) te_int (fun _ _ => rfl))) (ta_cons (te_op op_addA od_add (te_ix (te_var (pv 8)) te_int (fun _ _ => rfl)) (te_ix (te_var (pv 12)) te_int (fun _ _ => rfl))) ta_nil)))) (by decide))
  (ss_cons (ss_if (tb_not (tb_truth (te_fn G_same hr rfl (ta_cons (te_comp rfl sc_law.nd (ti_any (te_fn0 G_words hr rfl)) (blkOk_by (own := [("_law_word", 14)]) (N := n_law) (sc := defScope s_law) (by decide +kernel)) (fun _ _ _ _ _ => (tg_nm (i := 14) sc_law.nd rfl (Or.inl rfl))) (fun _ _ _ _ _ => tts_nil) (fun _ _ _ _ _ => (te_fn G_moved_cell.toI hr rfl (ta_cons (te_var (pv 8)) (ta_cons (te_var (pv 14)) ta_nil)))) (by decide)) (ta_cons (te_var (pv 9)) ta_nil)))))
  (ss_one (ss_ret te_bl)) ss_nil)
  (ss_cons (ss_if (tb_not (tb_truth (te_fn G_same hr rfl (ta_cons (te_comp rfl sc_law.nd (ti_any (te_gtup rfl T.t_DIRECTIONS)) (blkOk_by (own := [("_law_word", 14)]) (N := n_law) (sc := defScope s_law) (by decide +kernel)) (fun _ _ _ _ _ => (tg_nm (i := 14) sc_law.nd rfl (Or.inl rfl))) (fun _ _ _ _ _ => tts_nil) (fun _ _ _ _ _ => (te_fnK (ks := ["direction", "cell"]) [1, 0] G_moved_cell.toI hr rfl (tk_cons (te_var (pv 14)) (tk_cons (te_var (pv 8)) tk_nil)) (fun _ _ _ _ _ _ ws hl => match ws, hl with | [_, _], _ => rfl))) (by decide)) (ta_cons (te_var (pv 9)) ta_nil)))))
  (ss_one (ss_ret te_bl)) ss_nil)
  (ss_cons (ss_set (i := 10) sc_law.nd rfl (Or.inl rfl) (te_lst (ta_cons (te_fn G_moved_cell.toI hr rfl (ta_cons (te_fn G_moved_cell.toI hr rfl (ta_cons (te_var (pv 8)) (ta_cons te_str ta_nil))) (ta_cons te_str ta_nil))) (ta_cons (te_fn G_moved_cell.toI hr rfl (ta_cons (te_fn G_moved_cell.toI hr rfl (ta_cons (te_var (pv 8)) (ta_cons te_str ta_nil))) (ta_cons te_str ta_nil))) ta_nil))))
  (ss_cons (ss_if (tb_not (tb_truth (te_fn G_same hr rfl (ta_cons (te_var (pv 10)) (ta_cons (te_lst (ta_cons (te_var (pv 8)) (ta_cons (te_var (pv 8)) ta_nil))) ta_nil)))))
  (ss_one (ss_ret te_bl)) ss_nil)
  (ss_cons (ss_set (i := 11) sc_law.nd rfl (Or.inr rfl) (te_fn G_pick hr rfl (ta_cons (te_var (pv 1)) (ta_cons (te_lst (ta_cons te_str (ta_cons te_str (ta_cons te_str (ta_cons te_str (ta_cons te_str (ta_cons te_non (ta_cons te_int (ta_cons te_int (ta_cons te_bl (ta_cons (te_tup (ta_cons te_str ta_nil)) (ta_cons (te_lst (ta_cons te_str ta_nil)) (ta_cons te_str (ta_cons (te_tup (ta_cons te_int (ta_cons te_int ta_nil))) ta_nil)))))))))))))) ta_nil))))
  (ss_one (ss_if (tb_not (tb_truth (te_fn G_same hr rfl (ta_cons (te_tryI TY TB hcd (hr.mono (by decide)) (lamS_by rfl) rfl (fun _ _ _ _ _ => rfl) (fun Ex Hz A outer s H E f c' hr => (te_fx G_moved_cell tk_lam hr rfl (ta_cons (te_var (pv 8)) (ta_cons (te_var (pv 11)) ta_nil)))) rfl) (ta_cons (te_tup (ta_cons te_str (ta_cons te_str (ta_cons (te_var (pv 11)) ta_nil)))) ta_nil)))))
  (ss_one (ss_ret te_bl)) ss_nil)))))))))))))))
  (ss_one (ss_ret te_bl)))))
end
end W02
set_option Elab.async false
set_option linter.all false
set_option maxRecDepth 100000
namespace W02
open PySem PySem.Spec PyProof.Rows L2 RZ LamX Tr
theorem small {k : Nat} (h : k ≤ 1000) : k ≤ sizeLine := by rw [sizeLine_eq]; omega
theorem hs_is_number (IM : Addr) : ∀ ds μ Pd, sp_is_number ds μ Pd → b_is_number IM { nx := fun _ μ' => Pd .non μ', rt := Pd } (startD n_is_number ds) μ := by
  rintro ds μ Pd ⟨v, lo, hi, rfl, hv, hP⟩
  change b_is_number IM _ [some v, some (.int lo), some (.int hi)] μ
  unfold b_is_number
  cases v <;> simp [ok] at hv <;> simp [tyN, isTy, clss, isNum, dLe] at hP ⊢ <;> try exact hP
  split
  · rename_i h; simpa [h] using hP
  · rename_i h; simpa [h] using hP
theorem hs_is_toll (IM : Addr) : ∀ ds μ Pd, sp_is_toll ds μ Pd → b_is_toll IM { nx := fun _ μ' => Pd .non μ', rt := Pd } (startD n_is_toll ds) μ := by
  rintro ds μ Pd ⟨v, rfl, hv, hP⟩
  change b_is_toll IM _ [some v] μ
  unfold b_is_toll
  simp only [s_ret, e_call, a_cons, a_nil, e_v0, e_c]
  exact ⟨v, 0, 99, rfl, hv, hP⟩
theorem hs_bag (IM : Addr) : ∀ ds μ Pd, sp_bag ds μ Pd → b_bag IM { nx := fun _ μ' => Pd .non μ', rt := Pd } (startD n_bag ds) μ := by
  rintro ds μ Pd ⟨ns, rfl, hl, hP⟩
  exact Tr.hs_bag ns μ Pd hl hP
theorem hs_draw (IM : Addr) : ∀ ds μ Pd, sp_draw ds μ Pd → b_draw IM { nx := fun _ μ' => Pd .non μ', rt := Pd } (startD n_draw ds) μ := by
  rintro ds μ Pd ⟨n, many, rfl, hb, h0, h1, hP⟩
  exact Tr.hs_draw n many μ Pd hb h0 h1 hP
theorem hs_pick (IM : Addr) : ∀ ds μ Pd, sp_pick ds μ Pd → b_pick IM { nx := fun _ μ' => Pd .non μ', rt := Pd } (startD n_pick ds) μ := by
  rintro ds μ Pd ⟨n, x, rfl, hb, h0, h1, hP⟩
  exact Tr.hs_pick n x μ Pd hb h0 h1 hP
theorem hs_same (IM : Addr) (n : Nat) : ∀ ds μ Pd, sp_same (n + 1) ds μ Pd → b_same IM n { nx := fun _ μ' => Pd .non μ', rt := Pd } (startD n_same ds) μ := by
  rintro ds μ Pd ⟨x, rfl, hx, hP⟩
  exact Tr.hs_same n x μ Pd hx hP
theorem hs_words (IM : Addr) : ∀ ds μ Pd, sp_words ds μ Pd → b_words IM { nx := fun _ μ' => Pd .non μ', rt := Pd } (startD n_words ds) μ := by
  rintro ds μ Pd ⟨rfl, hP⟩
  change b_words IM _ [] μ
  unfold b_words
  simp only [s_ret, e_lst, a_cons, a_nil, e_c]
  exact ⟨small (by decide), hP⟩
theorem hs_moves (IM : Addr) : ∀ ds μ Pd, sp_moves ds μ Pd → b_moves IM { nx := fun _ μ' => Pd .non μ', rt := Pd } (startD n_moves ds) μ := by
  rintro ds μ Pd ⟨rfl, hP⟩
  change b_moves IM _ [] μ
  unfold b_moves
  simp only [s_ret, e_lst, e_tup, e_un, a_cons, a_nil, e_c, d_neg]
  refine ⟨small (by decide), small (by decide), small (by decide), small (by decide), small (by decide), small (by decide), hP⟩
theorem isToll_ok : ∀ {d : D}, isToll d = true → ok 0 d = true
  | .non, _ => rfl
  | .int i, _ => rfl
  | .bl _, h => by simp [isToll, isNum] at h
  | .str _, h => by simp [isToll, isNum] at h
  | .lst _, h => by simp [isToll, isNum] at h
  | .fz _, h => by simp [isToll, isNum] at h
  | .tup _, h => by simp [isToll, isNum] at h
  | .dT _ _, h => by simp [isToll, isNum] at h
  | .dK _ _, h => by simp [isToll, isNum] at h
  | .ins _ _ _, h => by simp [isToll, isNum] at h
  | .exc _ _ _, h => by simp [isToll, isNum] at h
  | .hx _ _ _ _ _, h => by simp [isToll, isNum] at h
  | .loc _, h => by simp [isToll, isNum] at h
  | .ref _, h => by simp [isToll, isNum] at h
  | .ty _, h => by simp [isToll, isNum] at h
theorem hs_is_wind (IM : Addr) : ∀ ds μ Pd, sp_is_wind ds μ Pd → b_is_wind IM { nx := fun _ μ' => Pd .non μ', rt := Pd } (startD n_is_wind ds) μ := by
  rintro ds μ Pd ⟨v, rfl, hv, hP⟩
  change b_is_wind IM _ [some v, none] μ
  unfold b_is_wind
  cases v <;> simp [ok] at hv <;> simp [tyN, isTy, clss, isWind, dNe, toPy, PyData.eqv, shaped_int, i_DIRECTIONS] at hP ⊢ <;> try exact hP
  case tup xs =>
    by_cases hq : xs.length = 5
    · simp [hq] at hP ⊢
      refine comp_map (f := fun d => .bl (isToll d)) xs [] μ _ (by simp [hq]) (fun d hd P h => ?_) (all_bl xs isToll μ Pd ?_)
      · have hd2 := okA_mem hv.1 hd
        simp only [g_nm, List.set_cons_succ, List.set_cons_zero, e_or, e_op, e_call, a_cons, a_nil, e_v1, e_c]
        have nn : ∀ d : D, isNon d = false → ok 2 d = true → P (.bl (isNum d 0 99)) μ → dIs d .non μ fun d_1 μ1 => onB d_1 fun k => if k = true then P (.bl true) μ1 else sp_is_toll [d] μ1 P := fun d h1 h2 h3 => by
          simp only [dIs, h1, onB_bl, Bool.false_eq_true, if_false]
          exact ⟨d, rfl, ok_up h2, h3⟩
        cases d with
        | non => exact h
        | _ => exact nn _ rfl hd2 h
      · simpa [hq] using hP
    · simp [hq] at hP ⊢
      rw [if_neg (by omega)]
      exact hP
theorem hs_is_gust (IM : Addr) : ∀ ds μ Pd, sp_is_gust ds μ Pd → b_is_gust IM { nx := fun _ μ' => Pd .non μ', rt := Pd } (startD n_is_gust ds) μ := by
  rintro ds μ Pd ⟨v, rfl, hv, hP⟩
  change b_is_gust IM _ [some v, none] μ
  unfold b_is_gust
  cases v <;> simp [ok] at hv <;> simp [tyN, isTy, clss, isWind, dNe, toPy, PyData.eqv, shaped_int] at hP ⊢ <;> try exact hP
  case tup xs =>
    by_cases hq : xs.length = 5
    · simp [hq] at hP ⊢
      -- the tolls so far are tolls
      have go : ∀ (ds : List D) (o : Option D), okA 2 ds = true → Pd (.bl (ds.all isToll)) μ → loopD (.nm 1)
          (sIf (bAnd (bB (eOp dIsNot (eVar 1) (eC .non))) (bOr (bT (eCall dIsi (aCons (eVar 1) (aCons (eC (.ty "bool")) aNil)))) (bOr (bNot (bT (eCall dIsi (aCons (eVar 1) (aCons (eC (.ty "int")) aNil))))) (bOr (bB (eOp dLt (eVar 1) (eC (.int 0)))) (bB (eOp dGt (eVar 1) (eC (.int 99))))))))
            (sRet (eC (.bl false))) sNext)
          { nx := fun ρ' μ' => sRet (eC (.bl true)) { nx := fun _ μ' => Pd .non μ', rt := Pd } ρ' μ', rt := Pd } ds [some (.tup xs), o] μ := by
        intro ds
        induction ds with
        | nil => intro o _ h; simpa [loopD] using h
        | cons d ds ih =>
          intro o ho h
          simp only [okA, Bool.and_eq_true] at ho
          rw [l_cons]
          have h0 := ho.1
          cases d <;> simp [ok] at h0 <;> simp [tyN, isTy, clss, isToll, isNum, dIsNot, Tr.isNon] at h ⊢ <;> try exact h
          case non => exact ih _ ho.2 h
          case int i =>
            split
            · rename_i h1
              simpa [show ¬ 0 ≤ i by omega] using h
            · split
              · rename_i h1 h2
                simpa [show ¬ i ≤ 99 by omega] using h
              · rename_i h1 h2
                rw [show (decide (0 ≤ i) && decide (i ≤ 99) && ds.all isToll) = ds.all isToll by simp [show 0 ≤ i by omega, show i ≤ 99 by omega]] at h
                exact ih _ ho.2 h
      exact go xs _ hv.1 hP
    · simp [hq] at hP ⊢
      rw [if_neg (by omega)]
      exact hP


theorem any_dirs (d : D) (h : ok 3 d = true) : (t_DIRECTIONS.any fun y => deq y d) = (dirOf d).isSome := by
  have no : ∀ d : D, (∀ y : Str, deq (.str y) d = false) → (t_DIRECTIONS.any fun y => deq y d) = false := fun d h => by
    rw [List.any_eq_false]
    intro y hy
    obtain ⟨z, _, rfl⟩ := List.mem_map.mp hy
    rw [h z]
    exact Bool.false_ne_true
  cases d with
  | str z =>
    have go : ∀ ys : List Str, ((ys.map D.str).any fun y => deq y (.str z)) = (firstAt z ys).isSome := fun ys => by
      induction ys with
      | nil => rfl
      | cons y ys ih =>
        rw [List.map_cons, List.any_cons, ih]
        rw [show firstAt z (y :: ys) = if y = z then some 0 else (firstAt z ys).map (· + 1) from rfl, show deq (.str y) (.str z) = (y == z) from rfl]
        by_cases e : y = z
        · subst e; simp
        · rw [if_neg e, beq_eq_false_iff_ne.mpr e]
          simp
    exact go _
  | _ => exact no _ fun _ => rfl
theorem dir_lt {d : D} {i : Nat} (h : dirOf d = some i) : i < 5 ∧ ∃ z, d = .str z ∧ firstAt z i_DIRECTIONS = some i := by
  cases d with
  | str z =>
    have h : firstAt z i_DIRECTIONS = some i := h
    exact ⟨(List.getElem?_eq_some_iff.mp (firstAt_ok h).1).1, z, rfl, h⟩
  | _ => cases h
theorem e_tix {ss : List Str} {t : ET} {ρ : Tr.Env} {μ : Mu} {P : KD} : eTIx ss t ρ μ P = t ρ μ fun d μ1 => match d with
  | .str z => match firstAt z ss with
    | some j => P (.int (j : Nat)) μ1
    | none => False
  | _ => False := id rfl
theorem hs_moved_cell (IM : Addr) : ∀ ds μ Pd (Ex : KX), sp_moved_cell IM ds μ Pd Ex → b_moved_cell IM Ex { nx := fun _ μ' => Pd .non μ', rt := Pd } (startD n_moved_cell ds) μ := by
  rintro ds μ Pd Ex ⟨r, c, d, rfl, hd, hP⟩
  change b_moved_cell IM Ex _ [some (.tup [.int r, .int c]), some d, none, none, none] μ
  unfold b_moved_cell
  simp only [s_seq, s_if, b_b, e_op, e_v1, e_c]
  unfold dNotIn
  rw [d_in_tup (n := 3) hd (by decide +kernel) (by decide), any_dirs d hd]
  simp only [onB_bl]
  cases q : dirOf d with
  | none =>
    rw [q] at hP
    simp only [Option.isSome_none, Bool.not_false, if_true]
    unfold sRaise
    simp only [a_cons, a_nil, e_v1]
    exact ⟨rfl, show 1 ≤ 1000 by decide, hP⟩
  | some i =>
    rw [q] at hP
    obtain ⟨hi, z, rfl, hz⟩ := dir_lt q
    simp only [Option.isSome_some, Bool.not_true, Bool.false_eq_true, if_false, s_next, s_set]
    simp only [s_seq, s_set, e_tix, e_v1, hz, s_asg, e_v0, g_tp, gs_cons, gs_nil, g_nm, List.length_cons, List.length_nil, List.set_cons_succ, List.set_cons_zero, true_and, s_ret, e_tup, a_cons, a_nil, e_op, e_v3, e_v4, e_v2, e_c, d_ix_tup]
    have h5 : i = 0 ∨ i = 1 ∨ i = 2 ∨ i = 3 ∨ i = 4 := by omega
    rcases h5 with rfl | rfl | rfl | rfl | rfl
    all_goals exact ⟨small (show 2 ≤ 1000 by decide), hP⟩
theorem hs_gust (IM : Addr) : ∀ ds μ Pd, sp_gust ds μ Pd → b_gust IM { nx := fun _ μ' => Pd .non μ', rt := Pd } (startD n_gust ds) μ := by
  rintro ds μ Pd ⟨n, rfl, hb, hP⟩
  change b_gust IM _ [some (.loc n), none] μ
  unfold b_gust
  simp only [s_ret, e_call, a_cons, a_nil, e_comp, it_range1, e_c]
  refine ⟨by decide, ?_⟩
  refine comp_draw (n := n) (C := fun d => isToll d = true) _ [] μ _ (by decide) hb (fun d hd μ1 Q hb1 hQ => ?_) fun ys μ' hl hys hd => ?_
  · simp only [g_nm, List.set_cons_succ, List.set_cons_zero, e_call, a_cons, a_nil, e_v0, e_lst, e_c]
    refine ⟨n, 100, rfl, hb1, by decide, by decide, fun r μ2 h0 h1 hd2 => ⟨small (by simp), ?_⟩⟩
    refine ⟨n, _, rfl, hd2.at hb1, by simp [picks], by simp [picks], fun d μ3 hm hd3 => hQ d μ3 ?_ (hd2.trans hd3)⟩
    simp only [picks, List.mem_cons, List.not_mem_nil, or_false] at hm
    rcases hm with h | h | h | h | h | h | h | h | h | h | h
    all_goals
      subst h
      first
        | rfl
        | decide
        | simp [isToll, isNum]; omega
  · refine hP _ μ' ⟨ys, rfl, hl, List.all_eq_true.mpr hys⟩ hd
theorem hs_field (IM : Addr) (a C : Addr) (d : Option Addr) : ∀ ds μ Pd, sp_field IM a C d ds μ Pd → b_field IM a C d { nx := fun _ μ' => Pd .non μ', rt := Pd } (startD n_field ds) μ := by
  rintro ds μ Pd ⟨x, rfl, hC, hP⟩
  change b_field IM a C d _ [some (.hx a C d ["code", "value"] [.str "InvalidMirror", x])] μ
  have code : ∀ (ρ : Tr.Env) (Q : KD), eHx a C d "code" (eVar 0) (some (.hx a C d ["code", "value"] [.str "InvalidMirror", x]) :: ρ) μ Q = Q (.str "InvalidMirror") μ := fun ρ Q => by
    unfold eHx
    simp [lookD]
  have val : ∀ (ρ : Tr.Env) (Q : KD), eHx a C d "value" (eVar 0) (some (.hx a C d ["code", "value"] [.str "InvalidMirror", x]) :: ρ) μ Q = Q x μ := fun ρ Q => by
    unfold eHx
    have ne : (Str.ofString "value" = Str.ofString "code") = False := eq_false (by decide +kernel)
    simp [lookD, ne]
  have eqs : ∀ (z : Str) (Q : KD), ok 0 (.str z) = true → dEq (.str "InvalidMirror") (.str z) μ Q = Q (.bl ((Str.ofString "InvalidMirror") == z)) μ := fun z Q hz => by
    rw [d_eq (n := 0) (by decide +kernel) hz (by decide)]
    rfl
  have ins : ∀ (zs : List Str) (Q : KD), ok 1 (.tup (zs.map D.str)) = true → dIn (.str "InvalidMirror") (.tup (zs.map D.str)) μ Q = Q (.bl ((zs.map D.str).any fun y => deq y (.str "InvalidMirror"))) μ := fun zs Q hz => d_in_tup (n := 1) (by decide +kernel) hz (by decide)
  have i1 := fun Q => ins ["InvalidWind", "InvalidRegion", "InvalidPath", "InvalidSquall"] Q (by decide +kernel)
  have i2 := fun Q => ins ["InvalidHeights", "OtherChart", "Ended"] Q (by decide +kernel)
  have n1 : (((["InvalidWind", "InvalidRegion", "InvalidPath", "InvalidSquall"] : List Str).map D.str).any fun y => deq y (.str "InvalidMirror")) = false := by decide +kernel
  have n2 : (((["InvalidHeights", "OtherChart", "Ended"] : List Str).map D.str).any fun y => deq y (.str "InvalidMirror")) = false := by decide +kernel
  rw [n1] at i1
  rw [n2] at i2
  simp only [List.map_cons, List.map_nil] at i1 i2
  unfold b_field
  simp only [s_seq, s_if, b_b, e_op, code, e_c, e_tup, a_cons, a_nil]
  rw [eqs "InvalidChart" _ (by decide +kernel), show (Str.ofString "InvalidMirror" == Str.ofString "InvalidChart") = false by decide +kernel]
  simp only [onB_bl, Bool.false_eq_true, if_false, s_next, s_seq, s_if, b_b, e_op, code, e_c, e_tup, a_cons, a_nil]
  rw [eqs "InvalidText" _ (by decide +kernel), show (Str.ofString "InvalidMirror" == Str.ofString "InvalidText") = false by decide +kernel]
  simp only [onB_bl, Bool.false_eq_true, if_false, s_next, s_seq, s_if, b_b, e_op, code, e_c, e_tup, a_cons, a_nil]
  refine ⟨small (by decide), ?_⟩
  rw [i1]
  simp only [onB_bl, Bool.false_eq_true, if_false, s_next, s_seq, s_if, b_b, e_op, code, e_c, e_tup, a_cons, a_nil]
  rw [eqs "TooMany" _ (by decide +kernel), show (Str.ofString "InvalidMirror" == Str.ofString "TooMany") = false by decide +kernel]
  simp only [onB_bl, Bool.false_eq_true, if_false, s_next, s_ret, e_if, b_b, e_op, code, e_c, e_tup, a_cons, a_nil]
  refine ⟨small (by decide), ?_⟩
  rw [i2]
  simp only [onB_bl, Bool.false_eq_true, if_false, val]
  exact ⟨small (show 1 ≤ 1000 by decide), hP⟩
end W02
set_option Elab.async false
set_option linter.all false
set_option maxRecDepth 100000
namespace W02
open PySem PySem.Spec PyProof.Rows L2 RZ LamX Tr
theorem v_12 {μ : Mu} {P : KD} {a0 a1 a2 a3 a4 a5 a6 a7 a8 a9 a10 a11 : Option D} {d : D} {r : Tr.Env} : eVar 12 (a0 :: a1 :: a2 :: a3 :: a4 :: a5 :: a6 :: a7 :: a8 :: a9 :: a10 :: a11 :: some d :: r) μ P = P d μ := id rfl
theorem v_13 {μ : Mu} {P : KD} {a0 a1 a2 a3 a4 a5 a6 a7 a8 a9 a10 a11 a12 : Option D} {d : D} {r : Tr.Env} : eVar 13 (a0 :: a1 :: a2 :: a3 :: a4 :: a5 :: a6 :: a7 :: a8 :: a9 :: a10 :: a11 :: a12 :: some d :: r) μ P = P d μ := id rfl
theorem v_14 {μ : Mu} {P : KD} {a0 a1 a2 a3 a4 a5 a6 a7 a8 a9 a10 a11 a12 a13 : Option D} {d : D} {r : Tr.Env} : eVar 14 (a0 :: a1 :: a2 :: a3 :: a4 :: a5 :: a6 :: a7 :: a8 :: a9 :: a10 :: a11 :: a12 :: a13 :: some d :: r) μ P = P d μ := id rfl

theorem okA_drop {n : Nat} : ∀ {k : Nat} {ds : List D}, okA n ds = true → okA n (ds.drop k) = true
  | 0, ds, h => h
  | k + 1, [], h => h
  | k + 1, d :: ds, h => by
    simp only [okA, Bool.and_eq_true] at h
    exact okA_drop (k := k) h.2
theorem okA_take {n : Nat} : ∀ {k : Nat} {ds : List D}, okA n ds = true → okA n (ds.take k) = true
  | 0, ds, h => rfl
  | k + 1, [], h => rfl
  | k + 1, d :: ds, h => by
    simp only [okA, Bool.and_eq_true] at h
    simp only [List.take_succ_cons, okA, Bool.and_eq_true]
    exact ⟨h.1, okA_take (k := k) h.2⟩
theorem okA_app {n : Nat} : ∀ {as bs : List D}, okA n as = true → okA n bs = true → okA n (as ++ bs) = true
  | [], bs, _, h => h
  | a :: as, bs, h, h' => by
    simp only [okA, Bool.and_eq_true] at h
    simp only [List.cons_append, okA, Bool.and_eq_true]
    exact ⟨h.1, okA_app h.2 h'⟩
theorem cut_len (xs : List D) (lo hi : Option Int) : (Tr.cutD xs lo hi).length ≤ xs.length := by
  unfold Tr.cutD
  rw [List.length_take, List.length_drop]
  omega
theorem cut_ok {n : Nat} {xs : List D} (lo hi : Option Int) (h : okA n xs = true) : okA n (Tr.cutD xs lo hi) = true := okA_take (okA_drop h)
theorem ok_tup {n : Nat} {xs : List D} (h : okA n xs = true) (hl : xs.length ≤ 1000) : ok (n + 1) (.tup xs) = true := by simp [ok, h, hl]
theorem ok_lst {n : Nat} {xs : List D} (h : okA n xs = true) (hl : xs.length ≤ 1000) : ok (n + 1) (.lst xs) = true := by simp [ok, h, hl]
theorem okA_of {n : Nat} : ∀ {ds : List D}, (∀ d, d ∈ ds → ok n d = true) → okA n ds = true
  | [], _ => rfl
  | d :: ds, h => by
    simp only [okA, Bool.and_eq_true]
    exact ⟨h d List.mem_cons_self, okA_of fun e he => h e (List.mem_cons_of_mem _ he)⟩
theorem ok_le {m : Nat} : ∀ {n : Nat} {d : D}, m ≤ n → ok m d = true → ok n d = true
  | n, d, h, o => by
    induction h with
    | refl => exact o
    | step _ ih => exact ok_up ih
/-- the cells moved to -/
def moved (r c : Int) : List D := (List.range 5).map fun i => .tup [.int (r + rowM i), .int (c + colM i)]
def dirN (i : Nat) : D := .str (i_DIRECTIONS.getD i "")
theorem dirs_range : t_DIRECTIONS = (List.range 5).map dirN := rfl
theorem dirN_of : ∀ i, i < 5 → dirOf (dirN i) = some i ∧ ok 3 (dirN i) = true := by decide +kernel
theorem mv {IM : Addr} {r c : Int} {i : Nat} (hi : i < 5) {μ : Mu} {P : KD} (h : P (.tup [.int (r + rowM i), .int (c + colM i)]) μ) : noR (sp_moved_cell IM) [.tup [.int r, .int c], dirN i] μ P := by
  obtain ⟨h1, h2⟩ := dirN_of i hi
  refine ⟨r, c, dirN i, rfl, h2, ?_⟩
  rw [h1]
  exact h
theorem ok_moved (r c : Int) : ok 7 (.lst (moved r c)) = true := by rfl
theorem mvL_range : (mvL.map fun p => D.tup [.int p.1, .int p.2]) = (List.range 5).map fun i => D.tup [.int (rowM i), .int (colM i)] := by rfl
def badL : List D := [.str "", .str "North", .str "nort", .str "norths", .str "up", .non, .int 0, .int 1, .bl true, .tup [.str "north"], .lst [.str "east"], .str "stay ", .tup [.int 0, .int 1]]
theorem bad_no : ∀ d, d ∈ badL → dirOf d = none ∧ ok 1 d = true := by
  intro d hd
  simp only [badL, List.mem_cons, List.not_mem_nil, or_false] at hd
  rcases hd with rfl | rfl | rfl | rfl | rfl | rfl | rfl | rfl | rfl | rfl | rfl | rfl | rfl
  all_goals first
    | exact ⟨rfl, rfl⟩
    | exact ⟨by decide +kernel, by decide +kernel⟩
def oddL : List D := [.int (-1), .int 100, .bl true, .bl false, .str "1", .tup [.int 0], .lst [], .int 99, .int 0, .non, .int 999999999]
theorem odd_ok : ∀ d, d ∈ oddL → ok 1 d = true := by
  intro d hd
  simp only [oddL, List.mem_cons, List.not_mem_nil, or_false] at hd
  rcases hd with rfl | rfl | rfl | rfl | rfl | rfl | rfl | rfl | rfl | rfl | rfl
  all_goals first
    | rfl
    | decide +kernel
theorem e_try {n0 : Nat} {Pt : Addr} {q : Str} {Cs : List Addr} {bs : Addr → Addr → Option Addr → ST} {tb : KX → ET} {ρ : Tr.Env} {μ : Mu} {P : KD} : eTry n0 Pt q Cs bs tb ρ μ P = (μ[n0]? = some (some (.tbl Pt q)) ∧
  tb (fun C ns ds μ2 => C ∈ Cs ∧ ∀ a d, bs a C d { nx := fun _ μ' => P .non μ', rt := P } [none, some (.hx a C d ns ds)] μ2) ρ μ fun d μ1 => P (.tup [.str "told", d]) μ1) := id rfl
theorem suite_ok {IM a C : Addr} {d : Option Addr} {x : D} {μ : Mu} {P : KD} {nx : Tr.Env → Mu → Prop} (hC : C ∈ [IM]) (h : P (.tup [.str "no", .str "InvalidMirror", x]) μ) : b_suite IM a C d { nx := nx, rt := P } [none, some (.hx a C d ["code", "value"] [.str "InvalidMirror", x])] μ := by
  unfold b_suite
  have code : ∀ (ρ : Tr.Env) (Q : KD), eHx a C d "code" (eVar 1) (none :: some (.hx a C d ["code", "value"] [.str "InvalidMirror", x]) :: ρ) μ Q = Q (.str "InvalidMirror") μ := fun ρ Q => by
    unfold eHx
    simp [lookD]
  simp only [s_ret, e_op, e_tup, a_cons, a_nil, e_c, code, e_call, e_v1]
  refine ⟨small (by decide), ⟨x, rfl, hC, ?_⟩⟩
  simp only [d_add_tup]
  exact ⟨small (show 3 ≤ 1000 by decide), h⟩
end W02
set_option Elab.async false
set_option linter.all false
set_option maxRecDepth 100000
namespace W02
open PySem PySem.Spec PyProof.Rows L2 RZ LamX Tr
theorem d_sl_tup {xs : List D} {lo hi : Option Int} {μ : Mu} {P : KD} : dSl (.tup xs) lo hi μ P = P (.tup (Tr.cutD xs lo hi)) μ := id rfl
theorem d_lst_tup {xs : List D} {μ : Mu} {P : KD} : dLstOf [.tup xs] μ P = P (.lst xs) μ := id rfl
theorem d_tup_lst {xs : List D} {μ : Mu} {P : KD} : dTupOf [.lst xs] μ P = P (.tup xs) μ := id rfl
section
variable {IM Pt : Addr} {DD : EndsD} {μ : Mu} {a0 a1 a2 a3 a4 a5 a6 a7 a8 a9 a10 a11 a12 a13 a14 : Option D} {ρ r : Tr.Env}
theorem st_2 (h : DD.nx ρ μ) : c_law_2 IM Pt DD ρ μ := by
  unfold c_law_2
  simp only [s_if, b_not, b_t, e_call, e_callP, a_cons, a_nil, e_lst, e_tup, e_c]
  refine ⟨small (by decide), rfl, ⟨_, rfl, by decide, ?_⟩⟩
  refine ⟨small (by decide), ⟨rfl, ?_⟩⟩
  simp only [d_tup_lst]
  refine ⟨small (by decide), ⟨_, rfl, by decide +kernel, ?_⟩⟩
  simp only [sized_bl, tru_bl, true_and, Bool.not_true, Bool.false_eq_true, if_false, s_next]
  exact h
theorem st_3 (hb : BagAt μ 1) (h : ∀ xs μ', xs.length = 5 → xs.all isToll = true → Dr 1 μ μ' → DD.nx (a0 :: some (.loc 1) :: a2 :: some (.tup xs) :: r) μ') : c_law_3 IM Pt DD (a0 :: some (.loc 1) :: a2 :: a3 :: r) μ := by
  unfold c_law_3
  simp only [s_set, e_call, a_cons, a_nil, e_v1, List.set_cons_succ, List.set_cons_zero]
  refine ⟨1, rfl, hb, fun g μ' hg hd => ?_⟩
  obtain ⟨xs, rfl, h5, hx⟩ := hg
  exact h xs μ' h5 hx hd
theorem st_4 (hb : BagAt μ 1) (h : ∀ spot odd μ', 0 ≤ spot → spot < 5 → ok 1 odd = true → Dr 1 μ μ' → DD.nx (a0 :: some (.loc 1) :: a2 :: a3 :: some (.int spot) :: some odd :: r) μ') : c_law_4 IM Pt DD (a0 :: some (.loc 1) :: a2 :: a3 :: a4 :: a5 :: r) μ := by
  unfold c_law_4
  simp only [s_par, e_call, a_cons, a_nil, e_v1, e_c, e_lst, e_tup, e_un, d_neg, List.set_cons_succ, List.set_cons_zero]
  refine ⟨1, 5, rfl, hb, by decide, by decide, fun spot μ3 hs0 hs5 hd3 => ?_⟩
  refine ⟨small (by decide), small (by decide), small (by decide), ?_⟩
  exact ⟨1, .lst oddL, rfl, hd3.at hb, by simp [picks, oddL], by simp [picks, oddL], fun odd μ4 hodd hd4 => h spot odd μ4 hs0 hs5 (odd_ok odd hodd) (hd3.trans hd4)⟩
theorem st_5 {xs : List D} {spot : Int} {odd : D} (h5 : xs.length = 5) (h : DD.nx (a0 :: a1 :: a2 :: some (.tup xs) :: some (.int spot) :: some odd :: some (.tup (Tr.cutD xs none (some spot) ++ [odd] ++ Tr.cutD xs (some (spot + 1)) none)) :: r) μ) :
    c_law_5 IM Pt DD (a0 :: a1 :: a2 :: some (.tup xs) :: some (.int spot) :: some odd :: a6 :: r) μ := by
  have hcl : ∀ lo hi, (Tr.cutD xs lo hi).length ≤ 5 := fun lo hi => h5 ▸ cut_len xs lo hi
  have h1 := hcl none (some spot)
  have h2 := hcl (some (spot + 1)) none
  unfold c_law_5
  simp only [s_set, e_op, e_sl, e_v3, e_v4, e_v5, o_no, o_yes, e_tup, a_cons, a_nil, e_c, d_add_int, d_sl_tup, d_add_tup, List.set_cons_succ, List.set_cons_zero]
  exact ⟨small (show 1 ≤ 1000 by decide), small (by simp only [List.length_cons, List.length_nil]; omega), small (by simp only [List.length_append, List.length_cons, List.length_nil]; omega), h⟩
theorem st_6 {xs bent : List D} {spot : Int} {odd : D} (h5 : xs.length = 5) (hx : xs.all isToll = true) (hb : okA 1 bent = true) (hbl : bent.length ≤ 1000) (ho : ok 1 odd = true)
    (h : ∀ L, okA 2 L = true → L.length = 8 → DD.nx (a0 :: a1 :: a2 :: some (.tup xs) :: some (.int spot) :: some odd :: some (.tup bent) :: some (.lst L) :: r) μ) :
    c_law_6 IM Pt DD (a0 :: a1 :: a2 :: some (.tup xs) :: some (.int spot) :: some odd :: some (.tup bent) :: a7 :: r) μ := by
  have hcl : ∀ lo hi, (Tr.cutD xs lo hi).length ≤ 5 := fun lo hi => h5 ▸ cut_len xs lo hi
  have hxs : okA 0 xs = true := okA_of fun d hd => isToll_ok (List.all_eq_true.mp hx d hd)
  have hxs1 : okA 1 xs = true := okA_mono hxs
  have hc : ∀ lo hi, okA 1 (Tr.cutD xs lo hi) = true := fun lo hi => cut_ok lo hi hxs1
  have l1 := hcl none (some spot)
  have l2 := hcl (some (spot + 1)) none
  have l3 := hcl (some spot) none
  obtain ⟨x, xs', rfl⟩ : ∃ x xs', xs = x :: xs' := by
    cases xs with
    | nil => cases h5
    | cons x xs' => exact ⟨x, xs', rfl⟩
  have hx0 : ok 0 x = true := by
    simp only [okA, Bool.and_eq_true] at hxs
    exact hxs.1
  unfold c_law_6
  simp only [s_set, e_lst, e_op, e_sl, e_v3, e_v4, e_v5, e_v6, o_no, o_yes, e_tup, e_call, a_cons, a_nil, e_c, d_add_int, d_sl_tup, d_add_tup, d_lst_tup, d_ix_tup, atI0, List.set_cons_succ, List.set_cons_zero]
  refine ⟨small (by omega), small (show 1 ≤ 1000 by decide), small (by simp only [List.length_cons, List.length_nil]; omega), small (by simp only [List.length_append, List.length_cons, List.length_nil]; omega), small (show 1 ≤ 1000 by decide), small (show 8 ≤ 1000 by decide), h _ ?_ rfl⟩
  refine okA_of fun d hd => ?_
  simp only [List.mem_cons, List.not_mem_nil, or_false] at hd
  rcases hd with rfl | rfl | rfl | rfl | rfl | rfl | rfl | rfl
  · exact ok_tup hxs1 (by omega)
  · exact ok_tup hb hbl
  · exact ok_tup (okA_app (hc _ _) (hc _ _)) (by rw [List.length_append]; omega)
  · exact ok_tup (okA_app (okA_app (hc _ _) (by rfl)) (hc _ _)) (by simp only [List.length_append, List.length_cons, List.length_nil]; omega)
  · exact ok_lst hxs1 (by omega)
  · exact ok_tup (by simp only [okA, Bool.and_true]; exact ok_tup hxs (by omega)) (show 1 ≤ 1000 by decide)
  · exact ok_up ho
  · exact ok_le (by decide) hx0
theorem okA_bls {α : Type} {f : α → Bool} {n : Nat} : ∀ l : List α, okA n (l.map fun j => D.bl (f j)) = true
  | [] => rfl
  | a :: l => by
    simp only [List.map_cons, okA, okA_bls l, Bool.and_true]
    cases n <;> rfl
theorem st_8 {L : List D} (hL : okA 2 L = true) (hl : L.length = 8) (h : DD.nx (a0 :: a1 :: a2 :: a3 :: a4 :: a5 :: a6 :: some (.lst L) :: a8 :: a9 :: a10 :: a11 :: a12 :: a13 :: r) μ) :
    c_law_8 IM Pt DD (a0 :: a1 :: a2 :: a3 :: a4 :: a5 :: a6 :: some (.lst L) :: a8 :: a9 :: a10 :: a11 :: a12 :: a13 :: r) μ := by
  unfold c_law_8
  simp only [s_if, b_not, b_t, e_call, a_cons, a_nil, e_comp, it_any, e_v7, wipe_cons, wipe_nil, List.set_cons_succ, List.set_cons_zero]
  refine comp_map (f := fun d => .bl (isWind d)) L [] μ _ (by simp [hl]) (fun d hd P hP => ?_) ?_
  · simp only [g_nm, e_call, a_cons, a_nil, v_13, List.set_cons_succ, List.set_cons_zero]
    exact ⟨d, rfl, ok_up (okA_mem hL hd), hP⟩
  · refine comp_map (f := fun d => .bl (isWind d)) L [] μ _ (by simp [hl]) (fun d hd P hP => ?_) ?_
    · simp only [g_nm, e_call, a_cons, a_nil, v_13, List.set_cons_succ, List.set_cons_zero]
      exact ⟨d, rfl, ok_up (okA_mem hL hd), hP⟩
    · refine ⟨_, rfl, (show ok 7 _ = true from ok_lst (okA_bls _) (by simp [hl])), ?_⟩
      simp only [sized_bl, tru_bl, true_and, Bool.not_true, Bool.false_eq_true, if_false, s_next]
      exact h
theorem st_9 (hb : BagAt μ 1) (h : ∀ x y μ', Dr 1 μ μ' → DD.nx (a0 :: some (.loc 1) :: a2 :: a3 :: a4 :: a5 :: a6 :: a7 :: some (.tup [.int x, .int y]) :: r) μ') : c_law_9 IM Pt DD (a0 :: some (.loc 1) :: a2 :: a3 :: a4 :: a5 :: a6 :: a7 :: a8 :: r) μ := by
  unfold c_law_9
  simp only [s_set, e_call, a_cons, a_nil, e_v1, e_c, e_tup, List.set_cons_succ, List.set_cons_zero]
  exact ⟨1, 6, rfl, hb, by decide, by decide, fun x μ2 _ _ hd2 => ⟨1, 6, rfl, hd2.at hb, by decide, by decide, fun y μ3 _ _ hd3 => ⟨small (show 2 ≤ 1000 by decide), h x y μ3 (hd2.trans hd3)⟩⟩⟩
theorem st_10 {x y : Int} (h : DD.nx (a0 :: a1 :: a2 :: a3 :: a4 :: a5 :: a6 :: a7 :: some (.tup [.int x, .int y]) :: some (.lst (moved x y)) :: a10 :: a11 :: a12 :: r) μ) :
    c_law_10 IM Pt DD (a0 :: a1 :: a2 :: a3 :: a4 :: a5 :: a6 :: a7 :: some (.tup [.int x, .int y]) :: a9 :: a10 :: a11 :: a12 :: r) μ := by
  unfold c_law_10
  simp only [s_set, e_comp, it_any, e_call, a_nil, wipe_cons, wipe_nil, List.set_cons_succ, List.set_cons_zero]
  refine ⟨rfl, ?_⟩
  rw [mvL_range]
  simp only
  refine comp_mapG (fun i => .tup [.int (rowM i), .int (colM i)]) (fun i => .tup [.int (x + rowM i), .int (y + colM i)]) (List.range 5) [] μ _ (by decide) (fun i hi P hP => ?_) ?_
  · simp only [g_nm, e_tup, a_cons, a_nil, e_op, e_v8, v_12, e_c, d_ix_tup, atI0, atI1, d_add_int, List.set_cons_succ, List.set_cons_zero]
    exact ⟨small (show 2 ≤ 1000 by decide), hP⟩
  · exact h
theorem st_12 {x y : Int} (h : DD.nx (a0 :: a1 :: a2 :: a3 :: a4 :: a5 :: a6 :: a7 :: some (.tup [.int x, .int y]) :: some (.lst (moved x y)) :: a10 :: a11 :: a12 :: a13 :: a14 :: r) μ) :
    c_law_12 IM Pt DD (a0 :: a1 :: a2 :: a3 :: a4 :: a5 :: a6 :: a7 :: some (.tup [.int x, .int y]) :: some (.lst (moved x y)) :: a10 :: a11 :: a12 :: a13 :: a14 :: r) μ := by
  unfold c_law_12
  simp only [s_if, b_not, b_t, e_call, a_cons, a_nil, e_comp, it_any, wipe_cons, wipe_nil, List.set_cons_succ, List.set_cons_zero]
  refine ⟨rfl, ?_⟩
  rw [dirs_range]
  simp only
  refine comp_mapG dirN (fun i => .tup [.int (x + rowM i), .int (y + colM i)]) (List.range 5) [] μ _ (by decide) (fun i hi P hP => ?_) ?_
  · simp only [g_nm, e_call, a_cons, a_nil, e_v8, v_14, List.set_cons_succ, List.set_cons_zero]
    exact mv (List.mem_range.mp hi) hP
  · simp only [e_v9]
    refine ⟨.lst (moved x y), rfl, ok_moved x y, ?_⟩
    simp only [sized_bl, tru_bl, true_and, Bool.not_true, Bool.false_eq_true, if_false, s_next]
    exact h
theorem st_14 {x y : Int} (h : DD.nx (a0 :: a1 :: a2 :: a3 :: a4 :: a5 :: a6 :: a7 :: some (.tup [.int x, .int y]) :: some (.lst (moved x y)) :: a10 :: a11 :: a12 :: a13 :: a14 :: r) μ) :
    c_law_14 IM Pt DD (a0 :: a1 :: a2 :: a3 :: a4 :: a5 :: a6 :: a7 :: some (.tup [.int x, .int y]) :: some (.lst (moved x y)) :: a10 :: a11 :: a12 :: a13 :: a14 :: r) μ := by
  unfold c_law_14
  simp only [s_if, b_not, b_t, e_call, a_cons, a_nil, e_comp, it_any, e_c, wipe_cons, wipe_nil, List.set_cons_succ, List.set_cons_zero]
  rw [dirs_range]
  refine comp_mapG dirN (fun i => .tup [.int (x + rowM i), .int (y + colM i)]) (List.range 5) [] μ _ (by decide) (fun i hi P hP => ?_) ?_
  · simp only [g_nm, e_callP, a_cons, a_nil, e_v8, v_14, List.set_cons_succ, List.set_cons_zero]
    exact ⟨rfl, mv (List.mem_range.mp hi) hP⟩
  · simp only [e_v9]
    refine ⟨.lst (moved x y), rfl, ok_moved x y, ?_⟩
    simp only [sized_bl, tru_bl, true_and, Bool.not_true, Bool.false_eq_true, if_false, s_next]
    exact h
theorem mvs {x y : Int} {i : Nat} {z : Str} {P : KD} (hi : i < 5) (hz : dirN i = .str z) (h : P (.tup [.int (x + rowM i), .int (y + colM i)]) μ) : noR (sp_moved_cell IM) [.tup [.int x, .int y], .str z] μ P := hz ▸ mv hi h
theorem st_15 {x y : Int} (h : DD.nx (a0 :: a1 :: a2 :: a3 :: a4 :: a5 :: a6 :: a7 :: some (.tup [.int x, .int y]) :: a9 :: some (.lst [.tup [.int x, .int y], .tup [.int x, .int y]]) :: r) μ) :
    c_law_15 IM Pt DD (a0 :: a1 :: a2 :: a3 :: a4 :: a5 :: a6 :: a7 :: some (.tup [.int x, .int y]) :: a9 :: a10 :: r) μ := by
  unfold c_law_15
  simp only [s_set, e_lst, e_call, a_cons, a_nil, e_v8, e_c, List.set_cons_succ, List.set_cons_zero]
  refine mvs (i := 1) (by decide) rfl (mvs (i := 3) (by decide) rfl (mvs (i := 4) (by decide) rfl (mvs (i := 2) (by decide) rfl ⟨small (show 2 ≤ 1000 by decide), ?_⟩)))
  have e1 : x + rowM 1 + rowM 3 = x := by show x + -1 + 1 = x; omega
  have e2 : y + colM 1 + colM 3 = y := by show y + 0 + 0 = y; omega
  have e3 : x + rowM 4 + rowM 2 = x := by show x + 0 + 0 = x; omega
  have e4 : y + colM 4 + colM 2 = y := by show y + -1 + 1 = y; omega
  rw [e1, e2, e3, e4]
  exact h
theorem st_17 {x y : Int} (h : DD.nx (a0 :: a1 :: a2 :: a3 :: a4 :: a5 :: a6 :: a7 :: some (.tup [.int x, .int y]) :: a9 :: some (.lst [.tup [.int x, .int y], .tup [.int x, .int y]]) :: r) μ) :
    c_law_17 IM Pt DD (a0 :: a1 :: a2 :: a3 :: a4 :: a5 :: a6 :: a7 :: some (.tup [.int x, .int y]) :: a9 :: some (.lst [.tup [.int x, .int y], .tup [.int x, .int y]]) :: r) μ := by
  unfold c_law_17
  simp only [s_if, b_not, b_t, e_call, a_cons, a_nil, e_lst, e_v8, e_v10, List.set_cons_succ, List.set_cons_zero]
  refine ⟨small (show 2 ≤ 1000 by decide), ⟨_, rfl, (show ok 7 _ = true from rfl), ?_⟩⟩
  simp only [sized_bl, tru_bl, true_and, Bool.not_true, Bool.false_eq_true, if_false, s_next]
  exact h
theorem st_18 (hb : BagAt μ 1) (h : ∀ d μ', d ∈ badL → Dr 1 μ μ' → DD.nx (a0 :: some (.loc 1) :: a2 :: a3 :: a4 :: a5 :: a6 :: a7 :: a8 :: a9 :: a10 :: some d :: r) μ') :
    c_law_18 IM Pt DD (a0 :: some (.loc 1) :: a2 :: a3 :: a4 :: a5 :: a6 :: a7 :: a8 :: a9 :: a10 :: a11 :: r) μ := by
  unfold c_law_18
  simp only [s_set, e_lst, e_tup, e_call, a_cons, a_nil, e_v1, e_c, List.set_cons_succ, List.set_cons_zero]
  refine ⟨small (by decide), small (by decide), small (by decide), small (by decide), ?_⟩
  exact ⟨1, .lst badL, rfl, hb, by simp [picks, badL], by simp [picks, badL], fun d μ' hd hr => h d μ' hd hr⟩
theorem st_20 {x y : Int} {d : D} (ht : μ[0]? = some (some (.tbl Pt lq))) (hd : d ∈ badL) (h : DD.nx (a0 :: a1 :: a2 :: a3 :: a4 :: a5 :: a6 :: a7 :: some (.tup [.int x, .int y]) :: a9 :: a10 :: some d :: r) μ) :
    c_law_20 IM Pt DD (a0 :: a1 :: a2 :: a3 :: a4 :: a5 :: a6 :: a7 :: some (.tup [.int x, .int y]) :: a9 :: a10 :: some d :: r) μ := by
  obtain ⟨hn, ho⟩ := bad_no d hd
  unfold c_law_20
  simp only [s_if, b_not, b_t, e_call, a_cons, a_nil, e_try]
  refine ⟨ht, ?_⟩
  unfold eCallX
  simp only [a_cons, a_nil, e_v8, e_v11]
  refine ⟨x, y, d, rfl, ok_le (by decide) ho, ?_⟩
  rw [hn]
  refine ⟨List.mem_cons_self, fun a dd => suite_ok List.mem_cons_self ?_⟩
  simp only [e_tup, a_cons, a_nil, e_c, e_v11]
  refine ⟨small (show 3 ≤ 1000 by decide), ⟨_, rfl, (show ok 7 _ = true from ok_tup (okA_of fun e he => ?_) (show 3 ≤ 1000 by decide)), ?_⟩⟩
  · simp only [List.mem_cons, List.not_mem_nil, or_false] at he
    rcases he with rfl | rfl | rfl
    · decide +kernel
    · decide +kernel
    · exact ok_le (by decide) ho
  · simp only [sized_bl, tru_bl, true_and, Bool.not_true, Bool.false_eq_true, if_false, s_next]
    exact h
end
end W02
set_option Elab.async false
set_option linter.all false
set_option maxRecDepth 100000
namespace W02
open PySem PySem.Spec PyProof.Rows L2 RZ LamX Tr
theorem sq1 {a b : ST} {DD : EndsD} {ρ : Tr.Env} {μ : Mu} (h : ∀ D1 : EndsD, D1.nx = b DD → a D1 ρ μ) : sSeq a b DD ρ μ := by
  rw [s_seq]
  exact h _ rfl
theorem hs_law (IM Pt : Addr) : ∀ ds μ Pd, sp_law Pt ds μ Pd → b_law IM Pt { nx := fun _ μ' => Pd .non μ', rt := Pd } (startD n_law ds) μ := by
  rintro ds μ Pd ⟨ns, rfl, hl, rfl, hP⟩
  change b_law IM Pt _ [some (.fz (ns.map D.int)), none, none, none, none, none, none, none, none, none, none, none, none, none, none] _
  unfold b_law
  rw [s_seq]
  unfold c_law_0
  simp only [s_set, e_call, a_cons, a_nil, e_v0]
  refine ⟨ns, rfl, hl, fun c hc => ?_⟩
  have hb0 : BagAt ([some (.tbl Pt lq)] ++ [some c]) 1 := ⟨c, rfl, hc⟩
  have ht0 : ([some (.tbl Pt lq)] ++ [some c])[0]? = some (some (.tbl Pt lq)) := rfl
  simp only [List.length_cons, List.length_nil, Nat.zero_add, List.set_cons_succ, List.set_cons_zero]
  generalize [some (.tbl Pt lq)] ++ [some c] = μ0 at hb0 ht0
  clear hc
  refine sq1 fun D0 e0 => st_2 (IM := IM) (Pt := Pt) ?_
  rw [e0]; clear e0 D0
  refine sq1 fun D0 e0 => ?_
  unfold c_law_21
  simp only [s_for, it_range1, e_c, a_cons, a_nil]
  refine ⟨⟨by decide, by decide⟩, ?_⟩
  refine loop_inv (fun _ ρ μ' => μ'[0]? = some (some (.tbl Pt lq)) ∧ BagAt μ' 1 ∧ ∃ l : List (Option D), l.length = 13 ∧ ρ = some (.fz (ns.map D.int)) :: some (.loc 1) :: l) _ _ _ ⟨ht0, hb0, _, rfl, rfl⟩ ?_ ?_
  · rintro d ds ρ μ1 nx ⟨ht, hb, l, hl13, rfl⟩ hnx
    obtain ⟨o2, o3, o4, o5, o6, o7, o8, o9, o10, o11, o12, o13, o14, rfl⟩ : ∃ o2 o3 o4 o5 o6 o7 o8 o9 o10 o11 o12 o13 o14, l = [o2, o3, o4, o5, o6, o7, o8, o9, o10, o11, o12, o13, o14] := by
      match l, hl13 with
      | [o1, o2, o3, o4, o5, o6, o7, o8, o9, o10, o11, o12, o13], _ => exact ⟨_, _, _, _, _, _, _, _, _, _, _, _, _, rfl⟩
    simp only [g_nm, List.set_cons_succ, List.set_cons_zero]
    refine sq1 fun D1 e1 => st_3 (IM := IM) (Pt := Pt) hb fun xs μ2 h5 hx d2 => ?_
    rw [e1]; clear e1 D1
    have hb2 := d2.at hb
    refine sq1 fun D2 e2 => st_4 (IM := IM) (Pt := Pt) hb2 fun spot odd μ3 hs0 hs5 hodd d3 => ?_
    rw [e2]; clear e2 D2
    have hb3 := d3.at hb2
    refine sq1 fun D3 e3 => st_5 (IM := IM) (Pt := Pt) h5 ?_
    rw [e3]; clear e3 D3
    have hxs : okA 1 xs = true := okA_mono (okA_of fun d hd => isToll_ok (List.all_eq_true.mp hx d hd))
    have hcl : ∀ lo hi, (Tr.cutD xs lo hi).length ≤ 5 := fun lo hi => h5 ▸ cut_len xs lo hi
    have l1 := hcl none (some spot)
    have l2 := hcl (some (spot + 1)) none
    refine sq1 fun D4 e4 => st_6 (IM := IM) (Pt := Pt) h5 hx (okA_app (okA_app (cut_ok _ _ hxs) (by simp only [okA, Bool.and_true]; exact hodd)) (cut_ok _ _ hxs)) (by simp only [List.length_append, List.length_cons, List.length_nil]; omega) hodd fun L hL hLl => ?_
    rw [e4]; clear e4 D4
    refine sq1 fun D5 e5 => st_8 (IM := IM) (Pt := Pt) hL hLl ?_
    rw [e5]; clear e5 D5
    refine sq1 fun D6 e6 => st_9 (IM := IM) (Pt := Pt) hb3 fun x y μ4 d4 => ?_
    rw [e6]; clear e6 D6
    have hb4 := d4.at hb3
    refine sq1 fun D7 e7 => st_10 (IM := IM) (Pt := Pt) ?_
    rw [e7]; clear e7 D7
    refine sq1 fun D8 e8 => st_12 (IM := IM) (Pt := Pt) ?_
    rw [e8]; clear e8 D8
    refine sq1 fun D9 e9 => st_14 (IM := IM) (Pt := Pt) ?_
    rw [e9]; clear e9 D9
    refine sq1 fun D10 e10 => st_15 (IM := IM) (Pt := Pt) ?_
    rw [e10]; clear e10 D10
    refine sq1 fun D11 e11 => st_17 (IM := IM) (Pt := Pt) ?_
    rw [e11]; clear e11 D11
    refine sq1 fun D12 e12 => st_18 (IM := IM) (Pt := Pt) hb4 fun bad μ5 hbad d5 => ?_
    rw [e12]; clear e12 D12
    have ht5 : μ5[0]? = some (some (.tbl Pt lq)) := by rw [d5.other (by decide), d4.other (by decide), d3.other (by decide), d2.other (by decide)]; exact ht
    refine st_20 (IM := IM) (Pt := Pt) ht5 hbad ?_
    exact hnx _ _ ⟨ht5, d5.at hb4, _, rfl, rfl⟩
  · rintro _ μ1 ⟨_, _, l, hl13, rfl⟩
    rw [e0]
    simp only [c_law_22, s_ret, e_c]
    exact hP _
end W02
set_option Elab.async false
set_option linter.all false
set_option maxRecDepth 100000
namespace W02
open PySem PySem.Spec PyProof.Rows L2 RZ LamX Tr
section
variable {P : Program} {wd : World} {K : PySem.W.Frag} {mg : Str → Option Value} {base : Heap}
theorem G_is_number (IM : Addr) (T : Txt K mg IM) (XX : Xns P wd K mg base IM) (S_is_number : Sn K mg "is_number" s_is_number)  : FnI P wd K mg base "is_number" s_is_number 1 ["value", "least", "most"] sp_is_number :=
  S_is_number.fni (fun f fd F => fn_ok F sc_is_number (fun Ex Ee Hz cdv A outer s H E hr => pb_is_number IM T XX  Ex Ee Hz cdv A outer s H E hr) (fun ds μ Pd h => by first | (obtain ⟨_, rfl, _⟩ := h; rfl) | (obtain ⟨_, _, rfl, _⟩ := h; rfl) | (obtain ⟨_, _, _, rfl, _⟩ := h; rfl) | (obtain ⟨_, _, _, _, rfl, _⟩ := h; rfl) | (obtain ⟨rfl, _⟩ := h; rfl)) (hs_is_number IM)) (fun _ _ _ _ _ _ us hl => match us, hl with | [_, _, _], _ => rfl)
theorem G_is_toll (IM : Addr) (T : Txt K mg IM) (XX : Xns P wd K mg base IM) (S_is_toll : Sn K mg "is_toll" s_is_toll) (G_is_number : FnI P wd K mg base "is_number" s_is_number 1 ["value", "least", "most"] sp_is_number) : FnI P wd K mg base "is_toll" s_is_toll 2 ["value"] sp_is_toll :=
  S_is_toll.fni (fun f fd F => fn_ok F sc_is_toll (fun Ex Ee Hz cdv A outer s H E hr => pb_is_toll IM T XX G_is_number Ex Ee Hz cdv A outer s H E hr) (fun ds μ Pd h => by first | (obtain ⟨_, rfl, _⟩ := h; rfl) | (obtain ⟨_, _, rfl, _⟩ := h; rfl) | (obtain ⟨_, _, _, rfl, _⟩ := h; rfl) | (obtain ⟨_, _, _, _, rfl, _⟩ := h; rfl) | (obtain ⟨rfl, _⟩ := h; rfl)) (hs_is_toll IM)) (fun _ _ _ _ _ _ us hl => match us, hl with | [_], _ => rfl)
theorem G_is_wind (IM : Addr) (T : Txt K mg IM) (XX : Xns P wd K mg base IM) (S_is_wind : Sn K mg "is_wind" s_is_wind) (G_is_toll : FnI P wd K mg base "is_toll" s_is_toll 2 ["value"] sp_is_toll) : FnI P wd K mg base "is_wind" s_is_wind 3 ["value"] sp_is_wind :=
  S_is_wind.fni (fun f fd F => fn_ok F sc_is_wind (fun Ex Ee Hz cdv A outer s H E hr => pb_is_wind IM T XX G_is_toll Ex Ee Hz cdv A outer s H E hr) (fun ds μ Pd h => by first | (obtain ⟨_, rfl, _⟩ := h; rfl) | (obtain ⟨_, _, rfl, _⟩ := h; rfl) | (obtain ⟨_, _, _, rfl, _⟩ := h; rfl) | (obtain ⟨_, _, _, _, rfl, _⟩ := h; rfl) | (obtain ⟨rfl, _⟩ := h; rfl)) (hs_is_wind IM)) (fun _ _ _ _ _ _ us hl => match us, hl with | [_], _ => rfl)
theorem G_moved_cell (IM : Addr) (T : Txt K mg IM) (XX : Xns P wd K mg base IM) (S_moved_cell : Sn K mg "moved_cell" s_moved_cell)  : FxI P wd K mg base "moved_cell" s_moved_cell 3 ["cell", "direction"] (sp_moved_cell IM) :=
  S_moved_cell.fxi (fun f fd F => fx_ok F sc_moved_cell (fun Ex cdv A outer s H E hr => pb_moved_cell IM T XX  Ex cdv A outer s H E hr) (fun ds μ Pd Ex h => by first | (obtain ⟨_, rfl, _⟩ := h; rfl) | (obtain ⟨_, _, rfl, _⟩ := h; rfl) | (obtain ⟨_, _, _, rfl, _⟩ := h; rfl) | (obtain ⟨_, _, _, _, rfl, _⟩ := h; rfl) | (obtain ⟨rfl, _⟩ := h; rfl)) (hs_moved_cell IM)) (fun _ _ _ _ _ _ us hl => match us, hl with | [_, _], _ => rfl)
theorem G_bag (IM : Addr) (T : Txt K mg IM) (XX : Xns P wd K mg base IM) (S_bag : Sn K mg "_law_bag" s_bag)  : FnI P wd K mg base "_law_bag" s_bag 1 ["_law_script"] sp_bag :=
  S_bag.fni (fun f fd F => fn_ok F sc_bag (fun Ex Ee Hz cdv A outer s H E hr => pb_bag IM T XX  Ex Ee Hz cdv A outer s H E hr) (fun ds μ Pd h => by first | (obtain ⟨_, rfl, _⟩ := h; rfl) | (obtain ⟨_, _, rfl, _⟩ := h; rfl) | (obtain ⟨_, _, _, rfl, _⟩ := h; rfl) | (obtain ⟨_, _, _, _, rfl, _⟩ := h; rfl) | (obtain ⟨rfl, _⟩ := h; rfl)) (hs_bag IM)) (fun _ _ _ _ _ _ us hl => match us, hl with | [_], _ => rfl)
theorem G_draw (IM : Addr) (T : Txt K mg IM) (XX : Xns P wd K mg base IM) (S_draw : Sn K mg "_law_draw" s_draw)  : FnI P wd K mg base "_law_draw" s_draw 1 ["_law_bag_here", "_law_many"] sp_draw :=
  S_draw.fni (fun f fd F => fn_ok F sc_draw (fun Ex Ee Hz cdv A outer s H E hr => pb_draw IM T XX  Ex Ee Hz cdv A outer s H E hr) (fun ds μ Pd h => by first | (obtain ⟨_, rfl, _⟩ := h; rfl) | (obtain ⟨_, _, rfl, _⟩ := h; rfl) | (obtain ⟨_, _, _, rfl, _⟩ := h; rfl) | (obtain ⟨_, _, _, _, rfl, _⟩ := h; rfl) | (obtain ⟨rfl, _⟩ := h; rfl)) (hs_draw IM)) (fun _ _ _ _ _ _ us hl => match us, hl with | [_, _], _ => rfl)
theorem G_pick (IM : Addr) (T : Txt K mg IM) (XX : Xns P wd K mg base IM) (S_pick : Sn K mg "_law_pick" s_pick) (G_draw : FnI P wd K mg base "_law_draw" s_draw 1 ["_law_bag_here", "_law_many"] sp_draw) : FnI P wd K mg base "_law_pick" s_pick 2 ["_law_bag_here", "_law_some"] sp_pick :=
  S_pick.fni (fun f fd F => fn_ok F sc_pick (fun Ex Ee Hz cdv A outer s H E hr => pb_pick IM T XX G_draw Ex Ee Hz cdv A outer s H E hr) (fun ds μ Pd h => by first | (obtain ⟨_, rfl, _⟩ := h; rfl) | (obtain ⟨_, _, rfl, _⟩ := h; rfl) | (obtain ⟨_, _, _, rfl, _⟩ := h; rfl) | (obtain ⟨_, _, _, _, rfl, _⟩ := h; rfl) | (obtain ⟨rfl, _⟩ := h; rfl)) (hs_pick IM)) (fun _ _ _ _ _ _ us hl => match us, hl with | [_, _], _ => rfl)
theorem G_same (IM : Addr) (T : Txt K mg IM) (XX : Xns P wd K mg base IM) (S_same : Sn K mg "_law_same" s_same)  : ∀ n, FnI P wd K mg base "_law_same" s_same (n + 1) ["_law_found", "_law_due"] (sp_same n)
  | 0 => S_same.none (fun ds μ P ⟨_, _, h, _⟩ => nomatch h) (fun _ _ _ _ _ _ us hl => match us, hl with | [_, _], _ => rfl)
  | n + 1 => S_same.fni (fun f fd F => fn_ok F sc_same (fun Ex Ee Hz cdv A outer s H E hr => pb_same IM n T XX (G_same IM T XX S_same n) Ex Ee Hz cdv A outer s H E hr) (fun ds μ Pd h => by first | (obtain ⟨_, rfl, _⟩ := h; rfl) | (obtain ⟨_, _, rfl, _⟩ := h; rfl) | (obtain ⟨_, _, _, rfl, _⟩ := h; rfl) | (obtain ⟨_, _, _, _, rfl, _⟩ := h; rfl) | (obtain ⟨rfl, _⟩ := h; rfl)) (hs_same IM n)) (fun _ _ _ _ _ _ us hl => match us, hl with | [_, _], _ => rfl)
theorem G_field (IM : Addr) (T : Txt K mg IM) (XX : Xns P wd K mg base IM) (S_field : Sn K mg "_law_field" s_field)  : FpI P wd K mg base "_law_field" s_field 2 ["_law_e"] (sp_field IM) :=
  S_field.fpi (fun f fd F => fnp_okC (Cs := [IM]) F sc_field (fun Ex Ee Hz p C cdv A outer s H h1 h2 hC hr => pb_field IM T XX  Ex Ee Hz p C cdv A outer s H h1 h2 hC hr) (fun a C d ds μ Pd h => by first | (obtain ⟨_, rfl, _⟩ := h; rfl) | (obtain ⟨_, _, rfl, _⟩ := h; rfl) | (obtain ⟨_, _, _, rfl, _⟩ := h; rfl) | (obtain ⟨_, _, _, _, rfl, _⟩ := h; rfl) | (obtain ⟨rfl, _⟩ := h; rfl)) (fun a C d ds μ Pd h => by obtain ⟨_, _, h, _⟩ := h; exact h) (hs_field IM)) (fun _ _ _ _ _ _ us hl => match us, hl with | [_], _ => rfl)
theorem G_gust (IM : Addr) (T : Txt K mg IM) (XX : Xns P wd K mg base IM) (S_gust : Sn K mg "_law_gust" s_gust) (G_pick : FnI P wd K mg base "_law_pick" s_pick 2 ["_law_bag_here", "_law_some"] sp_pick) (G_draw : FnI P wd K mg base "_law_draw" s_draw 1 ["_law_bag_here", "_law_many"] sp_draw) : FnI P wd K mg base "_law_gust" s_gust 3 ["_law_bag_here"] sp_gust :=
  S_gust.fni (fun f fd F => fn_ok F sc_gust (fun Ex Ee Hz cdv A outer s H E hr => pb_gust IM T XX G_pick G_draw Ex Ee Hz cdv A outer s H E hr) (fun ds μ Pd h => by first | (obtain ⟨_, rfl, _⟩ := h; rfl) | (obtain ⟨_, _, rfl, _⟩ := h; rfl) | (obtain ⟨_, _, _, rfl, _⟩ := h; rfl) | (obtain ⟨_, _, _, _, rfl, _⟩ := h; rfl) | (obtain ⟨rfl, _⟩ := h; rfl)) (hs_gust IM)) (fun _ _ _ _ _ _ us hl => match us, hl with | [_], _ => rfl)
theorem G_moves (IM : Addr) (T : Txt K mg IM) (XX : Xns P wd K mg base IM) (S_moves : Sn K mg "_law_moves" s_moves)  : FnI P wd K mg base "_law_moves" s_moves 1 [] sp_moves :=
  S_moves.fni (fun f fd F => fn_ok F sc_moves (fun Ex Ee Hz cdv A outer s H E hr => pb_moves IM T XX  Ex Ee Hz cdv A outer s H E hr) (fun ds μ Pd h => by first | (obtain ⟨_, rfl, _⟩ := h; rfl) | (obtain ⟨_, _, rfl, _⟩ := h; rfl) | (obtain ⟨_, _, _, rfl, _⟩ := h; rfl) | (obtain ⟨_, _, _, _, rfl, _⟩ := h; rfl) | (obtain ⟨rfl, _⟩ := h; rfl)) (hs_moves IM)) (fun _ _ _ _ _ _ us hl => match us, hl with | [], _ => rfl)
theorem G_is_gust (IM : Addr) (T : Txt K mg IM) (XX : Xns P wd K mg base IM) (S_is_gust : Sn K mg "_law_is_gust" s_is_gust)  : FnI P wd K mg base "_law_is_gust" s_is_gust 1 ["_law_thing"] sp_is_gust :=
  S_is_gust.fni (fun f fd F => fn_ok F sc_is_gust (fun Ex Ee Hz cdv A outer s H E hr => pb_is_gust IM T XX  Ex Ee Hz cdv A outer s H E hr) (fun ds μ Pd h => by first | (obtain ⟨_, rfl, _⟩ := h; rfl) | (obtain ⟨_, _, rfl, _⟩ := h; rfl) | (obtain ⟨_, _, _, rfl, _⟩ := h; rfl) | (obtain ⟨_, _, _, _, rfl, _⟩ := h; rfl) | (obtain ⟨rfl, _⟩ := h; rfl)) (hs_is_gust IM)) (fun _ _ _ _ _ _ us hl => match us, hl with | [_], _ => rfl)
theorem G_words (IM : Addr) (T : Txt K mg IM) (XX : Xns P wd K mg base IM) (S_words : Sn K mg "_law_words" s_words)  : FnI P wd K mg base "_law_words" s_words 1 [] sp_words :=
  S_words.fni (fun f fd F => fn_ok F sc_words (fun Ex Ee Hz cdv A outer s H E hr => pb_words IM T XX  Ex Ee Hz cdv A outer s H E hr) (fun ds μ Pd h => by first | (obtain ⟨_, rfl, _⟩ := h; rfl) | (obtain ⟨_, _, rfl, _⟩ := h; rfl) | (obtain ⟨_, _, _, rfl, _⟩ := h; rfl) | (obtain ⟨_, _, _, _, rfl, _⟩ := h; rfl) | (obtain ⟨rfl, _⟩ := h; rfl)) (hs_words IM)) (fun _ _ _ _ _ _ us hl => match us, hl with | [], _ => rfl)
theorem sc_try : FnScope ["_law_ask", "_law_e"] ["_law_ask"] (defScope s_try) := ⟨rfl, rfl, rfl, by decide +kernel, rfl, by decide +kernel, by decide +kernel⟩
theorem G_try (IM : Addr) (T : Txt K mg IM) (XX : Xns P wd K mg base IM) (CS CM : Addr) (S_try : Sn K mg "_law_try" s_try) (hS : mg "SkyError" = some (.ref CS)) (hM : mg "Missing" = some (.ref CM)) (hT : PySem.W.exmAny K (.ref IM) [.ref CS, .ref CM] = some true) (G_field : FpI P wd K mg base "_law_field" s_field 2 ["_law_e"] (sp_field IM)) : TryI P wd K mg base "_law_try" 4 [IM] (b_suite IM) := by
  obtain ⟨g, fd, hm, F⟩ := S_try
  refine ⟨"_law_ask", "_law_e", "SkyError", "Missing", s_try, _, _, g, fd, CS, CM, _, _, _, _, _, _, _, _, _, _, _, _, _, F, hm, sc_try, by decide, Or.inl rfl, rfl, rfl, fun _ _ _ _ _ _ us hl => match us, hl with | [_], _ => rfl, ⟨rfl, hS, by decide⟩, ⟨rfl, hM, by decide⟩, fun C hC => ?_, fun A outer Ex Ee Hz cdv s H a oe C d pn hC h1 h2 h3 hr => ?_, by decide, by decide⟩
  · rw [List.mem_singleton.mp hC]; exact hT
  · subst h2
    obtain ⟨vs, hd, hv⟩ := h3
    have hp : PinX ((cxOf CX0 P wd K mg base ["_law_ask", "_law_e"] "_law_try" (defScope s_try) g cdv A outer s H E0).nox.suite a ((a, oe) :: pn)) a C oe.dict := ⟨oe, List.mem_cons_self, h1, rfl, vs, hd⟩
    have rh : L2H.RoomH 4 (A.deeper (envOfC "_law_try" (defScope s_try) s.heap.objs.size g cdv)) := ⟨by have := hr.dp; omega, by have := hr.un; omega⟩
    exact ss_one (ss_ret (te_op op_addA od_add (te_tup (ta_cons te_str (ta_cons (te_hx hp T.fd_code hC (te_var (pv 1))) ta_nil))) (te_fp (p0 := (a, oe)) G_field (j := 4) ⟨rh.dp, rh.un⟩ ⟨rfl, vs, hd, hv⟩ List.mem_cons_self h1 ⟨vs, hd⟩ rfl (ta_cons (te_var (pv 1)) ta_nil))))
theorem ok_law (IM Pt : Addr) (T : Txt K mg IM) (XX : Xns P wd K mg base IM) {fd : FuncData} (F : Fun K "law" "law" s_law (He.fAd K ("law", none)) fd) (TY : TryI P wd K mg base "_law_try" 4 [IM] (b_suite IM)) (TB : TabB base mg (He.codeOf K ("law", none)) Pt) (G_bag : FnI P wd K mg base "_law_bag" s_bag 1 ["_law_script"] sp_bag) (G_same : FnI P wd K mg base "_law_same" s_same 9 ["_law_found", "_law_due"] (sp_same 8)) (G_words : FnI P wd K mg base "_law_words" s_words 1 [] sp_words) (G_is_wind : FnI P wd K mg base "is_wind" s_is_wind 3 ["value"] sp_is_wind) (G_gust : FnI P wd K mg base "_law_gust" s_gust 3 ["_law_bag_here"] sp_gust) (G_pick : FnI P wd K mg base "_law_pick" s_pick 2 ["_law_bag_here", "_law_some"] sp_pick) (G_draw : FnI P wd K mg base "_law_draw" s_draw 1 ["_law_bag_here", "_law_many"] sp_draw) (G_is_gust : FnI P wd K mg base "_law_is_gust" s_is_gust 1 ["_law_thing"] sp_is_gust) (G_moves : FnI P wd K mg base "_law_moves" s_moves 1 [] sp_moves) (G_moved_cell : FxI P wd K mg base "moved_cell" s_moved_cell 3 ["cell", "direction"] (sp_moved_cell IM)) : FnD P wd K mg base 11 (He.fAd K ("law", none)) fd ["_law_script"] (sp_law Pt) :=
  fn_ok_cd F sc_law (fun Ex Ee Hz cdv A outer s H E hcd hr => pb_law IM Pt T XX TY TB G_bag G_same G_words G_is_wind G_gust G_pick G_draw G_is_gust G_moves G_moved_cell Ex Ee Hz cdv A outer s H E hcd hr) (fun ds μ Pd h => by first | (obtain ⟨_, rfl, _⟩ := h; rfl) | (obtain ⟨_, _, rfl, _⟩ := h; rfl) | (obtain ⟨_, _, _, rfl, _⟩ := h; rfl) | (obtain ⟨_, _, _, _, rfl, _⟩ := h; rfl) | (obtain ⟨rfl, _⟩ := h; rfl)) (hs_law IM Pt)
end
def dLaw : He.DefD := ⟨("law", none), "law", "law", defArgs s_law, defBody s_law, defScope s_law, [], []⟩
def fnL : List He.DefD := dLaw :: [⟨("is_number", none), "is_number", "is_number", defArgs s_is_number, defBody s_is_number, defScope s_is_number, [], []⟩, ⟨("is_toll", none), "is_toll", "is_toll", defArgs s_is_toll, defBody s_is_toll, defScope s_is_toll, [], []⟩, ⟨("is_wind", none), "is_wind", "is_wind", defArgs s_is_wind, defBody s_is_wind, defScope s_is_wind, [], []⟩, ⟨("moved_cell", none), "moved_cell", "moved_cell", defArgs s_moved_cell, defBody s_moved_cell, defScope s_moved_cell, [], []⟩, ⟨("_law_bag", none), "_law_bag", "_law_bag", defArgs s_bag, defBody s_bag, defScope s_bag, [], []⟩, ⟨("_law_draw", none), "_law_draw", "_law_draw", defArgs s_draw, defBody s_draw, defScope s_draw, [], []⟩, ⟨("_law_pick", none), "_law_pick", "_law_pick", defArgs s_pick, defBody s_pick, defScope s_pick, [], []⟩, ⟨("_law_same", none), "_law_same", "_law_same", defArgs s_same, defBody s_same, defScope s_same, [], []⟩, ⟨("_law_field", none), "_law_field", "_law_field", defArgs s_field, defBody s_field, defScope s_field, [], []⟩, ⟨("_law_gust", none), "_law_gust", "_law_gust", defArgs s_gust, defBody s_gust, defScope s_gust, [], []⟩, ⟨("_law_moves", none), "_law_moves", "_law_moves", defArgs s_moves, defBody s_moves, defScope s_moves, [], []⟩, ⟨("_law_is_gust", none), "_law_is_gust", "_law_is_gust", defArgs s_is_gust, defBody s_is_gust, defScope s_is_gust, [], []⟩, ⟨("_law_words", none), "_law_words", "_law_words", defArgs s_words, defBody s_words, defScope s_words, [], []⟩, ⟨("_law_try", none), "_law_try", "_law_try", defArgs s_try, defBody s_try, defScope s_try, [], []⟩, ⟨("InvalidMirror", some "__init__"), "__init__", "InvalidMirror.__init__", defArgs s_InvalidMirror, defBody s_InvalidMirror, defScope s_InvalidMirror, [], []⟩]
def faL : List He.Fa := [.free "all", .free "bool", .free "int", .free "isinstance", .free "len", .free "list", .free "range", .free "str", .free "tuple", .free "zip", .int "MOST_TOLL" 99, .glo "law", .glo "is_number", .glo "is_toll", .glo "is_wind", .glo "moved_cell", .glo "_law_bag", .glo "_law_draw", .glo "_law_pick", .glo "_law_same", .glo "_law_field", .glo "_law_gust", .glo "_law_moves", .glo "_law_is_gust", .glo "_law_words", .glo "_law_try", .glo "InvalidMirror", .glo "SkyError", .glo "Missing"]
def clM : Str × List Str := ("InvalidMirror", ["row", "column", "line", "why", "at", "most", "value"])
def v_DIRECTIONS : List He.Dv := [.str "stay", .str "north", .str "east", .str "south", .str "west"]
def v_ROW_MOVES : List He.Dv := [.int (0), .int (-1), .int (0), .int (1), .int (0)]
def v_COLUMN_MOVES : List He.Dv := [.int (0), .int (0), .int (1), .int (0), .int (-1)]
def ex (K : PySem.W.Frag) : Bool := clsC K tailV "ValueError.__new__" clM && (tupD K "DIRECTIONS" v_DIRECTIONS && (tupD K "ROW_MOVES" v_ROW_MOVES && (tupD K "COLUMN_MOVES" v_COLUMN_MOVES && decide (PySem.W.exmAny K (.ref (He.ga K "InvalidMirror")) [.ref (He.ga K "SkyError"), .ref (He.ga K "Missing")] = some true))))
abbrev R : PySem.W.OpenRow := PySem.W.OpenLaw.row PySem.Challenge.rw_highestsky_k02_winds_and_directions
abbrev hk : PySem.W.Hook := He.hookX 4 faL fnL [] [("law", none)] ex
def ob (s : PySem.W.SharedT) : He.AlX := He.obsX 4 faL fnL [] [("law", none)] ex (HandSHeadRun.getT s)
theorem ob_eq (s : PySem.W.SharedT) : ob s = hk.obs s.abs := He.obsX_eq (HandSHeadRun.getT_eq s)
def namesL : List Str := ["__name__", "SkyError", "Missing", "InvalidMirror", "MOST_TOLL", "is_number", "DIRECTIONS", "ROW_MOVES", "COLUMN_MOVES", "is_toll", "is_wind", "moved_cell", "_law_bag", "_law_draw", "_law_pick", "_law_same", "_law_field", "_law_try", "_law_gust", "_law_moves", "_law_is_gust", "_law_words"]
theorem run (w : World) : HandSHeadRun.RunEq R (PySem.W.view R.prog [25]) hk ob 4000 namesL w := by
  intro os
  kernel_rfl
theorem exE {K : PySem.W.Frag} (h : ex K = true) : clsC K tailV "ValueError.__new__" clM = true ∧ tupD K "DIRECTIONS" v_DIRECTIONS = true ∧ tupD K "ROW_MOVES" v_ROW_MOVES = true ∧ tupD K "COLUMN_MOVES" v_COLUMN_MOVES = true ∧ PySem.W.exmAny K (.ref (He.ga K "InvalidMirror")) [.ref (He.ga K "SkyError"), .ref (He.ga K "Missing")] = some true := by
  unfold ex at h
  obtain ⟨h1, h⟩ := ba2 h
  obtain ⟨h2, h⟩ := ba2 h
  obtain ⟨h3, h⟩ := ba2 h
  obtain ⟨h4, h⟩ := ba2 h
  exact ⟨h1, h2, h3, h4, of_decide_eq_true h⟩
theorem txt_of {K : PySem.W.Frag} {h : Heap} {mg : Str → Option Value} {w : World} (X : K.In h) (G : h.Ns mainGlobals mg) (c : He.SaysX faL fnL [] [("law", none)] ex w h K) : Txt K mg (He.ga K "InvalidMirror") := by
  have D := c.t.d
  have E := exE c.more
  have C0 : ClsF K _ _ clM := clsF E.1
  exact ⟨He.free_ok X G (D.fact 0 (f := .free "all") rfl),
    He.free_ok X G (D.fact 1 (f := .free "bool") rfl),
    He.free_ok X G (D.fact 2 (f := .free "int") rfl),
    He.free_ok X G (D.fact 3 (f := .free "isinstance") rfl),
    He.free_ok X G (D.fact 4 (f := .free "len") rfl),
    He.free_ok X G (D.fact 5 (f := .free "list") rfl),
    He.free_ok X G (D.fact 6 (f := .free "range") rfl),
    He.free_ok X G (D.fact 7 (f := .free "str") rfl),
    He.free_ok X G (D.fact 8 (f := .free "tuple") rfl),
    He.free_ok X G (D.fact 9 (f := .free "zip") rfl),
    He.int_ok X G (D.fact 10 (f := .int "MOST_TOLL" 99) rfl),
    tupG_of X G (vs := v_DIRECTIONS) (E.2.1) rfl,
    tupG_of X G (vs := v_ROW_MOVES) (E.2.2.1) rfl,
    tupG_of X G (vs := v_COLUMN_MOVES) (E.2.2.2.1) rfl,
    fun C hC => (List.mem_singleton.mp hC) ▸ C0.fd (by decide +kernel),
    fun C hC => (List.mem_singleton.mp hC) ▸ C0.fd (by decide +kernel),
    fun C hC => (List.mem_singleton.mp hC) ▸ C0.fd (by decide +kernel),
    fun C hC => (List.mem_singleton.mp hC) ▸ C0.fd (by decide +kernel),
    fun C hC => (List.mem_singleton.mp hC) ▸ C0.fd (by decide +kernel),
    fun C hC => (List.mem_singleton.mp hC) ▸ C0.fd (by decide +kernel),
    fun C hC => (List.mem_singleton.mp hC) ▸ C0.fd (by decide +kernel),
    fun C hC => (List.mem_singleton.mp hC) ▸ C0.fd (by decide +kernel)⟩
theorem xns_of {P : Program} {wd : World} {K : PySem.W.Frag} {h : Heap} {mg : Str → Option Value} {base : Heap} {w : World} (X : K.In h) (G : h.Ns mainGlobals mg) (c : He.SaysX faL fnL [] [("law", none)] ex w h K) : Xns P wd K mg base (He.ga K "InvalidMirror") := by
  have C : ClsF K _ _ clM := clsF (exE c.more).1
  obtain ⟨fd, F0⟩ := c.t.d.def_ 15 (d := ⟨("InvalidMirror", some "__init__"), "__init__", "InvalidMirror.__init__", defArgs s_InvalidMirror, defBody s_InvalidMirror, defScope s_InvalidMirror, [], []⟩) rfl
  have F : Fun K "__init__" "InvalidMirror.__init__" s_InvalidMirror (He.ma K (He.ga K "InvalidMirror") "__init__") fd := fun_of F0
  have E := xc_of C PySem.F.excBase_ValueError PySem.F.store_ValueError
  have S : FnScope ["self", "value"] ["self", "value"] (defScope s_InvalidMirror) := ⟨rfl, rfl, rfl, by decide +kernel, rfl, by decide +kernel, by decide +kernel⟩
  have O : FnOk P wd K mg base CX0 1 _ fd ["self", "value"] (spX (He.ga K "InvalidMirror") ["value"] "InvalidMirror") := ok_init1 (K := ⟨K, fun _ _ _ _ => False, fun _ _ _ => False, fun _ => none⟩) S ⟨by first | exact Or.inl rfl | exact Or.inr (Or.inl rfl), by decide, by decide⟩ ⟨by first | exact Or.inl rfl | exact Or.inr (Or.inl rfl), by decide, by decide⟩ rfl F ⟨_, _, _, _, E⟩ (C.no "value" (by decide +kernel)) (C.no "code" (by decide +kernel))
  exact ⟨⟨_, fd, _, _, _, _, _, O, F, C.iC, C.tI, E, He.glo_ok X G (c.t.d.fact 26 (f := .glo "InvalidMirror") rfl), F.binds fun _ _ _ _ _ _ us hl => match us, hl with | [_, _], _ => rfl⟩⟩
set_option maxHeartbeats 4000000 in
theorem facts {l : PySem.W.OpenLaw} {w : World} {K : PySem.W.Frag} {h : Heap} {mg : Str → Option Value} {f : Addr} (X : K.In h) (G : h.Ns mainGlobals mg) (hfa : mg ("law" : Str) = some (.ref f)) (c : He.SaysX faL fnL [] [("law", none)] ex w h K) : LawAtS l w K CX0 11 63 "_law_script" mg f h := by
  have T := txt_of X G c
  have E := exE c.more
  obtain ⟨fd, F0⟩ := c.t.d.def_ 0 (d := dLaw) rfl
  have e := hfa.symm.trans (He.glo_ok X G (c.t.d.fact 11 (f := .glo "law") rfl))
  cases e
  have F : Fun K "law" "law" s_law (He.ga K "law") fd := fun_of F0
  have hm : (("law" : Str), (none : Option Str)) ∈ [(("law" : Str), (none : Option Str))] := List.mem_singleton.mpr rfl
  have hK := c.out _ hm
  refine ⟨fd, [He.cT K ("law", none)], SpOf K (sp_law (He.cT K ("law", none)).2), fun p hp => ?_, fun p hp => ?_, fun p hp => ?_, fun s v => ?_, fun H a ns hl hbt hT hS => ?_, fun base Xb Gb TB => ?_⟩
  · rw [List.mem_singleton.mp hp]; exact c.empty _ hm
  · rw [List.mem_singleton.mp hp]; exact hK
  · rw [List.mem_singleton.mp hp]; exact PySem.W.codeHd_of_K X (c.hd _ hm)
  · obtain ⟨oc, od, kV, doc, pm, an, cdv, ct, osl, rfl, _, _⟩ := F.ex
    exact .of_eq rfl
  · exact law_sp1 (fun P hP => ⟨ns, rfl, hl, rfl, hP⟩) hK (hT _ (List.mem_singleton.mpr rfl)) hS
  · have TB0 := TB _ (List.mem_singleton.mpr rfl)
    have XX : Xns l.prog w K mg base (He.ga K "InvalidMirror") := xns_of X G c
    have S_is_number : Sn K mg "is_number" s_is_number := sn_of X G c 1 12 rfl rfl
    have G_is_number := G_is_number (P := l.prog) (wd := w) (base := base) _ T XX S_is_number 
    have S_is_toll : Sn K mg "is_toll" s_is_toll := sn_of X G c 2 13 rfl rfl
    have G_is_toll := G_is_toll (P := l.prog) (wd := w) (base := base) _ T XX S_is_toll G_is_number
    have S_is_wind : Sn K mg "is_wind" s_is_wind := sn_of X G c 3 14 rfl rfl
    have G_is_wind := G_is_wind (P := l.prog) (wd := w) (base := base) _ T XX S_is_wind G_is_toll
    have S_moved_cell : Sn K mg "moved_cell" s_moved_cell := sn_of X G c 4 15 rfl rfl
    have G_moved_cell := G_moved_cell (P := l.prog) (wd := w) (base := base) _ T XX S_moved_cell 
    have S_bag : Sn K mg "_law_bag" s_bag := sn_of X G c 5 16 rfl rfl
    have G_bag := G_bag (P := l.prog) (wd := w) (base := base) _ T XX S_bag 
    have S_draw : Sn K mg "_law_draw" s_draw := sn_of X G c 6 17 rfl rfl
    have G_draw := G_draw (P := l.prog) (wd := w) (base := base) _ T XX S_draw 
    have S_pick : Sn K mg "_law_pick" s_pick := sn_of X G c 7 18 rfl rfl
    have G_pick := G_pick (P := l.prog) (wd := w) (base := base) _ T XX S_pick G_draw
    have S_same : Sn K mg "_law_same" s_same := sn_of X G c 8 19 rfl rfl
    have G_same := fun n => G_same (P := l.prog) (wd := w) (base := base) _ T XX S_same  n
    have S_field : Sn K mg "_law_field" s_field := sn_of X G c 9 20 rfl rfl
    have G_field := G_field (P := l.prog) (wd := w) (base := base) _ T XX S_field 
    have S_gust : Sn K mg "_law_gust" s_gust := sn_of X G c 10 21 rfl rfl
    have G_gust := G_gust (P := l.prog) (wd := w) (base := base) _ T XX S_gust G_pick G_draw
    have S_moves : Sn K mg "_law_moves" s_moves := sn_of X G c 11 22 rfl rfl
    have G_moves := G_moves (P := l.prog) (wd := w) (base := base) _ T XX S_moves 
    have S_is_gust : Sn K mg "_law_is_gust" s_is_gust := sn_of X G c 12 23 rfl rfl
    have G_is_gust := G_is_gust (P := l.prog) (wd := w) (base := base) _ T XX S_is_gust 
    have S_words : Sn K mg "_law_words" s_words := sn_of X G c 13 24 rfl rfl
    have G_words := G_words (P := l.prog) (wd := w) (base := base) _ T XX S_words 
    have S_try : Sn K mg "_law_try" s_try := sn_of X G c 14 25 rfl rfl
    have TY := G_try (P := l.prog) (wd := w) (base := base) _ T XX _ _ S_try (He.glo_ok X G (c.t.d.fact 27 (f := .glo "SkyError") rfl)) (He.glo_ok X G (c.t.d.fact 28 (f := .glo "Missing") rfl)) E.2.2.2.2 G_field
    exact ok_law _ _ T XX F TY TB0 G_bag (G_same 8) G_words G_is_wind G_gust G_pick G_draw G_is_gust G_moves G_moved_cell
end W02
open PySem PySem.W PySem.Calls PyProof.Rows
set_option maxRecDepth 100000 in
set_option maxHeartbeats 0 in
theorem PySem.Challenge.cw_highestsky_k02_winds_and_directions_holds : PySem.Challenge.rw_highestsky_k02_winds_and_directions.Holds := by
  w_on; o_law
  refine HandSHeadRun.head_any (r := OpenLaw.row PySem.Challenge.rw_highestsky_k02_winds_and_directions) (q := view (OpenLaw.row PySem.Challenge.rw_highestsky_k02_winds_and_directions).prog [25]) (H := W02.hk) (ob := W02.ob) (M := 4000) (loose := W02.namesL) (d := HandSHeadRun.topDef (OpenLaw.row PySem.Challenge.rw_highestsky_k02_winds_and_directions).prog 25) (kwd := []) W02.ob_eq
    (by kernel_rfl) (fun s => by kernel_rfl) W02.run (by kernel_rfl) (by kernel_rfl) (by kernel_rfl) (by rfl) (by first | assumption | decide +kernel) (by decide +kernel) ⟨rfl, rfl, rfl, rfl, rfl, by decide +kernel⟩ ?hw ?hc
  case hw => w_witness2
  case hc =>
    refine LamX.walk_ofTsE (l := PySem.Challenge.rw_highestsky_k02_winds_and_directions) (n := 63) (k := 11) (x := "_law_script") (CX := fun _ => L2.CX0) rfl (by decide) (by kernel_rfl) ⟨rfl, by decide, by decide⟩ ?F (fun _ _ _ _ _ z => z)
    intro w mg fa h Y G hmg0
    obtain ⟨K, KX, c⟩ := Y
    have hmg : mg ("law" : PySem.Str) = some (.ref fa) := by
      have e : (HandSHeadRun.topDef (OpenLaw.row PySem.Challenge.rw_highestsky_k02_winds_and_directions).prog 25).name = ("law" : PySem.Str) := by kernel_rfl
      rw [← e]
      exact hmg0
    exact ⟨K, KX, W02.facts (l := PySem.Challenge.rw_highestsky_k02_winds_and_directions) (w := w) KX G hmg c⟩
#print axioms PySem.Challenge.cw_highestsky_k02_winds_and_directions_holds
