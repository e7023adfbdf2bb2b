import PyProof.Rows.All
import Wide.All
import OpenK.AllK
import Wide.FinOn
import HandS.ForMost
import HandS.ForExc
import HandS.Walk
import HandS.IsInst
import HandS.Deep
import HandS.Wide
import HandS.TupAny
import HandS.TupMul
import HandS.Style
import PyProof.StrLawsRepr
import HandS.More
import HandS.SortInts
import HandS.Zip
import HandS.ExcIs
import HandS.ExcValue
import HandS.SetFor
import HandS.Strs
import HandS.TryMany
import KE.GoesMore
import PyProof.Draws
import HandS.Dict
import HandS.TupSets
import HandS.Conv
import PyProof.ZipIter
import PyProof.CallType
import PyProof.Walk
import PyProof.WalkLemmas
import PyProof.RangeIter
import PyProof.RulesTry
import HandS.RepeatKit
import HandS.Iter
import KE.SortData
import KE.DataMinMax
import HandS.Flow
import PySem.Challenge.RW_whererules_k12_whole_breaks
set_option Elab.async false
set_option linter.all false
set_option maxRecDepth 100000
set_option
      maxHeartbeats 4000000
set_option exponentiation.threshold 10000
set_option
      maxHeartbeats 1000000
/-! A layer over data: what a def does is told over plain data (PyData), without the heap. -/
namespace L2.DL
open PySem PySem.Spec
      PyProof.Rows

abbrev D := PyData
/-- the drawing pen, an error of the class at C, an instance of the class at C: as data that no program can write -/
abbrev penD : D := .dict []
abbrev excD (C : Addr) : D := .dict [(.none, .int (C : Nat))]
abbrev objD (C : Addr) (fs : List (Str × D)) : D := .dict ((.bool true, .int (C : Nat)) :: fs.map fun f => (.str f.1, f.2))
/-- the law's script, as data that no program can write -/
abbrev scrD (ns : List Int) : D := .dict [(.bool false, .list (ns.map PyData.int))]
def ExC (C a : Addr) : HO := .ext fun h => ∃ (oe : Obj) (vs : Array Value), h.get? a = some oe ∧ Zc (.ref C) none oe ∧ oe.data = .fields vs

mutual
/-- the value v stands for the data d, over the ground G of things that do not change -/
inductive R (K : PySem.W.Frag) (p : Option Addr) (G : Hp) : V → D → Prop
  | non : R K p G .non .none
  | bl (b : Bool) : R K p G (.bl b) (.bool b)
  | int (i : Int) : R K p G (.int i) (.int i)
  | str (x : Str) : R K p G (.str x) (.str x)
  | lst {a : Addr} {xs : List V} {ds : List D} : G a = some (.lst xs) → RA K p G xs ds → R K p G (.ref a) (.list ds)
  | tup {a : Addr} {xs : List V} {ds : List D} : SqT K G a xs → RA K p G xs ds → R K p G (.ref a) (.tuple ds)
  | pen {a : Addr} {d : D} : p = some a → d = penD → R K p G (.ref a) d
  | exc {a C : Addr} {d : D} : G a = some (ExC C a) → d = excD C → R K p G (.ref a) d
  | obj {a C dx : Addr} {fvs : List (Str × V)} {fs : List (Str × D)} {d : D} : G a = some (.ins C dx fvs) → RF K p G fvs fs → d = objD C fs → R K p G (.ref a) d
  | scr {a : Addr} {ns : List Int} {d : D} : SqL K G a (ns.map V.int) → d = scrD ns → R K p G (.ref a) d
inductive RA (K : PySem.W.Frag) (p : Option Addr) (G : Hp) : List V → List D → Prop
  | nil : RA K p G [] []
  | cons {v : V} {vs : List V} {d : D} {ds : List D} : R K p G v d → RA K p G vs ds → RA K p G (v :: vs) (d :: ds)
inductive RF (K : PySem.W.Frag) (p : Option Addr) (G : Hp) : List (Str × V) → List (Str × D) → Prop
  | nil : RF K p G [] []
  | cons {n : Str} {v : V} {vs : List (Str × V)} {d : D} {ds : List (Str × D)} : R K p G v d → RF K p G vs ds → RF K p G ((n, v) :: vs) ((n, d) :: ds)
end

theorem sameT {K : PySem.W.Frag} {H H' : Hp} {a : Addr} {xs : List V} (e : Same H H') (h : SqT K H a xs) : SqT K H' a xs := by
  rcases h with (h | ⟨o,
        h⟩) | h
  · exact .inl (.inl (e _ _ h))
  · exact .inl (.inr ⟨o,
        e _ _ h⟩)
  · exact .inr h

section
variable {K : PySem.W.Frag} {p : Option Addr} {G G' : Hp}
mutual
theorem R.mono (s : Same G G') : ∀ {v : V} {d : D}, R K p G v d → R K p G' v d
  | _, _, .non => .non
  | _, _, .bl b => .bl b
  | _, _, .int i => .int i
  | _, _, .str x => .str x
  | _, _, .lst h r => .lst (s _ _ h) (RA.mono s r)
  | _, _, .tup h r => .tup (sameT s h) (RA.mono s r)
  | _, _, .pen h e => .pen h e
  | _, _, .exc h e => .exc (s _ _ h) e
  | _, _, .obj h r e => .obj (s _ _ h) (RF.mono s r) e
  | _, _, .scr h e => .scr (s.seq h) e
theorem RA.mono (s : Same G G') : ∀ {vs : List V} {ds : List D}, RA K p G vs ds → RA K p G' vs ds
  | _, _, .nil => .nil
  | _, _, .cons h t => .cons (R.mono s h) (RA.mono s t)
theorem RF.mono (s : Same G G') : ∀ {vs : List (Str × V)} {ds : List (Str × D)}, RF K p G vs ds → RF K p G' vs ds
  | _, _, .nil => .nil
  | _, _, .cons h t => .cons (R.mono s h) (RF.mono s t)
end
mutual
theorem R.open_ {a : Addr} : ∀ {v : V} {d : D}, R K none G v d → R K (some a) G v d
  | _, _, .non => .non
  | _, _, .bl b => .bl b
  | _, _, .int i => .int i
  | _, _, .str x => .str x
  | _, _, .lst h r => .lst h (RA.open_ r)
  | _, _, .tup h r => .tup h (RA.open_ r)
  | _, _, .pen h e => nomatch h
  | _, _, .exc h e => .exc h e
  | _, _, .obj h r e => .obj h (RF.open_ r) e
  | _, _, .scr h e => .scr h e
theorem RA.open_ {a : Addr} : ∀ {vs : List V} {ds : List D}, RA K none G vs ds → RA K (some a) G vs ds
  | _, _, .nil => .nil
  | _, _, .cons h t => .cons (R.open_ h) (RA.open_ t)
theorem RF.open_ {a : Addr} : ∀ {vs : List (Str × V)} {ds : List (Str × D)}, RF K none G vs ds → RF K (some a) G vs ds
  | _, _, .nil => .nil
  | _, _, .cons h t => .cons (R.open_ h) (RF.open_ t)
end
theorem R.non_inv {v : V} (h : R K p G v .none) : v = .non := by cases h <;> first | rfl | contradiction
theorem R.bl_inv {v : V} {b : Bool} (h : R K p G v (.bool b)) : v = .bl b := by cases h <;> first | rfl | contradiction
theorem R.int_inv {v : V} {i : Int} (h : R K p G v (.int i)) : v = .int i := by cases h <;> first | rfl | contradiction
theorem R.str_inv {v : V} {x : Str} (h : R K p G v (.str x)) : v = .str x := by cases h <;> first | rfl | contradiction
theorem R.lst_inv {v : V} {ds : List D} (h : R K p G v (.list ds)) : ∃ a xs, v = .ref a ∧ G a = some (.lst xs) ∧ RA K p G xs ds := by
  cases h <;> first | contradiction | skip
  rename_i h1 h2
  exact ⟨_, _, rfl, h1, h2⟩
theorem R.tup_inv {v : V} {ds : List D} (h : R K p G v (.tuple ds)) : ∃ a xs, v = .ref a ∧ SqT K G a xs ∧ RA K p G xs ds := by
  cases h <;> first | contradiction | skip
  rename_i h1 h2
  exact ⟨_, _, rfl, h1, h2⟩
theorem R.pen_inv {v : V} (h : R K p G v penD) : ∃ a, v = .ref a ∧ p = some a := by
  cases h with
  | pen h1 h2 => exact ⟨_, rfl, h1⟩
  | exc h1 h2 => cases h2
  | obj h1 h2 h3 => cases h3
  | scr h1 h2 => cases h2
theorem R.exc_inv {v : V} {C : Addr} (h : R K p G v (excD C)) : ∃ a, v = .ref a ∧ G a = some (ExC C a) := by
  cases h with
  | pen h1 h2 => cases h2
  | @exc a C' _ h1 h2 =>
    have e : (C : Int) = (C' : Int) := by
      injection h2 with e
      injection e with e _
      injection e with _ e
      injection e with e
    have e' : C = C' := Int.ofNat.inj e
    subst e'
    exact ⟨_, rfl, h1⟩
  | obj h1 h2 h3 =>
    injection h3 with e
    injection e with e _
    injection e with e _
    cases e
  | scr h1 h2 =>
    injection h2 with e
    injection e with e _
    injection e with e _
    cases e
theorem ints_inj : ∀ {xs ys : List Int}, xs.map PyData.int = ys.map PyData.int → xs = ys
  | [], [], _ => rfl
  | [], _ :: _, h => by cases h
  | _ :: _, [], h => by cases h
  | x :: xs, y :: ys, h => by
    injection h with h1 h2
    injection h1 with h1
    rw [h1, ints_inj h2]
theorem R.scr_inv {v : V} {ns : List Int} (h : R K p G v (scrD ns)) : ∃ a, v = .ref a ∧ SqL K G a (ns.map V.int) := by
  cases h with
  | pen h1 h2 => cases h2
  | exc h1 h2 =>
    injection h2 with e
    injection e with e _
    injection e with e _
    cases e
  | obj h1 h2 h3 =>
    injection h3 with e
    injection e with e _
    injection e with e _
    cases e
  | scr h1 h2 =>
    injection h2 with e
    injection e with e _
    injection e with _ e
    injection e with e
    rw [ints_inj e]
    exact ⟨_, rfl, h1⟩
end

section
variable {K : PySem.W.Frag} {p : Option Addr} {G G' : Hp}
theorem RA.length : ∀ {vs : List V} {ds : List D}, RA K p G vs ds → vs.length = ds.length
  | _, _, .nil => rfl
  | _, _, .cons _ t => by rw [List.length_cons, List.length_cons, RA.length t]
theorem RA.get : ∀ {vs : List V} {ds : List D} {i : Nat} {d : D}, RA K p G vs ds → ds[i]? = some d → ∃ v, vs[i]? = some v ∧ R K p G v d
  | _, _, _, _, .nil,
        e => by simp at e
  | _, _, 0, _, .cons r _, e =>
        by simp at e; subst e; exact ⟨_, rfl, r⟩
  | _, _, i + 1, d, .cons _ t, e => by
    obtain ⟨u, h1, h2⟩ := RA.get (i := i) (d := d) t (by simpa using e)
    exact ⟨u,
          by simpa using h1, h2⟩
theorem RA.getV : ∀ {vs : List V} {ds : List D} {i : Nat} {v : V}, RA K p G vs ds → vs[i]? = some v → ∃ d, ds[i]? = some d ∧ R K p G v d
  | _, _, _, _, .nil,
        e => by simp at e
  | _, _, 0, _, .cons r _, e =>
        by simp at e; subst e; exact ⟨_, rfl, r⟩
  | _, _, i + 1, v, .cons _ t, e => by
    obtain ⟨u, h1, h2⟩ := RA.getV (i := i) (v := v) t (by simpa using e)
    exact ⟨u,
          by simpa using h1, h2⟩
theorem RA.append : ∀ {xs ys : List V} {ds es : List D}, RA K p G xs ds → RA K p G ys es → RA K p G (xs ++ ys) (ds ++ es)
  | _, _, _, _, .nil, s => s
  | _, _, _, _, .cons r t, s => .cons r (RA.append t s)
theorem RA.take : ∀ {xs : List V} {ds : List D} (n : Nat), RA K p G xs ds → RA K p G (xs.take n) (ds.take n)
  | _, _, 0, _ => .nil
  | _, _, _ + 1, .nil => .nil
  | _, _, n + 1, .cons r t => .cons r (RA.take n t)
theorem RA.drop : ∀ {xs : List V} {ds : List D} (n : Nat), RA K p G xs ds → RA K p G (xs.drop n) (ds.drop n)
  | _, _, 0, r => r
  | _, _, _ + 1, .nil => .nil
  | _, _, n + 1, .cons _ t => RA.drop n t
theorem RA.set {x : V} {u : D} (r : R K p G x u) : ∀ {xs : List V} {us : List D} (i : Nat), RA K p G xs us → RA K p G (xs.set i x) (us.set i u)
  | _, _, _, .nil => .nil
  | _, _, 0,
        .cons _ t => .cons r t
  | _, _, i + 1, .cons q t => .cons q (RA.set r i t)
theorem RA.reverse : ∀ {xs : List V} {ds : List D}, RA K p G xs ds → RA K p G xs.reverse ds.reverse
  | _, _, .nil => .nil
  | _, _, .cons r t => by
    rw [List.reverse_cons,
          List.reverse_cons]
    exact (RA.reverse t).append (.cons r .nil)
theorem RA.rep {xs : List V} {ds : List D} (h : RA K p G xs ds) : ∀ k : Nat, RA K p G (List.replicate k xs).flatten (List.replicate k ds).flatten
  | 0 => .nil
  | k + 1 => by
    rw [List.replicate_succ, List.replicate_succ,
          List.flatten_cons, List.flatten_cons]
    exact h.append (RA.rep h k)
theorem RA.nil_iff {xs : List V} {ds : List D} (h : RA K p G xs ds) : xs = [] ↔ ds = [] := by
  cases h <;> simp
end
end L2.DL


set_option
      maxHeartbeats 1000000
namespace L2.DL
open PySem PySem.Spec
      PyProof.Rows

/-- a slot of a def: nothing known, data, or a list that this slot alone holds -/
inductive Slot where
  | un | dat (d : D) | own (ds : List D)
/-- the slots, and how many draws are left -/
structure En where
  s : List Slot
  k : Nat

/-- most draws of a run -/
abbrev most : Nat := 1000000
structure Wd (K : PySem.W.Frag) (p : Option Addr) (k : Nat) (G H : Hp) : Prop where
  same : Same G H
  pen : ∀ a, p = some a → G a = none ∧ ∃ (c : Addr) (xs : List Int) (i r : Int), H a = some (.lst [.ref c, .int i, .int r]) ∧ G c = some (.lst (xs.map V.int)) ∧ xs.length ≤ 12 ∧ 0 ≤ i ∧ i + (k : Int) ≤ most
/-- the pen at a draws from the list at c -/
def HasC (H : Hp) (a c : Addr) : Prop := ∃ i r : Int, H a = some (.lst [.ref c, .int i, .int r])
structure Stp (p : Option Addr) (G₀ H₀ G H : Hp) : Prop where
  gg : Same G₀ G
  hh : ∀ b o, H₀ b = some o → p ≠ some b → H b = some o
  nn : ∀ b o, H₀ b = some o → G₀ b = none → G b = none
  pc : ∀ a c, p = some a → HasC H₀ a c → HasC H a c
structure Rel (K : PySem.W.Frag) (p : Option Addr) (G₀ H₀ G H : Hp) (σ : St) (e : En) (α : Nat → Addr) : Prop where
  w : Wd K p e.k G H
  st : Stp p G₀ H₀ G H
  len : σ.length = e.s.length
  dat : ∀ (i : Nat) d, e.s[i]? = some (.dat d) → ∃ v, σ[i]? = some (some v) ∧ R K p G v d
  own : ∀ (i : Nat) ds, e.s[i]? = some (.own ds) → ∃ xs, σ[i]? = some (some (.ref (α i))) ∧ H (α i) = some (.lst xs) ∧ G (α i) = none ∧ H₀ (α i) = none ∧ p ≠ some (α i) ∧ RA K p G xs ds
  sep : ∀ (i j : Nat) ds es, e.s[i]? = some (.own ds) → e.s[j]? = some (.own es) → i ≠ j → α i ≠ α j
def Rl (K : PySem.W.Frag) (p : Option Addr) (G₀ H₀ G H : Hp) (σ : St) (e : En) : Prop := ∃ α, Rel K p G₀ H₀ G H σ e α

theorem Stp.refl {p : Option Addr} {G H : Hp} : Stp p G H G H := ⟨fun _ _ h => h, fun _ _ h _ => h, fun _ _ _ h => h, fun _ _ _ h => h⟩
section
variable {K : PySem.W.Frag} {p : Option Addr} {k : Nat} {G₀ H₀ G H G' H' : Hp} {σ : St} {e : En}
/-- behind a call -/
theorem Rl.step {k' : Nat} (r : Rl K p G₀ H₀ G H σ e) (s : Stp p G H G' H') (w : Wd K p k' G' H') : Rl K p G₀ H₀ G' H' σ { e with k := k' } := by
  obtain ⟨α, r⟩ := r
  refine ⟨α, w, ⟨fun b o h => s.gg _ _ (r.st.gg _ _ h), fun b o h n => s.hh _ _ (r.st.hh _ _ h n) n, fun b o h n => ?_, fun a c ea h => s.pc a c ea (r.st.pc a c ea h)⟩, r.len, fun i d h => ?_, fun i ds h => ?_, r.sep⟩
  · by_cases hp : p = some b
    · exact (w.pen b hp).1
    · exact s.nn b o (r.st.hh _ _ h hp) (r.st.nn _ _ h n)
  · obtain ⟨v, h1, h2⟩ := r.dat i d h
    exact ⟨v, h1, h2.mono s.gg⟩
  · obtain ⟨xs, h1, h2, h3, h4, h5, h6⟩ := r.own i ds h
    exact ⟨xs, h1, s.hh _ _ h2 h5, s.nn _ _ h2 h3, h4, h5, h6.mono s.gg⟩
theorem Wd.le {k' : Nat} (w : Wd K p k G H) (h : k' ≤ k) : Wd K p k' G H :=
  ⟨w.same, fun a e => by
    obtain ⟨h1, c, xs, i, r, h2, h3, h4, h5, h6⟩ := w.pen a e
    exact ⟨h1, c, xs, i, r, h2, h3, h4, h5, by have : (k' : Int) ≤ k := by exact_mod_cast h
                                               omega⟩⟩
theorem Rl.wd (r : Rl K p G₀ H₀ G H σ e) : Wd K p e.k G H := let ⟨_, r⟩ := r; r.w
theorem Rl.same (r : Rl K p G₀ H₀ G H σ e) : Same G H := r.wd.same
/-- something new and unchanging has been laid -/
theorem Stp.new {q : Addr} {o : HO} (w : Same G H) (hq : H q = none) : Stp p G H (upd G q o) (upd H q o) ∧ Same G (upd G q o) := by
  have gq : G q = none := w.free hq
  have s1 : Same G (upd G q o) := fun b u h => by rw [upd_ne (ne_of_none h gq)]; exact h
  refine ⟨⟨s1, fun b u h _ => by rw [upd_ne (ne_of_none h hq)]; exact h, fun b u h n => by rw [upd_ne (ne_of_none h hq)]; exact n, fun a c _ ⟨i, r, h⟩ => ⟨i, r, by rw [upd_ne (ne_of_none h hq)]; exact h⟩⟩, s1⟩
theorem Wd.new {q : Addr} {o : HO} (w : Wd K p k G H) (hq : H q = none) : Wd K p k (upd G q o) (upd H q o) := by
  refine ⟨fun b u h => ?_, fun a e => ?_⟩
  · by_cases hb : b = q
    · subst hb; rw [upd_same] at h ⊢; exact h
    · rw [upd_ne hb] at h ⊢; exact w.same _ _ h
  · obtain ⟨h1, c, xs, i, r, h2, h3, h4⟩ := w.pen a e
    have n := ne_of_none h2 hq
    exact ⟨by rw [upd_ne n]; exact h1, c, xs, i, r, by rw [upd_ne n]; exact h2, (Stp.new (p := p) (o := o) w.same hq).2 _ _ h3, h4⟩
theorem Rl.new {q : Addr} {o : HO} (r : Rl K p G₀ H₀ G H σ e) (hq : H q = none) : Rl K p G₀ H₀ (upd G q o) (upd H q o) σ e :=
  r.step (Stp.new r.same hq).1 (r.wd.new hq)
theorem sameNew {q : Addr} {o : HO} (w : Same G H) (hq : H q = none) : Same G (upd G q o) := (Stp.new (p := none) w hq).2
end

/-! ### the judgements -/
abbrev PD := D → En → Prop
abbrev WEx := En → PD → PD → Prop
def PQ (K : PySem.W.Frag) (p : Option Addr) (G₀ H₀ : Hp) (G : Hp) (σ : St) (Q : VK) : PD := fun d e' => ∀ v G' H', Same G G' → Rl K p G₀ H₀ G' H' σ e' → R K p G' v d → Q v H'
def PX (K : PySem.W.Frag) (p : Option Addr) (G₀ H₀ : Hp) (W : WX) (G : Hp) (σ : St) : PD := fun x e' => ∀ C G' H', Same G G' → Rl K p G₀ H₀ G' H' σ e' → x = excD C → W (.ref C) none σ H'
/-- what a def fixes: the ground and the heap at its entry, the pen, the wish about errors -/
structure Fx where
  p : Option Addr
  G₀ : Hp
  H₀ : Hp
  W : WX
def tE (K : PySem.W.Frag) (F : Fx) (w : WEx) : TE := fun σ H Q => ∃ e G, Rl K F.p F.G₀ F.H₀ G H σ e ∧ w e (PQ K F.p F.G₀ F.H₀ G σ Q) (PX K F.p F.G₀ F.H₀ F.W G σ)
def Mono (w : WEx) : Prop := ∀ e Q Q' x x', (∀ d e, Q d e → Q' d e) → (∀ d e, x d e → x' d e) → w e Q x → w e Q' x'
structure DE (X : Cx) (F : Fx) (e : Expr) (w : WEx) : Prop where
  run : PE X e (tE X.K F w)
  mono : Mono w
section
variable {K : PySem.W.Frag} {F : Fx} {σ : St} {H : Hp} {Q : VK}
theorem PQ.mono {p : Option Addr} {G₀ H₀ G G' : Hp} {d : D} {e : En} (s : Same G G') (h : PQ K p G₀ H₀ G σ Q d e) : PQ K p G₀ H₀ G' σ Q d e := fun v G2 H2 s2 => h v G2 H2 (s.trans s2)
theorem PX.mono {p : Option Addr} {G₀ H₀ G G' : Hp} {W : WX} {d : D} {e : En} (s : Same G G') (h : PX K p G₀ H₀ W G σ d e) : PX K p G₀ H₀ W G' σ d e := fun C G2 H2 s2 => h C G2 H2 (s.trans s2)
/-- the first of two -/
theorem tE.bind {w : WEx} {f : D → WEx} {e : En} {G : Hp} (m : Mono w) (mf : ∀ d, Mono (f d)) (r : Rl K F.p F.G₀ F.H₀ G H σ e) (h : w e (fun d e1 => f d e1 (PQ K F.p F.G₀ F.H₀ G σ Q) (PX K F.p F.G₀ F.H₀ F.W G σ)) (PX K F.p F.G₀ F.H₀ F.W G σ)) :
    tE K F w σ H (fun v H1 => ∃ e1 G1 d, Same G G1 ∧ Rl K F.p F.G₀ F.H₀ G1 H1 σ e1 ∧ R K F.p G1 v d ∧ f d e1 (PQ K F.p F.G₀ F.H₀ G1 σ Q) (PX K F.p F.G₀ F.H₀ F.W G1 σ)) := by
  refine ⟨e, G, r, m e _ _ _ _ (fun d e1 q => ?_) (fun _ _ q => q) h⟩
  intro v G' H' s r' rv
  exact ⟨e1, G', d, s, r', rv, mf d _ _ _ _ _ (fun _ _ => PQ.mono s) (fun _ _ => PX.mono s) q⟩
end

/-- the word of an expression in a def's statement: what it asks of the slots -/
def wVar (i : Nat) : WEx := fun e Q _ => ∃ d, e.s[i]? = some (.dat d) ∧ Q d e
def wC (d : D) : WEx := fun e Q _ => Q d e
theorem wVar.mono (i : Nat) : Mono (wVar i) := fun e Q Q' x x' h _ ⟨d, h1, h2⟩ => ⟨d, h1, h _ _ h2⟩
theorem wC.mono (d : D) : Mono (wC d) := fun e Q Q' x x' h _ q => h _ _ q
section
variable {X : Cx} {F : Fx} {pos : Pos}
theorem de_of {e : Expr} {t : TE} {w : WEx} (h : PE X e t) (m : Mono w) (i : ∀ σ H Q, tE X.K F w σ H Q → t σ H Q) : DE X F e w :=
  ⟨⟨fun pins s σ H Q I q => h.run pins s σ H Q I (i σ H Q q)⟩, m⟩
theorem de_var {i : Nat} {x : Str} (h : PE X (.Name x pos) (tVar i)) : DE X F (.Name x pos) (wVar i) :=
  de_of h (wVar.mono i) fun σ H Q ⟨e, G, r, d, h1, h2⟩ => by
    obtain ⟨α, r'⟩ := id r
    obtain ⟨v, h3, h4⟩ := r'.dat i d h1
    exact ⟨v, h3, h2 v G H (Same.refl G) r h4⟩
theorem de_c {e : Expr} {v : V} {d : D} (h : PE X e (tC v)) (hr : ∀ K p G, R K p G v d) : DE X F e (wC d) :=
  de_of h (wC.mono d) fun σ H Q ⟨e, G, r, q⟩ => q v G H (Same.refl G) r (hr _ _ _)
theorem de_int {i : Int} {j : Nat} : DE X F (.Constant (.int i) j pos) (wC (.int i)) := de_c pe_int fun _ _ _ => .int i
theorem de_bl {b : Bool} {j : Nat} : DE X F (.Constant (.bool b) j pos) (wC (.bool b)) := de_c pe_bl fun _ _ _ => .bl b
theorem de_non {j : Nat} : DE X F (.Constant .none j pos) (wC .none) := de_c pe_non fun _ _ _ => .non
theorem de_str {x : Str} {j : Nat} : DE X F (.Constant (.str x) j pos) (wC (.str x)) := de_c pe_str fun _ _ _ => .str x
end
end L2.DL


set_option
      maxHeartbeats 4000000
namespace L2.DL
open PySem PySem.Spec
      PyProof.Rows
/-! ### a tuple once: the tuple itself -/
theorem tuple_once (l : Addr) (items : Array Value) (n : Nat) (dd : Option Addr) (sl : Array (Option Value)) (u : Tok) :
    Meets (Builtin.«tuple.__mul__» ⟨[.ref l, .int 1 u], []⟩) (fun _ R s => s.heap.get? l = some { cls := .type "tuple", dict := dd, data := .seq items n, slots := sl } ∧ R (.ok (.ret (Value.ref l))) s) :=
  .of_wp fun prog
        w A R s h => by
    obtain ⟨hp, g,
          d, tk, os⟩ := s
    obtain ⟨hl, h⟩ := h
    have f1 := AutoSeq1.idx_int
    wp_walk using
          wpAny_loadPart' hl
    exact ⟨_, rfl, h⟩
def rOnce (K : PySem.W.Frag) : R2 := fun x y H Q => ∃ l xs, x = .ref l ∧ y = .int 1 ∧ SqT K H l xs ∧ Q (.ref l) H
theorem op_once {X : Cx} : OpR X (binaryOp .Mult) (rOnce X.K) := by
  intro pins s σ H x
        y v u Q I rx ry h
  obtain ⟨l, xs, rfl, rfl, hT, q⟩ := h
  cases rx
  obtain ⟨t, rfl⟩ := ry
  obtain ⟨its, r, ⟨⟨cls, dd, data, sl⟩,
        ho, hc, n, hd⟩, hs⟩ := I.tuple hT
  simp only at hc hd
  subst hc hd
  refine wpAny_binaryOp_repeat_ref (T := "tuple") (U := "int") (by decide) ⟨_, ho, rfl⟩ (fun s' => typeIs_int s' 1 t) noFill_tuple_mul F.fills_int_mul F.slot_int_rmul repeat_tuple F.slot_int_index.lookup
    (call_meets F.slot_int_rmul (typeIs_int s 1 t) F.entry_int_rmul (F.args_int_rmul_2 _ _) (int_rmul_tuple 1 t l its.toArray n dd sl)
      ⟨ho, rfl, ⟨_, ho, rfl⟩, call_meets F.slot_tuple_mul ⟨_, ho, rfl⟩ F.entry_tuple_mul (F.args_tuple_mul_2 _ _) (tuple_once l its.toArray n dd sl t) ⟨ho, ?_⟩⟩)
  exact ⟨.ref l, H, I.kept (t' := s.toks) fun _ _ z => z, rfl, q⟩
end L2.DL


set_option
      maxHeartbeats 1000000
namespace L2.DL
open PySem PySem.Spec
      PyProof.Rows

/-! ### data that may be compared and shown -/
mutual
def fine : D → Bool
  | .none => true
  | .bool _ => true
  | .int i => decide (i.natAbs < 2 ^ 120)
  | .str x => PyData.canLay0 (.str x)
  | .list xs => fineAll xs
  | .tuple xs => fineAll xs
  | .dict _ => false
def fineAll : List D → Bool
  | [] => true
  | d :: ds => fine d && fineAll ds
end
mutual
def wt : D → Nat
  | .none => 1
  | .bool _ => 1
  | .int _ => 1
  | .str x => x.length / 100 + 1
  | .list xs => wtAll xs + 1
  | .tuple xs => wtAll xs + 1
  | .dict _ => 1
def wtAll : List D → Nat
  | [] => 0
  | d :: ds => wt d + wtAll ds
end
/-- small enough -/
structure Ok (n m : Nat) (d : D) : Prop where
  f : fine d = true
  w : wt d ≤ n
  d : d.depth ≤ m
abbrev Good (d : D) : Prop := Ok 8000 50 d
mutual
theorem fine.lay : ∀ d : D, fine d = true → d.canLay0 = true
  | .none, _ => rfl
  | .bool _, _ => rfl
  | .int _, _ => rfl
  | .str x, h => by
    unfold fine at h
    exact h
  | .list xs, h => by
    unfold PyData.canLay0
    exact fineAll.lay xs (by simpa only [fine] using h)
  | .tuple xs, h => by
    unfold PyData.canLay0
    exact fineAll.lay xs (by simpa only [fine] using h)
  | .dict _, h => by simp only [fine] at h; cases h
theorem fineAll.lay : ∀ ds : List D, fineAll ds = true → PyData.canLayAll0 ds = true
  | [], _ => rfl
  | d :: ds, h => by
    unfold fineAll at h
    rw [Bool.and_eq_true] at h
    unfold PyData.canLayAll0
    rw [fine.lay d h.1, fineAll.lay ds h.2]
    rfl
end
theorem Ok.shaped {n m : Nat} {d : D} (h : Ok n m d) (hm : m ≤ 64) : SeqAt.shaped d = true := by
  unfold SeqAt.shaped
  rw [fine.lay d h.f, decide_eq_true (Nat.le_trans h.d hm)]
  rfl
theorem Ok.noDict {n m : Nat} {d : D} (h : Ok n m d) : d.hasDict = false := PyData.hasDict_of_canLay d (fine.lay d h.f)
theorem log2_120 {i : Int} (h : i.natAbs < 2 ^ 120) : i.natAbs.log2 < 1920 := Nat.lt_of_lt_of_le (PySem.Flt.log2_lt_of (by decide) h) (by decide)
mutual
theorem fine.showable : ∀ d : D, fine d = true → d.showable = true
  | .none, _ => by simp only [PyData.showable]
  | .bool _, _ => by simp only [PyData.showable]
  | .int i, h => by
    unfold fine at h
    unfold PyData.showable
    exact decide_eq_true (log2_120 (of_decide_eq_true h))
  | .str _, _ => by simp only [PyData.showable]
  | .list xs, h => by
    unfold PyData.showable
    exact fineAll.showable xs (by simpa only [fine] using h)
  | .tuple xs, h => by
    unfold PyData.showable
    exact fineAll.showable xs (by simpa only [fine] using h)
  | .dict _, h => by simp only [fine] at h; cases h
theorem fineAll.showable : ∀ ds : List D, fineAll ds = true → PyData.showableAll ds = true
  | [], _ =>
        by simp only [PyData.showableAll]
  | d :: ds, h => by
    unfold fineAll at h
    rw [Bool.and_eq_true] at h
    unfold PyData.showableAll
    rw [fine.showable d h.1, fineAll.showable ds h.2]
    rfl
end
theorem shownAll_length : ∀ ds : List D, (PyData.shownAll ds).length = ds.length
  | [] => by simp [PyData.shownAll]
  | d :: ds => by simp [PyData.shownAll, shownAll_length ds]
theorem wtAll_length : ∀ ds : List D, ds.length ≤ wtAll ds
  | [] => by simp [wtAll]
  | d :: ds => by
    have h := wtAll_length ds
    have : 1 ≤ wt d := by cases d <;> simp [wt]
    simp only [wtAll, List.length_cons]
    omega
theorem small_text {i : Int} (h : i.natAbs < 2 ^ 120) : ((toString i : String) : Str).length ≤ 400 := by
  have z := PySem.int_text_length_le (a := i) (k := 120) (by decide) (PySem.Flt.log2_lt_of (by decide) h)
  rw [PySem.ofString_length]
  omega
mutual
theorem fine.len : ∀ d : D, fine d = true → d.shown.length + 3 ≤ 2000 * wt d
  | .none, _ => by simp only [PyData.shown, wt]; decide
  | .bool b, _ => by cases b <;> (simp only [PyData.shown, wt]; decide)
  | .int i, h => by
    unfold fine at h
    simp only [PyData.shown, wt]
    have z := small_text (of_decide_eq_true h)
    omega
  | .str x, h => by
    unfold fine at h
    simp only [PyData.shown, wt]
    have z := PySem.StrLaws.reprText_len x (fun c hc => by
      have q : PyData.strOk x = true := h
      unfold PyData.strOk at q
      rw [Array.all_eq_true_iff_forall_mem] at q
      have := of_decide_eq_true (q c (by simpa using hc))
      omega)
    omega
  | .list xs, h => by
    have q := fineAll.len xs (by simpa only [fine] using h)
    simp only [PyData.shown, wt]
    have z := PySem.listText_len_le (PyData.shownAll xs)
    rw [shownAll_length] at z
    have l := wtAll_length xs
    omega
  | .tuple xs, h => by
    have q := fineAll.len xs (by simpa only [fine] using h)
    simp only [PyData.shown, wt]
    have z := PySem.tupleText_len_le (PyData.shownAll xs)
    rw [shownAll_length] at z
    have l := wtAll_length xs
    omega
  | .dict _, h => by simp only [fine] at h; cases h
theorem fineAll.len : ∀ ds : List D, fineAll ds = true → ((PyData.shownAll ds).map (·.length)).sum + 3 * ds.length ≤ 2000 * wtAll ds
  | [], _ => by simp [PyData.shownAll, wtAll]
  | d :: ds, h => by
    unfold fineAll at h
    rw [Bool.and_eq_true] at h
    have a := fine.len d h.1
    have b := fineAll.len ds h.2
    have : 1 ≤ wt d := by cases d <;> simp [wt]
    simp only [PyData.shownAll, wtAll, List.map_cons, List.sum_cons, List.length_cons]
    omega
end

theorem Good.shownLen {d : D} (h : Good d) : d.shown.length ≤ sizeLine := by
  have z := fine.len d h.f
  have w := h.w
  rw [sizeLine_eq]
  omega

/-! ### data as the library's own data -/
section
variable {K : PySem.W.Frag} {p : Option Addr} {G H : Hp}
mutual
theorem R.dp (s : Same G H) : ∀ {v : V} {d : D}, R K p G v d → d.hasDict = false → Dp K H v d
  | _, _, .non, _ => .non
  | _, _, .bl b, _ => .bl b
  | _, _, .int i, _ => .int i
  | _, _, .str x, _ => .str x
  | _, _, .lst h r, n => .lst (SqL.of (s _ _ h)) (RA.dp s r (by simpa only [PyData.hasDict] using n))
  | _, _, .tup h r, n => .tup (sameT s h) (RA.dp s r (by simpa only [PyData.hasDict] using n))
  | _, _, .pen h e, n => by subst e; simp only [PyData.hasDict] at n; cases n
  | _, _, .exc h e, n => by subst e; simp only [PyData.hasDict] at n; cases n
  | _, _, .obj h r e, n => by subst e; simp only [PyData.hasDict] at n; cases n
  | _, _, .scr h e, n => by subst e; simp only [PyData.hasDict] at n; cases n
theorem RA.dp (s : Same G H) : ∀ {vs : List V} {ds : List D}, RA K p G vs ds → PyData.hasDictAll ds = false → DpAll K H vs ds
  | _, _, .nil, _ => .nil
  | _, _, .cons h t, n => by
    unfold PyData.hasDictAll at n
    rw [Bool.or_eq_false_iff] at n
    exact .cons (R.dp s h n.1) (RA.dp s t n.2)
end
end

/-! ### operations on two data -/
abbrev B2 := D → D → (D → Prop) → Prop
def B2.Mono (f : B2) : Prop := ∀ a b P P', (∀ d, P d → P' d) → f a b P → f a b P'
def wBin (f : B2) (wa wb : WEx) : WEx := fun e Q x => wa e (fun d1 e1 => wb e1 (fun d2 e2 => f d1 d2 (fun d => Q d e2)) x) x
/-- the rule r of the heap does what f says of data -/
def Fits (K : PySem.W.Frag) (f : B2) (r : R2) : Prop := ∀ (p : Option Addr) (G₀ H₀ G H : Hp) (σ : L2.St) (e : En) (x y : V) (a b : D) (P : D → Prop) (Q : VK),
  Rl K p G₀ H₀ G H σ e → R K p G x a → R K p G y b → f a b P → (∀ d, P d → ∀ v G' H', Same G G' → Rl K p G₀ H₀ G' H' σ e → R K p G' v d → Q v H') → r x y H Q
section
variable {X : Cx} {F : Fx} {a b : Expr} {wa wb : WEx} {pos : Pos}
theorem wBin.mono {f : B2} (hf : f.Mono) (ha : Mono wa) (hb : Mono wb) : Mono (wBin f wa wb) := fun e Q Q' x x' h1 h2 q =>
  ha e _ _ _ _ (fun d1 e1 q1 => hb e1 _ _ _ _ (fun d2 e2 q2 => hf d1 d2 _ _ (fun d q3 => h1 d e2 q3) q2) h2 q1) h2 q
theorem tE.mono {K : PySem.W.Frag} {w : WEx} (m : Mono w) {σ : L2.St} {H : Hp} {Q Q' : VK} (h : ∀ v H, Q v H → Q' v H) (q : tE K F w σ H Q) : tE K F w σ H Q' := by
  obtain ⟨e, G, r, q⟩ := q
  exact ⟨e, G, r, m e _ _ _ _ (fun d e1 q1 v G' H' s r' rv => h _ _ (q1 v G' H' s r' rv)) (fun _ _ z => z) q⟩
/-- two in a row, the result by a rule of two values -/
theorem tE.two {K : PySem.W.Frag} {f : B2} {r : R2} (hf : f.Mono) (ft : Fits K f r) (ha : Mono wa) (hb : Mono wb) {σ : L2.St} {H : Hp} {Q : VK} (q : tE K F (wBin f wa wb) σ H Q) :
    tE K F wa σ H fun x H1 => tE K F wb σ H1 fun y H2 => r x y H2 Q := by
  obtain ⟨e, G, r0, q⟩ := q
  refine tE.mono ha (fun v1 H1 q1 => ?_) (tE.bind (w := wa) (f := fun d1 e1 Q x => wb e1 (fun d2 e2 => f d1 d2 (fun d => Q d e2)) x) ha (fun d1 e1 Q Q' x x' h1 h2 q => hb e1 _ _ _ _ (fun d2 e2 q2 => hf d1 d2 _ _ (fun d q3 => h1 d e2 q3) q2) h2 q) r0 q)
  obtain ⟨e1, G1, d1, s1, r1, rv1, q1⟩ := q1
  refine tE.mono hb (fun v2 H2 q2 => ?_) (tE.bind (w := wb) (f := fun d2 e2 Q x => f d1 d2 (fun d => Q d e2)) hb (fun d2 e2 Q Q' x x' h1 h2 q => hf d1 d2 _ _ (fun d q3 => h1 d e2 q3) q) r1 q1)
  obtain ⟨e2, G2, d2, s2, r2, rv2, q2⟩ := q2
  exact ft F.p F.G₀ F.H₀ G2 H2 σ e2 v1 v2 d1 d2 _ Q r2 (rv1.mono s2) rv2 q2 fun d z v G' H' s r' rv => z v G' H' s r' rv
theorem de_bin {op : Operator} {f : B2} {r : R2} (ho : OpR X (binaryOp op) r) (hf : f.Mono) (ft : Fits X.K f r) (ha : DE X F a wa) (hb : DE X F b wb) : DE X F (.BinOp a op b pos) (wBin f wa wb) :=
  de_of (pe_op ho ha.run hb.run) (wBin.mono hf ha.mono hb.mono) fun σ H Q q => tE.two hf ft ha.mono hb.mono q
theorem de_cmp {op : CmpOp} {f : B2} {r : R2} (ho : OpR X (compareOp op) r) (hf : f.Mono) (ft : Fits X.K f r) (ha : DE X F a wa) (hb : DE X F b wb) (hm : behindInMarks op b = false := by first | exact nomark _ (by decide) (by decide) | rfl) : DE X F (.Compare a [op] [b] pos) (wBin f wa wb) :=
  de_of (pe_cmpR ho ha.run hb.run hm) (wBin.mono hf ha.mono hb.mono) fun σ H Q q => tE.two hf ft ha.mono hb.mono q
end

/-! #### what the operations say of data -/
def addD : B2
  | .int i, .int j, P => P (.int (i + j))
  | .str a, .str b, P => a.length + b.length ≤ sizeLine ∧ P (.str (a ++ b))
  | .list xs, .list ys, P => xs.length + ys.length ≤ sizeLine ∧ P (.list (xs ++ ys))
  | .tuple xs, .tuple ys, P => xs.length + ys.length ≤ sizeLine ∧ P (.tuple (xs ++ ys))
  | _, _, _ => False
def subD : B2
  | .int i, .int j, P => P (.int (i - j))
  | _, _, _ => False
def mulD : B2
  | .int i, .int j, P => CMul i j ∧ P (.int (i * j))
  | .list xs, .int k, P => 0 ≤ k ∧ k ≤ 1000 ∧ xs.length ≤ 1000 ∧ P (.list (List.replicate k.toNat xs).flatten)
  | .tuple xs, .int k, P => xs ≠ [] ∧ 1 ≤ k ∧ k ≤ 1000 ∧ xs.length ≤ 1000 ∧ P (.tuple (List.replicate k.toNat xs).flatten)
  | _, _, _ => False
def powD : B2
  | .int i, .int j, P => CPow i j ∧ P (.int (i ^ j.toNat))
  | _, _, _ => False
def modD : B2
  | .int i, .int j, P => 0 < j ∧ P (.int (i % j))
  | _, _, _ => False
def divD : B2
  | .int i, .int j, P => (0 < j ∧ j.natAbs < 2 ^ 9000) ∧ P (.int (i / j))
  | _, _, _ => False
def cmpD (c : Int → Int → Bool) : B2
  | .int i, .int j, P => P (.bool (c i j))
  | _, _, _ => False
abbrev ltD : B2 := cmpD fun i j => decide (i < j)
abbrev leD : B2 := cmpD fun i j => decide (i ≤ j)
abbrev gtD : B2 := cmpD fun i j => decide (j < i)
abbrev geD : B2 := cmpD fun i j => decide (j ≤ i)
def twoInts : D → D → Bool
  | .int _, .int _ => true
  | .str _, .str _ => true
  | _, _ => false
def eqD : B2 := fun a b P => (twoInts a b = true ∨ (Good a ∧ Good b)) ∧ P (.bool (PyData.eqv a b))
def neD : B2 := fun a b P => (twoInts a b = true ∨ (Good a ∧ Good b)) ∧ P (.bool (!PyData.eqv a b))
def items : D → Option (List D)
  | .list xs => some xs
  | .tuple xs => some xs
  | _ => none
def inB (a : D) (xs : List D) : Bool := xs.any fun z => PyData.eqv z a
def inD : B2 := fun a b P => Good a ∧ Good b ∧ ∃ xs, items b = some xs ∧ P (.bool (inB a xs))
def notInD : B2 := fun a b P => Good a ∧ Good b ∧ ∃ xs, items b = some xs ∧ P (.bool (!inB a xs))
theorem addD.mono : B2.Mono addD := by
  intro a b P P' h q
  unfold addD at q ⊢
  split at q
  · exact h _ q
  · exact ⟨q.1, h _ q.2⟩
  · exact ⟨q.1, h _ q.2⟩
  · exact ⟨q.1, h _ q.2⟩
  · exact q.elim
theorem subD.mono : B2.Mono subD := by
  intro a b P P' h q
  unfold subD at q ⊢
  split at q
  · exact h _ q
  · exact q.elim
theorem mulD.mono : B2.Mono mulD := by
  intro a b P P' h q
  unfold mulD at q ⊢
  split at q
  · exact ⟨q.1, h _ q.2⟩
  · exact ⟨q.1, q.2.1, q.2.2.1, h _ q.2.2.2⟩
  · exact ⟨q.1, q.2.1, q.2.2.1, q.2.2.2.1, h _ q.2.2.2.2⟩
  · exact q.elim
theorem powD.mono : B2.Mono powD := by
  intro a b P P' h q
  unfold powD at q ⊢
  split at q
  · exact ⟨q.1, h _ q.2⟩
  · exact q.elim
theorem modD.mono : B2.Mono modD := by
  intro a b P P' h q
  unfold modD at q ⊢
  split at q
  · exact ⟨q.1, h _ q.2⟩
  · exact q.elim
theorem divD.mono : B2.Mono divD := by
  intro a b P P' h q
  unfold divD at q ⊢
  split at q
  · exact ⟨q.1, h _ q.2⟩
  · exact q.elim
theorem cmpD.mono {c : Int → Int → Bool} : B2.Mono (cmpD c) := by
  intro a b P P' h q
  unfold cmpD at q ⊢
  split at q
  · exact h _ q
  · exact q.elim
theorem eqD.mono : B2.Mono eqD := fun _ _ _ _ h q => ⟨q.1, h _ q.2⟩
theorem neD.mono : B2.Mono neD := fun _ _ _ _ h q => ⟨q.1, h _ q.2⟩
theorem twoInts_inv {a b : D} (h : twoInts a b = true) : (∃ i j, a = .int i ∧ b = .int j) ∨ ∃ i j, a = .str i ∧ b = .str j := by
  unfold twoInts at h
  split at h
  · exact .inl ⟨_, _, rfl, rfl⟩
  · exact .inr ⟨_, _, rfl, rfl⟩
  · cases h
theorem inD.mono : B2.Mono inD := fun _ _ _ _ h q => ⟨q.1, q.2.1, let ⟨xs, e, z⟩ := q.2.2; ⟨xs, e, h _ z⟩⟩
theorem notInD.mono : B2.Mono notInD := fun _ _ _ _ h q => ⟨q.1, q.2.1, let ⟨xs, e, z⟩ := q.2.2; ⟨xs, e, h _ z⟩⟩
section
variable {K : PySem.W.Frag} {p : Option Addr} {G₀ H₀ G H : Hp} {σ : L2.St} {e : En} {Q : VK} {P : D → Prop}
/-- a plain answer -/
theorem ans {d : D} {v : V} (r : Rl K p G₀ H₀ G H σ e) (rv : R K p G v d) (k : ∀ d, P d → ∀ v G' H', Same G G' → Rl K p G₀ H₀ G' H' σ e → R K p G' v d → Q v H') (h : P d) : Q v H := k d h v G H (Same.refl G) r rv
/-- a new list, a new tuple -/
theorem ansL {xs : List V} {ds : List D} {q : Addr} (r : Rl K p G₀ H₀ G H σ e) (rv : RA K p G xs ds) (k : ∀ d, P d → ∀ v G' H', Same G G' → Rl K p G₀ H₀ G' H' σ e → R K p G' v d → Q v H') (h : P (.list ds)) (hq : H q = none) : Q (.ref q) (upd H q (.lst xs)) :=
  k _ h _ (upd G q (.lst xs)) _ (sameNew r.same hq) (r.new hq) (.lst upd_same (rv.mono (sameNew r.same hq)))
theorem ansT {xs : List V} {ds : List D} {q : Addr} (r : Rl K p G₀ H₀ G H σ e) (rv : RA K p G xs ds) (k : ∀ d, P d → ∀ v G' H', Same G G' → Rl K p G₀ H₀ G' H' σ e → R K p G' v d → Q v H') (h : P (.tuple ds)) (hq : H q = none) : Q (.ref q) (upd H q (.tup xs)) :=
  k _ h _ (upd G q (.tup xs)) _ (sameNew r.same hq) (r.new hq) (.tup (SqT.of upd_same) (rv.mono (sameNew r.same hq)))
end
/-- the rules of the heap, put together -/
def rAddA (K : PySem.W.Frag) : R2 := fun x y H Q => rI0 (fun i j => .int (i + j)) x y H Q ∨ (∃ i j, x = .str i ∧ y = .str j ∧ i.length + j.length ≤ sizeLine ∧ Q (.str (i ++ j)) H) ∨ rCat x y H Q ∨ rCatA K x y H Q
theorem op_addA {X : Cx} : OpR X (binaryOp .Add) (rAddA X.K) := op_add.or (op_add_str.or (op_cat.or op_catA))
theorem fitsAdd {K : PySem.W.Frag} : Fits K addD (rAddA K) := by
  intro p G₀ H₀ G H σ e x y a b P Q r ra rb q k
  unfold addD at q
  split at q
  · cases ra.int_inv; cases rb.int_inv
    exact .inl ⟨_, _, rfl, rfl, ans r (.int _) k q⟩
  · cases ra.str_inv; cases rb.str_inv
    exact .inr (.inl ⟨_, _, rfl, rfl, q.1, ans r (.str _) k q.2⟩)
  · obtain ⟨l, xs, rfl, h1, r1⟩ := ra.lst_inv
    obtain ⟨m, ys, rfl, h2, r2⟩ := rb.lst_inv
    exact .inr (.inr (.inl ⟨l, m, xs, ys, rfl, rfl, r.same _ _ h1, r.same _ _ h2, by rw [r1.length, r2.length]; exact q.1, fun z hz => ansL r (r1.append r2) k q.2 hz⟩))
  · obtain ⟨l, xs, rfl, h1, r1⟩ := ra.tup_inv
    obtain ⟨m, ys, rfl, h2, r2⟩ := rb.tup_inv
    refine .inr (.inr (.inr ⟨l, m, xs, ys, rfl, rfl, sameT r.same h1, sameT r.same h2, by rw [r1.length, r2.length]; exact q.1, fun z => ?_, fun _ z => ?_, fun _ _ z hz => ansT r (r1.append r2) k q.2 hz⟩))
    · have e1 := r1.nil_iff.mp z
      have q2 := q.2
      rw [e1, List.nil_append] at q2
      exact ans r rb k q2
    · have e1 := r2.nil_iff.mp z
      have q2 := q.2
      rw [e1, List.append_nil] at q2
      exact ans r ra k q2
  · exact q.elim
theorem fitsSub {K : PySem.W.Frag} : Fits K subD (rI0 fun i j => .int (i - j)) := by
  intro p G₀ H₀ G H σ e x y a b P Q r ra rb q k
  unfold subD at q
  split at q
  · cases ra.int_inv; cases rb.int_inv
    exact ⟨_, _, rfl, rfl, ans r (.int _) k q⟩
  · exact q.elim
def rMulA (K : PySem.W.Frag) : R2 := fun x y H Q => rI CMul (fun i j => .int (i * j)) x y H Q ∨ rRep x y H Q ∨ rRepT K x y H Q ∨ rOnce K x y H Q
theorem op_mulA {X : Cx} : OpR X (binaryOp .Mult) (rMulA X.K) := op_mul.or (op_rep.or (op_repT.or op_once))
theorem fitsMul {K : PySem.W.Frag} : Fits K mulD (rMulA K) := by
  intro p G₀ H₀ G H σ e x y a b P Q r ra rb q k
  unfold mulD at q
  split at q
  · cases ra.int_inv; cases rb.int_inv
    exact .inl ⟨_, _, rfl, rfl, q.1, ans r (.int _) k q.2⟩
  · obtain ⟨l, xs, rfl, h1, r1⟩ := ra.lst_inv
    cases rb.int_inv
    obtain ⟨q1, q2, q3, q4⟩ := q
    refine .inr (.inl ⟨l, _, xs, rfl, rfl, r.same _ _ h1, by omega, by omega, ?_, fun z hz => ansL r (r1.rep _) k q4 hz⟩)
    rw [sizeLine_eq, r1.length]
    exact Nat.le_trans (Nat.mul_le_mul q3 (show _ ≤ 1000 by omega)) (by decide)
  · obtain ⟨l, xs, rfl, h1, r1⟩ := ra.tup_inv
    cases rb.int_inv
    obtain ⟨q0, q1, q2, q3, q4⟩ := q
    rename_i i
    by_cases e1 : i = 1
    · subst e1
      refine .inr (.inr (.inr ⟨l, xs, rfl, rfl, sameT r.same h1, ans r (.tup h1 r1) k ?_⟩))
      simpa using q4
    · exact .inr (.inr (.inl ⟨l, _, xs, rfl, rfl, sameT r.same h1, fun z => q0 (r1.nil_iff.mp z), by omega, q2, by rw [r1.length]; exact q3, fun z hz => ansT r (r1.rep _) k q4 hz⟩))
  · exact q.elim
theorem fitsPow {K : PySem.W.Frag} : Fits K powD (rI CPow fun i j => .int (i ^ j.toNat)) := by
  intro p G₀ H₀ G H σ e x y a b P Q r ra rb q k
  unfold powD at q
  split at q
  · cases ra.int_inv; cases rb.int_inv
    exact ⟨_, _, rfl, rfl, q.1, ans r (.int _) k q.2⟩
  · exact q.elim
theorem fitsMod {K : PySem.W.Frag} : Fits K modD (rI (fun _ j => 0 < j) fun i j => .int (i % j)) := by
  intro p G₀ H₀ G H σ e x y a b P Q r ra rb q k
  unfold modD at q
  split at q
  · cases ra.int_inv; cases rb.int_inv
    exact ⟨_, _, rfl, rfl, q.1, ans r (.int _) k q.2⟩
  · exact q.elim
theorem fitsDiv {K : PySem.W.Frag} : Fits K divD (rI CDivW fun i j => .int (i / j)) := by
  intro p G₀ H₀ G H σ e x y a b P Q r ra rb q k
  unfold divD at q
  split at q
  · cases ra.int_inv; cases rb.int_inv
    exact ⟨_, _, rfl, rfl, wide_div (b := 9000) q.1.1 q.1.2 (by decide) (Nat.le_refl _), ans r (.int _) k q.2⟩
  · exact q.elim
theorem fitsCmp {K : PySem.W.Frag} {c : Int → Int → Bool} : Fits K (cmpD c) (rI0 fun i j => .bl (c i j)) := by
  intro p G₀ H₀ G H σ e x y a b P Q r ra rb q k
  unfold cmpD at q
  split at q
  · cases ra.int_inv; cases rb.int_inv
    exact ⟨_, _, rfl, rfl, ans r (.bl _) k q⟩
  · exact q.elim
def rEqA (K : PySem.W.Frag) : R2 := fun x y H Q => rEq x y H Q ∨ rEqD K x y H Q
def rNeA (K : PySem.W.Frag) : R2 := fun x y H Q => rNe x y H Q ∨ rNeD K x y H Q
theorem op_eqA {X : Cx} (hu : X.A.units + 64 < cLine) : OpR X (compareOp .Eq) (rEqA X.K) := op_eq.or (op_eqD hu)
theorem op_neA {X : Cx} (hu : X.A.units + 64 < cLine) : OpR X (compareOp .NotEq) (rNeA X.K) := op_ne.or (op_neD hu)
theorem eqv_int (i j : Int) : PyData.eqv (.int i) (.int j) = decide (V.int i = V.int j) := by
  rw [dec_int]
  simp only [PyData.eqv]
theorem eqv_str (i j : Str) : PyData.eqv (.str i) (.str j) = decide (V.str i = V.str j) := by
  rw [dec_str]
  simp only [PyData.eqv]
theorem fitsEq {K : PySem.W.Frag} : Fits K eqD (rEqA K) := by
  intro p G₀ H₀ G H σ e x y a b P Q r ra rb q k
  obtain ⟨q | ⟨q1, q2⟩, z⟩ := q
  · rcases twoInts_inv q with ⟨i, j, rfl, rfl⟩ | ⟨i, j, rfl, rfl⟩
    · cases ra.int_inv; cases rb.int_inv
      refine .inl ⟨rfl, ?_⟩
      rw [← eqv_int]
      exact ans r (.bl _) k z
    · cases ra.str_inv; cases rb.str_inv
      refine .inl ⟨rfl, ?_⟩
      rw [← eqv_str]
      exact ans r (.bl _) k z
  · exact .inr ⟨a, b, ra.dp r.same q1.noDict, rb.dp r.same q2.noDict, q1.shaped (by decide), q2.shaped (by decide), ans r (.bl _) k z⟩
theorem fitsNe {K : PySem.W.Frag} : Fits K neD (rNeA K) := by
  intro p G₀ H₀ G H σ e x y a b P Q r ra rb q k
  obtain ⟨q | ⟨q1, q2⟩, z⟩ := q
  · rcases twoInts_inv q with ⟨i, j, rfl, rfl⟩ | ⟨i, j, rfl, rfl⟩
    · cases ra.int_inv; cases rb.int_inv
      refine .inl ⟨rfl, ?_⟩
      rw [← eqv_int]
      exact ans r (.bl _) k z
    · cases ra.str_inv; cases rb.str_inv
      refine .inl ⟨rfl, ?_⟩
      rw [← eqv_str]
      exact ans r (.bl _) k z
  · exact .inr ⟨a, b, ra.dp r.same q1.noDict, rb.dp r.same q2.noDict, q1.shaped (by decide), q2.shaped (by decide), ans r (.bl _) k z⟩
/-- x in a list or a tuple, at any depth -/
def rInA (K : PySem.W.Frag) (neg : Bool) : R2 := fun x y H Q => ∃ d c ds, Dp K H x d ∧ Dp K H y c ∧ items c = some ds ∧ SeqAt.shaped d = true ∧ SeqAt.shaped c = true ∧ Q (.bl (if neg then !inB d ds else inB d ds)) H
theorem op_inA {X : Cx} (hu : X.A.units + 65 < cLine) : OpR X (compareOp .In) (rInA X.K false) := by
  intro pins s σ H x
        y v u Q I rx ry h
  obtain ⟨d, c, ds, hd, he, hc, sd, se, q⟩ := h
  obtain ⟨as, r1⟩ :=
        Dp.reads I d x v hd rx
  obtain ⟨bs, r2⟩ := Dp.reads I c y u he ry
  cases c <;> simp only [items, Option.some.injEq, reduceCtorEq] at hc
  · subst hc
    exact SeqAt.in_list_reads r2 r1 (SeqAt.canLay_of_shaped se)
          (SeqAt.canLay_of_shaped sd) (room_in_shaped sd hu) ⟨.bl _, H, I, rfl, q⟩
  · subst hc
    exact SeqAt.in_tuple_reads r2 r1 (SeqAt.canLay_of_shaped se) (SeqAt.canLay_of_shaped sd) (room_in_shaped sd hu) ⟨.bl _, H, I, rfl, q⟩
theorem op_notInA {X : Cx} (hu : X.A.units + 65 < cLine) : OpR X (compareOp .NotIn) (rInA X.K true) := by
  intro pins s σ H x
        y v u Q I rx ry h
  obtain ⟨d, c, ds, hd, he, hc, sd, se, q⟩ := h
  obtain ⟨as, r1⟩ :=
        Dp.reads I d x v hd rx
  obtain ⟨bs, r2⟩ := Dp.reads I c y u he ry
  cases c <;> simp only [items, Option.some.injEq, reduceCtorEq] at hc
  · subst hc
    exact SeqAt.notIn_list_reads r2 r1 (SeqAt.canLay_of_shaped se)
          (SeqAt.canLay_of_shaped sd) (room_in_shaped sd hu) ⟨.bl _, H, I, rfl, q⟩
  · subst hc
    exact SeqAt.notIn_tuple_reads r2 r1 (SeqAt.canLay_of_shaped se) (SeqAt.canLay_of_shaped sd) (room_in_shaped sd hu) ⟨.bl _, H, I, rfl, q⟩
theorem fitsIn {K : PySem.W.Frag} : Fits K inD (rInA K false) := by
  intro p G₀ H₀ G H σ e x y a b P Q r ra rb q k
  obtain ⟨q1, q2, xs, e1, q3⟩ := q
  exact ⟨a, b, xs, ra.dp r.same q1.noDict, rb.dp r.same q2.noDict, e1, q1.shaped (by decide), q2.shaped (by decide), ans r (.bl _) k q3⟩
theorem fitsNotIn {K : PySem.W.Frag} : Fits K notInD (rInA K true) := by
  intro p G₀ H₀ G H σ e x y a b P Q r ra rb q k
  obtain ⟨q1, q2, xs, e1, q3⟩ := q
  exact ⟨a, b, xs, ra.dp r.same q1.noDict, rb.dp r.same q2.noDict, e1, q1.shaped (by decide), q2.shaped (by decide), ans r (.bl _) k q3⟩
end L2.DL


set_option
      maxHeartbeats 1000000
namespace L2.DL
open PySem PySem.Spec
      PyProof.Rows

/-! ### tests -/
abbrev WTx := En → (Bool → En → Prop) → PD → Prop
def MonoT (w : WTx) : Prop := ∀ e Q Q' x x', (∀ b e, Q b e → Q' b e) → (∀ d e, x d e → x' d e) → w e Q x → w e Q' x'
def PT_ (K : PySem.W.Frag) (F : Fx) (G : Hp) (σ : L2.St) (Q : Bool → Hp → Prop) : Bool → En → Prop := fun b e' => ∀ G' H', Same G G' → Rl K F.p F.G₀ F.H₀ G' H' σ e' → Q b H'
def tT (K : PySem.W.Frag) (F : Fx) (w : WTx) : TT := fun σ H Q => ∃ e G, Rl K F.p F.G₀ F.H₀ G H σ e ∧ w e (PT_ K F G σ Q) (PX K F.p F.G₀ F.H₀ F.W G σ)
structure DT (X : Cx) (F : Fx) (e : Expr) (w : WTx) : Prop where
  run : PT X e (tT X.K F w)
  mono : MonoT w
structure DW (X : Cx) (F : Fx) (e : Expr) (w : WTx) : Prop where
  run : PW X e (tT X.K F w)
  mono : MonoT w
def wTest (w : WEx) : WTx := fun e Q x => w e (fun d e' => ∃ b, d = .bool b ∧ Q b e') x
def wAnd (a b : WTx) : WTx := fun e Q x => a e (fun c e1 => if c = true then b e1 Q x else Q false e1) x
def wOr (a b : WTx) : WTx := fun e Q x => a e (fun c e1 => if c = true then Q true e1 else b e1 Q x) x
def wNot (a : WTx) : WTx := fun e Q x => a e (fun c e1 => Q (!c) e1) x
def wIf (c : WTx) (a b : WEx) : WEx := fun e Q x => c e (fun k e1 => if k = true then a e1 Q x else b e1 Q x) x
section
variable {K : PySem.W.Frag} {F : Fx} {σ : L2.St} {H : Hp} {X : Cx} {pos : Pos} {a b c : Expr} {rest : List Expr}
theorem PT_.mono {G G' : Hp} {Q : Bool → Hp → Prop} {d : Bool} {e : En} (s : Same G G') (h : PT_ K F G σ Q d e) : PT_ K F G' σ Q d e := fun G2 H2 s2 => h G2 H2 (s.trans s2)
theorem tT.mono {w : WTx} (m : MonoT w) {Q Q' : Bool → Hp → Prop} (h : ∀ b H, Q b H → Q' b H) (q : tT K F w σ H Q) : tT K F w σ H Q' := by
  obtain ⟨e, G, r, q⟩ := q
  exact ⟨e, G, r, m e _ _ _ _ (fun d e1 q1 G' H' s r' => h _ _ (q1 G' H' s r')) (fun _ _ z => z) q⟩
theorem tT.bind {w : WTx} {P : Bool → En → Prop} {e : En} {G : Hp} (m : MonoT w) (r : Rl K F.p F.G₀ F.H₀ G H σ e) (h : w e P (PX K F.p F.G₀ F.H₀ F.W G σ)) :
    tT K F w σ H (fun k H1 => ∃ e1 G1, Same G G1 ∧ Rl K F.p F.G₀ F.H₀ G1 H1 σ e1 ∧ P k e1) :=
  ⟨e, G, r, m e _ _ _ _ (fun k e1 q G' H' s r' => ⟨e1, G', s, r', q⟩) (fun _ _ z => z) h⟩
theorem dt_of {e : Expr} {t : TT} {w : WTx} (h : PT X e t) (m : MonoT w) (i : ∀ σ H Q, tT X.K F w σ H Q → t σ H Q) : DT X F e w :=
  ⟨⟨fun pins s σ H Q I q => h.run pins s σ H Q I (i σ H Q q)⟩, m⟩
theorem dw_of {e : Expr} {t : TT} {w : WTx} (h : PW X e t) (m : MonoT w) (i : ∀ σ H Q, tT X.K F w σ H Q → t σ H Q) : DW X F e w :=
  ⟨⟨fun wh pins s σ H Q I q => h.run wh pins s σ H Q I (i σ H Q q)⟩, m⟩
theorem wTest.mono {w : WEx} (m : Mono w) : MonoT (wTest w) := fun e Q Q' x x' h1 h2 q => m e _ _ _ _ (fun d e1 ⟨b, eb, z⟩ => ⟨b, eb, h1 b e1 z⟩) h2 q
theorem dt_val {e : Expr} {w : WEx} (h : DE X F e w) (he : ∀ whole, isTrue e X.env whole = (do let v ← whole; standAt e.pos; holding [v] (truthy v)) := by intro _; rfl) : DT X F e (wTest w) :=
  dt_of (pt_val h.run he) (wTest.mono h.mono) fun σ H Q ⟨e, G, r, q⟩ =>
    ⟨e, G, r, h.mono e _ _ _ _ (fun d e1 ⟨b, eb, z⟩ v G' H' s r' rv => by
      subst eb
      exact ⟨b, rv.bl_inv, z G' H' s r'⟩) (fun _ _ z => z) q⟩
theorem wAnd.mono {u v : WTx} (mu : MonoT u) (mv : MonoT v) : MonoT (wAnd u v) := fun e Q Q' x x' h1 h2 q => mu e _ _ _ _ (fun c e1 z => by
  cases c with
  | true => exact mv e1 _ _ _ _ h1 h2 z
  | false => exact h1 _ _ z) h2 q
theorem wOr.mono {u v : WTx} (mu : MonoT u) (mv : MonoT v) : MonoT (wOr u v) := fun e Q Q' x x' h1 h2 q => mu e _ _ _ _ (fun c e1 z => by
  cases c with
  | true => exact h1 _ _ z
  | false => exact mv e1 _ _ _ _ h1 h2 z) h2 q
theorem wNot.mono {u : WTx} (mu : MonoT u) : MonoT (wNot u) := fun e Q Q' x x' h1 h2 q => mu e _ _ _ _ (fun c e1 z => h1 _ _ z) h2 q
theorem wIf.mono {u : WTx} {v w : WEx} (mu : MonoT u) (mv : Mono v) (mw : Mono w) : Mono (wIf u v w) := fun e Q Q' x x' h1 h2 q => mu e _ _ _ _ (fun c e1 z => by
  cases c with
  | true => exact mv e1 _ _ _ _ h1 h2 z
  | false => exact mw e1 _ _ _ _ h1 h2 z) h2 q
variable {u v : WTx} {wa wb wc : WEx}
theorem dw_and1 (ha : DT X F a u) : DW X F (.BoolOp .And [a] pos) u := dw_of (pw_and1 ha.run) ha.mono fun _ _ _ q => q
theorem dw_or1 (ha : DT X F a u) : DW X F (.BoolOp .Or [a] pos) u := dw_of (pw_or1 ha.run) ha.mono fun _ _ _ q => q
theorem tT.and {σ : L2.St} {H : Hp} {Q : Bool → Hp → Prop} (mu : MonoT u) (mv : MonoT v) (q : tT K F (wAnd u v) σ H Q) : tAnd (tT K F u) (tT K F v) σ H Q := by
  obtain ⟨e, G, r, q⟩ := q
  refine tT.mono mu (fun k H1 z => ?_) (tT.bind mu r q)
  obtain ⟨e1, G1, s1, r1, z⟩ := z
  cases k with
  | true => exact ⟨e1, G1, r1, mv e1 _ _ _ _ (fun _ _ => PT_.mono s1) (fun _ _ => PX.mono s1) z⟩
  | false => exact z G1 H1 s1 r1
theorem tT.or {σ : L2.St} {H : Hp} {Q : Bool → Hp → Prop} (mu : MonoT u) (mv : MonoT v) (q : tT K F (wOr u v) σ H Q) : tOr (tT K F u) (tT K F v) σ H Q := by
  obtain ⟨e, G, r, q⟩ := q
  refine tT.mono mu (fun k H1 z => ?_) (tT.bind mu r q)
  obtain ⟨e1, G1, s1, r1, z⟩ := z
  cases k with
  | false => exact ⟨e1, G1, r1, mv e1 _ _ _ _ (fun _ _ => PT_.mono s1) (fun _ _ => PX.mono s1) z⟩
  | true => exact z G1 H1 s1 r1
theorem dw_and (ha : DT X F a u) (hb : DW X F (.BoolOp .And (b :: rest) pos) v) : DW X F (.BoolOp .And (a :: b :: rest) pos) (wAnd u v) :=
  dw_of (pw_and ha.run hb.run) (wAnd.mono ha.mono hb.mono) fun _ _ _ q => tT.and ha.mono hb.mono q
theorem dw_or (ha : DT X F a u) (hb : DW X F (.BoolOp .Or (b :: rest) pos) v) : DW X F (.BoolOp .Or (a :: b :: rest) pos) (wOr u v) :=
  dw_of (pw_or ha.run hb.run) (wOr.mono ha.mono hb.mono) fun _ _ _ q => tT.or ha.mono hb.mono q
theorem DW.dt (h : DW X F a u) : DT X F a u := ⟨h.run.pt, h.mono⟩
theorem dt_not (ha : DT X F a u) : DT X F (.UnaryOp .Not a pos) (wNot u) :=
  dt_of (pt_not ha.run) (wNot.mono ha.mono) fun σ H Q ⟨e, G, r, q⟩ => ⟨e, G, r, ha.mono e _ _ _ _ (fun _ _ z => z) (fun _ _ z => z) q⟩
theorem de_if (hc : DT X F c u) (ha : DE X F a wa) (hb : DE X F b wb) : DE X F (.IfExp c a b pos) (wIf u wa wb) :=
  de_of (pe_ifExp hc.run ha.run hb.run) (wIf.mono hc.mono ha.mono hb.mono) fun σ H Q ⟨e, G, r, q⟩ => by
    refine tT.mono hc.mono (fun k H1 z => ?_) (tT.bind hc.mono r q)
    obtain ⟨e1, G1, s1, r1, z⟩ := z
    cases k with
    | true => exact ⟨e1, G1, r1, ha.mono e1 _ _ _ _ (fun _ _ => PQ.mono s1) (fun _ _ => PX.mono s1) z⟩
    | false => exact ⟨e1, G1, r1, hb.mono e1 _ _ _ _ (fun _ _ => PQ.mono s1) (fun _ _ => PX.mono s1) z⟩
/-! ### bools as values -/
def wAndV (wa wb : WEx) : WEx := fun e Q x => wa e (fun d e1 => ∃ c, d = .bool c ∧ if c = true then wb e1 Q x else Q (.bool false) e1) x
def wOrV (wa wb : WEx) : WEx := fun e Q x => wa e (fun d e1 => ∃ c, d = .bool c ∧ if c = true then Q (.bool true) e1 else wb e1 Q x) x
def wNotV (wa : WEx) : WEx := fun e Q x => wa e (fun d e1 => ∃ c, d = .bool c ∧ Q (.bool (!c)) e1) x
theorem wAndV.mono (ma : Mono wa) (mb : Mono wb) : Mono (wAndV wa wb) := fun e Q Q' x x' h1 h2 q => ma e _ _ _ _ (fun d e1 ⟨c, ec, z⟩ => ⟨c, ec, by
  cases c with
  | true => exact mb e1 _ _ _ _ h1 h2 z
  | false => exact h1 _ _ z⟩) h2 q
theorem wOrV.mono (ma : Mono wa) (mb : Mono wb) : Mono (wOrV wa wb) := fun e Q Q' x x' h1 h2 q => ma e _ _ _ _ (fun d e1 ⟨c, ec, z⟩ => ⟨c, ec, by
  cases c with
  | true => exact h1 _ _ z
  | false => exact mb e1 _ _ _ _ h1 h2 z⟩) h2 q
theorem wNotV.mono (ma : Mono wa) : Mono (wNotV wa) := fun e Q Q' x x' h1 h2 q => ma e _ _ _ _ (fun d e1 ⟨c, ec, z⟩ => ⟨c, ec, h1 _ _ z⟩) h2 q
theorem de_one {op} (h : DE X F a wa) : DE X F (.BoolOp op [a] pos) wa := de_of (pe_one h.run) h.mono fun _ _ _ q => q
theorem de_and (ha : DE X F a wa) (hb : DE X F (.BoolOp .And (b :: rest) pos) wb) : DE X F (.BoolOp .And (a :: b :: rest) pos) (wAndV wa wb) :=
  de_of (pe_and ha.run hb.run) (wAndV.mono ha.mono hb.mono) fun σ H Q ⟨e, G, r, q⟩ => ⟨e, G, r, ha.mono e _ _ _ _ (fun d e1 ⟨k, ek, z⟩ v G' H' s r' rv => by
    subst ek
    refine ⟨k, rv.bl_inv, ?_⟩
    cases k with
    | true => exact ⟨e1, G', r', hb.mono e1 _ _ _ _ (fun _ _ => PQ.mono s) (fun _ _ => PX.mono s) z⟩
    | false => exact z _ G' H' s r' (.bl false)) (fun _ _ z => z) q⟩
theorem de_or (ha : DE X F a wa) (hb : DE X F (.BoolOp .Or (b :: rest) pos) wb) : DE X F (.BoolOp .Or (a :: b :: rest) pos) (wOrV wa wb) :=
  de_of (pe_or ha.run hb.run) (wOrV.mono ha.mono hb.mono) fun σ H Q ⟨e, G, r, q⟩ => ⟨e, G, r, ha.mono e _ _ _ _ (fun d e1 ⟨k, ek, z⟩ v G' H' s r' rv => by
    subst ek
    refine ⟨k, rv.bl_inv, ?_⟩
    cases k with
    | false => exact ⟨e1, G', r', hb.mono e1 _ _ _ _ (fun _ _ => PQ.mono s) (fun _ _ => PX.mono s) z⟩
    | true => exact z _ G' H' s r' (.bl true)) (fun _ _ z => z) q⟩
theorem de_not (ha : DE X F a wa) : DE X F (.UnaryOp .Not a pos) (wNotV wa) :=
  de_of (pe_not ha.run) (wNotV.mono ha.mono) fun σ H Q ⟨e, G, r, q⟩ => ⟨e, G, r, ha.mono e _ _ _ _ (fun d e1 ⟨k, ek, z⟩ v G' H' s r' rv => by
    subst ek
    exact ⟨k, rv.bl_inv, z _ G' H' s r' (.bl _)⟩) (fun _ _ z => z) q⟩
/-! ### is None -/
def isN : D → Bool
  | .none => true
  | _ => false
def wIsN (wa : WEx) : WEx := fun e Q x => wa e (fun d e1 => Q (.bool (isN d)) e1) x
def wNotN (wa : WEx) : WEx := fun e Q x => wa e (fun d e1 => Q (.bool (!isN d)) e1) x
theorem wIsN.mono (ma : Mono wa) : Mono (wIsN wa) := fun e Q Q' x x' h1 h2 q => ma e _ _ _ _ (fun d e1 z => h1 _ _ z) h2 q
theorem wNotN.mono (ma : Mono wa) : Mono (wNotN wa) := fun e Q Q' x x' h1 h2 q => ma e _ _ _ _ (fun d e1 z => h1 _ _ z) h2 q
theorem R.isN {p : Option Addr} {G : Hp} {x : V} {d : D} (h : R K p G x d) : decide (x = .non) = DL.isN d := by
  cases h <;> first | rfl | (rename_i e; subst e; rfl) | (rename_i _ e; subst e; rfl)
theorem de_isN {j} {p2 : Pos} (ha : DE X F a wa) : DE X F (.Compare a [.Is] [.Constant .none j p2] pos) (wIsN wa) :=
  de_of (pe_cmp (pc_isN ha.run) rfl) (wIsN.mono ha.mono) fun σ H Q ⟨e, G, r, q⟩ => ⟨e, G, r, ha.mono e _ _ _ _ (fun d e1 z v G' H' s r' rv => by
    show Q (.bl (decide (v = .non))) H'
    rw [rv.isN]
    exact z _ G' H' s r' (.bl _)) (fun _ _ z => z) q⟩
theorem de_notN {j} {p2 : Pos} (ha : DE X F a wa) : DE X F (.Compare a [.IsNot] [.Constant .none j p2] pos) (wNotN wa) :=
  de_of (pe_cmp (pc_notN ha.run) rfl) (wNotN.mono ha.mono) fun σ H Q ⟨e, G, r, q⟩ => ⟨e, G, r, ha.mono e _ _ _ _ (fun d e1 z v G' H' s r' rv => by
    show Q (.bl (!decide (v = .non))) H'
    rw [rv.isN]
    exact z _ G' H' s r' (.bl _)) (fun _ _ z => z) q⟩
/-! ### -n -/
def wNeg (wa : WEx) : WEx := fun e Q x => wa e (fun d e1 => ∃ i, d = .int i ∧ Q (.int (-i)) e1) x
theorem wNeg.mono (ma : Mono wa) : Mono (wNeg wa) := fun e Q Q' x x' h1 h2 q => ma e _ _ _ _ (fun d e1 ⟨i, ei, z⟩ => ⟨i, ei, h1 _ _ z⟩) h2 q
theorem de_neg (ha : DE X F a wa) : DE X F (.UnaryOp .USub a pos) (wNeg wa) :=
  de_of (pe_un un_neg ha.run) (wNeg.mono ha.mono) fun σ H Q ⟨e, G, r, q⟩ => ⟨e, G, r, ha.mono e _ _ _ _ (fun d e1 ⟨i, ei, z⟩ v G' H' s r' rv => by
    subst ei
    exact ⟨i, rv.int_inv, z _ G' H' s r' (.int _)⟩) (fun _ _ z => z) q⟩
/-! ### a < b < c -/
def wChain (f g : B2) (wa wb wc : WEx) : WEx := fun e Q x => wa e (fun d1 e1 => wb e1 (fun d2 e2 => f d1 d2 fun z => ∃ k, z = .bool k ∧ if k = true then wc e2 (fun d3 e3 => g d2 d3 fun d => Q d e3) x else Q (.bool false) e2) x) x
theorem wChain.mono {f g : B2} (hf : f.Mono) (hg : g.Mono) (ma : Mono wa) (mb : Mono wb) (mc : Mono wc) : Mono (wChain f g wa wb wc) := fun e Q Q' x x' h1 h2 q =>
  ma e _ _ _ _ (fun d1 e1 q1 => mb e1 _ _ _ _ (fun d2 e2 q2 => hf d1 d2 _ _ (fun z ⟨k, ek, y⟩ => ⟨k, ek, by
    cases k with
    | true => exact mc e2 _ _ _ _ (fun d3 e3 q3 => hg d2 d3 _ _ (fun d q4 => h1 d e3 q4) q3) h2 y
    | false => exact h1 _ _ y⟩) q2) h2 q1) h2 q
theorem tE.chain {f g : B2} {r r' : R2} (hf : f.Mono) (hg : g.Mono) (ft : Fits K f r) (gt : Fits K g r') (ma : Mono wa) (mb : Mono wb) (mc : Mono wc) {σ : L2.St} {H : Hp} {Q : VK} (q : tE K F (wChain f g wa wb wc) σ H Q) :
    tChain r r' (tE K F wa) (tE K F wb) (tE K F wc) σ H Q := by
  obtain ⟨e, G, r0, q⟩ := q
  refine tE.mono ma (fun v1 H1 q1 => ?_) (tE.bind (w := wa) (f := fun d1 e1 Q x => wb e1 (fun d2 e2 => f d1 d2 fun z => ∃ k, z = .bool k ∧ if k = true then wc e2 (fun d3 e3 => g d2 d3 fun d => Q d e3) x else Q (.bool false) e2) x) ma
    (fun d1 e1 Q Q' x x' h1 h2 q => mb e1 _ _ _ _ (fun d2 e2 q2 => hf d1 d2 _ _ (fun z ⟨k, ek, y⟩ => ⟨k, ek, by
      cases k with
      | true => exact mc e2 _ _ _ _ (fun d3 e3 q3 => hg d2 d3 _ _ (fun d q4 => h1 d e3 q4) q3) h2 y
      | false => exact h1 _ _ y⟩) q2) h2 q) r0 q)
  obtain ⟨e1, G1, d1, s1, r1, rv1, q1⟩ := q1
  refine tE.mono mb (fun v2 H2 q2 => ?_) (tE.bind (w := wb) (f := fun d2 e2 Q x => f d1 d2 fun z => ∃ k, z = .bool k ∧ if k = true then wc e2 (fun d3 e3 => g d2 d3 fun d => Q d e3) x else Q (.bool false) e2) mb
    (fun d2 e2 Q Q' x x' h1 h2 q => hf d1 d2 _ _ (fun z ⟨k, ek, y⟩ => ⟨k, ek, by
      cases k with
      | true => exact mc e2 _ _ _ _ (fun d3 e3 q3 => hg d2 d3 _ _ (fun d q4 => h1 d e3 q4) q3) h2 y
      | false => exact h1 _ _ y⟩) q) r1 q1)
  obtain ⟨e2, G2, d2, s2, r2, rv2, q2⟩ := q2
  refine ft F.p F.G₀ F.H₀ G2 H2 σ e2 v1 v2 d1 d2 _ _ r2 (rv1.mono s2) rv2 q2 fun d z v G' H' s r' rv => ?_
  obtain ⟨k, ek, z⟩ := z
  subst ek
  refine ⟨k, rv.bl_inv, ?_⟩
  cases k with
  | false => exact z _ G' H' s r' (.bl false)
  | true =>
    refine tE.mono mc (fun v3 H3 q3 => ?_) (tE.bind (w := wc) (f := fun d3 e3 Q x => g d2 d3 fun d => Q d e3) mc (fun d3 e3 Q Q' x x' h1 h2 q => hg d2 d3 _ _ (fun d q4 => h1 d e3 q4) q) r'
      (mc e2 _ _ _ _ (fun d3 e3 q3 => hg d2 d3 _ _ (fun d q4 => PQ.mono s q4) q3) (fun _ _ => PX.mono s) z))
    obtain ⟨e3, G3, d3, s3, r3, rv3, q3⟩ := q3
    exact gt F.p F.G₀ F.H₀ G3 H3 σ e3 v2 v3 d2 d3 _ Q r3 (rv2.mono (s.trans s3)) rv3 q3 fun d z v G' H' s r' rv => z v G' H' s r' rv
theorem de_chain {op op' : CmpOp} {f g : B2} {r r' : R2} (ho : OpR X (compareOp op) r) (ho' : OpR X (compareOp op') r') (hf : f.Mono) (hg : g.Mono) (ft : Fits X.K f r) (gt : Fits X.K g r') (ha : DE X F a wa) (hb : DE X F b wb) (hc : DE X F c wc)
    (hm : lastMarks [op, op'] [b, c] = false := by with_unfolding_all rfl) : DE X F (.Compare a [op, op'] [b, c] pos) (wChain f g wa wb wc) :=
  de_of (pe_chain ho ho' ha.run hb.run hc.run hm) (wChain.mono hf hg ha.mono hb.mono hc.mono) fun _ _ _ q => tE.chain hf hg ft gt ha.mono hb.mono hc.mono q
theorem dt_chain {op op' : CmpOp} {f g : B2} {r r' : R2} (ho : OpR X (compareOp op) r) (ho' : OpR X (compareOp op') r') (hf : f.Mono) (hg : g.Mono) (ft : Fits X.K f r) (gt : Fits X.K g r') (ha : DE X F a wa) (hb : DE X F b wb) (hc : DE X F c wc)
    (hm : lastMarks [op, op'] [b, c] = false := by with_unfolding_all rfl) : DT X F (.Compare a [op, op'] [b, c] pos) (wTest (wChain f g wa wb wc)) :=
  dt_of (pt_chain ho ho' ha.run hb.run hc.run hm) (wTest.mono (wChain.mono hf hg ha.mono hb.mono hc.mono)) fun σ H Q ⟨e, G, r, q⟩ =>
    tE.chain (Q := fun x H' => ∃ k, x = .bl k ∧ Q k H') hf hg ft gt ha.mono hb.mono hc.mono ⟨e, G, r, wChain.mono hf hg ha.mono hb.mono hc.mono e _ _ _ _ (fun d e1 ⟨k, ek, z⟩ v G' H' s r' rv => by
      subst ek
      exact ⟨k, rv.bl_inv, z G' H' s r'⟩) (fun _ _ z => z) q⟩
end
end L2.DL


set_option
      maxHeartbeats 1000000
namespace L2.DL
open PySem PySem.Spec
      PyProof.Rows

/-! ### arguments -/
abbrev WAx := En → (List D → En → Prop) → PD → Prop
def MonoA (w : WAx) : Prop := ∀ e Q Q' x x', (∀ b e, Q b e → Q' b e) → (∀ d e, x d e → x' d e) → w e Q x → w e Q' x'
def PA_ (K : PySem.W.Frag) (F : Fx) (G : Hp) (σ : L2.St) (Q : List V → Hp → Prop) : List D → En → Prop := fun ds e' => ∀ vs G' H', Same G G' → Rl K F.p F.G₀ F.H₀ G' H' σ e' → RA K F.p G' vs ds → Q vs H'
def tA (K : PySem.W.Frag) (F : Fx) (w : WAx) : TA := fun σ H Q => ∃ e G, Rl K F.p F.G₀ F.H₀ G H σ e ∧ w e (PA_ K F G σ Q) (PX K F.p F.G₀ F.H₀ F.W G σ)
structure DA (X : Cx) (F : Fx) (es : List Expr) (w : WAx) : Prop where
  run : PA X es (tA X.K F w)
  mono : MonoA w
def wNil : WAx := fun e Q _ => Q [] e
def wCons (wa : WEx) (wr : WAx) : WAx := fun e Q x => wa e (fun d e1 => wr e1 (fun ds e2 => Q (d :: ds) e2) x) x
section
variable {K : PySem.W.Frag} {F : Fx} {σ : L2.St} {H : Hp} {X : Cx} {pos : Pos} {a b c : Expr} {es : List Expr} {wa wb : WEx} {wr : WAx}
theorem PA_.mono {G G' : Hp} {Q : List V → Hp → Prop} {ds : List D} {e : En} (s : Same G G') (h : PA_ K F G σ Q ds e) : PA_ K F G' σ Q ds e := fun vs G2 H2 s2 => h vs G2 H2 (s.trans s2)
theorem tA.mono (m : MonoA wr) {Q Q' : List V → Hp → Prop} (h : ∀ b H, Q b H → Q' b H) (q : tA K F wr σ H Q) : tA K F wr σ H Q' := by
  obtain ⟨e, G, r, q⟩ := q
  exact ⟨e, G, r, m e _ _ _ _ (fun d e1 q1 vs G' H' s r' rv => h _ _ (q1 vs G' H' s r' rv)) (fun _ _ z => z) q⟩
theorem tA.bind {P : List D → En → Prop} {e : En} {G : Hp} (m : MonoA wr) (r : Rl K F.p F.G₀ F.H₀ G H σ e) (h : wr e P (PX K F.p F.G₀ F.H₀ F.W G σ)) :
    tA K F wr σ H (fun vs H1 => ∃ e1 G1 ds, Same G G1 ∧ Rl K F.p F.G₀ F.H₀ G1 H1 σ e1 ∧ RA K F.p G1 vs ds ∧ P ds e1) :=
  ⟨e, G, r, m e _ _ _ _ (fun ds e1 q vs G' H' s r' rv => ⟨e1, G', ds, s, r', rv, q⟩) (fun _ _ z => z) h⟩
theorem wNil.mono : MonoA wNil := fun _ _ _ _ _ h _ q => h _ _ q
theorem wCons.mono (ma : Mono wa) (mr : MonoA wr) : MonoA (wCons wa wr) := fun e Q Q' x x' h1 h2 q => ma e _ _ _ _ (fun d e1 z => mr e1 _ _ _ _ (fun ds e2 y => h1 _ _ y) h2 z) h2 q
theorem da_nil : DA X F [] wNil := ⟨⟨fun pos pins s σ H Q I ⟨e, G, r, q⟩ => pa_nil.run pos pins s σ H Q I (q [] G H (Same.refl G) r .nil)⟩, wNil.mono⟩
theorem tE.any {P : D → En → Prop} {e : En} {G : Hp} (m : Mono wa) (r : Rl K F.p F.G₀ F.H₀ G H σ e) (h : wa e P (PX K F.p F.G₀ F.H₀ F.W G σ)) :
    tE K F wa σ H (fun v H1 => ∃ e1 G1 d, Same G G1 ∧ Rl K F.p F.G₀ F.H₀ G1 H1 σ e1 ∧ R K F.p G1 v d ∧ P d e1) :=
  ⟨e, G, r, m e _ _ _ _ (fun d e1 q v G' H' s r' rv => ⟨e1, G', d, s, r', rv, q⟩) (fun _ _ z => z) h⟩
theorem da_cons (ha : DE X F a wa) (hr : DA X F es wr) (hs : starEach (a :: es) X.env = (false, eval a X.env) :: starEach es X.env := by rfl) : DA X F (a :: es) (wCons wa wr) := by
  refine ⟨⟨fun pos pins s σ H Q I q => (pa_cons ha.run hr.run hs).run pos pins s σ H Q I ?_⟩, wCons.mono ha.mono hr.mono⟩
  obtain ⟨e, G, r, q⟩ := q
  refine tE.mono ha.mono (fun v1 H1 q1 => ?_) (tE.any ha.mono r q)
  obtain ⟨e1, G1, d1, s1, r1, rv1, q1⟩ := q1
  exact ⟨e1, G1, r1, hr.mono e1 _ _ _ _ (fun ds e2 y xs G' H' s r' rv => y (v1 :: xs) G' H' (s1.trans s) r' (.cons (rv1.mono s) rv)) (fun _ _ => PX.mono s1) q1⟩
/-! ### displays -/
def wTup (w : WAx) : WEx := fun e Q x => w e (fun ds e1 => ds.length ≤ 1000 ∧ Q (.tuple ds) e1) x
def wLst (w : WAx) : WEx := fun e Q x => w e (fun ds e1 => ds.length ≤ 1000 ∧ Q (.list ds) e1) x
theorem wTup.mono (m : MonoA wr) : Mono (wTup wr) := fun e Q Q' x x' h1 h2 q => m e _ _ _ _ (fun ds e1 z => ⟨z.1, h1 _ _ z.2⟩) h2 q
theorem wLst.mono (m : MonoA wr) : Mono (wLst wr) := fun e Q Q' x x' h1 h2 q => m e _ _ _ _ (fun ds e1 z => ⟨z.1, h1 _ _ z.2⟩) h2 q
theorem le_line {n : Nat} (h : n ≤ 1000) : n ≤ sizeLine := Nat.le_trans h (by decide)
theorem de_tup {k} (h : DA X F es wr) : DE X F (.Tuple es k pos) (wTup wr) :=
  de_of (pe_tup h.run) (wTup.mono h.mono) fun σ H Q ⟨e, G, r, q⟩ => ⟨e, G, r, h.mono e _ _ _ _ (fun ds e1 z vs G' H' s r' rv => ⟨by rw [rv.length]; exact le_line z.1, fun p hp =>
    z.2 _ (upd G' p (.tup vs)) _ (s.trans (sameNew r'.same hp)) (r'.new hp) (.tup (SqT.of upd_same) (rv.mono (sameNew r'.same hp)))⟩) (fun _ _ z => z) q⟩
theorem de_lst (h : DA X F es wr) : DE X F (.List es pos) (wLst wr) :=
  de_of (pe_lst h.run) (wLst.mono h.mono) fun σ H Q ⟨e, G, r, q⟩ => ⟨e, G, r, h.mono e _ _ _ _ (fun ds e1 z vs G' H' s r' rv => ⟨by rw [rv.length]; exact le_line z.1, fun p hp =>
    z.2 _ (upd G' p (.lst vs)) _ (s.trans (sameNew r'.same hp)) (r'.new hp) (.lst upd_same (rv.mono (sameNew r'.same hp)))⟩) (fun _ _ z => z) q⟩
/-! ### built-ins -/
abbrev BL := List D → (D → Prop) → Prop
def BL.Mono (f : BL) : Prop := ∀ a P P', (∀ d, P d → P' d) → f a P → f a P'
def wBi (f : BL) (w : WAx) : WEx := fun e Q x => w e (fun ds e1 => f ds fun d => Q d e1) x
def FitsL (K : PySem.W.Frag) (f : BL) (r : List V → Hp → VK → Prop) : Prop := ∀ (p : Option Addr) (G₀ H₀ G H : Hp) (σ : L2.St) (e : En) (xs : List V) (ds : List D) (P : D → Prop) (Q : VK),
  Rl K p G₀ H₀ G H σ e → RA K p G xs ds → f ds P → (∀ d, P d → ∀ v G' H', Same G G' → Rl K p G₀ H₀ G' H' σ e → R K p G' v d → Q v H') → r xs H Q
theorem wBi.mono {f : BL} (hf : f.Mono) (m : MonoA wr) : Mono (wBi f wr) := fun e Q Q' x x' h1 h2 q => m e _ _ _ _ (fun ds e1 z => hf ds _ _ (fun d y => h1 _ _ y) z) h2 q
theorem tA.bi {f : BL} {r : List V → Hp → VK → Prop} (hf : f.Mono) (ft : FitsL K f r) (m : MonoA wr) {Q : VK} (q : tE K F (wBi f wr) σ H Q) : tCB r (tA K F wr) σ H Q := by
  obtain ⟨e, G, r0, q⟩ := q
  refine tA.mono m (fun vs H1 z => ?_) (tA.bind m r0 q)
  obtain ⟨e1, G1, ds, s1, r1, rv, z⟩ := z
  exact ft F.p F.G₀ F.H₀ G1 H1 σ e1 vs ds _ Q r1 rv z fun d y v G' H' s r' rv' => y v G' H' (s1.trans s) r' rv'
theorem de_bi {x : Str} {id : String} {f : BL} {r : List V → Hp → VK → Prop} {p : Pos} (hf : f.Mono) (ft : FitsL X.K f r) (hc : CallR X (.builtin id) r) (ha : DA X F (a :: es) wr) (hm : X.mg x = none) (hg : Gl X x := by rfl) (hv : bootBuiltins x = some (.builtin id) := by decide +kernel)
    (hn : x ≠ "__name__" := by decide) (hdb : (x == ("__debug__" : Str)) = false := by decide) (he : starEach (a :: es) X.env = (false, eval a X.env) :: starEach es X.env := by rfl) (hpl : (backTo pos (starEach es X.env)).any (·.1) = false := by rfl) :
    DE X F (.Call (.Name x p) (a :: es) [] pos) (wBi f wr) :=
  de_of (pe_callB hc hg hm hv ha.run hn hdb he hpl) (wBi.mono hf ha.mono) fun _ _ _ q => tA.bi hf ft ha.mono q
theorem de_bt {x : Str} {T : String} {f : BL} {r : List V → Hp → VK → Prop} {p : Pos} (hf : f.Mono) (ft : FitsL X.K f r) (hc : CallR X (.type T) r) (ha : DA X F (a :: es) wr) (hm : X.mg x = none) (hg : Gl X x := by rfl) (hv : bootBuiltins x = some (.type T) := by decide +kernel)
    (hn : x ≠ "__name__" := by decide) (hdb : (x == ("__debug__" : Str)) = false := by decide) (he : starEach (a :: es) X.env = (false, eval a X.env) :: starEach es X.env := by rfl) (hpl : (backTo pos (starEach es X.env)).any (·.1) = false := by rfl) :
    DE X F (.Call (.Name x p) (a :: es) [] pos) (wBi f wr) :=
  de_of (pe_callTy hc hg hm hv ha.run hn hdb he hpl) (wBi.mono hf ha.mono) fun _ _ _ q => tA.bi hf ft ha.mono q
def lenD : BL
  | [.list xs], P => P (.int xs.length)
  | [.tuple xs], P => P (.int xs.length)
  | _, _ => False
def intD : BL
  | [.int i], P => P (.int i)
  | _, _ => False
def listD : BL
  | [.list xs], P => P (.list xs)
  | [.tuple xs], P => P (.list xs)
  | _, _ => False
def tupleD : BL
  | [.list xs], P => P (.tuple xs)
  | [.tuple xs], P => P (.tuple xs)
  | _, _ => False
def reprD : BL
  | [d], P => Good d ∧ P (.str d.shown)
  | _, _ => False
theorem lenD.mono : BL.Mono lenD := by
  intro a P P' h q
  unfold lenD at q ⊢
  split at q <;> first | exact h _ q | exact q.elim
theorem intD.mono : BL.Mono intD := by
  intro a P P' h q
  unfold intD at q ⊢
  split at q <;> first | exact h _ q | exact q.elim
theorem listD.mono : BL.Mono listD := by
  intro a P P' h q
  unfold listD at q ⊢
  split at q <;> first | exact h _ q | exact q.elim
theorem tupleD.mono : BL.Mono tupleD := by
  intro a P P' h q
  unfold tupleD at q ⊢
  split at q <;> first | exact h _ q | exact q.elim
theorem reprD.mono : BL.Mono reprD := by
  intro a P P' h q
  unfold reprD at q ⊢
  split at q
  · exact ⟨q.1, h _ q.2⟩
  · exact q.elim
theorem RA.one {p : Option Addr} {G : Hp} {xs : List V} {d : D} (h : RA K p G xs [d]) : ∃ x, xs = [x] ∧ R K p G x d := by
  cases h with
  | cons a b => cases b; exact ⟨_, rfl, a⟩
theorem RA.two {p : Option Addr} {G : Hp} {xs : List V} {d d' : D} (h : RA K p G xs [d, d']) : ∃ x y, xs = [x, y] ∧ R K p G x d ∧ R K p G y d' := by
  cases h with
  | cons a b =>
    obtain ⟨y, e, b'⟩ := b.one
    subst e
    exact ⟨_, _, rfl, a, b'⟩
theorem fitsLen : FitsL K lenD (fun xs H Q => ∃ p ys, xs = [.ref p] ∧ (SqL K H p ys ∨ SqT K H p ys) ∧ Q (.int ys.length) H) := by
  intro p G₀ H₀ G H σ e xs ds P Q r ra q k
  unfold lenD at q
  split at q
  · obtain ⟨x, rfl, rx⟩ := ra.one
    obtain ⟨a, ys, rfl, h1, r1⟩ := rx.lst_inv
    exact ⟨a, ys, rfl, .inl (SqL.of (r.same _ _ h1)), by rw [r1.length]; exact ans r (.int _) k q⟩
  · obtain ⟨x, rfl, rx⟩ := ra.one
    obtain ⟨a, ys, rfl, h1, r1⟩ := rx.tup_inv
    exact ⟨a, ys, rfl, .inr (sameT r.same h1), by rw [r1.length]; exact ans r (.int _) k q⟩
  · exact q.elim
theorem fitsInt : FitsL K intD (fun xs H Q => (∃ i, xs = [.int i] ∧ Q (.int i) H) ∨ ∃ k, xs = [.bl k] ∧ Q (.int (if k then 1 else 0)) H) := by
  intro p G₀ H₀ G H σ e xs ds P Q r ra q k
  unfold intD at q
  split at q
  · obtain ⟨x, rfl, rx⟩ := ra.one
    cases rx.int_inv
    exact .inl ⟨_, rfl, ans r (.int _) k q⟩
  · exact q.elim
theorem fitsList : FitsL K listD (fun xs H Q => ∃ p ys, xs = [.ref p] ∧ (SqL K H p ys ∨ SqT K H p ys) ∧ ∀ l, H l = none → Q (.ref l) (upd H l (.lst ys))) := by
  intro p G₀ H₀ G H σ e xs ds P Q r ra q k
  unfold listD at q
  split at q
  · obtain ⟨x, rfl, rx⟩ := ra.one
    obtain ⟨a, ys, rfl, h1, r1⟩ := rx.lst_inv
    exact ⟨a, ys, rfl, .inl (SqL.of (r.same _ _ h1)), fun l hl => ansL r r1 k q hl⟩
  · obtain ⟨x, rfl, rx⟩ := ra.one
    obtain ⟨a, ys, rfl, h1, r1⟩ := rx.tup_inv
    exact ⟨a, ys, rfl, .inr (sameT r.same h1), fun l hl => ansL r r1 k q hl⟩
  · exact q.elim
theorem fitsTuple : FitsL K tupleD (fun xs H Q => ∃ p ys, xs = [.ref p] ∧ ((SqL K H p ys ∧ ∀ l, H l = none → Q (.ref l) (upd H l (.tup ys))) ∨ (SqT K H p ys ∧ Q (.ref p) H))) := by
  intro p G₀ H₀ G H σ e xs ds P Q r ra q k
  unfold tupleD at q
  split at q
  · obtain ⟨x, rfl, rx⟩ := ra.one
    obtain ⟨a, ys, rfl, h1, r1⟩ := rx.lst_inv
    exact ⟨a, ys, rfl, .inl ⟨SqL.of (r.same _ _ h1), fun l hl => ansT r r1 k q hl⟩⟩
  · obtain ⟨x, rfl, rx⟩ := ra.one
    obtain ⟨a, ys, rfl, h1, r1⟩ := rx.tup_inv
    exact ⟨a, ys, rfl, .inr ⟨sameT r.same h1, ans r rx k q⟩⟩
  · exact q.elim
/-- repr of data -/
def rRepr (K : PySem.W.Frag) : List V → Hp → VK → Prop := fun xs H Q => ∃ x d, xs = [x] ∧ Dp K H x d ∧ Good d ∧ Q (.str d.shown) H
theorem call_reprD (hg : X.A.guards = some []) (hu : X.A.units + 64 < cLine) : CallR X (.builtin "repr") (rRepr X.K) := by
  intro pins s σ
        H xs us Q I r h
  obtain ⟨x, d, rfl, hd, ok, q⟩ := h
  obtain ⟨u, rfl,
        ru⟩ := vals1 r
  obtain ⟨as, rd⟩ := Dp.reads I d x u hd ru
  have fin : ∀ h' tk t, (∀ b o, s.heap.get? b = some o → h'.get? b = some o) → EP X pins σ Q (.str d.shown t) { s with heap := h', toks := tk } := fun h' tk t k => ⟨.str d.shown, H, I.kept (t' := tk) k, ⟨_, rfl⟩, q⟩
  have far : ∀ a, u = .ref a → wpAny (model X.prog X.w) X.A (call (.builtin "repr") [u]) (EP X pins σ Q) X.xe s := fun a e => by
    subst e
    exact repr_of_reads' rd (fine.showable d ok.f) (PyData.noDict_hsm ok.noDict) hg (by have := ok.d; omega) (fun _ _ z => z) (fun h' t tk k => fin h' tk t k) ok.shownLen
  cases hd with
  | non => cases ru; exact PySem.P.repr_of_none (fin s.heap _ _ fun _ _ z => z)
  | bl b => cases ru; exact PySem.P.repr_of_bool (fin s.heap _ _ fun _ _ z => z)
  | int i =>
    obtain ⟨t, rfl⟩ := ru
    exact PySem.P.repr_of_int (log2_120 (of_decide_eq_true (by have := ok.f; unfold fine at this; exact this))) (fin s.heap _ _ fun _ _ z => z)
  | str z =>
    obtain ⟨t, rfl⟩ := ru
    exact PySem.P.repr_of_str (fin s.heap _ _ fun _ _ z => z) ok.shownLen
  | lst _ _ => exact far _ ru
  | tup _ _ => exact far _ ru
theorem fitsRepr : FitsL K reprD (rRepr K) := by
  intro p G₀ H₀ G H σ e xs ds P Q r ra q k
  unfold reprD at q
  split at q
  · obtain ⟨x, rfl, rx⟩ := ra.one
    exact ⟨x, _, rfl, rx.dp r.same q.1.noDict, q.1, ans r (.str _) k q.2⟩
  · exact q.elim
/-! ### xs[i], xs[a:b] -/
def idxD : B2
  | .list xs, .int i, P => ∃ d, atI xs i = some d ∧ P d
  | .tuple xs, .int i, P => ∃ d, atI xs i = some d ∧ P d
  | _, _, _ => False
theorem idxD.mono : B2.Mono idxD := by
  intro a b P P' h q
  unfold idxD at q ⊢
  split at q
  · obtain ⟨d, e, z⟩ := q; exact ⟨d, e, h _ z⟩
  · obtain ⟨d, e, z⟩ := q; exact ⟨d, e, h _ z⟩
  · exact q.elim
theorem RA.at {p : Option Addr} {G : Hp} {xs : List V} {ds : List D} {i : Int} {d : D} (h : RA K p G xs ds) (e : atI ds i = some d) : ∃ v, atI xs i = some v ∧ R K p G v d := by
  unfold atI at e ⊢
  rw [h.length]
  cases hn : ixN ds.length i with
  | none => rw [hn] at e; cases e
  | some j =>
    rw [hn] at e
    exact h.get (i := j) e
theorem fitsIdx : Fits K idxD (fun x y H Q => rIxL K x y H Q ∨ rIxT K x y H Q) := by
  intro p G₀ H₀ G H σ e x y a b P Q r ra rb q k
  unfold idxD at q
  split at q
  · obtain ⟨l, xs, rfl, h1, r1⟩ := ra.lst_inv
    cases rb.int_inv
    obtain ⟨d, ed, z⟩ := q
    obtain ⟨v, ev, rv⟩ := r1.at ed
    exact .inl ⟨l, xs, _, v, rfl, rfl, SqL.of (r.same _ _ h1), ev, ans r rv k z⟩
  · obtain ⟨l, xs, rfl, h1, r1⟩ := ra.tup_inv
    cases rb.int_inv
    obtain ⟨d, ed, z⟩ := q
    obtain ⟨v, ev, rv⟩ := r1.at ed
    exact .inr ⟨l, xs, _, v, rfl, rfl, sameT r.same h1, ev, ans r rv k z⟩
  · exact q.elim
theorem de_idx (ha : DE X F a wa) (hb : DE X F b wb) (hs : PlainIx b := by intro _ _; rfl) : DE X F (.Subscript a b pos) (wBin idxD wa wb) :=
  de_of (pe_ix (ix_list.or ix_tup) ha.run hb.run hs) (wBin.mono idxD.mono ha.mono hb.mono) fun σ H Q q => tE.two idxD.mono fitsIdx ha.mono hb.mono q
/-- an end of a slice -/
abbrev WOx := En → (Option Int → En → Prop) → PD → Prop
def MonoO (w : WOx) : Prop := ∀ e Q Q' x x', (∀ b e, Q b e → Q' b e) → (∀ d e, x d e → x' d e) → w e Q x → w e Q' x'
def tO (K : PySem.W.Frag) (F : Fx) (w : WOx) : TO := fun σ H Q => ∃ e G, Rl K F.p F.G₀ F.H₀ G H σ e ∧ w e (fun o e' => ∀ G' H', Same G G' → Rl K F.p F.G₀ F.H₀ G' H' σ e' → Q o H') (PX K F.p F.G₀ F.H₀ F.W G σ)
structure DO (X : Cx) (F : Fx) (e : Option Expr) (w : WOx) : Prop where
  run : PO X e (tO X.K F w)
  mono : MonoO w
def wNo : WOx := fun e Q _ => Q none e
def wSo (w : WEx) : WOx := fun e Q x => w e (fun d e1 => ∃ i, d = .int i ∧ Q (some i) e1) x
theorem do_none : DO X F none wNo := ⟨⟨fun pins s σ H Q I ⟨e, G, r, q⟩ => po_none.run pins s σ H Q I (q G H (Same.refl G) r)⟩, fun _ _ _ _ _ h _ q => h _ _ q⟩
theorem do_some (h : DE X F a wa) : DO X F (some a) (wSo wa) :=
  ⟨⟨fun pins s σ H Q I ⟨e, G, r, q⟩ => (po_some h.run).run pins s σ H Q I ⟨e, G, r, h.mono e _ _ _ _ (fun d e1 ⟨i, ei, z⟩ v G' H' s r' rv => by
    subst ei
    exact ⟨i, rv.int_inv, z G' H' s r'⟩) (fun _ _ z => z) q⟩⟩, fun e Q Q' x x' h1 h2 q => h.mono e _ _ _ _ (fun d e1 ⟨i, ei, z⟩ => ⟨i, ei, h1 _ _ z⟩) h2 q⟩
def cutD (xs : List D) (lo hi : Option Int) : List D := (xs.drop (HT.sIx xs.length 0 lo)).take (HT.sIx xs.length xs.length hi - HT.sIx xs.length 0 lo)
def slD : D → Option Int → Option Int → (D → Prop) → Prop
  | .list xs, lo, hi, P => P (.list (cutD xs lo hi))
  | .tuple xs, lo, hi, P => P (.tuple (cutD xs lo hi))
  | _, _, _, _ => False
theorem slD.mono {a : D} {lo hi : Option Int} {P P' : D → Prop} (h : ∀ d, P d → P' d) (q : slD a lo hi P) : slD a lo hi P' := by
  unfold slD at q ⊢
  split at q <;> first | exact h _ q | exact q.elim
def wSl (wa : WEx) (wl wh : WOx) : WEx := fun e Q x => wa e (fun d e1 => wl e1 (fun lo e2 => wh e2 (fun hi e3 => slD d lo hi fun z => Q z e3) x) x) x
variable {wl wh : WOx} {lo hi : Option Expr}
theorem RA.cut {p : Option Addr} {G : Hp} {xs : List V} {ds : List D} (h : RA K p G xs ds) (lo hi : Option Int) : RA K p G (cutV xs lo hi) (cutD ds lo hi) := by
  unfold cutV cutD
  rw [h.length]
  exact (h.drop _).take _
theorem cutD_whole {ds : List D} {lo hi : Option Int} (h : HT.sIx ds.length 0 lo = 0 ∧ HT.sIx ds.length ds.length hi = ds.length) : cutD ds lo hi = ds := by
  unfold cutD
  rw [h.1, h.2]
  simp
theorem de_sl {p2 : Pos} (ha : DE X F a wa) (hl : DO X F lo wl) (hh : DO X F hi wh) : DE X F (.Subscript a (.Slice lo hi none p2) pos) (wSl wa wl wh) := by
  refine de_of (pe_slice (sl_list.or sl_tupA) ha.run hl.run hh.run) (fun e Q Q' x x' h1 h2 q => ha.mono e _ _ _ _ (fun d e1 q1 => hl.mono e1 _ _ _ _ (fun o e2 q2 => hh.mono e2 _ _ _ _ (fun u e3 q3 => slD.mono (fun z y => h1 _ _ y) q3) h2 q2) h2 q1) h2 q) fun σ H Q q => ?_
  obtain ⟨e, G, r, q⟩ := q
  refine tE.mono ha.mono (fun v H1 z => ?_) (tE.any ha.mono r q)
  obtain ⟨e1, G1, d, s1, r1, rv, z⟩ := z
  refine ⟨e1, G1, r1, hl.mono e1 _ _ _ _ (fun o e2 z2 G2 H2 s2 r2 => ?_) (fun _ _ => PX.mono s1) z⟩
  refine ⟨e2, G2, r2, hh.mono e2 _ _ _ _ (fun u e3 z3 G3 H3 s3 r3 => ?_) (fun _ _ => PX.mono (s1.trans s2)) z2⟩
  have rv3 := rv.mono (s2.trans s3)
  have s13 := s1.trans (s2.trans s3)
  cases d with
  | list ds =>
    obtain ⟨l, xs, rfl, g1, ra⟩ := rv3.lst_inv
    exact .inl ⟨l, xs, rfl, SqL.of (r3.same _ _ g1), fun p hp => z3 _ (upd G3 p (.lst (cutV xs o u))) _ (s13.trans (sameNew r3.same hp)) (r3.new hp) (.lst upd_same ((ra.cut o u).mono (sameNew r3.same hp)))⟩
  | tuple ds =>
    obtain ⟨l, xs, rfl, g1, ra⟩ := rv3.tup_inv
    refine .inr ⟨l, xs, rfl, sameT r3.same g1, fun hw => ?_, fun hw p hp => z3 _ (upd G3 p (.tup (cutV xs o u))) _ (s13.trans (sameNew r3.same hp)) (r3.new hp) (.tup (SqT.of upd_same) ((ra.cut o u).mono (sameNew r3.same hp)))⟩
    rw [ra.length] at hw
    have z4 : _ := z3
    simp only [slD, cutD_whole hw] at z4
    exact z4 _ G3 _ s13 r3 rv3
  | _ => exact z3.elim
end
end L2.DL


set_option
      maxHeartbeats 1000000
namespace L2.DL
open PySem PySem.Spec
      PyProof.Rows

/-! ### defs, where nothing is being shown (repr wants that known) -/
structure FnG (P : Program) (w : World) (K : PySem.W.Frag) (mg : Str → Option Value) (base : Heap) (k : Nat) (f : Addr) (fd : FuncData) (ps : List Str) (sp : Sp) : Prop where
  len : ∀ vs H Q E,
        sp vs H Q E → vs.length = ps.length
  run : ∀ (A : Around) (outer : List Env) (s : Shared) (H : Hp) (args : Args) (us : List Value) (vs : List V) (Q : VK) (E : XK), A.guards = some [] → Room k A → Env0 P w K mg base A outer s H → BindsTo s fd args (ps.zip us) → Vals vs us →
    sp vs H Q E → codeAny (model P w) A (.call (.ref f) args) (CR (L2.CX P w) outer P w H s Q E) s
section
variable {P : Program} {w : World} {K :
      PySem.W.Frag} {mg : Str → Option Value} {base : Heap}
theorem FnG.mono {j k : Nat} {f : Addr} {fd : FuncData} {ps : List Str} {sp : Sp} (F : FnG P w K mg base j f fd ps sp) (h : j ≤ k) : FnG P w K mg base k f fd ps sp :=
  ⟨F.len, fun A outer s H args us vs Q E hg hr => F.run A outer s H args us vs Q E hg (hr.mono h)⟩
theorem FnG.imp {k : Nat} {f : Addr} {fd : FuncData} {ps : List Str} {sp sp' : Sp} (F : FnG P w K mg base k f fd ps sp) (h : ∀ vs H Q E, sp' vs H Q E → sp vs H Q E) : FnG P w K mg base k f fd ps sp' :=
  ⟨fun vs H Q E q => F.len vs H Q E (h _ _ _ _ q), fun A outer s H args us vs Q E hg hr e b r q => F.run A outer s H args us vs Q E hg hr e b r (h _ _ _ _ q)⟩
/-- a def by its body -/
theorem fnG_of {x qual : Str} {st : Stmt} {f : Addr} {fd : FuncData} {N ps : List Str} {k : Nat} {sp : Sp} (F : Fun K x qual st f fd) (S : FnScope N ps (defScope st)) (len : ∀ vs H Q E, sp vs H Q E → vs.length = ps.length)
    (hbody : ∀ (cdv : Value) (A : Around) (outer : List Env) (s : Shared) (H : Hp) (vs : List V) (Q : VK) (E : XK), A.guards = some [] → Room k (A.deeper (envOfC qual (defScope st) s.heap.objs.size f cdv)) → sp vs H Q E →
      ∃ t, PSs (cxOf (L2.CX P w) P w K mg base N qual (defScope st) f cdv A outer s H E) (defBody st) t ∧ t { nx := fun _ H' => Q .non H', rt := Q } (start N vs) H) : FnG P w K mg base (k + 1) f fd ps sp := by
  obtain ⟨oc, od, kV, doc, pm, an,
        cdv, ct, osl, rfl, lk, hcd⟩ := F.ex
  refine ⟨len, ?_⟩
  intro A outer s H args us vs Q E hg hr e0 hb rv hsp
  have kept : K.In s.heap := e0.mod.kin.keeps fun b o e => (e0.bs b o e).1
  have nlim : s.heap.NoLimit := e0.mod.nolimit.keeps fun b o e => (e0.bs b o e).1
  have names : ∀ y ∈ ps.zip us, (defScope st).names.lookup y.1 = some .local ∨ ((defScope st).names.lookup y.1 = some .cell ∧ ((cellsFrom (s.heap.objs.size + 1) (defScope st).names []).lookup y.1).isSome = true) := by
    intro y hy
    rcases S.par y.1 (List.of_mem_zip (a := y.1) (b := y.2) hy).1 with q | q
    · exact Or.inl q
    · exact Or.inr ⟨q, PySem.W.cellsFrom_some _ _ _ (Or.inl q)⟩
  apply codeAny_call_function hr.depth (kept _ _ lk) rfl S.co S.gen rfl (PySem.W.codeRec_of kept hcd)
  apply hb
  apply wpAny_newFunctionEnv_cells S.kind names
  intro env he s1 x
  cases he
  refine ⟨nlim.keeps x.toInCall.keep, codeAny_func ?_⟩
  obtain ⟨t, ht, hq⟩ := hbody cdv A outer s H vs Q E hg (hr.deeper _) hsp
  have J := inv_start (CX := L2.CX P w) (E := E) S hr.hd e0 (len _ _ _ _ hsp) rv x
  refine wpAny_mono (ht.run [] s1 (start N vs) H _ J hq) ?_ fun e s' z => z
  intro fl s' z
  cases fl with
  | ret u => obtain ⟨v, σ', H', J', r', q⟩ := z; exact ⟨v, H', J'.os, J'.bare, J'.base, J'.hok, r', q⟩
  | next => obtain ⟨σ', H', J', q⟩ := z; exact ⟨V.non, H', J'.os, J'.bare, J'.base, J'.hok, rfl, q⟩
  | brk => obtain ⟨_, _, _, q⟩ := z; exact q.elim
  | cont => obtain ⟨_, _, _, q⟩ := z; exact q.elim
end

/-! ### calls -/
abbrev Wc := List D → Nat → (D → Nat → Prop) → (D → Nat → Prop) → Prop
def Wc.Mono (w : Wc) : Prop := ∀ ds k Q Q' x x', (∀ d k, Q d k → Q' d k) → (∀ d k, x d k → x' d k) → w ds k Q x → w ds k Q' x'
/-- a def's promise over data -/
def spD (K : PySem.W.Frag) (w : Wc) : Sp := fun vs H Q E => ∃ p G ds k, Wd K p k G H ∧ RA K p G vs ds ∧
  w ds k (fun d k' => ∀ v G' H', Stp p G H G' H' → Wd K p k' G' H' → R K p G' v d → Q v H') (fun x k' => ∀ C G' H', Stp p G H G' H' → Wd K p k' G' H' → x = excD C → E (.ref C) none H')
def wCall (wf : Wc) (wa : WAx) : WEx := fun e Q x => wa e (fun ds e1 => wf ds e1.k (fun d k' => Q d { e1 with k := k' }) (fun y k' => x y { e1 with k := k' })) x
section
variable {X : Cx} {F : Fx} {pos : Pos} {a : Expr} {es : List Expr} {wr : WAx}
theorem wCall.mono {wf : Wc} (mf : wf.Mono) (m : MonoA wr) : Mono (wCall wf wr) := fun e Q Q' x x' h1 h2 q => m e _ _ _ _ (fun ds e1 z => mf ds e1.k _ _ _ _ (fun d k => h1 _ _) (fun d k => h2 _ _) z) h2 q
theorem run_fnG {W : WX} {k : Nat} {f : Addr} {fd : FuncData} {ps : List Str} {sp : Sp} {pins : List (Addr × Obj)} {σ : L2.St} {H : Hp} {s : Shared} {Q : VK} {us : List Value} {vs : List V}
    (FN : FnG X.prog X.w X.K X.mg X.base k f fd ps sp) (hg : X.A.guards = some []) (hr : Room k X.A) (hb : Binds X.K fd ps []) (tk : Takes X W) (I : Inv X pins σ H s) (r : Vals vs us) (h : sp vs H Q (WE W σ)) :
    wpAny (model X.prog X.w) X.A (call (.ref
          f) us) (EP X pins σ Q) X.xe s := by
  have hl : us.length = ps.length := by rw [← r.length]; exact FN.len _ _ _ _ h
  have b :=
        hb s us I.kIn (by rw [List.append_nil]; exact hl)
  rw [List.append_nil] at b
  apply wpAny_call
  refine codeAny_mono (FN.run X.A X.stack s H ⟨us, []⟩ us vs Q (WE W σ) hg hr I.env0 b r h) ?_
  intro res s' z
  cases res with
  | error e => exact passAt tk σ pins H s e s' I z
  | ok fl =>
    cases fl with
    | ret u => exact I.after z
    | next => exact z.elim
    | brk => exact z.elim
    | cont => exact z.elim
theorem pe_callG {W : WX} {k : Nat} {f : Addr} {fd : FuncData} {ps : List Str} {sp : Sp} {x : Str} {p : Pos} {t : TA} (FN : FnG X.prog X.w X.K X.mg X.base k f fd ps sp) (hgd : X.A.guards = some []) (hr : Room k X.A) (hg : Gl X x) (hm : X.mg x = some (.ref f)) (hk : PySem.W.keepIn X.K (.ref f) = true)
    (hb : Binds X.K fd ps []) (tk : Takes X W) (ha : PA X (a :: es) t) (hdb : (x == ("__debug__" : Str)) = false) (he : starEach (a :: es) X.env = (false, eval a X.env) :: starEach es X.env) (hpl : (backTo pos (starEach es X.env)).any (·.1) = false) :
    PE X (.Call (.Name x p) (a :: es) [] pos) (tCallS sp (WE W) t) := by
  constructor
  intro pins s σ H Q I h
  apply wpAny_Call_Name_kw
  apply ld_glob I hg hm _ hdb
  apply PySem.W.callWith_K (h₀ := X.base) I.ok.mod.kin hk _ he hpl
  exact thn (ha.run pos pins s σ H _ I h) fun us s1 ⟨vs, H1, I1, r, q⟩ => ⟨I1.kIn, run_fnG FN hgd hr hb tk I1 r q⟩
theorem tA.call {K : PySem.W.Frag} {wf : Wc} (mf : wf.Mono) (m : MonoA wr) {σ : L2.St} {H : Hp} {Q : VK} (q : tE K F (wCall wf wr) σ H Q) : tCallS (spD K wf) (WE F.W) (tA K F wr) σ H Q := by
  obtain ⟨e, G, r0, q⟩ := q
  refine tA.mono m (fun vs H1 z => ?_) (tA.bind m r0 q)
  obtain ⟨e1, G1, ds, s1, r1, ra, z⟩ := z
  exact ⟨F.p, G1, ds, e1.k, r1.wd, ra, mf ds e1.k _ _ _ _ (fun d k' h v G' H' st wd rv => h v G' H' (s1.trans st.gg) (r1.step st wd) rv) (fun y k' h C G' H' st wd ec => h C G' H' (s1.trans st.gg) (r1.step st wd) ec) z⟩
theorem de_call {wf : Wc} {k : Nat} {f : Addr} {fd : FuncData} {ps : List Str} {x : Str} {p : Pos} (FN : FnG X.prog X.w X.K X.mg X.base k f fd ps (spD X.K wf)) (mf : wf.Mono) (hgd : X.A.guards = some []) (hr : Room k X.A) (hm : X.mg x = some (.ref f)) (hk : PySem.W.keepIn X.K (.ref f) = true)
    (hb : Binds X.K fd ps []) (tk : Takes X F.W) (ha : DA X F (a :: es) wr) (hg : Gl X x := by rfl) (hdb : (x == ("__debug__" : Str)) = false := by decide) (he : starEach (a :: es) X.env = (false, eval a X.env) :: starEach es X.env := by rfl) (hpl : (backTo pos (starEach es X.env)).any (·.1) = false := by rfl) :
    DE X F (.Call (.Name x p) (a :: es) [] pos) (wCall wf wr) :=
  de_of (pe_callG FN hgd hr hg hm hk hb tk ha.run hdb he hpl) (wCall.mono mf ha.mono) fun _ _ _ q => tA.call mf ha.mono q
end
/-! ### statements -/
structure DEnds where
  nx : En → Prop
  rt : PD
  bk : En → Prop
  ct : En → Prop
  ex : PD
structure DEnds.le (A B : DEnds) : Prop where
  nx : ∀ e, A.nx e → B.nx e
  rt : ∀ d e, A.rt d e → B.rt d e
  bk : ∀ e, A.bk e → B.bk e
  ct : ∀ e, A.ct e → B.ct e
  ex : ∀ d e, A.ex d e → B.ex d e
abbrev WSt := En → DEnds → Prop
def MonoS (w : WSt) : Prop := ∀ e A B, DEnds.le A B → w e A → w e B
def endsOf (K : PySem.W.Frag) (F : Fx) (G : Hp) (D : Ends) : DEnds where
  nx := fun e' => ∀ σ' G' H', Same G G' → Rl K F.p F.G₀ F.H₀ G' H' σ' e' → D.nx σ' H'
  rt := fun d e' => ∀ v σ' G' H', Same G G' → Rl K F.p F.G₀ F.H₀ G' H' σ' e' → R K F.p G' v d → D.rt v H'
  bk := fun e' => ∀ σ' G' H', Same G G' → Rl K F.p F.G₀ F.H₀ G' H' σ' e' → D.bk σ' H'
  ct := fun e' => ∀ σ' G' H', Same G G' → Rl K F.p F.G₀ F.H₀ G' H' σ' e' → D.ct σ' H'
  ex := fun x e' => ∀ C σ' G' H', Same G G' → Rl K F.p F.G₀ F.H₀ G' H' σ' e' → x = excD C → F.W (.ref C) none σ' H'
def tS (K : PySem.W.Frag) (F : Fx) (w : WSt) : TS := fun D σ H => ∃ e G, Rl K F.p F.G₀ F.H₀ G H σ e ∧ w e (endsOf K F G D)
structure DS (X : Cx) (F : Fx) (st : Stmt) (w : WSt) : Prop where
  run : PS X st (tS X.K F w)
  mono : MonoS w
structure DSs (X : Cx) (F : Fx) (st : List Stmt) (w : WSt) : Prop where
  run : PSs X st (tS X.K F w)
  mono : MonoS w
def put (e : En) (i : Nat) (z : Slot) : En := { e with s := e.s.set i z }
section
variable {K : PySem.W.Frag} {F : Fx} {σ : L2.St} {H : Hp} {X : Cx} {pos : Pos} {a b c : Expr} {st : Stmt} {rest : List Stmt} {wa wb : WEx} {w1 w2 : WSt}
theorem endsOf.le {G G' : Hp} {D : Ends} (s : Same G G') : DEnds.le (endsOf K F G D) (endsOf K F G' D) :=
  ⟨fun _ h σ' G2 H2 s2 => h σ' G2 H2 (s.trans s2), fun _ _ h v σ' G2 H2 s2 => h v σ' G2 H2 (s.trans s2), fun _ h σ' G2 H2 s2 => h σ' G2 H2 (s.trans s2), fun _ h σ' G2 H2 s2 => h σ' G2 H2 (s.trans s2), fun _ _ h C σ' G2 H2 s2 => h C σ' G2 H2 (s.trans s2)⟩
theorem DEnds.le.refl (A : DEnds) : DEnds.le A A := ⟨fun _ z => z, fun _ _ z => z, fun _ z => z, fun _ z => z, fun _ _ z => z⟩
theorem ds_of {t : TS} {w : WSt} (h : PS X st t) (m : MonoS w) (i : ∀ D σ H, tS X.K F w D σ H → t D σ H) : DS X F st w :=
  ⟨⟨fun pins s σ H D I q => h.run pins s σ H D I (i D σ H q)⟩, m⟩
theorem dss_of {t : TS} {w : WSt} {sts : List Stmt} (h : PSs X sts t) (m : MonoS w) (i : ∀ D σ H, tS X.K F w D σ H → t D σ H) : DSs X F sts w :=
  ⟨⟨fun pins s σ H D I q => h.run pins s σ H D I (i D σ H q)⟩, m⟩
def wNext : WSt := fun e D => D.nx e
def wSeq (w1 w2 : WSt) : WSt := fun e D => w1 e { D with nx := fun e' => w2 e' D }
theorem wSeq.mono (m1 : MonoS w1) (m2 : MonoS w2) : MonoS (wSeq w1 w2) := fun e A B l q => m1 e { A with nx := fun e' => w2 e' A } _ ⟨fun e' z => m2 e' _ _ l z, l.rt, l.bk, l.ct, l.ex⟩ q
theorem tS.seq (m1 : MonoS w1) (m2 : MonoS w2) {D : Ends} (q : tS K F (wSeq w1 w2) D σ H) : tSeq (tS K F w1) (tS K F w2) D σ H := by
  obtain ⟨e, G, r, q⟩ := q
  exact ⟨e, G, r, m1 e { endsOf K F G D with nx := fun e' => w2 e' (endsOf K F G D) } _ ⟨fun e' z σ' G' H' s r' => ⟨e', G', r', m2 e' _ _ (endsOf.le s) z⟩, fun _ _ z => z, fun _ z => z, fun _ z => z, fun _ _ z => z⟩ q⟩
theorem dss_nil : DSs X F [] wNext := dss_of pss_nil (fun _ _ _ l z => l.nx _ z) fun D σ H ⟨e, G, r, q⟩ => q σ G H (Same.refl G) r
theorem dss_one (h : DS X F st w1) : DSs X F [st] w1 := dss_of (pss_one h.run) h.mono fun _ _ _ q => q
theorem dss_cons (h1 : DS X F st w1) (h2 : DSs X F rest w2) : DSs X F (st :: rest) (wSeq w1 w2) := dss_of (pss_cons h1.run h2.run) (wSeq.mono h1.mono h2.mono) fun _ _ _ q => tS.seq h1.mono h2.mono q
theorem ds_pass : DS X F (.Pass pos) wNext := ds_of ps_pass (fun _ _ _ l z => l.nx _ z) fun D σ H ⟨e, G, r, q⟩ => q σ G H (Same.refl G) r
theorem ds_break : DS X F (.Break pos) (fun e D => D.bk e) := ds_of ps_break (fun _ _ _ l z => l.bk _ z) fun D σ H ⟨e, G, r, q⟩ => q σ G H (Same.refl G) r
theorem ds_cont : DS X F (.Continue pos) (fun e D => D.ct e) := ds_of ps_continue (fun _ _ _ l z => l.ct _ z) fun D σ H ⟨e, G, r, q⟩ => q σ G H (Same.refl G) r
/-- an expression in a statement -/
theorem tS.expr {w : WEx} {k : DEnds → PD} {D : Ends} {T : VK} (m : Mono w) {e : En} {G : Hp} (r : Rl K F.p F.G₀ F.H₀ G H σ e) (q : w e (k (endsOf K F G D)) (endsOf K F G D).ex)
    (hk : ∀ d e' v G' H', Same G G' → Rl K F.p F.G₀ F.H₀ G' H' σ e' → R K F.p G' v d → k (endsOf K F G D) d e' → T v H') : tE K F w σ H T :=
  ⟨e, G, r, m e _ _ _ _ (fun d e' z v G' H' s r' rv => hk d e' v G' H' s r' rv z) (fun y e' z C G' H' s r' ec => z C σ G' H' s r' ec) q⟩
def wDrop (w : WEx) : WSt := fun e D => w e (fun _ e1 => D.nx e1) D.ex
def wRet (w : WEx) : WSt := fun e D => w e D.rt D.ex
def wSet (i : Nat) (w : WEx) : WSt := fun e D => w e (fun d e1 => D.nx (put e1 i (.dat d))) D.ex
theorem wDrop.mono (m : Mono wa) : MonoS (wDrop wa) := fun e A B l q => m e _ _ _ _ (fun _ _ z => l.nx _ z) l.ex q
theorem wRet.mono (m : Mono wa) : MonoS (wRet wa) := fun e A B l q => m e _ _ _ _ l.rt l.ex q
theorem wSet.mono {i : Nat} (m : Mono wa) : MonoS (wSet i wa) := fun e A B l q => m e _ _ _ _ (fun _ _ z => l.nx _ z) l.ex q
theorem ds_drop (h : DE X F a wa) (hs : swapsWith a none pos.line X.env = pure false := by rfl) : DS X F (.Expr a pos) (wDrop wa) :=
  ds_of (ps_expr h.run hs) (wDrop.mono h.mono) fun D σ H ⟨e, G, r, q⟩ => tS.expr (k := fun D _ e1 => D.nx e1) h.mono r q fun d e' v G' H' s r' rv z => z σ G' H' s r'
theorem ds_doc {x j} {p2 : Pos} : DS X F (.Expr (.Constant (.str x) j pos) p2) wNext := ds_of ps_doc (fun _ _ _ l z => l.nx _ z) fun D σ H ⟨e, G, r, q⟩ => q σ G H (Same.refl G) r
theorem ds_ret (h : DE X F a wa) : DS X F (.Return (some a) pos) (wRet wa) :=
  ds_of (ps_ret h.run) (wRet.mono h.mono) fun D σ H ⟨e, G, r, q⟩ => tS.expr (k := fun D => D.rt) h.mono r q fun d e' v G' H' s r' rv z => z v σ G' H' s r' rv
theorem Rl.put {p : Option Addr} {G₀ H₀ G : Hp} {e : En} {i : Nat} {v : V} {d : D} (r : Rl K p G₀ H₀ G H σ e) (rv : R K p G v d) : Rl K p G₀ H₀ G H (σ.set i (some v)) (put e i (.dat d)) := by
  obtain ⟨α, r⟩ := r
  have own_ne : ∀ {j : Nat} {ds}, (e.s.set i (.dat d))[j]? = some (.own ds) → j ≠ i ∧ e.s[j]? = some (.own ds) := fun {j ds} h => by
    by_cases hj : i = j
    · subst hj
      by_cases hl : i < e.s.length
      · rw [List.getElem?_set_self hl] at h; cases h
      · rw [List.getElem?_eq_none (by simpa using hl)] at h; cases h
    · rw [List.getElem?_set_ne hj] at h
      exact ⟨Ne.symm hj, h⟩
  refine ⟨α, r.w, r.st, by simpa [DL.put] using r.len, fun j d' h => ?_, fun j ds h => ?_, fun j k ds es h1 h2 => r.sep j k ds es (own_ne h1).2 (own_ne h2).2⟩
  · have h' : (e.s.set i (.dat d))[j]? = some (.dat d') := h
    by_cases hj : i = j
    · subst hj
      by_cases hl : i < e.s.length
      · rw [List.getElem?_set_self hl] at h'
        cases h'
        exact ⟨v, List.getElem?_set_self (by rw [r.len]; exact hl), rv⟩
      · rw [List.getElem?_eq_none (by simpa using hl)] at h'; cases h'
    · rw [List.getElem?_set_ne hj] at h'
      rw [List.getElem?_set_ne hj]
      exact r.dat j d' h'
  · obtain ⟨hj, h'⟩ := own_ne h
    rw [List.getElem?_set_ne (Ne.symm hj)]
    exact r.own j ds h'
theorem ds_set {i : Nat} {x : Str} {p2 : Pos} (h : DE X F a wa) (hN : X.N.Nodup) (hi : X.N[i]? = some x := by rfl) (hx : Loc X.env.scope x := by first | exact Or.inl rfl | exact Or.inr rfl) (hs : swapsWith a (some (.Name x p2)) pos.line X.env = pure false := by rfl)
    (hf : X.fn x = true ∨ X.env.scope.names.lookup x = some .local := by first | exact Or.inl rfl | exact Or.inr rfl) : DS X F (.Assign [.Name x p2] a pos) (wSet i wa) :=
  ds_of (ps_set hN hi hx h.run hs hf) (wSet.mono h.mono) fun D σ H ⟨e, G, r, q⟩ => tS.expr (k := fun D d e1 => D.nx (DL.put e1 i (.dat d))) h.mono r q fun d e' v G' H' s r' rv z => z _ G' H' s (r'.put rv)
def wIfS (c : WTx) (u v : WSt) : WSt := fun e D => c e (fun k e1 => if k = true then u e1 D else v e1 D) D.ex
theorem wIfS.mono {cw : WTx} (m : MonoT cw) (m1 : MonoS w1) (m2 : MonoS w2) : MonoS (wIfS cw w1 w2) := fun e A B l q => m e _ _ _ _ (fun k e1 z => by
  cases k with
  | true => exact m1 e1 _ _ l z
  | false => exact m2 e1 _ _ l z) l.ex q
theorem ds_if {cw : WTx} {xs ys : List Stmt} (hc : DT X F c cw) (h1 : DSs X F xs w1) (h2 : DSs X F ys w2) : DS X F (.If c xs ys pos) (wIfS cw w1 w2) :=
  ds_of (ps_if hc.run h1.run h2.run) (wIfS.mono hc.mono h1.mono h2.mono) fun D σ H ⟨e, G, r, q⟩ =>
    ⟨e, G, r, hc.mono e _ _ _ _ (fun k e1 z G' H' s r' => by
      cases k with
      | true => exact ⟨e1, G', r', h1.mono e1 _ _ (endsOf.le s) z⟩
      | false => exact ⟨e1, G', r', h2.mono e1 _ _ (endsOf.le s) z⟩) (fun y e' z C G' H' s r' ec => z C σ G' H' s r' ec) q⟩
end
end L2.DL


set_option
      maxHeartbeats 1000000
namespace L2.DL
open PySem PySem.Spec
      PyProof.Rows

/-! ### targets -/
abbrev WG := D → En → (En → Prop) → Prop
def MonoG (g : WG) : Prop := ∀ d e Q Q', (∀ e, Q e → Q' e) → g d e Q → g d e Q'
def tG (K : PySem.W.Frag) (F : Fx) (g : WG) : TG := fun v σ H Q => ∃ e G d, Rl K F.p F.G₀ F.H₀ G H σ e ∧ R K F.p G v d ∧ g d e fun e' => ∀ σ' H', Rl K F.p F.G₀ F.H₀ G H' σ' e' → Q σ' H'
structure DG (X : Cx) (F : Fx) (e : Expr) (g : WG) : Prop where
  run : PG X e (tG X.K F g)
  mono : MonoG g
def gNm (i : Nat) : WG := fun d e Q => Q (put e i (.dat d))
def puts : En → List Nat → List D → En
  | e, i :: is, d :: ds => puts (put e i (.dat d)) is ds
  | e, _, _ => e
def gTp (is : List Nat) : WG := fun d e Q => ∃ ds, d = .tuple ds ∧ ds.length = is.length ∧ Q (puts e is ds)
def setsV : L2.St → List Nat → List V → L2.St
  | σ, i :: is, v :: vs => setsV (σ.set i (some v)) is vs
  | σ, _, _ => σ
section
variable {K : PySem.W.Frag} {F : Fx} {σ : L2.St} {H : Hp} {X : Cx} {pos : Pos}
theorem gNm.mono {i : Nat} : MonoG (gNm i) := fun _ _ _ _ h q => h _ q
theorem gTp.mono {is : List Nat} : MonoG (gTp is) := fun _ _ _ _ h ⟨ds, e, l, q⟩ => ⟨ds, e, l, h _ q⟩
theorem dg_nm {i : Nat} {x : Str} (hN : X.N.Nodup) (hi : X.N[i]? = some x := by rfl) (hx : Loc X.env.scope x := by first | exact Or.inl rfl | exact Or.inr rfl) (hf : X.fn x = true ∨ X.env.scope.names.lookup x = some .local := by first | exact Or.inl rfl | exact Or.inr rfl) : DG X F (.Name x pos) (gNm i) :=
  ⟨⟨fun pins s σ H v u Q I r ⟨e, G, d, rl, rv, q⟩ => (pg_name hN hi hx hf).run pins s σ H v u Q I r (q _ _ (rl.put rv))⟩, gNm.mono⟩
/-- names one after another -/
structure DGs (X : Cx) (es : List Expr) (is : List Nat) : Prop where
  run : PGs X es (fun vs σ H Q => vs.length = is.length ∧ Q (setsV σ is vs) H)
theorem dgs_nil : DGs X [] [] := ⟨⟨fun pins s σ H vs us Q I r h => by
  obtain ⟨hl, q⟩ := h
  cases vs with
  | nil => exact pgs_nil.run pins s σ H [] us Q I r ⟨rfl, q⟩
  | cons v vs => cases hl⟩⟩
theorem dgs_cons {i : Nat} {is : List Nat} {x : Str} {es : List Expr} (hN : X.N.Nodup) (h : DGs X es is) (hi : X.N[i]? = some x := by rfl) (hx : Loc X.env.scope x := by first | exact Or.inl rfl | exact Or.inr rfl) (hf : X.fn x = true ∨ X.env.scope.names.lookup x = some .local := by first | exact Or.inl rfl | exact Or.inr rfl)
    (hs : (assignEach (.Name x pos :: es) X.env).map (·.2) = assign (.Name x pos) X.env :: (assignEach es X.env).map (·.2) := by rfl) : DGs X (.Name x pos :: es) (i :: is) := ⟨⟨fun pins s σ H vs us Q I r h' => by
  obtain ⟨hl, q⟩ := h'
  cases vs with
  | nil => cases hl
  | cons v vs => exact (pgs_cons (pg_name hN hi hx hf) h.run hs).run pins s σ H _ us Q I r ⟨v, vs, rfl, Nat.succ.inj hl, q⟩⟩⟩
theorem Rl.puts {p : Option Addr} {G₀ H₀ G : Hp} : ∀ {is : List Nat} {vs : List V} {ds : List D} {σ : L2.St} {e : En}, Rl K p G₀ H₀ G H σ e → RA K p G vs ds → Rl K p G₀ H₀ G H (setsV σ is vs) (DL.puts e is ds)
  | [], _, _, _, _, r, _ => by unfold setsV DL.puts; exact r
  | i :: is, _, _, _, _, r, .nil => by unfold setsV DL.puts; exact r
  | i :: is, _, _, _, _, r, .cons h t => by
    unfold setsV DL.puts
    exact Rl.puts (r.put h) t
theorem dg_tp {is : List Nat} {es : List Expr} {k : Nat} (hc : X.calm = true) (h : DGs X es is) (hn : (assignEach es X.env).length = is.length := by rfl) (hst : (assignEach es X.env).findIdx? (·.1) = none := by rfl) : DG X F (.Tuple es k pos) (gTp is) :=
  ⟨⟨fun pins s σ H v u Q I r ⟨e, G, d, rl, rv, ds, ed, hl, q⟩ => by
    subst ed
    obtain ⟨a, xs, rfl, h1, ra⟩ := rv.tup_inv
    exact (pg_tup hc h.run hn hst).run pins s σ H _ u Q I r ⟨a, xs, rfl, sameT rl.same h1, by rw [ra.length]; exact hl, by rw [ra.length]; exact hl, q _ _ (rl.puts ra)⟩⟩, gTp.mono⟩
end

/-! ### what is walked -/
structure WalkD (K : PySem.W.Frag) (p : Option Addr) (J : It) (ds : List D) (G : Hp) : Prop where
  goes : ∀ i H, i < ds.length → Same G H → J.go i H
  stops : ∀ H, Same G H → J.stop ds.length H
  yields : ∀ i H x H' d, ds[i]? = some d → Same G H → J.yld i H x H' → (H' = H ∧ R K p G x d) ∨ ∃ T xs es, x = .ref T ∧ H T = none ∧ H' = upd H T (.tup xs) ∧ d = .tuple es ∧ RA K p G xs es
def tI (K : PySem.W.Frag) (F : Fx) (w : WAx) : TI := fun σ H R => ∃ e G, Rl K F.p F.G₀ F.H₀ G H σ e ∧
  w e (fun ds e' => ∀ J G' H', Same G G' → Rl K F.p F.G₀ F.H₀ G' H' σ e' → WalkD K F.p J ds G' → R J H') (PX K F.p F.G₀ F.H₀ F.W G σ)
structure DI (X : Cx) (F : Fx) (tg iter : Expr) (w : WAx) : Prop where
  run : PI X tg iter (tI X.K F w)
  mono : MonoA w
def wSeqI (w : WEx) : WAx := fun e Q x => w e (fun d e1 => ∃ ds, items d = some ds ∧ Q ds e1) x
theorem wSeqI.mono {w : WEx} (m : Mono w) : MonoA (wSeqI w) := fun e Q Q' x x' h1 h2 q => m e _ _ _ _ (fun d e1 ⟨ds, i, z⟩ => ⟨ds, i, h1 _ _ z⟩) h2 q
section
variable {K : PySem.W.Frag} {F : Fx} {σ : L2.St} {H : Hp} {X : Cx} {pos : Pos} {a b tg : Expr} {wa wb : WEx} {p : Option Addr} {G : Hp}
theorem walkD_list {l : Addr} {xs : List V} {ds : List D} (h : G l = some (.lst xs)) (r : RA K p G xs ds) : WalkD K p (Itl K l) ds G where
  goes := fun i H hi s => (walk_list (K := K) (a := l) (xs := xs)).goes i H (by rw [r.length]; exact hi) (SqL.of (s _ _ h))
  stops := fun H s => by have q := (walk_list (K := K) (a := l) (xs := xs)).stops H (SqL.of (s _ _ h)); rw [r.length] at q; exact q
  yields := fun i H x H' d hd s y => by
    obtain ⟨v, hv, rv⟩ := r.get hd
    obtain ⟨e1, e2⟩ := (walk_list (K := K) (a := l) (xs := xs)).yields i H x H' (by rw [r.length]; exact (List.getElem?_eq_some_iff.mp hd).1) (SqL.of (s _ _ h)) y
    rw [hv] at e2
    cases e2
    exact .inl ⟨e1, rv⟩
theorem walkD_tup {l : Addr} {xs : List V} {ds : List D} (h : SqT K G l xs) (r : RA K p G xs ds) : WalkD K p (Itt K l) ds G where
  goes := fun i H hi s => (walk_tup (K := K) (a := l) (xs := xs)).goes i H (by rw [r.length]; exact hi) (sameT s h)
  stops := fun H s => by have q := (walk_tup (K := K) (a := l) (xs := xs)).stops H (sameT s h); rw [r.length] at q; exact q
  yields := fun i H x H' d hd s y => by
    obtain ⟨v, hv, rv⟩ := r.get hd
    obtain ⟨e1, e2⟩ := (walk_tup (K := K) (a := l) (xs := xs)).yields i H x H' (by rw [r.length]; exact (List.getElem?_eq_some_iff.mp hd).1) (sameT s h) y
    rw [hv] at e2
    cases e2
    exact .inl ⟨e1, rv⟩
/-- a list or a tuple is walked -/
theorem di_seq (h : DE X F a wa) : DI X F tg a (wSeqI wa) := by
  refine ⟨⟨fun pins s σ H R I q => ?_⟩, wSeqI.mono h.mono⟩
  obtain ⟨e, G, r, q⟩ := q
  refine thn (h.run.run pins s σ H _ I (tE.any h.mono r q)) fun v s1 hv => ?_
  obtain ⟨x, H1, I1, rx, e1, G1, d, s1', r1, rd, ds, hi, z⟩ := hv
  have new : ∀ (o : Obj) (J : It) (tn : Nat → Heap → Prop), Turn X.prog X.w X.K tg J [s1.heap.objs.size] s1.heap.objs.size tn → tn 0 (s1.heap.push o) → R J H1 → PIE X pins σ tg R (.ref s1.heap.objs.size) { s1 with heap := s1.heap.push o } := fun o J tn T st q =>
    ⟨s1.heap.objs.size, [s1.heap.objs.size], tn, J, H1, rfl, I1.kept (t' := s1.toks) fun b o e => Heap.get?_push_of_some _ e, T, st, fun b hb => by
      cases List.mem_singleton.mp hb
      exact I1.fpOk (Nat.le_refl _) (I1.hok.fresh (Nat.le_refl _)), q⟩
  cases d with
  | list es =>
    cases hi
    obtain ⟨l, xs, rfl, g1, ra⟩ := rd.lst_inv
    cases rx
    obtain ⟨its, rv, pl, hz⟩ := I1.list (SqL.of (K := X.K) (r1.same _ _ g1))
    exact wpAny_pyIter_list pl.isList (new _ _ _ (turn_list l _) ⟨_, Heap.get?_push_size _ rfl, rfl, rfl⟩ (z _ G1 H1 s1' r1 (walkD_list g1 ra)))
  | tuple es =>
    cases hi
    obtain ⟨l, xs, rfl, g1, ra⟩ := rd.tup_inv
    cases rx
    obtain ⟨its, rv, pl, hz⟩ := I1.tuple (sameT r1.same g1)
    exact wpAny_pyIter_tuple pl (new _ _ _ (turn_tuple l _) ⟨_, Heap.get?_push_size _ rfl, rfl, rfl⟩ (z _ G1 H1 s1' r1 (walkD_tup g1 ra)))
  | none => cases hi
  | bool b => cases hi
  | int i => cases hi
  | str x => cases hi
  | dict kvs => cases hi
/-- range(n), range(m, n) -/
def rngD (lo : Int) (n : Nat) : List D := (List.range n).map fun i => .int (lo + (i : Nat))
theorem rngD_at {lo : Int} {n i : Nat} {d : D} (h : (rngD lo n)[i]? = some d) : i < n ∧ d = .int (lo + (i : Nat)) := by
  unfold rngD at h
  rw [List.getElem?_map] at h
  by_cases hi : i < n
  · rw [List.getElem?_range hi] at h
    cases h
    exact ⟨hi, rfl⟩
  · rw [List.getElem?_eq_none (by simpa using hi)] at h
    cases h
theorem rngD_length {lo : Int} {n : Nat} : (rngD lo n).length = n := by unfold rngD; simp
theorem walkD_range {lo : Int} {n : Nat} : WalkD K p (Itr lo n) (rngD lo n) G where
  goes := fun i H hi _ => by rw [rngD_length] at hi; exact hi
  stops := fun H _ => by rw [rngD_length]; exact Nat.le_refl _
  yields := fun i H x H' d hd _ y => by
    obtain ⟨_, rfl⟩ := rngD_at hd
    obtain ⟨e1, e2⟩ := y
    subst e2
    exact .inl ⟨e1, .int _⟩
def wRng1 (w : WEx) : WAx := fun e Q x => w e (fun d e1 => ∃ j, d = .int j ∧ -(2 ^ 62) ≤ j ∧ j < 2 ^ 62 ∧ Q (rngD 0 j.toNat) e1) x
def wRng2 (w u : WEx) : WAx := fun e Q x => w e (fun d e1 => u e1 (fun d' e2 => ∃ i j, d = .int i ∧ d' = .int j ∧ (-(2 ^ 62) ≤ i ∧ i < 2 ^ 62 ∧ -(2 ^ 62) ≤ j ∧ j < 2 ^ 62) ∧ Q (rngD i (j - i).toNat) e2) x) x
theorem wRng1.mono (m : Mono wa) : MonoA (wRng1 wa) := fun e Q Q' x x' h1 h2 q => m e _ _ _ _ (fun d e1 ⟨j, i1, i2, i3, z⟩ => ⟨j, i1, i2, i3, h1 _ _ z⟩) h2 q
theorem wRng2.mono (m : Mono wa) (m' : Mono wb) : MonoA (wRng2 wa wb) := fun e Q Q' x x' h1 h2 q => m e _ _ _ _ (fun d e1 z => m' e1 _ _ _ _ (fun d' e2 ⟨i, j, i1, i2, i3, z⟩ => ⟨i, j, i1, i2, i3, h1 _ _ z⟩) h2 z) h2 q
theorem di_of {iter : Expr} {t : TI} {w : WAx} (h : PI X tg iter t) (m : MonoA w) (i : ∀ σ H Q, tI X.K F w σ H Q → t σ H Q) : DI X F tg iter w := ⟨⟨fun pins s σ H R I q => h.run pins s σ H R I (i σ H R q)⟩, m⟩
theorem di_rng1 {q : Pos} (h : DE X F a wa) (hm : X.mg "range" = none) (hg : Gl X "range" := by rfl) (hs : starEach [a] X.env = [(false, eval a X.env)] := by rfl) : DI X F tg (.Call (.Name "range" q) [a] [] pos) (wRng1 wa) :=
  di_of (pi_range1 hg hm (pa_cons h.run pa_nil hs) hs) (wRng1.mono h.mono) fun σ H R ⟨e, G, r, z⟩ => by
    refine tE.mono h.mono (fun v H1 z => ?_) (tE.any h.mono r z)
    obtain ⟨e1, G1, d, s1, r1, rd, j, rfl, i1, i2, z⟩ := z
    cases rd.int_inv
    exact ⟨j, rfl, i1, i2, z _ G1 H1 s1 r1 walkD_range⟩
theorem di_rng2 {q : Pos} (h : DE X F a wa) (h' : DE X F b wb) (hm : X.mg "range" = none) (hg : Gl X "range" := by rfl) (hs : starEach [a, b] X.env = [(false, eval a X.env), (false, eval b X.env)] := by rfl) (hs2 : starEach [b] X.env = [(false, eval b X.env)] := by rfl) : DI X F tg (.Call (.Name "range" q) [a, b] [] pos) (wRng2 wa wb) :=
  di_of (pi_range2 hg hm (pa_cons h.run (pa_cons h'.run pa_nil hs2) (by rw [hs, hs2])) hs hs2) (wRng2.mono h.mono h'.mono) fun σ H R ⟨e, G, r, z⟩ => by
    refine tE.mono h.mono (fun v H1 z => ?_) (tE.any h.mono r z)
    obtain ⟨e1, G1, d, s1, r1, rd, z⟩ := z
    refine tE.mono h'.mono (fun v' H2 z => ?_) (tE.any h'.mono r1 (h'.mono e1 _ _ _ _ (fun _ _ z => z) (fun _ _ => PX.mono s1) z))
    obtain ⟨e2, G2, d', s2, r2, rd', i, j, rfl, rfl, i3, z⟩ := z
    cases rd.int_inv
    cases rd'.int_inv
    exact ⟨i, j, rfl, i3, z _ G2 H2 (s1.trans s2) r2 walkD_range⟩
/-- enumerate(xs) of a list, zip of two lists or of two tuples -/
def pairs (xs ys : List D) : List D := List.zipWith (fun x y => .tuple [x, y]) xs ys
def wEnum (w : WEx) : WAx := fun e Q x => w e (fun d e1 => ∃ ds, d = .list ds ∧ Q (pairs (rngD 0 ds.length) ds) e1) x
theorem wEnum.mono (m : Mono wa) : MonoA (wEnum wa) := fun e Q Q' x x' h1 h2 q => m e _ _ _ _ (fun d e1 ⟨ds, i, z⟩ => ⟨ds, i, h1 _ _ z⟩) h2 q
def wZip (w u : WEx) : WAx := fun e Q x => w e (fun d e1 => u e1 (fun d' e2 => ∃ xs ys, ((d = .list xs ∧ d' = .list ys) ∨ (d = .tuple xs ∧ d' = .tuple ys)) ∧ Q (pairs xs ys) e2) x) x
theorem wZip.mono (m : Mono wa) (m' : Mono wb) : MonoA (wZip wa wb) := fun e Q Q' x x' h1 h2 q => m e _ _ _ _ (fun d e1 z => m' e1 _ _ _ _ (fun d' e2 ⟨xs, ys, i, z⟩ => ⟨xs, ys, i, h1 _ _ z⟩) h2 z) h2 q
theorem pairs_at {xs ys : List D} {i : Nat} {d : D} (h : (pairs xs ys)[i]? = some d) : ∃ x y, xs[i]? = some x ∧ ys[i]? = some y ∧ d = .tuple [x, y] := by
  unfold pairs at h
  rw [List.getElem?_zipWith] at h
  cases h1 : xs[i]? with
  | none =>
        rw [h1] at h; cases h
  | some x =>
    cases h2 : ys[i]? with
    | none => rw [h1,
          h2] at h; cases h
    | some y => rw [h1, h2] at h; cases h; exact ⟨x, y, rfl, rfl, rfl⟩
theorem pairs_length {xs ys : List D} : (pairs xs ys).length = min xs.length ys.length := by unfold pairs; simp
theorem walkD_enum {l : Addr} {xs : List V} {ds : List D} (h : G l = some (.lst xs)) (r : RA K p G xs ds) : WalkD K p (Ite K l) (pairs (rngD 0 ds.length) ds) G where
  goes := fun i H hi s => (walk_enum (K := K) (a := l) (xs := xs)).goes i H (by rw [pairs_length, rngD_length] at hi; rw [r.length]; omega) (SqL.of (s _ _ h))
  stops := fun H s => by have q := (walk_enum (K := K) (a := l) (xs := xs)).stops H (SqL.of (s _ _ h)); rw [r.length] at q; rw [pairs_length, rngD_length, Nat.min_self]; exact q
  yields := fun i H x H' d hd s y => by
    obtain ⟨d1, d2, h1, h2, rfl⟩ := pairs_at hd
    obtain ⟨_, rfl⟩ := rngD_at h1
    obtain ⟨v, hv, rv⟩ := r.get h2
    obtain ⟨T, x1, x2, e1, e2, e3, e4, e5⟩ := (walk_enum (K := K) (a := l) (xs := xs)).yields i H x H' (by rw [r.length]; exact (List.getElem?_eq_some_iff.mp h2).1) (SqL.of (s _ _ h)) y
    dsimp only at e4 e5
    rw [hv] at e5
    cases e5
    cases e4
    exact .inr ⟨T, _, _, e1, e2, e3, rfl, .cons (by rw [Int.zero_add]; exact .int _) (.cons rv .nil)⟩
theorem di_enum {q tp : Pos} {elts : List Expr} {kk : Nat} (h : DE X F a wa) (hm : X.mg "enumerate" = none) (hg : Gl X "enumerate" := by rfl) (hs : starEach [a] X.env = [(false, eval a X.env)] := by rfl) : DI X F (.Tuple elts kk tp) (.Call (.Name "enumerate" q) [a] [] pos) (wEnum wa) :=
  di_of (pi_enum hg hm (pa_cons h.run pa_nil hs) hs) (wEnum.mono h.mono) fun σ H R ⟨e, G, r, z⟩ => by
    refine tE.mono h.mono (fun v H1 z => ?_) (tE.any h.mono r z)
    obtain ⟨e1, G1, d, s1, r1, rd, ds, rfl, z⟩ := z
    obtain ⟨l, xs, rfl, g1, ra⟩ := rd.lst_inv
    exact ⟨l, xs, rfl, SqL.of (r1.same _ _ g1), z _ G1 H1 s1 r1 (walkD_enum g1 ra)⟩
theorem walkD_zipL {l m : Addr} {xs ys : List V} {ds es : List D} (h : G l = some (.lst xs)) (h' : G m = some (.lst ys)) (r : RA K p G xs ds) (r' : RA K p G ys es) : WalkD K p (Itz K l m) (pairs ds es) G where
  goes := fun i H hi s => by
    rw [pairs_length] at hi
    exact (walk_zip (K := K) (a := l) (b := m) (xs := xs) (ys := ys) rfl).goes i H (by rw [r.length, r'.length]; exact hi) ⟨SqL.of (s _ _ h), SqL.of (s _ _ h')⟩
  stops := fun H s => by have q := (walk_zip (K := K) (a := l) (b := m) (xs := xs) (ys := ys) rfl).stops H ⟨SqL.of (s _ _ h), SqL.of (s _ _ h')⟩; rw [r.length, r'.length] at q; rw [pairs_length]; exact q
  yields := fun i H x H' d hd s y => by
    obtain ⟨d1, d2, h1, h2, rfl⟩ := pairs_at hd
    obtain ⟨v, hv, rv⟩ := r.get h1
    obtain ⟨v', hv', rv'⟩ := r'.get h2
    obtain ⟨T, x1, x2, e1, e2, e3, e4, e5⟩ := (walk_zip (K := K) (a := l) (b := m) (xs := xs) (ys := ys) rfl).yields i H x H' (by have := (List.getElem?_eq_some_iff.mp hv).1; have := (List.getElem?_eq_some_iff.mp hv').1; omega) ⟨SqL.of (s _ _ h), SqL.of (s _ _ h')⟩ y
    dsimp only at e4 e5
    rw [hv] at e4
    rw [hv'] at e5
    cases e5
    cases e4
    exact .inr ⟨T, _, _, e1, e2, e3, rfl, .cons rv (.cons rv' .nil)⟩
theorem walkD_zipT {l m : Addr} {xs ys : List V} {ds es : List D} (h : SqT K G l xs) (h' : SqT K G m ys) (r : RA K p G xs ds) (r' : RA K p G ys es) : WalkD K p (RZ.ItzT K l m) (pairs ds es) G where
  goes := fun i H hi s => by
    rw [pairs_length] at hi
    have h1 : i < xs.length := by rw [r.length]; omega
    have h2 : i < ys.length := by rw [r'.length]; omega
    exact ⟨xs, ys, xs[i], ys[i], sameT s h, sameT s h', by simp [h1], by simp [h2]⟩
  stops := fun H s => ⟨xs, ys, sameT s h, sameT s h', by rw [pairs_length, r.length, r'.length]; omega⟩
  yields := fun i H x H' d hd s y => by
    obtain ⟨d1, d2, h1, h2, rfl⟩ := pairs_at hd
    obtain ⟨v, hv, rv⟩ := r.get h1
    obtain ⟨v', hv', rv'⟩ := r'.get h2
    obtain ⟨T, x1, x2, e1, e2, e3, e4, e5⟩ := y
    have e4 := e4 xs (sameT s h)
    have e5 := e5 ys (sameT s h')
    rw [hv] at e4
    rw [hv'] at e5
    cases e5
    cases e4
    exact .inr ⟨T, _, _, e1, e2, e3, rfl, .cons rv (.cons rv' .nil)⟩
theorem di_zip {q tp : Pos} {elts : List Expr} {kk : Nat} (h : DE X F a wa) (h' : DE X F b wb) (hm : X.mg "zip" = none) (hg : Gl X "zip" := by rfl) (hs2 : starEach [b] X.env = [(false, eval b X.env)] := by rfl)
    (hs : starEach [a, b] X.env = (false, eval a X.env) :: starEach [b] X.env := by rfl) (hpl : (backTo pos (starEach [b] X.env)).any (·.1) = false := by rfl) : DI X F (.Tuple elts kk tp) (.Call (.Name "zip" q) [a, b] [] pos) (wZip wa wb) :=
  di_of (RZ.pi_zipA hg hm (pa_cons h.run (pa_cons h'.run pa_nil hs2) hs) hs hpl) (wZip.mono h.mono h'.mono) fun σ H R ⟨e, G, r, z⟩ => by
    refine tE.mono h.mono (fun v H1 z => ?_) (tE.any h.mono r z)
    obtain ⟨e1, G1, d, s1, r1, rd, z⟩ := z
    refine tE.mono h'.mono (fun v' H2 z => ?_) (tE.any h'.mono r1 (h'.mono e1 _ _ _ _ (fun _ _ z => z) (fun _ _ => PX.mono s1) z))
    obtain ⟨e2, G2, d', s2, r2, rd', xs, ys, i, y⟩ := z
    rcases i with ⟨i1, i2⟩ | ⟨i1, i2⟩
    · rw [i1] at rd
      rw [i2] at rd'
      obtain ⟨l, vs, ev, g1, ra⟩ := (rd.mono s2).lst_inv
      obtain ⟨m, ws, ew, g2, ra'⟩ := rd'.lst_inv
      exact ⟨l, m, vs, ws, by rw [ev, ew], .inl ⟨SqL.of (r2.same _ _ g1), SqL.of (r2.same _ _ g2), y _ G2 H2 (s1.trans s2) r2 (walkD_zipL g1 g2 ra ra')⟩⟩
    · rw [i1] at rd
      rw [i2] at rd'
      obtain ⟨l, vs, ev, g1, ra⟩ := (rd.mono s2).tup_inv
      obtain ⟨m, ws, ew, g2, ra'⟩ := rd'.tup_inv
      exact ⟨l, m, vs, ws, by rw [ev, ew], .inr ⟨sameT r2.same g1, sameT r2.same g2, y _ G2 H2 (s1.trans s2) r2 (walkD_zipT g1 g2 ra ra')⟩⟩
end

/-! ### for -/
def wLoop (g : WG) (wb : WSt) (B : DEnds) : List D → En → Prop
  | [], e => B.nx e
  | d :: ds, e => g d e fun e1 => wb e1 { B with nx := fun e2 => wLoop g wb B ds e2, ct := fun e2 => wLoop g wb B ds e2, bk := B.nx }
def wFor (wi : WAx) (g : WG) (wb : WSt) : WSt := fun e B => wi e (fun ds e1 => wLoop g wb B ds e1) B.ex
section
variable {K : PySem.W.Frag} {F : Fx} {σ : L2.St} {H : Hp} {X : Cx} {pos : Pos} {tg iter : Expr} {body : List Stmt} {wi : WAx} {g : WG} {wb : WSt}
theorem wLoop.mono (mg : MonoG g) (mb : MonoS wb) {A B : DEnds} (l : DEnds.le A B) : ∀ {ds : List D} {e : En}, wLoop g wb A ds e → wLoop g wb B ds e
  | [], _, q => l.nx _ q
  | d :: ds, e, q => mg d e _ _ (fun e1 z => mb e1 { A with nx := fun e2 => wLoop g wb A ds e2, ct := fun e2 => wLoop g wb A ds e2, bk := A.nx } _ ⟨fun e2 y => wLoop.mono mg mb l y, l.rt, fun e2 y => l.nx _ y, fun e2 y => wLoop.mono mg mb l y, l.ex⟩ z) q
theorem wFor.mono (mi : MonoA wi) (mg : MonoG g) (mb : MonoS wb) : MonoS (wFor wi g wb) := fun e A B l q => mi e _ _ _ _ (fun ds e1 z => wLoop.mono mg mb l z) l.ex q
theorem ds_for (hp : PassesOwn (model X.prog X.w) X.A X.env X.xe) (hc : X.calm = true) (hi : DI X F tg iter wi) (hg : DG X F tg g) (hb : DSs X F body wb) (hs : ∀ x, foldedSetIterable iter X.env x = pure x := by intro _; rfl) : DS X F (.For tg iter body [] pos) (wFor wi g wb) :=
  ds_of (ps_for hp hc hi.run hg.run hb.run hs) (wFor.mono hi.mono hg.mono hb.mono) fun D σ H ⟨e, G, r, q⟩ => by
    refine ⟨e, G, r, hi.mono e _ _ _ _ (fun ds e1 z J G1 H1 s1 r1 wk => ?_) (fun y e' z C G' H' s r' ec => z C σ G' H' s r' ec) q⟩
    have wk' : Walk J ds.length (Same G1) (fun i H x H' => ∀ d, ds[i]? = some d → (H' = H ∧ R X.K F.p G1 x d) ∨ ∃ T xs es, x = .ref T ∧ H T = none ∧ H' = upd H T (.tup xs) ∧ d = .tuple es ∧ RA X.K F.p G1 xs es) :=
      ⟨wk.goes, wk.stops, fun i H x H' _ s y d hd => wk.yields i H x H' d hd s y⟩
    refine for_it wk' (fun i σ H => ∃ e2 G2, Same G1 G2 ∧ Rl X.K F.p F.G₀ F.H₀ G2 H σ e2 ∧ wLoop g wb (endsOf X.K F G2 D) (ds.drop i) e2) ⟨e1, G1, Same.refl G1, r1, wLoop.mono hg.mono hb.mono (endsOf.le s1) z⟩
      (fun i σ H _ ⟨e2, G2, s2, r2, _⟩ => s2.trans r2.same) (fun i x σ H H' hlt ⟨e2, G2, s2, r2, z2⟩ y => ?_) (fun σ H ⟨e2, G2, s2, r2, z2⟩ => ?_)
    · rw [List.drop_eq_getElem_cons hlt] at z2
      have hd : ds[i]? = some ds[i] := List.getElem?_eq_getElem hlt
      have after : ∀ G3, Same G2 G3 → ∀ e3, wb e3 { endsOf X.K F G2 D with nx := fun e2 => wLoop g wb (endsOf X.K F G2 D) (ds.drop (i + 1)) e2, ct := fun e2 => wLoop g wb (endsOf X.K F G2 D) (ds.drop (i + 1)) e2, bk := (endsOf X.K F G2 D).nx } → ∀ σ' H', Rl X.K F.p F.G₀ F.H₀ G3 H' σ' e3 →
          tS X.K F wb { D with nx := fun σ H => ∃ e2 G2, Same G1 G2 ∧ Rl X.K F.p F.G₀ F.H₀ G2 H σ e2 ∧ wLoop g wb (endsOf X.K F G2 D) (ds.drop (i + 1)) e2, ct := fun σ H => ∃ e2 G2, Same G1 G2 ∧ Rl X.K F.p F.G₀ F.H₀ G2 H σ e2 ∧ wLoop g wb (endsOf X.K F G2 D) (ds.drop (i + 1)) e2, bk := D.nx } σ' H' := fun G3 s3 e3 z3 σ' H' r3 => by
        have le3 := endsOf.le (K := X.K) (F := F) (D := D) s3
        refine ⟨e3, G3, r3, hb.mono e3 { endsOf X.K F G2 D with nx := fun e2 => wLoop g wb (endsOf X.K F G2 D) (ds.drop (i + 1)) e2, ct := fun e2 => wLoop g wb (endsOf X.K F G2 D) (ds.drop (i + 1)) e2, bk := (endsOf X.K F G2 D).nx } _ ⟨fun e4 y4 σ4 G4 H4 s4 r4 => ⟨e4, G4, s2.trans (s3.trans s4), r4, wLoop.mono hg.mono hb.mono (endsOf.le (s3.trans s4)) y4⟩, le3.rt, fun e4 y4 => le3.nx e4 y4,
          fun e4 y4 σ4 G4 H4 s4 r4 => ⟨e4, G4, s2.trans (s3.trans s4), r4, wLoop.mono hg.mono hb.mono (endsOf.le (s3.trans s4)) y4⟩, le3.ex⟩ z3⟩
      rcases y _ hd with ⟨rfl, rv⟩ | ⟨T, xs, es, rfl, hT, rfl, ed, rxs⟩
      · exact ⟨e2, G2, _, r2, rv.mono s2, hg.mono _ _ _ _ (fun e3 z3 σ' H' r3 => after G2 (Same.refl G2) e3 z3 σ' H' r3) z2⟩
      · have s3 := sameNew (o := .tup xs) r2.same hT
        exact ⟨e2, upd G2 T (.tup xs), _, r2.new hT, by rw [ed]; exact .tup (SqT.of upd_same) (rxs.mono (s2.trans s3)), hg.mono _ _ _ _ (fun e3 z3 σ' H' r3 => after _ s3 e3 z3 σ' H' r3) z2⟩
    · rw [List.drop_length] at z2
      exact z2 σ G2 H (Same.refl G2) r2
end
end L2.DL


set_option
      maxHeartbeats 1000000
namespace L2.DL
open PySem PySem.Spec
      PyProof.Rows

/-! ### comprehensions -/
def hide (vs : List Nat) (i : Nat) : Slot → Slot
  | .own _ => .un
  | z => if i ∈ vs then .un else z
def wipeE (e : En) (vs : List Nat) : En := { e with s := e.s.mapIdx (hide vs) }
def NoOwn (e : En) : Prop := ∀ (i : Nat) ds, e.s[i]? ≠ some (.own ds)
theorem wipe_in {σ : L2.St} {i : Nat} : ∀ {vs : List Nat}, i ∈ vs → i < σ.length → (wipe σ vs)[i]? = some none
  | v :: vs, h, hl => by
    unfold wipe
    by_cases e : v = i
    · subst e
      rw [List.getElem?_set_self (by rw [wipe_length]; exact hl)]
    · rw [List.getElem?_set_ne e]
      exact wipe_in ((List.mem_cons.mp h).resolve_left (Ne.symm e)) hl
theorem wipe_set {σ : L2.St} {i : Nat} {z : Option V} {vs : List Nat} (h : i ∈ vs) : wipe (σ.set i z) vs = wipe σ vs := by
  apply List.ext_getElem?
  intro j
  by_cases hj : j ∈ vs
  · by_cases hl : j < σ.length
    · rw [wipe_in hj hl, wipe_in hj (by simpa using hl)]
    · rw [List.getElem?_eq_none (by rw [wipe_length]; simpa using hl), List.getElem?_eq_none (by rw [wipe_length]; simpa using hl)]
  · rw [wipe_out hj, wipe_out hj, List.getElem?_set_ne (fun e => hj (by rw [← e]; exact h))]
theorem wipe_wipe {σ : L2.St} {vs : List Nat} : wipe (wipe σ vs) vs = wipe σ vs := by
  apply List.ext_getElem?
  intro j
  by_cases hj : j ∈ vs
  · by_cases hl : j < σ.length
    · rw [wipe_in hj hl, wipe_in hj (by rw [wipe_length]; exact hl)]
    · rw [List.getElem?_eq_none (by rw [wipe_length, wipe_length]; simpa using hl), List.getElem?_eq_none (by rw [wipe_length]; simpa using hl)]
  · rw [wipe_out hj, wipe_out hj]
theorem wipe_sets {vs : List Nat} : ∀ {is : List Nat} {xs : List V} {σ : L2.St}, (∀ i ∈ is, i ∈ vs) → wipe (setsV σ is xs) vs = wipe σ vs
  | [], _, _, _ => by unfold setsV; rfl
  | i :: is, [], _, _ => by unfold setsV; rfl
  | i :: is, x :: xs, σ, h => by
    unfold setsV
    rw [wipe_sets fun j hj => h j (List.mem_cons_of_mem _ hj), wipe_set (h i List.mem_cons_self)]
theorem wipeE_dat {e : En} {vs : List Nat} {i : Nat} {d : D} (h : (wipeE e vs).s[i]? = some (.dat d)) : i ∉ vs ∧ e.s[i]? = some (.dat d) := by
  unfold wipeE at h
  simp only [List.getElem?_mapIdx] at h
  cases q : e.s[i]? with
  | none => rw [q] at h; cases h
  | some z =>
    rw [q] at h
    cases z with
    | un =>
      simp only [Option.map_some, hide, Option.some.injEq] at h
      split at h <;> cases h
    | own ds => simp only [Option.map_some, hide, Option.some.injEq, reduceCtorEq] at h
    | dat d' =>
      simp only [Option.map_some, hide, Option.some.injEq] at h
      split at h
      · cases h
      · cases h
        exact ⟨by assumption, rfl⟩
theorem wipeE_own {e : En} {vs : List Nat} : NoOwn (wipeE e vs) := by
  intro i ds h
  unfold wipeE at h
  simp only [List.getElem?_mapIdx] at h
  cases q : e.s[i]? with
  | none => rw [q] at h; cases h
  | some z =>
    rw [q] at h
    cases z with
    | un =>
      simp only [Option.map_some, hide, Option.some.injEq] at h
      split at h <;> cases h
    | own ds => simp only [Option.map_some, hide, Option.some.injEq, reduceCtorEq] at h
    | dat d' =>
      simp only [Option.map_some, hide, Option.some.injEq] at h
      split at h <;> cases h
theorem NoOwn.put {e : En} {i : Nat} {d : D} (h : NoOwn e) : NoOwn (put e i (.dat d)) := by
  intro j ds q
  have q : (e.s.set i (.dat d))[j]? = some (.own ds) := q
  by_cases hj : i = j
  · subst hj
    by_cases hl : i < e.s.length
    · rw [List.getElem?_set_self hl] at q; cases q
    · rw [List.getElem?_eq_none (by simpa using hl)] at q; cases q
  · rw [List.getElem?_set_ne hj] at q
    exact h j ds q
theorem NoOwn.puts : ∀ {is : List Nat} {ds : List D} {e : En}, NoOwn e → NoOwn (puts e is ds)
  | [], _, _, h => by unfold DL.puts; exact h
  | _ :: _, [], _, h => by unfold DL.puts; exact h
  | i :: is, d :: ds, e, h => by
    unfold DL.puts
    exact NoOwn.puts h.put
/-- a target within a comprehension: it changes none but the slots vs -/
def tGc (K : PySem.W.Frag) (F : Fx) (g : WG) (vs : List Nat) : TG := fun v σ H Q => ∃ e G d, Rl K F.p F.G₀ F.H₀ G H σ e ∧ R K F.p G v d ∧ NoOwn e ∧ g d e fun e' => ∀ σ', Rl K F.p F.G₀ F.H₀ G H σ' e' → NoOwn e' → wipe σ' vs = wipe σ vs → Q σ' H
structure DGc (X : Cx) (F : Fx) (e : Expr) (g : WG) (vs : List Nat) : Prop where
  run : PG X e (tGc X.K F g vs)
  mono : MonoG g
section
variable {X : Cx} {F : Fx} {pos : Pos}
theorem dgc_nm {i : Nat} {x : Str} {vs : List Nat} (hN : X.N.Nodup) (hv : i ∈ vs) (hi : X.N[i]? = some x := by rfl) (hx : Loc X.env.scope x := by first | exact Or.inl rfl | exact Or.inr rfl) (hf : X.fn x = true ∨ X.env.scope.names.lookup x = some .local := by first | exact Or.inl rfl | exact Or.inr rfl) : DGc X F (.Name x pos) (gNm i) vs :=
  ⟨⟨fun pins s σ H v u Q I r ⟨e, G, d, rl, rv, no, q⟩ => (pg_name hN hi hx hf).run pins s σ H v u Q I r (q _ (rl.put rv) no.put (wipe_set hv))⟩, gNm.mono⟩
theorem dgc_tp {is vs : List Nat} {es : List Expr} {k : Nat} (hc : X.calm = true) (h : DGs X es is) (hv : ∀ i ∈ is, i ∈ vs) (hn : (assignEach es X.env).length = is.length := by rfl) (hst : (assignEach es X.env).findIdx? (·.1) = none := by rfl) : DGc X F (.Tuple es k pos) (gTp is) vs :=
  ⟨⟨fun pins s σ H v u Q I r ⟨e, G, d, rl, rv, no, ds, ed, hl, q⟩ => by
    subst ed
    obtain ⟨a, xs, rfl, h1, ra⟩ := rv.tup_inv
    exact (pg_tup hc h.run hn hst).run pins s σ H _ u Q I r ⟨a, xs, rfl, sameT rl.same h1, by rw [ra.length]; exact hl, by rw [ra.length]; exact hl, q _ (rl.puts ra) no.puts (wipe_sets hv)⟩⟩, gTp.mono⟩
/-- the tests of a comprehension -/
structure DTs (X : Cx) (F : Fx) (ifs : List Expr) (w : WTx) : Prop where
  run : PTs X ifs (tT X.K F w)
  mono : MonoT w
def wYes : WTx := fun e Q _ => Q true e
theorem dts_nil : DTs X F [] wYes := ⟨⟨fun pins s σ H Q I ⟨e, G, r, q⟩ => pts_nil.run pins s σ H Q I (q G H (Same.refl G) r)⟩, fun _ _ _ _ _ h _ q => h _ _ q⟩
theorem dts_one {c : Expr} {w : WTx} (h : DT X F c w) : DTs X F [c] w := ⟨pts_one h.run, h.mono⟩
end
abbrev noX : PD := fun _ _ => False
def lcLoop (g : WG) (wt : WTx) (we : WEx) (e₀ : En) : List D → List D → Nat → (List D → Nat → Prop) → Prop
  | acc, [], k, P => P acc k
  | acc, d :: ds, k, P => g d { e₀ with k := k } fun e1 => wt e1 (fun b e2 => if b = true then we e2 (fun y e3 => acc.length < 1000 ∧ lcLoop g wt we e₀ (acc ++ [y]) ds e3.k P) noX else lcLoop g wt we e₀ acc ds e2.k P) noX
def wLc (wi : WAx) (g : WG) (wt : WTx) (we : WEx) (vs : List Nat) : WEx := fun e Q x => wi e (fun ds e1 => lcLoop g wt we (wipeE e1 vs) [] ds e1.k fun acc k => Q (.list acc) { e1 with k := k }) x
section
variable {K : PySem.W.Frag} {F : Fx} {σ : L2.St} {H : Hp} {g : WG} {wt : WTx} {we : WEx} {wi : WAx} {vs : List Nat}
theorem lcLoop.mono (mg : MonoG g) (mt : MonoT wt) (me : Mono we) {e₀ : En} {P P' : List D → Nat → Prop} (h : ∀ a k, P a k → P' a k) : ∀ {ds acc : List D} {k : Nat}, lcLoop g wt we e₀ acc ds k P → lcLoop g wt we e₀ acc ds k P'
  | [], _, _, q => h _ _ q
  | d :: ds, acc, k, q => mg d _ _ _ (fun e1 z => mt e1 _ _ _ _ (fun b e2 y => by
    cases b with
    | true => exact me e2 _ _ _ _ (fun d' e3 u => ⟨u.1, lcLoop.mono mg mt me h u.2⟩) (fun _ _ u => u) y
    | false => exact lcLoop.mono mg mt me h y) (fun _ _ u => u) z) q
theorem wLc.mono (mi : MonoA wi) (mg : MonoG g) (mt : MonoT wt) (me : Mono we) : Mono (wLc wi g wt we vs) := fun e Q Q' x x' h1 h2 q => mi e _ _ _ _ (fun ds e1 z => lcLoop.mono mg mt me (fun acc k => h1 _ _) z) h2 q
theorem Rl.rebase {p : Option Addr} {G₀ H₀ G : Hp} {e : En} (r : Rl K p G₀ H₀ G H σ e) (no : NoOwn e) : Rl K p G H G H σ e := by
  obtain ⟨α, r⟩ := r
  exact ⟨α, r.w, Stp.refl, r.len, r.dat, fun i ds h => absurd h (no i ds), fun i j ds es h => absurd h (no i ds)⟩
/-- a list of ours that no slot holds is changed -/
theorem Rl.upd {p : Option Addr} {G₀ H₀ G : Hp} {e : En} {q : Addr} {o : HO} (r : Rl K p G₀ H₀ G H σ e) (no : NoOwn e) (g : G q = none) (h : H₀ q = none) (n : p ≠ some q) : Rl K p G₀ H₀ G (L2.upd H q o) σ e := by
  obtain ⟨α, r⟩ := r
  refine ⟨α, ⟨fun b u z => ?_, fun a ea => ?_⟩, ⟨r.st.gg, fun b u z np => ?_, r.st.nn, fun a c ea h => ?_⟩, r.len, r.dat, fun i ds h => absurd h (no i ds), fun i j ds es h => absurd h (no i ds)⟩
  · rw [upd_ne (ne_of_none z g)]
    exact r.w.same _ _ z
  · obtain ⟨h1, c, xs, i, t, h2, h3⟩ := r.w.pen a ea
    exact ⟨h1, c, xs, i, t, by rw [upd_ne (fun z => n (by rw [← z]; exact ea))]; exact h2, h3⟩
  · rw [upd_ne (ne_of_none z h)]
    exact r.st.hh b u z np
  · obtain ⟨i, t, z⟩ := r.st.pc a c ea h
    exact ⟨i, t, by rw [upd_ne (fun z => n (by rw [← z]; exact ea))]; exact z⟩
theorem Rl.block {p : Option Addr} {G₀ H₀ G : Hp} {e : En} {q : Addr} {o : HO} (r : Rl K p G₀ H₀ G H σ e) (hq : H q = none) : Rl K p G H G (L2.upd H q o) (wipe σ vs) (wipeE e vs) := by
  obtain ⟨α, r⟩ := r
  refine ⟨α, ⟨fun b u z => ?_, fun a ea => ?_⟩, ⟨fun _ _ z => z, fun b u z np => ?_, fun _ _ _ z => z, fun a c ea ⟨i, t, z⟩ => ⟨i, t, by rw [upd_ne (ne_of_none z hq)]; exact z⟩⟩, ?_, fun i d h => ?_, fun i ds h => absurd h (wipeE_own i ds), fun i j ds es h => absurd h (wipeE_own i ds)⟩
  · rw [upd_ne (ne_of_none (r.w.same _ _ z) hq)]
    exact r.w.same _ _ z
  · obtain ⟨h1, c, xs, i, t, h2, h3⟩ := r.w.pen a ea
    exact ⟨h1, c, xs, i, t, by rw [upd_ne (ne_of_none h2 hq)]; exact h2, h3⟩
  · rw [upd_ne (ne_of_none z hq)]
    exact z
  · rw [wipe_length, r.len]
    unfold wipeE
    simp
  · obtain ⟨h1, h2⟩ := wipeE_dat h
    rw [wipe_out h1]
    exact r.dat i d h2
theorem tE.lc {F : Fx} (mi : MonoA wi) (mg : MonoG g) (mt : MonoT wt) (me : Mono we) {tg' : TG} {tt : TT} {te : TE}
    (hg : ∀ G₀ H₀ v σ H Q, tGc K ⟨F.p, G₀, H₀, fun _ _ _ _ => False⟩ g vs v σ H Q → tg' v σ H Q) (ht : ∀ G₀ H₀ σ H Q, tT K ⟨F.p, G₀, H₀, fun _ _ _ _ => False⟩ wt σ H Q → tt σ H Q) (he : ∀ G₀ H₀ σ H Q, tE K ⟨F.p, G₀, H₀, fun _ _ _ _ => False⟩ we σ H Q → te σ H Q)
    {Q : VK} (q : tE K F (wLc wi g wt we vs) σ H Q) : tLc (tI K F wi) tg' tt te vs σ H Q := by
  obtain ⟨e, G, r, q⟩ := q
  refine ⟨e, G, r, mi e _ _ _ _ (fun ds e1 z J G1 H1 s1 r1 wk D hD => ?_) (fun _ _ z => z) q⟩
  have wk' : Walk J ds.length (Same G1) (fun i H x H' => ∀ d, ds[i]? = some d → (H' = H ∧ R K F.p G1 x d) ∨ ∃ T xs es, x = .ref T ∧ H T = none ∧ H' = L2.upd H T (.tup xs) ∧ d = .tuple es ∧ RA K F.p G1 xs es) :=
    ⟨wk.goes, wk.stops, fun i H x H' _ s y d hd => wk.yields i H x H' d hd s y⟩
  have nG : G1 D = none := r1.same.free hD
  have np : F.p ≠ some D := fun ep => by
    obtain ⟨_, c, xs, i, t, h2, _⟩ := r1.wd.pen D ep
    rw [hD] at h2; cases h2
  refine lc_it wk' (fun i H => ∃ acc as k G, Same G1 G ∧ H D = some (.lst as) ∧ G D = none ∧ RA K F.p G as acc ∧ Rl K F.p G1 H1 G H (wipe σ vs) { wipeE e1 vs with k := k } ∧ lcLoop g wt we (wipeE e1 vs) acc (ds.drop i) k fun acc k => PQ K F.p F.G₀ F.H₀ G1 σ Q (.list acc) { e1 with k := k })
    ⟨[], [], e1.k, G1, Same.refl G1, upd_same, nG, .nil, r1.block hD, lcLoop.mono mg mt me (fun _ _ => PQ.mono s1) z⟩
    (fun i H _ ⟨_, _, _, G2, s2, _, _, _, r2, _⟩ => s2.trans r2.same) (fun i x H H' hlt ⟨acc, as, k, G2, s2, hd2, gd2, ra2, r2, z2⟩ y => ?_) (fun H ⟨acc, as, k, G2, s2, hd2, gd2, ra2, r2, z2⟩ => ?_)
  · rw [List.drop_eq_getElem_cons hlt] at z2
    have hd : ds[i]? = some ds[i] := List.getElem?_eq_getElem hlt
    -- the turn, from any ground
    have turn : ∀ G3 H3 v, Same G2 G3 → H3 D = some (.lst as) → G3 D = none → Rl K F.p G1 H1 G3 H3 (wipe σ vs) { wipeE e1 vs with k := k } → R K F.p G3 v ds[i] →
        tg' v (wipe σ vs) H3 fun σ2 H2 => wipe σ2 vs = wipe σ vs ∧ tt σ2 H2 fun b H3 => if b = true then te σ2 H3 fun y H4 => ∃ acc, H4 D = some (.lst acc) ∧ acc.length < sizeLine ∧
          (∃ acc' as k G, Same G1 G ∧ (L2.upd H4 D (.lst (acc ++ [y]))) D = some (.lst as) ∧ G D = none ∧ RA K F.p G as acc' ∧ Rl K F.p G1 H1 G (L2.upd H4 D (.lst (acc ++ [y]))) (wipe σ vs) { wipeE e1 vs with k := k } ∧ lcLoop g wt we (wipeE e1 vs) acc' (ds.drop (i + 1)) k fun acc k => PQ K F.p F.G₀ F.H₀ G1 σ Q (.list acc) { e1 with k := k })
          else (∃ acc as k G, Same G1 G ∧ H3 D = some (.lst as) ∧ G D = none ∧ RA K F.p G as acc ∧ Rl K F.p G1 H1 G H3 (wipe σ vs) { wipeE e1 vs with k := k } ∧ lcLoop g wt we (wipeE e1 vs) acc (ds.drop (i + 1)) k fun acc k => PQ K F.p F.G₀ F.H₀ G1 σ Q (.list acc) { e1 with k := k }) := fun G3 H3 v s3 hd3 gd3 r3 rv => by
      have no : NoOwn { wipeE e1 vs with k := k } := wipeE_own (e := e1) (vs := vs)
      refine hg G3 H3 _ _ _ _ ⟨{ wipeE e1 vs with k := k }, G3, _, r3.rebase no, rv, no, mg _ _ _ _ (fun e4 z4 σ4 r4 no4 w4 => ⟨w4.trans wipe_wipe, ?_⟩) z2⟩
      refine ht G3 H3 _ _ _ ⟨e4, G3, r4, mt e4 _ _ _ _ (fun b e5 z5 G5 H5 s5 r5 => ?_) (fun _ _ u => u.elim) z4⟩
      have step := fun (G6 H6 : Hp) (e6 : En) (r6 : Rl K F.p G3 H3 G6 H6 σ4 e6) => (⟨let ⟨_, q⟩ := r6; q.st, r6.wd⟩ : Stp F.p G3 H3 G6 H6 ∧ Wd K F.p e6.k G6 H6)
      cases b with
      | false =>
        obtain ⟨st, wd⟩ := step G5 H5 e5 r5
        exact ⟨acc, as, e5.k, G5, s2.trans (s3.trans s5), st.hh _ _ hd3 np, st.nn _ _ hd3 gd3, ra2.mono (s3.trans s5), r3.step st wd, z5⟩
      | true =>
        refine he G3 H3 _ _ _ ⟨e5, G5, r5, me e5 _ _ _ _ (fun dy e6 z6 y G6 H6 s6 r6 ry => ?_) (fun _ _ u => u.elim) z5⟩
        obtain ⟨st, wd⟩ := step G6 H6 e6 r6
        have hd6 := st.hh _ _ hd3 np
        have gd6 := st.nn _ _ hd3 gd3
        have s36 := s3.trans (s5.trans s6)
        refine ⟨as, hd6, by rw [ra2.length]; exact Nat.lt_of_lt_of_le z6.1 (by decide), acc ++ [dy], as ++ [y], e6.k, G6, s2.trans s36, upd_same, gd6, (ra2.mono s36).append (.cons ry .nil), ?_, z6.2⟩
        exact (r3.step st wd).upd (wipeE_own (e := e1) (vs := vs)) gd6 hD np
    rcases y _ hd with ⟨rfl, rv⟩ | ⟨T, xs, es, rfl, hT, rfl, ed, rxs⟩
    · exact turn G2 _ x (Same.refl G2) hd2 gd2 r2 (rv.mono s2)
    · have s3 := sameNew (o := .tup xs) r2.same hT
      have nT : D ≠ T := ne_of_none hd2 hT
      exact turn (L2.upd G2 T (.tup xs)) _ (.ref T) s3 (by rw [upd_ne nT]; exact hd2) (by rw [upd_ne nT]; exact gd2) (r2.new hT) (by rw [ed]; exact .tup (SqT.of upd_same) (rxs.mono (s2.trans s3)))
  · rw [List.drop_length] at z2
    obtain ⟨α, r3⟩ := id r2
    have sD : Same G2 (L2.upd G2 D (.lst as)) := fun b u z => by rw [upd_ne (ne_of_none z gd2)]; exact z
    refine z2 _ (L2.upd G2 D (.lst as)) H (s2.trans sD) (r1.step (k' := k) ⟨fun b u z => sD _ _ (r3.st.gg _ _ z), r3.st.hh, fun b u z n => ?_, r3.st.pc⟩ ⟨fun b u z => ?_, fun a ea => ?_⟩) (.lst upd_same (ra2.mono sD))
    · rw [upd_ne (ne_of_none z hD)]
      exact r3.st.nn _ _ z n
    · by_cases hb : b = D
      · subst hb; rw [upd_same] at z; rw [hd2]; exact z
      · rw [upd_ne hb] at z; exact r3.w.same _ _ z
    · obtain ⟨h1, h2⟩ := r3.w.pen a ea
      exact ⟨by rw [upd_ne (fun z => np (by rw [← z]; exact ea))]; exact h1, by
        obtain ⟨c, xs, i, t, h3, h4, h5⟩ := h2
        exact ⟨c, xs, i, t, h3, sD _ _ h4, h5⟩⟩
end
end L2.DL


set_option
      maxHeartbeats 1000000
namespace L2.DL
open PySem PySem.Spec
      PyProof.Rows

section
variable {X : Cx} {F : Fx} {pos : Pos} {elt tg iter : Expr} {ifs : List Expr} {scope : Scope} {own : List (Str × Nat)} {wi : WAx} {g : WG} {wt : WTx} {we : WEx}
abbrev inn (p : Option Addr) (G₀ H₀ : Hp) : Fx := ⟨p, G₀, H₀, fun _ _ _ _ => False⟩
/-- the rules that a comprehension's block is read by -/
theorem lc_parts (hc : X.calm = true) (hN : X.N.Nodup) (hi : DI X F tg iter wi)
    (hg : ∀ (s : Shared) (H : Hp) (C : Addr) (cl : List (Str × Addr)) (fp : List Addr) (G₀ H₀ : Hp), DGc (X.blk s H scope (compEnvC scope cl C X.env) fp) (inn F.p G₀ H₀) tg g (own.map (·.2)))
    (ht : ∀ (s : Shared) (H : Hp) (C : Addr) (cl : List (Str × Addr)) (fp : List Addr) (G₀ H₀ : Hp), DTs (X.blk s H scope (compEnvC scope cl C X.env) fp) (inn F.p G₀ H₀) ifs wt)
    (he : ∀ (s : Shared) (H : Hp) (C : Addr) (cl : List (Str × Addr)) (fp : List Addr) (G₀ H₀ : Hp), DE (X.blk s H scope (compEnvC scope cl C X.env) fp) (inn F.p G₀ H₀) elt we) :
    ∃ (tg' : TG) (tt : TT) (te : TE), (∀ (s : Shared) (H : Hp) (C : Addr) (cl : List (Str × Addr)) (fp : List Addr), PG (X.blk s H scope (compEnvC scope cl C X.env) fp) tg tg') ∧
      (∀ (s : Shared) (H : Hp) (C : Addr) (cl : List (Str × Addr)) (fp : List Addr), PTs (X.blk s H scope (compEnvC scope cl C X.env) fp) ifs tt) ∧
      (∀ (s : Shared) (H : Hp) (C : Addr) (cl : List (Str × Addr)) (fp : List Addr), PE (X.blk s H scope (compEnvC scope cl C X.env) fp) elt te) ∧
      ∀ σ H Q, tE X.K F (wLc wi g wt we (own.map (·.2))) σ H Q → tLc (tI X.K F wi) tg' tt te (own.map (·.2)) σ H Q := by
  refine ⟨fun v σ H Q => ∃ G₀ H₀, tGc X.K (inn F.p G₀ H₀) g (own.map (·.2)) v σ H Q, fun σ H Q => ∃ G₀ H₀, tT X.K (inn F.p G₀ H₀) wt σ H Q, fun σ H Q => ∃ G₀ H₀, tE X.K (inn F.p G₀ H₀) we σ H Q,
    fun s H C cl fp => ⟨fun pins s' σ H' v u Q I r ⟨G₀, H₀, q⟩ => (hg s H C cl fp G₀ H₀).run.run pins s' σ H' v u Q I r q⟩,
    fun s H C cl fp => ⟨fun pins s' σ H' Q I ⟨G₀, H₀, q⟩ => (ht s H C cl fp G₀ H₀).run.run pins s' σ H' Q I q⟩,
    fun s H C cl fp => ⟨fun pins s' σ H' Q I ⟨G₀, H₀, q⟩ => (he s H C cl fp G₀ H₀).run.run pins s' σ H' Q I q⟩, fun σ H Q q => ?_⟩
  exact tE.lc hi.mono (hg X.s_0 X.H_0 0 [] [] X.H_0 X.H_0).mono (ht X.s_0 X.H_0 0 [] [] X.H_0 X.H_0).mono (he X.s_0 X.H_0 0 [] [] X.H_0 X.H_0).mono
    (fun G₀ H₀ _ _ _ _ z => ⟨G₀, H₀, z⟩) (fun G₀ H₀ _ _ _ z => ⟨G₀, H₀, z⟩) (fun G₀ H₀ _ _ _ z => ⟨G₀, H₀, z⟩) q
theorem de_lc (hc : X.calm = true) (hN : X.N.Nodup) (hi : DI X F tg iter wi) (ok : BlkOk X.N X.env.scope scope own)
    (hg : ∀ (s : Shared) (H : Hp) (C : Addr) (cl : List (Str × Addr)) (fp : List Addr) (G₀ H₀ : Hp), DGc (X.blk s H scope (compEnvC scope cl C X.env) fp) (inn F.p G₀ H₀) tg g (own.map (·.2)))
    (ht : ∀ (s : Shared) (H : Hp) (C : Addr) (cl : List (Str × Addr)) (fp : List Addr) (G₀ H₀ : Hp), DTs (X.blk s H scope (compEnvC scope cl C X.env) fp) (inn F.p G₀ H₀) ifs wt)
    (he : ∀ (s : Shared) (H : Hp) (C : Addr) (cl : List (Str × Addr)) (fp : List Addr) (G₀ H₀ : Hp), DE (X.blk s H scope (compEnvC scope cl C X.env) fp) (inn F.p G₀ H₀) elt we)
    (hs : ∀ x, foldedSetIterable iter X.env x = pure x := by intro _; rfl) : DE X F (.ListComp elt [⟨tg, iter, ifs, 0⟩] scope pos) (wLc wi g wt we (own.map (·.2))) := by
  obtain ⟨tg', tt, te, h1, h2, h3, h4⟩ := lc_parts hc hN hi hg ht he
  exact de_of (pe_lc hc hN hi.run ok h1 h2 h3 hs) (wLc.mono hi.mono (hg X.s_0 X.H_0 0 [] [] X.H_0 X.H_0).mono (ht X.s_0 X.H_0 0 [] [] X.H_0 X.H_0).mono (he X.s_0 X.H_0 0 [] [] X.H_0 X.H_0).mono) h4
/-- name = [..], on one line -/
theorem ds_setLc {i : Nat} {y : Str} {py spos : Pos} (hc : X.calm = true) (hN : X.N.Nodup) (hi : DI X F tg iter wi) (ok : BlkOk X.N X.env.scope scope own)
    (hg : ∀ (s : Shared) (H : Hp) (C : Addr) (cl : List (Str × Addr)) (fp : List Addr) (G₀ H₀ : Hp), DGc (X.blk s H scope (compEnvC scope cl C X.env) fp) (inn F.p G₀ H₀) tg g (own.map (·.2)))
    (ht : ∀ (s : Shared) (H : Hp) (C : Addr) (cl : List (Str × Addr)) (fp : List Addr) (G₀ H₀ : Hp), DTs (X.blk s H scope (compEnvC scope cl C X.env) fp) (inn F.p G₀ H₀) ifs wt)
    (he : ∀ (s : Shared) (H : Hp) (C : Addr) (cl : List (Str × Addr)) (fp : List Addr) (G₀ H₀ : Hp), DE (X.blk s H scope (compEnvC scope cl C X.env) fp) (inn F.p G₀ H₀) elt we)
    (hsw : swapsWith (.ListComp elt [⟨tg, iter, ifs, 0⟩] scope pos) (some (.Name y py)) spos.line X.env = pure true) (hy : X.N[i]? = some y := by rfl) (hyl : X.env.scope.names.lookup y = some .local := by rfl)
    (hs : ∀ x, foldedSetIterable iter X.env x = pure x := by intro _; rfl) : DS X F (.Assign [.Name y py] (.ListComp elt [⟨tg, iter, ifs, 0⟩] scope pos) spos) (wSet i (wLc wi g wt we (own.map (·.2)))) := by
  obtain ⟨tg', tt, te, h1, h2, h3, h4⟩ := lc_parts hc hN hi hg ht he
  have m := wLc.mono (vs := own.map (·.2)) hi.mono (hg X.s_0 X.H_0 0 [] [] X.H_0 X.H_0).mono (ht X.s_0 X.H_0 0 [] [] X.H_0 X.H_0).mono (he X.s_0 X.H_0 0 [] [] X.H_0 X.H_0).mono
  exact ds_of (ps_setLc hc hN hy hyl hsw hi.run ok h1 h2 h3 hs) (wSet.mono m) fun D σ H ⟨e, G, r, q⟩ => h4 _ _ _ (tS.expr (k := fun D d e1 => D.nx (DL.put e1 i (.dat d))) m r q fun d e' v G' H' s r' rv z => z _ G' H' s (r'.put rv))
end

/-! ### lists that one slot alone holds -/
def PF (K : PySem.W.Frag) (F : Fx) (G : Hp) (σ : L2.St) (Q : VK) : List D → En → Prop := fun ds e' => ∀ a xs G' H', Same G G' → Rl K F.p F.G₀ F.H₀ G' H' σ e' → H' a = none → RA K F.p G' xs ds → Q (.ref a) (L2.upd H' a (.lst xs))
def tF (K : PySem.W.Frag) (F : Fx) (w : WAx) : TE := fun σ H Q => ∃ e G, Rl K F.p F.G₀ F.H₀ G H σ e ∧ w e (PF K F G σ Q) (PX K F.p F.G₀ F.H₀ F.W G σ)
/-- an expression that gives a new list -/
structure DF (X : Cx) (F : Fx) (e : Expr) (w : WAx) : Prop where
  run : PE X e (tF X.K F w)
  mono : MonoA w
section
variable {K : PySem.W.Frag} {F : Fx} {σ : L2.St} {H : Hp} {X : Cx} {pos : Pos} {a b : Expr} {es : List Expr} {wa wb : WEx} {wr : WAx}
theorem df_of {e : Expr} {t : TE} {w : WAx} (h : PE X e t) (m : MonoA w) (i : ∀ σ H Q, tF X.K F w σ H Q → t σ H Q) : DF X F e w := ⟨⟨fun pins s σ H Q I q => h.run pins s σ H Q I (i σ H Q q)⟩, m⟩
def wLstF (w : WAx) : WAx := fun e Q x => w e (fun ds e1 => ds.length ≤ 1000 ∧ Q ds e1) x
theorem df_lst (h : DA X F es wr) : DF X F (.List es pos) (wLstF wr) :=
  df_of (pe_lst h.run) (fun e Q Q' x x' h1 h2 q => h.mono e _ _ _ _ (fun ds e1 z => ⟨z.1, h1 _ _ z.2⟩) h2 q) fun σ H Q ⟨e, G, r, q⟩ => ⟨e, G, r, h.mono e _ _ _ _ (fun ds e1 z vs G' H' s r' rv => ⟨by rw [rv.length]; exact le_line z.1, fun p hp => z.2 p vs G' H' s r' hp rv⟩) (fun _ _ z => z) q⟩
def wListF (w : WEx) : WAx := fun e Q x => w e (fun d e1 => ∃ ds, items d = some ds ∧ Q ds e1) x
theorem df_list {q : Pos} (h : DE X F a wa) (hm : X.mg "list" = none) (hg : Gl X "list" := by rfl) (hv : bootBuiltins "list" = some (.type "list") := by decide +kernel) (hs : starEach [a] X.env = (false, eval a X.env) :: starEach [] X.env := by rfl)
    (hpl : (backTo pos (starEach [] X.env)).any (·.1) = false := by rfl) : DF X F (.Call (.Name "list" q) [a] [] pos) (wListF wa) :=
  df_of (pe_callTy call_list_of hg hm hv (pa_cons h.run pa_nil hs) (by decide) (by decide) hs hpl) (fun e Q Q' x x' h1 h2 q => h.mono e _ _ _ _ (fun d e1 ⟨ds, i, z⟩ => ⟨ds, i, h1 _ _ z⟩) h2 q) fun σ H Q ⟨e, G, r, q⟩ =>
    ⟨e, G, r, h.mono e _ _ _ _ (fun d e1 ⟨ds, i, z⟩ v G' H' s r' rv => by
      cases d with
      | list es =>
        cases i
        obtain ⟨l, ys, rfl, h1, r1⟩ := rv.lst_inv
        exact ⟨l, ys, rfl, .inl (SqL.of (r'.same _ _ h1)), fun l hl => z l ys G' H' s r' hl r1⟩
      | tuple es =>
        cases i
        obtain ⟨l, ys, rfl, h1, r1⟩ := rv.tup_inv
        exact ⟨l, ys, rfl, .inr (sameT r'.same h1), fun l hl => z l ys G' H' s r' hl r1⟩
      | none => cases i
      | bool b => cases i
      | int i => cases i
      | str x => cases i
      | dict kvs => cases i) (fun _ _ z => z) q⟩
def wRepF (wa wb : WEx) : WAx := fun e Q x => wa e (fun d e1 => wb e1 (fun d' e2 => ∃ ds k, d = .list ds ∧ d' = .int k ∧ 0 ≤ k ∧ k ≤ 1000 ∧ ds.length ≤ 1000 ∧ Q (List.replicate k.toNat ds).flatten e2) x) x
theorem df_rep (ha : DE X F a wa) (hb : DE X F b wb) : DF X F (.BinOp a .Mult b pos) (wRepF wa wb) :=
  df_of (pe_op op_rep ha.run hb.run) (fun e Q Q' x x' h1 h2 q => ha.mono e _ _ _ _ (fun d e1 z => hb.mono e1 _ _ _ _ (fun d' e2 ⟨ds, k, i1, i2, i3, i4, i5, y⟩ => ⟨ds, k, i1, i2, i3, i4, i5, h1 _ _ y⟩) h2 z) h2 q) fun σ H Q ⟨e, G, r, q⟩ => by
    refine tE.mono ha.mono (fun v H1 z => ?_) (tE.any ha.mono r q)
    obtain ⟨e1, G1, d, s1, r1, rd, z⟩ := z
    refine tE.mono hb.mono (fun v' H2 z => ?_) (tE.any hb.mono r1 (hb.mono e1 _ _ _ _ (fun _ _ z => z) (fun _ _ => PX.mono s1) z))
    obtain ⟨e2, G2, d', s2, r2, rd', ds, k, i1, i2, i3, i4, i5, y⟩ := z
    rw [i1] at rd
    rw [i2] at rd'
    obtain ⟨l, xs, ev, h1, ra⟩ := (rd.mono s2).lst_inv
    have ew := rd'.int_inv
    refine ⟨l, k, xs, ev, ew, r2.same _ _ h1, by omega, by omega, ?_, fun p hp => y p _ G2 H2 (s1.trans s2) r2 hp (ra.rep _)⟩
    rw [sizeLine_eq, ra.length]
    exact Nat.le_trans (Nat.mul_le_mul i5 (show _ ≤ 1000 by omega)) (by decide)
/-! #### the relation when such a list comes, changes, is let go -/
theorem own_ne {e : En} {i j : Nat} {ds es : List D} (h : (put e i (.own es)).s[j]? = some (.own ds)) : (j = i ∧ i < e.s.length ∧ ds = es) ∨ (j ≠ i ∧ e.s[j]? = some (.own ds)) := by
  have h : (e.s.set i (.own es))[j]? = some (.own ds) := h
  by_cases hj : i = j
  · subst hj
    by_cases hl : i < e.s.length
    · rw [List.getElem?_set_self hl] at h
      cases h
      exact .inl ⟨rfl, hl, rfl⟩
    · rw [List.getElem?_eq_none (by simpa using hl)] at h; cases h
  · rw [List.getElem?_set_ne hj] at h
    exact .inr ⟨Ne.symm hj, h⟩
theorem own_dat {e : En} {i j : Nat} {es : List D} {d : D} (h : (put e i (.own es)).s[j]? = some (.dat d)) : j ≠ i ∧ e.s[j]? = some (.dat d) := by
  have h : (e.s.set i (.own es))[j]? = some (.dat d) := h
  by_cases hj : i = j
  · subst hj
    by_cases hl : i < e.s.length
    · rw [List.getElem?_set_self hl] at h; cases h
    · rw [List.getElem?_eq_none (by simpa using hl)] at h; cases h
  · rw [List.getElem?_set_ne hj] at h
    exact ⟨Ne.symm hj, h⟩
theorem Rl.own {p : Option Addr} {G₀ H₀ G : Hp} {e : En} {i : Nat} {q : Addr} {xs : List V} {ds : List D} (r : Rl K p G₀ H₀ G H σ e) (hq : H q = none) (ra : RA K p G xs ds) : Rl K p G₀ H₀ G (L2.upd H q (.lst xs)) (σ.set i (some (.ref q))) (DL.put e i (.own ds)) := by
  obtain ⟨α, r⟩ := r
  have np : p ≠ some q := fun ep => by
    obtain ⟨_, c, xs, i, t, h2, _⟩ := r.w.pen q ep
    rw [hq] at h2; cases h2
  have n0 : H₀ q = none := by
    cases z : H₀ q with
    | none => rfl
    | some o => have := r.st.hh q o z np; rw [hq] at this; cases this
  have gq : G q = none := r.w.same.free hq
  refine ⟨fun j => if j = i then q else α j, ⟨fun b u z => ?_, fun a ea => ?_⟩, ⟨r.st.gg, fun b u z n => ?_, r.st.nn, fun a c ea h => ?_⟩, by simpa [DL.put] using r.len, fun j d h => ?_, fun j es h => ?_, fun j k es fs h1 h2 hjk => ?_⟩
  · rw [upd_ne (ne_of_none z gq)]; exact r.w.same _ _ z
  · obtain ⟨h1, c, xs, i, t, h2, h3⟩ := r.w.pen a ea
    exact ⟨h1, c, xs, i, t, by rw [upd_ne (ne_of_none h2 hq)]; exact h2, h3⟩
  · rw [upd_ne (ne_of_none z n0)]; exact r.st.hh b u z n
  · obtain ⟨i, t, z⟩ := r.st.pc a c ea h
    exact ⟨i, t, by rw [upd_ne (ne_of_none z hq)]; exact z⟩
  · obtain ⟨hj, h'⟩ := own_dat h
    rw [List.getElem?_set_ne (Ne.symm hj)]
    exact r.dat j d h'
  · rcases own_ne h with ⟨rfl, hl, rfl⟩ | ⟨hj, h'⟩
    · simp only [if_true]
      exact ⟨xs, List.getElem?_set_self (by rw [r.len]; exact hl), upd_same, gq, n0, np, ra⟩
    · obtain ⟨ys, q1, q2, q3, q4, q5, q6⟩ := r.own j es h'
      simp only [if_neg hj]
      exact ⟨ys, by rw [List.getElem?_set_ne (Ne.symm hj)]; exact q1, by rw [upd_ne (ne_of_none q2 hq)]; exact q2, q3, q4, q5, q6⟩
  · rcases own_ne h1 with ⟨rfl, _, rfl⟩ | ⟨hj, h1'⟩
    · rcases own_ne h2 with ⟨rfl, _, rfl⟩ | ⟨hk, h2'⟩
      · exact absurd rfl hjk
      · obtain ⟨ys, q1, q2, _⟩ := r.own k fs h2'
        simp only [if_true, if_neg hk]
        exact Ne.symm (ne_of_none q2 hq)
    · rcases own_ne h2 with ⟨rfl, _, rfl⟩ | ⟨hk, h2'⟩
      · obtain ⟨ys, q1, q2, _⟩ := r.own j es h1'
        simp only [if_true, if_neg hj]
        exact ne_of_none q2 hq
      · simp only [if_neg hj, if_neg hk]
        exact r.sep j k es fs h1' h2' hjk
theorem Rl.mut {p : Option Addr} {G₀ H₀ G : Hp} {e : En} {i : Nat} {q : Addr} {ys : List V} {ds es : List D} (r : Rl K p G₀ H₀ G H σ e) (hi : e.s[i]? = some (.own ds)) (hs : σ[i]? = some (some (.ref q))) (ra : RA K p G ys es) : Rl K p G₀ H₀ G (L2.upd H q (.lst ys)) σ (DL.put e i (.own es)) := by
  obtain ⟨α, r⟩ := r
  obtain ⟨xs, q1, q2, q3, q4, q5, q6⟩ := r.own i ds hi
  have eq : α i = q := by rw [hs] at q1; cases q1; rfl
  rw [eq] at q2 q3 q4 q5
  refine ⟨α, ⟨fun b u z => ?_, fun a ea => ?_⟩, ⟨r.st.gg, fun b u z n => ?_, r.st.nn, fun a c ea h => ?_⟩, by simpa [DL.put] using r.len, fun j d h => ?_, fun j fs h => ?_, fun j k fs gs h1 h2 hjk => ?_⟩
  · rw [upd_ne (ne_of_none z q3)]; exact r.w.same _ _ z
  · obtain ⟨h1, c, xs, i, t, h2, h3⟩ := r.w.pen a ea
    exact ⟨h1, c, xs, i, t, by rw [upd_ne (fun z => q5 (by rw [← z]; exact ea))]; exact h2, h3⟩
  · rw [upd_ne (ne_of_none z q4)]; exact r.st.hh b u z n
  · obtain ⟨i, t, z⟩ := r.st.pc a c ea h
    exact ⟨i, t, by rw [upd_ne (fun z => q5 (by rw [← z]; exact ea))]; exact z⟩
  · obtain ⟨hj, h'⟩ := own_dat h
    exact r.dat j d h'
  · rcases own_ne h with ⟨rfl, hl, rfl⟩ | ⟨hj, h'⟩
    · rw [eq]
      exact ⟨ys, hs, upd_same, q3, q4, q5, ra⟩
    · obtain ⟨zs, z1, z2, z3⟩ := r.own j fs h'
      have n := r.sep j i fs ds h' hi hj
      rw [eq] at n
      exact ⟨zs, z1, by rw [upd_ne n]; exact z2, z3⟩
  · have o : ∀ {j : Nat} {fs}, (DL.put e i (Slot.own es)).s[j]? = some (.own fs) → ∃ gs, e.s[j]? = some (Slot.own gs) := fun {j fs} h => by
      rcases own_ne h with ⟨rfl, _, rfl⟩ | ⟨_, h'⟩
      · exact ⟨_, hi⟩
      · exact ⟨_, h'⟩
    obtain ⟨a1, b1⟩ := o h1
    obtain ⟨a2, b2⟩ := o h2
    exact r.sep j k a1 a2 b1 b2 hjk
def lend : Slot → Slot
  | .own ds => .dat (.list ds)
  | z => z
def lendE (e : En) : En := { e with s := e.s.map lend }
def heldAt (e : En) (α : Nat → Addr) (b : Addr) : Prop := ∃ (j : Nat) (ds : List D), e.s[j]? = some (.own ds) ∧ α j = b
open Classical in
/-- the ground with the lists let go; without them -/
noncomputable def plus (G H : Hp) (e : En) (α : Nat → Addr) : Hp := fun b => if heldAt e α b then H b else G b
open Classical in
noncomputable def minus (G : Hp) (e : En) (α : Nat → Addr) : Hp := fun b => if heldAt e α b then none else G b
theorem lendE_dat {e : En} {i : Nat} {d : D} (h : (lendE e).s[i]? = some (.dat d)) : e.s[i]? = some (.dat d) ∨ ∃ ds, d = .list ds ∧ e.s[i]? = some (.own ds) := by
  have h : (e.s.map lend)[i]? = some (.dat d) := h
  rw [List.getElem?_map] at h
  cases q : e.s[i]? with
  | none => rw [q] at h; cases h
  | some z =>
    rw [q] at h
    cases z with
    | un => cases h
    | dat d' => cases h; exact .inl rfl
    | own ds => cases h; exact .inr ⟨ds, rfl, rfl⟩
theorem lendE_own {e : En} : NoOwn (lendE e) := by
  intro i ds h
  have h : (e.s.map lend)[i]? = some (.own ds) := h
  rw [List.getElem?_map] at h
  cases q : e.s[i]? with
  | none => rw [q] at h; cases h
  | some z =>
    rw [q] at h
    cases z <;> cases h
theorem Rel.plus {p : Option Addr} {G₀ H₀ G : Hp} {e : En} {α : Nat → Addr} (r : Rel K p G₀ H₀ G H σ e α) : Same G (DL.plus G H e α) ∧ Rl K p G₀ H₀ (DL.plus G H e α) H σ (lendE e) := by
  have s1 : Same G (DL.plus G H e α) := fun b u z => by
    unfold DL.plus
    split
    · exact r.w.same _ _ z
    · exact z
  have s2 : Same (DL.plus G H e α) H := fun b u z => by
    unfold DL.plus at z
    split at z
    · exact z
    · exact r.w.same _ _ z
  refine ⟨s1, α, ⟨s2, fun a ea => ?_⟩, ⟨fun b u z => s1 _ _ (r.st.gg _ _ z), r.st.hh, fun b u z n => ?_, r.st.pc⟩, by simpa [lendE] using r.len, fun i d h => ?_, fun i ds h => absurd h (lendE_own i ds), fun i j ds es h => absurd h (lendE_own i ds)⟩
  · obtain ⟨h1, c, xs, i, t, h2, h3, h4⟩ := r.w.pen a ea
    refine ⟨?_, c, xs, i, t, h2, s1 _ _ h3, h4⟩
    unfold DL.plus
    rw [if_neg]
    · exact h1
    · rintro ⟨j, ds, hj, ej⟩
      obtain ⟨_, _, _, _, _, n, _⟩ := r.own j ds hj
      exact n (by rw [ej]; exact ea)
  · unfold DL.plus
    rw [if_neg]
    · exact r.st.nn b u z n
    · rintro ⟨j, ds, hj, ej⟩
      obtain ⟨_, _, _, _, n0, _⟩ := r.own j ds hj
      rw [ej] at n0
      rw [z] at n0; cases n0
  · rcases lendE_dat h with hd | ⟨ds, ed, ho⟩
    · obtain ⟨v, h1, h2⟩ := r.dat i d hd
      exact ⟨v, h1, h2.mono s1⟩
    · subst ed
      obtain ⟨xs, h1, h2, h3, h4, h5, h6⟩ := r.own i ds ho
      refine ⟨_, h1, .lst ?_ (h6.mono s1)⟩
      unfold DL.plus
      rw [if_pos ⟨i, ds, ho, rfl⟩]
      exact h2
mutual
/-- no list within -/
def noL : D → Bool
  | .none => true
  | .bool _ => true
  | .int _ => true
  | .str _ => true
  | .tuple ds => noLs ds
  | .list _ => false
  | .dict _ => false
def noLs : List D → Bool
  | [] => true
  | d :: ds => noL d && noLs ds
end
mutual
theorem R.less {p : Option Addr} {G G' : Hp} (h : ∀ b o, G b = some o → (∀ xs, o ≠ .lst xs) → G' b = some o) : ∀ {v : V} {d : D}, R K p G v d → noL d = true → R K p G' v d
  | _, _, .non, _ => .non
  | _, _, .bl b, _ => .bl b
  | _, _, .int i, _ => .int i
  | _, _, .str x, _ => .str x
  | _, _, .lst _ _, n => by simp only [noL] at n; cases n
  | _, _, .tup q r, n => .tup (by
      rcases q with (q | ⟨o, q⟩) | q
      · exact .inl (.inl (h _ _ q fun xs z => nomatch z))
      · exact .inl (.inr ⟨o, h _ _ q fun xs z => nomatch z⟩)
      · exact .inr q) (RA.less h r (by simpa only [noL] using n))
  | _, _, .pen _ e, n => by subst e; simp only [noL] at n; cases n
  | _, _, .exc _ e, n => by subst e; simp only [noL] at n; cases n
  | _, _, .obj _ _ e, n => by subst e; simp only [noL] at n; cases n
  | _, _, .scr _ e, n => by subst e; simp only [noL] at n; cases n
theorem RA.less {p : Option Addr} {G G' : Hp} (h : ∀ b o, G b = some o → (∀ xs, o ≠ .lst xs) → G' b = some o) : ∀ {vs : List V} {ds : List D}, RA K p G vs ds → noLs ds = true → RA K p G' vs ds
  | _, _, .nil, _ => .nil
  | _, _, .cons q t, n => by
    unfold noLs at n
    rw [Bool.and_eq_true] at n
    exact .cons (R.less h q n.1) (RA.less h t n.2)
end
def wLend (w : WEx) : WEx := fun e Q x => w (lendE e) (fun d e' => noL d = true ∧ Q d { e with k := e'.k }) noX
theorem wLend.mono (m : Mono wa) : Mono (wLend wa) := fun e Q Q' x x' h1 h2 q => m _ _ _ _ _ (fun d e1 z => ⟨z.1, h1 _ _ z.2⟩) (fun _ _ z => z) q
/-- an expression that reads such lists and gives nothing of them away -/
theorem de_lend (h : ∀ G₀ H₀, DE X (inn F.p G₀ H₀) a wa) : DE X F a (wLend wa) := by
  have hr : PE X a (fun σ H Q => ∃ G₀ H₀, tE X.K (inn F.p G₀ H₀) wa σ H Q) := ⟨fun pins s σ H Q I ⟨G₀, H₀, q⟩ => (h G₀ H₀).run.run pins s σ H Q I q⟩
  have m := (h X.H_0 X.H_0).mono
  refine de_of hr (wLend.mono m) fun σ H Q ⟨e, G, r, q⟩ => ?_
  obtain ⟨α, r0⟩ := id r
  obtain ⟨s1, r1⟩ := r0.plus
  refine ⟨DL.plus G H e α, H, lendE e, DL.plus G H e α, r1.rebase lendE_own, m _ _ _ _ _ (fun d e1 z v G' H' s r' rv => ?_) (fun _ _ z => z.elim) q⟩
  obtain ⟨β, r2⟩ := id r'
  have held : ∀ b, heldAt e α b → ∃ xs, H b = some (.lst xs) ∧ G' b = some (.lst xs) ∧ G b = none ∧ F.H₀ b = none ∧ F.p ≠ some b := fun b hb => by
    obtain ⟨j, ds, hj, ej⟩ := id hb
    obtain ⟨xs, _, h2, h3, h4, h5, _⟩ := r0.own j ds hj
    rw [ej] at h2 h3 h4 h5
    exact ⟨xs, h2, s _ _ (by unfold DL.plus; rw [if_pos hb]; exact h2), h3, h4, h5⟩
  have sG : Same G (minus G' e α) := fun b u z => by
    unfold minus
    rw [if_neg (fun hb => by obtain ⟨_, _, _, n, _⟩ := held b hb; rw [z] at n; cases n)]
    exact s _ _ (s1 _ _ z)
  have sH : Same (minus G' e α) H' := fun b u z => by
    unfold minus at z
    split at z
    · cases z
    · exact r'.same _ _ z
  refine z.2 v (minus G' e α) H' sG (r.step (k' := e1.k) ⟨sG, r2.st.hh, fun b u z n => ?_, r2.st.pc⟩ ⟨sH, fun a ea => ?_⟩) (rv.less (fun b o z nl => ?_) z.1)
  · unfold minus
    split
    · rfl
    · rename_i hb
      refine r2.st.nn b u z ?_
      show DL.plus G H e α b = none
      unfold DL.plus
      rw [if_neg hb]
      exact n
  · obtain ⟨h1, c, xs, i, t, h2, h3, h4, h5, h6⟩ := r'.wd.pen a ea
    obtain ⟨_, c', xs', i', t', g2, g3, g4, _⟩ := r0.w.pen a ea
    obtain ⟨i2, t2, h2'⟩ := r2.st.pc a c' ea ⟨i', t', g2⟩
    rw [h2] at h2'
    cases h2'
    exact ⟨by unfold minus; split <;> first | rfl | exact h1, c, xs', i, t, h2, sG _ _ g3, g4, h5, h6⟩
  · unfold minus
    rw [if_neg (fun hb => by obtain ⟨ys, _, g', _⟩ := held b hb; rw [z] at g'; cases g'; exact nl _ rfl)]
    exact z
end

/-! #### statements that change them -/
section
variable {K : PySem.W.Frag} {F : Fx} {σ : L2.St} {H : Hp} {X : Cx} {pos : Pos} {a b : Expr} {es : List Expr} {wa wb : WEx} {wr : WAx} {sts : List Stmt} {ws : WSt}
def wRel (w : WSt) : WSt := fun e D => w (lendE e) D
theorem dss_rel (h : DSs X F sts ws) : DSs X F sts (wRel ws) := dss_of h.run (fun e A B l q => h.mono _ _ _ l q) fun D σ H ⟨e, G, r, q⟩ => by
  obtain ⟨α, r0⟩ := id r
  obtain ⟨s1, r1⟩ := r0.plus
  exact ⟨lendE e, _, r1, h.mono _ _ _ (endsOf.le s1) q⟩
def wOwn (i : Nat) (w : WAx) : WSt := fun e D => w e (fun ds e1 => D.nx (put e1 i (.own ds))) D.ex
theorem ds_own {i : Nat} {x : Str} {p2 : Pos} (h : DF X F a wr) (hN : X.N.Nodup) (hi : X.N[i]? = some x := by rfl) (hx : Loc X.env.scope x := by first | exact Or.inl rfl | exact Or.inr rfl) (hs : swapsWith a (some (.Name x p2)) pos.line X.env = pure false := by rfl)
    (hf : X.fn x = true ∨ X.env.scope.names.lookup x = some .local := by first | exact Or.inl rfl | exact Or.inr rfl) : DS X F (.Assign [.Name x p2] a pos) (wOwn i wr) :=
  ds_of (ps_set hN hi hx h.run hs hf) (fun e A B l q => h.mono e _ _ _ _ (fun _ _ z => l.nx _ z) l.ex q) fun D σ H ⟨e, G, r, q⟩ =>
    ⟨e, G, r, h.mono e _ _ _ _ (fun ds e1 z q xs G' H' s r' hq ra => z _ G' _ s (r'.own hq ra)) (fun y e' z C G' H' s r' ec => z C σ G' H' s r' ec) q⟩
def wApp (i : Nat) (w : WEx) : WSt := fun e D => (∃ ds, e.s[i]? = some (.own ds)) ∧ w e (fun d e1 => ∃ ds, e1.s[i]? = some (.own ds) ∧ ds.length < 1000 ∧ D.nx (put e1 i (.own (ds ++ [d])))) D.ex
theorem ds_app {i : Nat} {x : Str} {p1 p2 p3 : Pos} (h : DE X F a wa) (hv : PE X (.Name x p1) (tVar i)) (hs : starEach [a] X.env = (false, eval a X.env) :: starEach [] X.env := by rfl)
    (hpe : PE X (.Call (.Attribute (.Name x p1) "append" p2) [a] [] p3) (tBM X.K "list" rAppend (tVar i) (tCons (tE X.K F wa) tNil))) (hsw : swapsWith (.Call (.Attribute (.Name x p1) "append" p2) [a] [] p3) none pos.line X.env = pure false := by rfl) :
    DS X F (.Expr (.Call (.Attribute (.Name x p1) "append" p2) [a] [] p3) pos) (wApp i wa) :=
  ds_of (ps_expr hpe hsw) (fun e A B l q => ⟨q.1, h.mono e _ _ _ _ (fun d e1 ⟨ds, i1, i2, z⟩ => ⟨ds, i1, i2, l.nx _ z⟩) l.ex q.2⟩) fun D σ H ⟨e, G, r, ⟨ds0, h0⟩, q⟩ => by
    obtain ⟨α, r0⟩ := id r
    obtain ⟨xs, h1, h2, _⟩ := r0.own i ds0 h0
    refine ⟨.ref (α i), h1, .inl ⟨rfl, _, .inl (.inl h2)⟩, ?_⟩
    refine tE.mono h.mono (fun v H1 z => ?_) (tS.expr (k := fun D d e1 => ∃ ds, e1.s[i]? = some (.own ds) ∧ ds.length < 1000 ∧ D.nx (put e1 i (.own (ds ++ [d])))) (T := fun v H1 => ∃ e1 G1 d ds, Same G G1 ∧ Rl X.K F.p F.G₀ F.H₀ G1 H1 σ e1 ∧ R X.K F.p G1 v d ∧ e1.s[i]? = some (.own ds) ∧ ds.length < 1000 ∧ (endsOf X.K F G D).nx (put e1 i (.own (ds ++ [d])))) h.mono r q
      fun d e' v G' H' s r' rv ⟨ds, i1, i2, z⟩ => ⟨e', G', d, ds, s, r', rv, i1, i2, z⟩)
    obtain ⟨e1, G1, d, ds, s1, r1, rv, i1, i2, z⟩ := z
    obtain ⟨β, r2⟩ := id r1
    obtain ⟨ys, g1, g2, _, _, _, ra⟩ := r2.own i ds i1
    rw [h1] at g1
    have eb : α i = β i := by injection g1 with g1; injection g1 with g1; injection g1
    rw [← eb] at g2
    exact ⟨α i, ys, v, rfl, rfl, g2, by rw [ra.length]; exact Nat.lt_of_lt_of_le i2 (by decide), z σ G1 _ s1 (r1.mut i1 h1 (ra.append (.cons rv .nil)))⟩
def wIns (i : Nat) (wk w : WEx) : WSt := fun e D => (∃ ds, e.s[i]? = some (.own ds)) ∧ wk e (fun dk e1 => w e1 (fun d e2 => ∃ ds k, e2.s[i]? = some (.own ds) ∧ dk = .int k ∧ 0 ≤ k ∧ k < 1000 ∧ ds.length < 1000 ∧ D.nx (put e2 i (.own (ds.take k.toNat ++ [d] ++ ds.drop k.toNat)))) D.ex) D.ex
theorem ds_ins {i : Nat} {x : Str} {p1 p2 p3 : Pos} {t : V → List V → Hp → VK → Prop} (hk : DE X F b wb) (h : DE X F a wa)
    (ht : ∀ (l : Addr) (xs : List V) (k : Int) (y : V) (H : Hp) (Q : VK), H l = some (.lst xs) → xs.length < sizeLine → 0 ≤ k → k < 2 ^ 63 → Q .non (L2.upd H l (.lst (xs.take k.toNat ++ [y] ++ xs.drop k.toNat))) → t (.ref l) [.int k, y] H Q)
    (hpe : PE X (.Call (.Attribute (.Name x p1) "insert" p2) [b, a] [] p3) (tBM X.K "list" t (tVar i) (tCons (tE X.K F wb) (tCons (tE X.K F wa) tNil)))) (hsw : swapsWith (.Call (.Attribute (.Name x p1) "insert" p2) [b, a] [] p3) none pos.line X.env = pure false := by rfl) :
    DS X F (.Expr (.Call (.Attribute (.Name x p1) "insert" p2) [b, a] [] p3) pos) (wIns i wb wa) :=
  ds_of (ps_expr hpe hsw) (fun e A B l q => ⟨q.1, hk.mono e _ _ _ _ (fun dk e1 z => h.mono e1 _ _ _ _ (fun d e2 ⟨ds, k, i1, i2, i3, i4, i5, y⟩ => ⟨ds, k, i1, i2, i3, i4, i5, l.nx _ y⟩) l.ex z) l.ex q.2⟩) fun D σ H ⟨e, G, r, ⟨ds0, h0⟩, q⟩ => by
    obtain ⟨α, r0⟩ := id r
    obtain ⟨xs, h1, h2, _⟩ := r0.own i ds0 h0
    refine ⟨.ref (α i), h1, .inl ⟨rfl, _, .inl (.inl h2)⟩, ?_⟩
    refine tE.mono hk.mono (fun v H1 z => ?_) (tE.any hk.mono r (hk.mono e _ _ _ _ (fun _ _ z => z) (fun y e' z C G' H' s r' ec => z C σ G' H' s r' ec) q))
    obtain ⟨e1, G1, dk, s1, r1, rk, z⟩ := z
    refine tE.mono h.mono (fun v' H2 z => ?_) (tE.any h.mono r1 (h.mono e1 _ _ _ _ (fun _ _ z => z) (fun y e' z C G' H' s r' ec => z C σ G' H' (s1.trans s) r' ec) z))
    obtain ⟨e2, G2, d, s2, r2, rv, ds, k, i1, ek, i2, i3, i4, y⟩ := z
    subst ek
    obtain ⟨β, r3⟩ := id r2
    obtain ⟨ys, g1, g2, _, _, _, ra⟩ := r3.own i ds i1
    rw [h1] at g1
    have eb : α i = β i := by injection g1 with g1; injection g1 with g1; injection g1
    rw [← eb] at g2
    rw [rk.int_inv]
    exact ht _ ys k v' H2 _ g2 (by rw [ra.length]; exact Nat.lt_of_lt_of_le i4 (by decide)) i2 (by omega) (y σ G2 _ (s1.trans s2) (r2.mut i1 h1 (((ra.take _).append (.cons rv .nil)).append (ra.drop _))))
def wSetIx (i : Nat) (wk w : WEx) : WSt := fun e D => w e (fun d e1 => (∃ ds, e1.s[i]? = some (.own ds)) ∧ wk e1 (fun dk e2 => ∃ ds k j, e2.s[i]? = some (.own ds) ∧ dk = .int k ∧ ixN ds.length k = some j ∧ D.nx (put e2 i (.own (ds.set j d)))) D.ex) D.ex
theorem ds_setix {i : Nat} {x : Str} {p1 p2 : Pos} (hk : DE X F b wb) (h : DE X F a wa) (hv : PE X (.Name x p1) (tVar i))
    (ha : ∀ v, assign (.Subscript (.Name x p1) b p2) X.env v = (do
      let ov ← holding [v] (eval (.Name x p1) X.env)
      let iv ← holding [v, ov] (eval b X.env)
      standAt p2
      holding [v, ov,
            iv] (setItem ov iv v)
      release [v, ov, iv] []) := by intro _; rfl)
    (hs : swapsWithSole [.Subscript (.Name x p1) b p2] a pos.line X.env = pure false := by rfl) (hw : swappedStores [.Subscript (.Name x p1) b p2] a X.env = pure none := by rfl) (h1 : (assignEach [.Subscript (.Name x p1) b p2] X.env).map (·.2) = [assign (.Subscript (.Name x p1) b p2) X.env] := by rfl) :
    DS X F (.Assign [.Subscript (.Name x p1) b p2] a pos) (wSetIx i wb wa) :=
  ds_of (ps_asg h.run (pg_sub hv hk.run set_list ha) hs hw h1) (fun e A B l q => h.mono e _ _ _ _ (fun d e1 z => ⟨z.1, hk.mono e1 _ _ _ _ (fun dk e2 ⟨ds, k, j, i1, i2, i3, y⟩ => ⟨ds, k, j, i1, i2, i3, l.nx _ y⟩) l.ex z.2⟩) l.ex q) fun D σ H ⟨e, G, r, q⟩ => by
    refine tE.mono h.mono (fun v H1 z => ?_) (tE.any h.mono r (h.mono e _ _ _ _ (fun _ _ z => z) (fun y e' z C G' H' s r' ec => z C σ G' H' s r' ec) q))
    obtain ⟨e1, G1, d, s1, r1, rv, ⟨ds0, h0⟩, z⟩ := z
    obtain ⟨α, r0⟩ := id r1
    obtain ⟨xs, g1, g2, _⟩ := r0.own i ds0 h0
    refine ⟨.ref (α i), g1, ?_⟩
    refine tE.mono hk.mono (fun v' H2 z => ?_) (tE.any hk.mono r1 (hk.mono e1 _ _ _ _ (fun _ _ z => z) (fun y e' z C G' H' s r' ec => z C σ G' H' (s1.trans s) r' ec) z))
    obtain ⟨e2, G2, dk, s2, r2, rk, ds, k, j, i1, ek, i2, z⟩ := z
    subst ek
    obtain ⟨β, r3⟩ := id r2
    obtain ⟨ys, q1, q2, _, _, _, ra⟩ := r3.own i ds i1
    rw [g1] at q1
    have eb : α i = β i := by injection q1 with q1; injection q1 with q1; injection q1
    rw [← eb] at q2
    exact ⟨α i, ys, k, j, rfl, rk.int_inv, q2, by rw [ra.length]; exact i2, z σ G2 _ (s1.trans s2) (r2.mut i1 g1 (ra.set (rv.mono s2) j))⟩
/-! ### a, b = e -/
def wAsg (g : WG) (w : WEx) : WSt := fun e D => w e (fun d e1 => g d e1 D.nx) D.ex
theorem ds_asg {tg : Expr} {g : WG} (h : DE X F a wa) (hg : DG X F tg g) (hs : swapsWithSole [tg] a pos.line X.env = pure false := by rfl) (hw : swappedStores [tg] a X.env = pure none := by rfl) (h1 : (assignEach [tg] X.env).map (·.2) = [assign tg X.env] := by rfl) : DS X F (.Assign [tg] a pos) (wAsg g wa) :=
  ds_of (ps_asg h.run hg.run hs hw h1) (fun e A B l q => h.mono e _ _ _ _ (fun d e1 z => hg.mono _ _ _ _ l.nx z) l.ex q) fun D σ H ⟨e, G, r, q⟩ =>
    ⟨e, G, r, h.mono e _ _ _ _ (fun d e1 z v G' H' s r' rv => ⟨e1, G', d, r', rv, hg.mono _ _ _ _ (fun e2 y σ' H2 r2 => y σ' G' H2 s r2) z⟩) (fun y e' z C G' H' s r' ec => z C σ G' H' s r' ec) q⟩
/-- a, b = x, y -/
def wPar (i j : Nat) (wa wb : WEx) : WSt := fun e D => wa e (fun d e1 => wb e1 (fun d' e2 => D.nx (put (put e2 i (.dat d)) j (.dat d'))) D.ex) D.ex
theorem ds_par {i j : Nat} {x y : Str} {px py pt : Pos} {kt k2 pt2} (hc : X.calm = true) (hN : X.N.Nodup) (h : DE X F a wa) (h' : DE X F b wb) (hij : i ≠ j) (hw : swappedStores [.Tuple [.Name x px, .Name y py] kt pt] (.Tuple [a, b] k2 pt2) X.env = pure (some [x, y]))
    (hi : X.N[i]? = some x := by rfl) (hj : X.N[j]? = some y := by rfl) (hx : X.env.scope.names.lookup x = some .local := by rfl) (hy : X.env.scope.names.lookup y = some .local := by rfl)
    (hs : swapsWithSole [.Tuple [.Name x px, .Name y py] kt pt] (.Tuple [a, b] k2 pt2) pos.line X.env = pure false := by rfl) (s1 : starEach [a, b] X.env = (false, eval a X.env) :: starEach [b] X.env := by rfl) (s2 : starEach [b] X.env = (false, eval b X.env) :: starEach [] X.env := by rfl) :
    DS X F (.Assign [.Tuple [.Name x px, .Name y py] kt pt] (.Tuple [a, b] k2 pt2) pos) (wPar i j wa wb) :=
  ds_of (ps_par hc hN hi hj hij hx hy (pa_cons h.run (pa_cons h'.run pa_nil s2) s1) hw hs) (fun e A B l q => h.mono e _ _ _ _ (fun d e1 z => h'.mono e1 _ _ _ _ (fun _ _ y => l.nx _ y) l.ex z) l.ex q) fun D σ H ⟨e, G, r, q⟩ => by
    refine tE.mono h.mono (fun v H1 z => ?_) (tE.any h.mono r (h.mono e _ _ _ _ (fun _ _ z => z) (fun y e' z C G' H' s r' ec => z C σ G' H' s r' ec) q))
    obtain ⟨e1, G1, d, s1, r1, rv, z⟩ := z
    refine tE.mono h'.mono (fun v' H2 z => ?_) (tE.any h'.mono r1 (h'.mono e1 _ _ _ _ (fun _ _ z => z) (fun y e' z C G' H' s r' ec => z C σ G' H' (s1.trans s) r' ec) z))
    obtain ⟨e2, G2, d', s2, r2, rv', z⟩ := z
    exact ⟨v, v', rfl, z _ G2 H2 (s1.trans s2) ((r2.put (rv.mono s2)).put rv')⟩
end
end L2.DL


set_option
      maxHeartbeats 1000000
namespace L2.DL
open PySem PySem.Spec
      PyProof.Rows

/-! ### isinstance -/
def tyN : D → String
  | .none => "NoneType"
  | .bool _ => "bool"
  | .int _ => "int"
  | .str _ => "str"
  | .list _ => "list"
  | .tuple _ => "tuple"
  | .dict _ => ""
def isi (T : String) (d : D) : Option Bool := if d.hasDict = true then none else kitB (tyN d) T
def wIsi (T : String) (w : WEx) : WEx := fun e Q x => w e (fun d e1 => ∃ b, kitB (tyN d) T = some b ∧ (∀ kv, d ≠ .dict kv) ∧ Q (.bool b) e1) x
section
variable {K : PySem.W.Frag} {F : Fx} {σ : L2.St} {H : Hp} {X : Cx} {pos : Pos} {a b : Expr} {es : List Expr} {wa wb : WEx} {wr : WAx}
theorem wIsi.mono {T : String} (m : Mono wa) : Mono (wIsi T wa) := fun e Q Q' x x' h1 h2 q => m e _ _ _ _ (fun d e1 ⟨b, i1, i2, z⟩ => ⟨b, i1, i2, h1 _ _ z⟩) h2 q
theorem R.ty {p : Option Addr} {G : Hp} {v : V} {d : D} (s : Same G H) (r : R K p G v d) (h : ∀ kv, d ≠ .dict kv) : TyX K H v (.type (tyN d)) := by
  cases r with
  | non => exact .base .non
  | bl b => exact .base (.bl b)
  | int i => exact .base (.int i)
  | str x => exact .base (.str x)
  | lst g _ => exact .base (.lst (s _ _ g))
  | tup g _ =>
    rcases g with (g | ⟨o, g⟩) | ⟨o, _, _, hk, hc, _⟩
    · exact .base (.tup (s _ _ g))
    · exact .fTuple (s _ _ g)
    · exact .kTuple hk hc
  | pen _ e => exact absurd e (h _)
  | exc _ e => exact absurd e (h _)
  | obj _ _ e => exact absurd e (h _)
  | scr _ e => exact absurd e (h _)
theorem de_isi {T : String} {x : Str} {p1 p2 : Pos} (h : DE X F a wa) (hm : X.mg "isinstance" = none) (hT : X.mg x = none) (hv2 : bootBuiltins x = some (.type T)) (hg : Gl X "isinstance" := by rfl) (hgT : Gl X x := by rfl) (hv : bootBuiltins "isinstance" = some (.builtin "isinstance") := by decide +kernel)
    (hn : x ≠ "__name__" := by decide) (hd : (x == ("__debug__" : Str)) = false := by decide) (hs : starEach [a, .Name x p2] X.env = (false, eval a X.env) :: starEach [.Name x p2] X.env := by rfl) (hs2 : starEach [.Name x p2] X.env = (false, eval (.Name x p2) X.env) :: starEach [] X.env := by rfl)
    (hpl : (backTo pos (starEach [.Name x p2] X.env)).any (·.1) = false := by rfl) : DE X F (.Call (.Name "isinstance" p1) [a, .Name x p2] [] pos) (wIsi T wa) :=
  de_of (pe_callB call_isi hg hm hv (pa_cons h.run (pa_cons (pe_bltn (v := .ty T) hgT hT hv2 rfl hn hd) pa_nil hs2) hs) (by decide) (by decide) hs hpl) (wIsi.mono h.mono) fun σ H Q ⟨e, G, r, q⟩ =>
    ⟨e, G, r, h.mono e _ _ _ _ (fun d e1 ⟨b, i1, i2, z⟩ v G' H' s r' rv => ⟨v, .ty T, .type (tyN d), .type T, b, rfl, .ty T, rv.ty r'.same i2, kit_ty i1, z _ G' H' s r' (.bl b)⟩) (fun _ _ z => z) q⟩
/-- isinstance(e, C), e an error -/
def wIsC (K : PySem.W.Frag) (c : Value) (w : WEx) : WEx := fun e Q x => w e (fun d e1 => ∃ C b, d = excD C ∧ ExcC K C ∧ PySem.W.kitOne K (.ref C) c = some b ∧ Q (.bool b) e1) x
theorem wIsC.mono {K : PySem.W.Frag} {c : Value} (m : Mono wa) : Mono (wIsC K c wa) := fun e Q Q' x x' h1 h2 q => m e _ _ _ _ (fun d e1 ⟨C, b, i1, i2, i3, z⟩ => ⟨C, b, i1, i2, i3, h1 _ _ z⟩) h2 q
def rIsX (K : PySem.W.Frag) : List V → Hp → VK → Prop := fun xs H Q => ∃ (a C : Addr) (c : V) (cv : Value) (b : Bool), xs = [.ref a, c] ∧ H a = some (ExC C a) ∧ ExcC K C ∧ (∀ u, RelV c u → u = cv) ∧ PySem.W.kitOne K (.ref C) cv = some b ∧ Q (.bl b) H
theorem call_isX : CallR X (.builtin "isinstance") (rIsX X.K) := by
  intro pins s σ
        H xs us Q I r h
  obtain ⟨a, C, c, cv, b, rfl, ha, hC, hc, hk, q⟩ := h
  obtain ⟨u1, u2, rfl,
        r1, r2⟩ := vals2 r
  have e2 := hc _ r2
  subst e2
  cases (show u1 =
        Value.ref a from r1)
  obtain ⟨⟨oe, vs, ho, hz, hd⟩, _, _⟩ := I.hok a _ ha
  have J : PySem.W.InstAt s.heap a oe C none := by
    obtain ⟨c1, c2, c3, c4⟩ := oe
    obtain ⟨h1, h2⟩ := hz
    dsimp only at h1 h2 hd
    subst h1 h2 hd
    exact ⟨ho, rfl, rfl, trivial⟩
  exact PySem.W.kia_one (PySem.W.handS_kitx_exc hC.hg hC.hk hC.hs hC.hd hC.ha hC.hn hC.ht hC.hm) I.kIn J hk (fun z => nomatch z) fun tk => ⟨.bl b, H, I.kept (t' := tk) fun _ _ z => z, rfl, q⟩
theorem de_isC {x : Str} {c : V} {cv : Value} {p1 p2 : Pos} (h : DE X F a wa) (hm : X.mg "isinstance" = none) (hc : PE X (.Name x p2) (tC c)) (hcv : ∀ u, RelV c u → u = cv) (hg : Gl X "isinstance" := by rfl) (hv : bootBuiltins "isinstance" = some (.builtin "isinstance") := by decide +kernel)
    (hs : starEach [a, .Name x p2] X.env = (false, eval a X.env) :: starEach [.Name x p2] X.env := by rfl) (hs2 : starEach [.Name x p2] X.env = (false, eval (.Name x p2) X.env) :: starEach [] X.env := by rfl)
    (hpl : (backTo pos (starEach [.Name x p2] X.env)).any (·.1) = false := by rfl) : DE X F (.Call (.Name "isinstance" p1) [a, .Name x p2] [] pos) (wIsC X.K cv wa) :=
  de_of (pe_callB call_isX hg hm hv (pa_cons h.run (pa_cons hc pa_nil hs2) hs) (by decide) (by decide) hs hpl) (wIsC.mono h.mono) fun σ H Q ⟨e, G, r, q⟩ =>
    ⟨e, G, r, h.mono e _ _ _ _ (fun d e1 ⟨C, b, i1, i2, i3, z⟩ v G' H' s r' rv => by
      rw [i1] at rv
      obtain ⟨a, rfl, ha⟩ := rv.exc_inv
      exact ⟨a, C, c, cv, b, rfl, r'.same _ _ ha, i2, hcv, i3, z _ G' H' s r' (.bl b)⟩) (fun _ _ z => z) q⟩
/-! ### sorted of ints, count and index of flat things -/
def sortedD : BL
  | [.list xs], P => ∃ ns : List Int, xs = ns.map PyData.int ∧ ∀ ns' : List Int, ns'.Perm ns → ns'.Pairwise (· ≤ ·) → P (.list (ns'.map PyData.int))
  | _, _ => False
theorem sortedD.mono : BL.Mono sortedD := by
  intro a P P' h q
  unfold sortedD at q ⊢
  split at q
  · obtain ⟨ns, e, z⟩ := q
    exact ⟨ns, e, fun ns' p1 p2 => h _ (z ns' p1 p2)⟩
  · exact q.elim
theorem RA.ofInts {p : Option Addr} {G : Hp} : ∀ {ns : List Int} {xs : List V}, RA K p G xs (ns.map PyData.int) → xs = ns.map V.int
  | [], _, h => by cases h; rfl
  | n :: ns, _, h => by
    cases h with
    | cons h t => rw [RA.ofInts t, h.int_inv]; rfl
theorem RA.toInts {p : Option Addr} {G : Hp} : ∀ ns : List Int, RA K p G (ns.map V.int) (ns.map PyData.int)
  | [] => .nil
  | n :: ns => .cons (.int n) (RA.toInts ns)
theorem fitsSorted : FitsL K sortedD (rSortedI K) := by
  intro p G₀ H₀ G H σ e xs ds P Q r ra q k
  unfold sortedD at q
  split at q
  · obtain ⟨x, rfl, rx⟩ := ra.one
    obtain ⟨a, ys, rfl, h1, r1⟩ := rx.lst_inv
    obtain ⟨ns, e1, z⟩ := q
    subst e1
    have ey := r1.ofInts
    subst ey
    exact ⟨a, ns, rfl, SqL.of (r.same _ _ h1), fun ns' l p1 p2 hl => ansL r (RA.toInts ns') k (z ns' p1 p2) hl⟩
  · exact q.elim
/-! ### raise -/
def wRaise (C : Addr) : WSt := fun e D => D.ex (excD C) e
theorem ds_raise {C : Addr} {bmB : List Value} {B newId initId : String} {x m : Str} {j : Nat} {p1 p2 p3 : Pos} (hc : X.calm = true) (tk : Takes X F.W) (FB : ExcBaseFacts B newId initId bmB) (q : PySem.W.excIn X.K C bmB newId = true) (gC : X.mg x = some (.ref C)) (kC : PySem.W.keepIn X.K (.ref C) = true)
    (r : Raises X (.ref C)) (hg : Gl X x := by rfl) (hdb : (x == ("__debug__" : Str)) = false := by decide) : DS X F (.Raise (some (.Call (.Name x p1) [.Constant (.str m) j p2] [] p3)) none pos) (wRaise C) :=
  ds_of (ps_raise hc tk (pmk_own FB q gC kC r hg hdb)) (fun e A B l q => l.ex _ _ q) fun D σ H ⟨e, G, r, q⟩ => q C σ G H (Same.refl G) r rfl
end
end L2.DL


set_option
      maxHeartbeats 2000000
namespace L2.DL
open PySem PySem.Spec
      PyProof.Rows

/-! ### try: body, except X as n: m = n; the error stays known behind it -/
section
variable {X : Cx} {pins : List (Addr ×
      Obj)} {σ : L2.St} {H : Hp} {s : Shared}
/-- an object of ours that nothing speaks of is told anew -/
theorem inv_told {a : Addr} {o : HO} (I : Inv X pins σ H s) (n : H a = none) (n0 : X.s_0.heap.get? a = none) (nl : a ≠ X.env.locals) (nc : ∀ x c, X.env.cells.lookup x = some c → c ≠ a) (np : ∀ p ∈ X.pn ++ pins, p.1 ≠ a) (new : ObjOk X.prog X.w (L2.upd H a o) s.heap a o) :
    Inv X pins σ (L2.upd H a o) s where
  ok := I.ok
  os := I.os
  bare := I.bare
  base := {
    keep := I.base.keep
    slot := I.base.slot
    free := fun b ob e h hx => by rw [upd_ne (fun z => by rw [z, n0] at e; cases e)]; exact I.base.free b ob e h hx
    there := I.base.there
    tups := fun b xs e => by have q := I.base.tups b xs e; rw [upd_ne (ne_of_none q n)]; exact q
    frzs := fun b ob u e => by have q := I.base.frzs b ob u e; rw [upd_ne (ne_of_none q n)]; exact q
    tbls := fun b ps e => by obtain ⟨m, q⟩ := I.base.tbls b ps e; exact ⟨m, by rw [upd_ne (ne_of_none q n)]; exact q⟩ }
  loc := I.loc
  cell := I.cell
  free := by rw [upd_ne (Ne.symm nl)]; exact I.free
  freeC := fun x c e => by rw [upd_ne (nc x c e)]; exact I.freeC x c e
  pin := fun p hp => by
    obtain ⟨h1, h2, h3, h4, h5⟩ := I.pin p hp
    exact ⟨h1, by rw [upd_ne (np p hp)]; exact h2, h3, h4, h5⟩
  hok := I.hok.laidN (fun _ _ z => z) n new
  len := I.len
variable {x n m : Str} {i j : Nat} {CR : Value} {body : List Stmt} {np np2 mp ap pos pos' : Pos} {tb : WX → TS} {Wo : WX}
/-- what is wished of an error in the body -/
def wKeep (K : PySem.W.Frag) (CR : Value) (i j : Nat) (D : Ends) : WX := fun cls od σ H => ∃ C, cls = .ref C ∧ od = none ∧ PySem.W.exmOne K cls CR = some true ∧ ∀ a, H a = none → D.nx (((σ.set i (some (.ref a))).set j (some (.ref a))).set i none) (L2.upd H a (ExC C a))
theorem ps_keep (hs : X.stack = X.env :: X.outer) (hf : X.env.frame = some X.env.locals) (hex : X.ex = []) (hN : X.N.Nodup) (hi : X.N[i]? = some n) (hj : X.N[j]? = some m) (hln : X.env.kindOf n = some .local) (hlm : X.env.kindOf m = some .local) (hc : Names X x CR)
    (hd : (n == ("__debug__" : Str)) = false) (hcd : (n == ("__classdict__" : Str)) = false) (hsw : ∀ a pn, swapsWith (.Name n np2) (some (.Name m mp)) ap.line (X.suite a pn).env = pure false)
    (hb : ∀ (W : WX) (pn : List (Addr × Obj)) (xe : Value → Shared → Prop), Takes (X.tr pn xe) W → PassesOwn (model X.prog X.w) X.A X.env xe → PSs (X.tr pn xe) body (tb W)) :
    PS X (.Try body [.ExceptHandler (some (.Name x np)) (some n) [.Assign [.Name m mp] (.Name n np2) ap] pos'] [] [] pos) (fun D σ H => tb (wKeep X.K CR i j D) D σ H) := by
  constructor
  intro pins s σ H D I h
  have ok := I.ok
  have hfr : X.A.frames = some (X.env :: X.outer) :=
        by rw [ok.frames, hs]
  apply wpAny_Try_except
  have run := (hb (wKeep X.K CR i j D) (X.pn ++ pins) (fun e s₁ => wpAny (model X.prog X.w) X.A (noteFrame e X.env) (fun _ s₂ => wpAny (model X.prog X.w) X.A (setFlight e none)
    (fun _ s₃ => wpAny (model X.prog X.w) X.A (handleBy e X.env [.ExceptHandler (some (.Name x np)) (some n) [.Assign [.Name m mp] (.Name n np2) ap] pos']) (SP X pins D) X.xe s₃) X.xe s₂) X.xe s₁) ?_ PassesOwn.looking).run [] s σ H D (I.toTry _) h
  · refine wpAny_mono run ?_ fun _ _ z => z
    intro f s1 z
    cases f with
    | next => obtain ⟨σ', H', J, q⟩ := z; exact wpAny_execs_nil ⟨σ', H', J.ofTry ok, q⟩
    | brk => obtain ⟨σ', H', J, q⟩ := z; exact ⟨σ', H', J.ofTry ok, q⟩
    | cont => obtain ⟨σ', H', J, q⟩ := z; exact ⟨σ', H', J.ofTry ok, q⟩
    | ret u => obtain ⟨v, σ', H', J, rv, q⟩ := z; exact ⟨v, σ', H', J.ofTry ok, rv, q⟩
  · -- an error comes
    intro u s' xx
    obtain ⟨a, B, sI, pins', σ', H', cls, d, rfl, J', nb, up, sky, na, os, ag, C, rfl, rfl, hm, hq⟩ := xx
    have J : Inv X pins σ' H' sI :=
          J'.ofTry ok
    rw [show (X.tr (X.pn ++ pins) _).stack = X.env :: X.outer from hs] at sky
    show wpAny (model X.prog X.w) X.A
          (noteFrame (.ref a) X.env) _ _ _
    apply Sky.land Zc.steady hfr hf sky
    intro h3 fl3 up3
    have J3 : Inv X pins σ' H' { s' with heap :=
          h3 } := J.landed nb fl3.1 (up.trans up3) os ag
    obtain ⟨oe3, vs3, he3,
          hz3, hd3⟩ := fl3.there
    have nfr : a ∉ frs (X.env :: X.outer) := by
      intro hmem
      obtain ⟨_, o', e', hnf⟩ := fl3.2.2.1.mem hmem
      rw [he3] at e'
      cases e'
      exact hnf _ hd3
    have nL : a ≠ X.env.locals := fun z =>
          nfr (List.mem_filterMap.mpr ⟨X.env, List.mem_cons_self, by rw [hf, z]⟩)
    have nF : a ∉ X.fs := by
      intro hmem
      obtain ⟨e, he, q⟩ := List.mem_filterMap.mp hmem
      exact nfr (List.mem_filterMap.mpr ⟨e,
            List.mem_cons_of_mem _ he, q⟩)
    have nB : B.get? a = none := fl3.2.1
    have young : ∀ b o, sI.heap.get? b = some o → b ∉ frs X.stack → b ≠ a := fun b o e hb z => by
      have q := nb b o e hb
      rw [z, nB] at q; cases q
    have n0 : X.s_0.heap.get?
          a = none := by
      cases e :
            X.s_0.heap.get? a with
      | none => rfl
      | some o =>
        obtain ⟨o', e'⟩ := J.base.there a o e (by rw [hex]; simp)
        exact absurd rfl (young a o' e' (by rw [hs]; exact nfr))
    have nP : ∀ p ∈ X.pn ++ pins, p.1 ≠ a := fun p hp => by
      obtain ⟨e, _, ne, nf, _⟩ := J.pin p hp
      refine young _ _ e fun hb => ?_
      rcases List.mem_cons.mp (J.stkSub p.1 hb) with z | z
      · exact ne z
      · exact nf z
    have S3 :=
          J3.suite he3 hd3 na nL nF
    apply wpAny_handleBy_cons (codeAny_handlers_test ?_) (by intro q; cases q)
    have LT : PySem.W.Looks (model X.prog X.w) h3 (typeOf (.ref a)) (.ref C) := fun A Q E s k q => wpAny_typeOf_ref (k _ _ he3) (by rw [hz3.1]; exact q)
    have LM := PySem.W.exm_one (M := model X.prog X.w) J3.kIn LT hm
    have named : ∀ {Q : Value → Shared → Prop} {E : Value → Shared → Prop}, Q CR { s' with heap := h3 } → wpAny (model X.prog X.w) (X.A.mark (some (.ref a))) (eval (.Name x np) X.env) Q E { s' with heap := h3 } := by
      intro Q E q
      obtain ⟨hg, hdbg,
            hm | ⟨hm, hv, hnn⟩⟩ := hc
      · exact ld_glob (X := X.suite a ((a,
            oe3) :: (X.pn ++ pins))) S3 hg hm q hdbg
      · exact ld_blt (X := X.suite a ((a,
            oe3) :: (X.pn ++ pins))) S3 hg hm hv q hnn hdbg
    apply named
    apply LM.here
    apply codeAny_handlers_suite_as
    apply HandSPX.lands_againZ fl3
    intro h4 fl4 up4
    have J4 : Inv X pins σ' H' { s' with heap := h4 } :=
          J.landed nb fl4.1 ((up.trans up3).trans up4) os ag
    obtain ⟨oe4, vs4, he4,
          hz4, hd4⟩ := fl4.there
    have S4 :=
          J4.suite he4 hd4 na nL nF
    refine store_ok (X := X.suite a ((a, oe4) :: (X.pn ++ pins))) (v := .ref a) S4 hN hi (.inl hln) rfl (fun s5 S5 => ?_) (.inr hln)
    have st : PSs (X.suite a ((a, oe4) :: (X.pn ++ pins))) [.Assign [.Name m mp] (.Name n np2) ap] (tAsg (tVar i) (gName j)) :=
      pss_one (ps_set (X := X.suite a ((a, oe4) :: (X.pn ++ pins))) hN hj (.inl hlm) (pe_var hi (.inl hln) hd hcd) (hsw _ _) (.inr hlm))
    have hlen : i < σ'.length := by rw [J.len]; exact (List.getElem?_eq_some_iff.mp hi).1
    refine wpAny_mono (st.run [] s5 _ H' { nx := fun σ6 H6 => σ6 = (σ'.set i (some (.ref a))).set j (some (.ref a)) ∧ H6 = H', rt := fun _ _ => False } S5 ⟨.ref a, List.getElem?_set_self hlen, rfl, rfl⟩) ?_ fun _ _ z => z.elim
    intro f s6 z
    cases f with
    | brk => obtain ⟨_, _, _, q⟩ := z; exact q.elim
    | cont => obtain ⟨_, _, _, q⟩ := z; exact q.elim
    | ret u => obtain ⟨_, _, _, _, _, q⟩ := z; exact q.elim
    | next =>
      obtain ⟨σ6, H6, S6, rfl, rfl⟩ := z
      have J6 : Inv X (pins ++ [(a, oe4)]) ((σ'.set i (some (.ref a))).set j (some (.ref a))) H6 s6 :=
        ⟨ok, S6.os, S6.bare, S6.base, S6.loc, S6.cell, S6.free, S6.freeC, fun p hp => S6.pin p (by
          have : p ∈ (a, oe4) :: (X.pn ++ pins) := by
            rcases List.mem_append.mp
                  hp with z | z
            · exact List.mem_cons_of_mem _ (List.mem_append_left _ z)
            · rcases List.mem_append.mp z with z | z
              · exact List.mem_cons_of_mem _ (List.mem_append_right _ z)
              · rw [List.mem_singleton.mp
                    z]; exact List.mem_cons_self
          exact List.mem_append_left _ this), S6.hok, S6.len⟩
      refine gone_ok J6 hN hi hln fun s7 J7 => ?_
      obtain ⟨p1, p2, p3, p4, p5⟩ := J7.pin (a, oe4) (List.mem_append_right _ (List.mem_append_right _ (List.mem_singleton.mpr rfl)))
      have J8 : Inv X pins _ H6 s7 := J7.pins_of fun p hp => J7.pin p (List.mem_append_right _ (List.mem_append_left _ hp))
      refine ⟨_, _, inv_told (a := a) (o := ExC C a) J8 p2 n0 nL (fun y c e z => ?_) nP ⟨⟨oe4, vs4, p1, hz4, hd4⟩, ⟨oe4, p1⟩, fun h1 h2 ⟨oe, vs, q1, q2⟩ k => ⟨oe, vs, k _ q1, q2⟩⟩, hq a na⟩
      obtain ⟨v, o, ho, hv⟩ := J8.cell y c e
      rw [z, p1] at ho
      cases ho
      exact p5 v hv
end
def putUn (e : En) (i : Nat) : En := { e with s := e.s.set i .un }
section
variable {K : PySem.W.Frag} {F : Fx} {σ : L2.St} {H : Hp} {X : Cx} {x n m : Str} {i j : Nat} {CR : Value} {body : List Stmt} {np np2 mp ap pos pos' : Pos} {wb : WSt}
theorem Rl.un {p : Option Addr} {G₀ H₀ G : Hp} {e : En} {i : Nat} {z : Option V} (r : Rl K p G₀ H₀ G H σ e) : Rl K p G₀ H₀ G H (σ.set i z) (putUn e i) := by
  obtain ⟨α, r⟩ := r
  have ne : ∀ {j : Nat} {q : Slot}, (e.s.set i .un)[j]? = some q → q ≠ .un → j ≠ i ∧ e.s[j]? = some q := fun {j q} h hq => by
    by_cases hj : i = j
    · subst hj
      by_cases hl : i < e.s.length
      · rw [List.getElem?_set_self hl] at h; cases h; exact absurd rfl hq
      · rw [List.getElem?_eq_none (by simpa using hl)] at h; cases h
    · rw [List.getElem?_set_ne hj] at h
      exact ⟨Ne.symm hj, h⟩
  refine ⟨α, r.w, r.st, by simpa [putUn] using r.len, fun j d h => ?_, fun j ds h => ?_, fun j k ds es h1 h2 => r.sep j k ds es (ne h1 (fun z => nomatch z)).2 (ne h2 (fun z => nomatch z)).2⟩
  · obtain ⟨hj, h'⟩ := ne h (fun z => nomatch z)
    rw [List.getElem?_set_ne (Ne.symm hj)]
    exact r.dat j d h'
  · obtain ⟨hj, h'⟩ := ne h (fun z => nomatch z)
    rw [List.getElem?_set_ne (Ne.symm hj)]
    exact r.own j ds h'
def wTry (K : PySem.W.Frag) (CR : Value) (i j : Nat) (wb : WSt) : WSt := fun e D => wb e { D with ex := fun y e' => ∃ C, y = excD C ∧ PySem.W.exmOne K (.ref C) CR = some true ∧ D.nx (putUn (put (putUn e' i) j (.dat y)) i) }
theorem excD_inj {C C' : Addr} (h : excD C = excD C') : C = C' := by
  injection h with e
  injection e with e _
  injection e with _ e
  injection e with e
  exact Int.ofNat.inj e
theorem ds_try (hs : X.stack = X.env :: X.outer) (hf : X.env.frame = some X.env.locals) (hex : X.ex = []) (hN : X.N.Nodup) (hc : Names X x CR)
    (hb : ∀ (W : WX) (pn : List (Addr × Obj)) (xe : Value → Shared → Prop), Takes (X.tr pn xe) W → PassesOwn (model X.prog X.w) X.A X.env xe → DSs (X.tr pn xe) { F with W := W } body wb)
    (hi : X.N[i]? = some n := by rfl) (hj : X.N[j]? = some m := by rfl) (hln : X.env.kindOf n = some .local := by rfl) (hlm : X.env.kindOf m = some .local := by rfl) (hd : (n == ("__debug__" : Str)) = false := by decide) (hcd : (n == ("__classdict__" : Str)) = false := by decide)
    (hsw : ∀ a pn, swapsWith (.Name n np2) (some (.Name m mp)) ap.line (X.suite a pn).env = pure false := by intros; rfl) :
    DS X F (.Try body [.ExceptHandler (some (.Name x np)) (some n) [.Assign [.Name m mp] (.Name n np2) ap] pos'] [] [] pos) (wTry X.K CR i j wb) := by
  have mb : MonoS wb := (hb (fun _ _ _ _ => False) [] (fun _ _ => False) takes0 PassesOwn.never).mono
  refine ds_of (ps_keep (tb := fun W => tS X.K { F with W := W } wb) hs hf hex hN hi hj hln hlm hc hd hcd hsw (fun W pn xe tk po => (hb W pn xe tk po).run)) (fun e A B l q => ?_) fun D σ H q => ?_
  · exact mb e { A with ex := fun y e' => ∃ C, y = excD C ∧ PySem.W.exmOne X.K (.ref C) CR = some true ∧ A.nx (putUn (put (putUn e' i) j (.dat y)) i) } _ ⟨l.nx, l.rt, l.bk, l.ct, fun y e' ⟨C, e1, e2, z⟩ => ⟨C, e1, e2, l.nx _ z⟩⟩ q
  · obtain ⟨e, G, r, q⟩ := q
    refine ⟨e, G, r, mb e { endsOf X.K F G D with ex := fun y e' => ∃ C, y = excD C ∧ PySem.W.exmOne X.K (.ref C) CR = some true ∧ (endsOf X.K F G D).nx (putUn (put (putUn e' i) j (.dat y)) i) } _ ⟨fun _ z => z, fun _ _ z => z, fun _ z => z, fun _ z => z, fun y e' ⟨C, e1, e2, z⟩ C' σ' G' H' s r' e3 => ?_⟩ q⟩
    have ec : C = C' := excD_inj (e1.symm.trans e3)
    subst ec
    refine ⟨C, rfl, rfl, e2, fun a ha => z _ (L2.upd G' a (ExC C a)) _ (s.trans (sameNew r'.same ha)) ?_⟩
    exact (((r'.new ha).un (i := i) (z := some (.ref a))).put (i := j) (.exc upd_same e1)).un
end
end L2.DL


set_option
      maxHeartbeats 1000000
namespace L2.DL
open PySem PySem.Spec
      PyProof.Rows

/-! ### a def over data -/
def enOf (N : List Str) (ds : List D) (k : Nat) : En := ⟨ds.map .dat ++ List.replicate (N.length - ds.length) .un, k⟩
abbrev defEnds (Q x : D → Nat → Prop) : DEnds := ⟨fun e => Q .none e.k, fun d e => Q d e.k, fun _ => False, fun _ => False, fun d e => x d e.k⟩
section
variable {P : Program} {w : World} {K :
      PySem.W.Frag} {mg : Str → Option Value} {base : Heap}
theorem Rl.start {p : Option Addr} {G H : Hp} {N : List Str} {vs : List V} {ds : List D} {k : Nat} (wd : Wd K p k G H) (ra : RA K p G vs ds) : Rl K p G H G H (L2.start N vs) (enOf N ds k) := by
  have dat : ∀ {i : Nat} {q : Slot}, (ds.map Slot.dat ++ List.replicate (N.length - ds.length) Slot.un)[i]? = some q → q = .un ∨ ∃ d, ds[i]? = some d ∧ q = .dat d := fun {i q} h => by
    by_cases hi : i < ds.length
    · rw [List.getElem?_append_left (by simpa using hi), List.getElem?_map] at h
      cases e : ds[i]? with
      | none =>
            rw [e] at h; cases h
      | some d => rw [e] at h; cases h; exact .inr ⟨d, rfl, rfl⟩
    · rw [List.getElem?_append_right (by simpa using hi), List.getElem?_replicate] at h
      split at h
      · cases h; exact .inl rfl
      · cases h
  refine ⟨fun _ => 0, wd, Stp.refl, by simp [L2.start, enOf, ra.length], fun i d h => ?_, fun i ds' h => ?_, fun i j ds' es h => ?_⟩
  · rcases dat h with e | ⟨d', hd, e⟩
    · cases e
    · cases e
      obtain ⟨v, hv, rv⟩ := ra.get hd
      refine ⟨v, ?_, rv⟩
      unfold L2.start
      rw [List.getElem?_append_left (by rw [List.length_map]; exact (List.getElem?_eq_some_iff.mp hv).1), List.getElem?_map, hv]
      rfl
  · rcases dat h with e | ⟨d', hd, e⟩ <;> cases e
  · rcases dat h with e | ⟨d', hd, e⟩ <;> cases e
/-- THE RULE for a def whose arguments and answer are data -/
theorem fnD {x qual : Str} {st : Stmt} {f : Addr} {fd : FuncData} {N ps : List Str} {k : Nat} {wf : Wc} (F : Fun K x qual st f fd) (S : FnScope N ps (defScope st)) (len : ∀ ds k Q x, wf ds k Q x → ds.length = ps.length)
    (body : ∀ (cdv : Value) (A : Around) (outer : List Env) (s : Shared) (H : Hp) (E : XK) (p : Option Addr) (G : Hp), A.guards = some [] → Room k (A.deeper (envOfC qual (defScope st) s.heap.objs.size f cdv)) →
      ∃ ws, DSs (cxOf (L2.CX P w) P w K mg base N qual (defScope st) f cdv A outer s H E) ⟨p, G, H, fun cls d _ H' => E cls d H'⟩ (defBody st) ws ∧ ∀ ds n Q x, wf ds n Q x → ws (enOf N ds n) (defEnds Q x)) :
    FnG P w K mg base (k + 1) f fd ps (spD K wf) := by
  refine fnG_of F S (fun vs H Q E ⟨p, G, ds, n, _, ra, q⟩ => by rw [ra.length]; exact len ds n _ _ q) fun cdv A outer s H vs Q E hg hr ⟨p, G, ds, n, wd, ra, q⟩ => ?_
  obtain ⟨ws, h, hq⟩ := body cdv A outer s H E p G hg hr
  refine ⟨_, h.run, enOf N ds n, G, Rl.start wd ra, h.mono _ _ _ ⟨?_, ?_, ?_, ?_, ?_⟩ (hq ds n _ _ q)⟩
  · exact fun e' z σ' G' H' _ r => by obtain ⟨α, r'⟩ := id r; exact z _ G' H' r'.st r'.w .non
  · exact fun d e' z v σ' G' H' _ r rv => by obtain ⟨α, r'⟩ := id r; exact z v G' H' r'.st r'.w rv
  · exact fun _ z => z.elim
  · exact fun _ z => z.elim
  · exact fun y e' z C σ' G' H' _ r ec => by obtain ⟨α, r'⟩ := id r; exact z C G' H' r'.st r'.w ec
end

/-! ### the law's call -/
/-- the law is true -/
def spTrue (K : PySem.W.Frag) : Sp := fun vs H Q _ => ∃ (a : Addr) (ns : List Int), vs = [.ref a] ∧ SqL K H a (ns.map V.int) ∧ ns.length ≤ 63 ∧ ∀ H', Q (.bl true) H'
section
variable {P : Program} {w : World} {K : PySem.W.Frag} {mg mb : Str → Option Value} {k : Nat} {fa a : Addr} {fd : FuncData} {x : Str} {s₁ : Shared} {vs : List Value} {ns : List Int}
/-- what may be tracked at the start: nothing, or the script as it stands -/
inductive Script (K : PySem.W.Frag) (a : Addr) (vs : List Value) (ns : List Int) : Hp → Prop where
  | top {o : Obj} : K.lookup a = some o → Script K a vs ns (fun _ => none)
  | own : K.lookup a = none → Script K a vs ns (fun b => if b = a then some (.frz { cls := .type "list", data := .seq vs.toArray } (.lst (ns.map V.int))) else none)
theorem Script.at {H : Hp} (h : Script K a vs ns H) : ∀ b o, H b = some o → b = a ∧ K.lookup a = none ∧ o = .frz { cls := .type "list", data := .seq vs.toArray } (.lst (ns.map V.int)) := by
  intro b o e
  cases h with
  | top _ => cases e
  | own hk =>
    dsimp only at e
    by_cases hb : b = a
    · rw [if_pos hb] at e; cases e; exact ⟨hb, hk, rfl⟩
    · rw [if_neg hb] at e; cases e
theorem law_callG (KX : K.In s₁.heap) (hns : s₁.heap.Ns mainGlobals mg) (hb : s₁.heap.Ns builtinsNs mb) (hbb : ∀ x : Str, x ≠ "__name__" → mb x = bootBuiltins x) (hlim : s₁.heap.NoLimit) (hgn : s₁.gens = #[])
    (ha : s₁.heap.get? a = some { cls := .type "list", data := .seq vs.toArray }) (hi : IntsAre vs ns) (hl : ns.length ≤ 63) (hr : Room k callerA)
    (F : ∀ base : Heap, K.In base → base.Ns mainGlobals mg → FnG P w K mg base k fa fd [x] (spTrue K)) (hbind : ∀ (s : Shared) (u : Value), BindsTo s fd ⟨[u], []⟩ [(x, u)]) :
    codeAny (model P w) callerA (.call (.ref fa) ⟨[.ref a], []⟩) (fun r s' =>
          r = .ok (.ret (.bool true)) ∧ OldK s₁.heap s'.heap ∧ s'.os = s₁.os ∧ AllBare s'.gens) s₁ := by
  have rv := vals_ints hi
  have lv : vs.length = ns.length := hi.length
  have line : ns.length ≤ sizeLine := Nat.le_trans hl (by decide)
  have pick : ∃ H : Hp, Script K a vs ns H ∧ SqL K H a (ns.map V.int) := by
    cases hk : K.lookup a with
    | some o =>
      have e := KX a o hk
      rw [ha] at e
      cases e
      exact ⟨_, .top hk, .inr ⟨_, vs.toArray, _, hk, rfl, rfl, rfl, by rw [List.size_toArray, lv]; exact line, by simpa using rv⟩⟩
    | none => exact ⟨_, .own hk, .inl (.inr ⟨_, if_pos rfl⟩)⟩
  obtain ⟨H, hS, hq⟩ := pick
  have free : ∀ {b : Addr} {o : Obj}, s₁.heap.get? b = some o → (∀ t, o ≠ { cls := .type "list", data := .seq vs.toArray, slots := t }) → H b = none := by
    intro b o e d
    cases z : H b with
    | none => rfl
    | some u =>
      obtain ⟨eb, _, _⟩ := hS.at b u z
      rw [eb, ha] at e
      cases e
      exact absurd rfl (d _)
  have nsK : ∀ {b : Addr} {m : Str → Option Value}, s₁.heap.Ns b m → (hidT s₁.heap H).Ns b m := by
    intro b m h
    obtain ⟨o, es, ep, e, d, r⟩ := h
    refine ⟨o, es, ep, hidT_get e (free e fun t z => ?_), d, r⟩
    rw [z] at d
    cases d
  have kin : K.In (hidT s₁.heap H) := by
    intro b o e
    refine hidT_get (KX b o e) ?_
    cases z : H b with
    | none => rfl
    | some u =>
      obtain ⟨eb, hk, _⟩ := hS.at b u z
      rw [eb, hk] at e; cases e
  have hok : HOk P w H s₁.heap := by
    intro b u z
    obtain ⟨rfl, _, rfl⟩ := hS.at b u z
    exact ⟨ha, by rw [List.length_map]; exact line, vs, _, rv, ha⟩
  obtain ⟨mc, l1, l2⟩ := hlim
  have e0 : Env0 P w K mg (hidT s₁.heap H) callerA [] s₁ H := ⟨rfl, ⟨kin, nsK hns, ⟨mb, nsK hb, hbb⟩, ⟨mc, nsK l1, l2⟩⟩, fun b o e => of_hidT e, Nat.le_of_eq (hidT_size _ _), trivial, (by intro b z; cases z), hok, .of_eq hgn⟩
  refine codeAny_mono ((F _ kin (nsK hns)).run callerA [] s₁ H ⟨[.ref a], []⟩ [.ref a] [.ref a] (fun v _ => v = .bl true) (fun _ _ _ => False) rfl hr e0 (hbind s₁ (.ref a)) (.cons rfl .nil) ⟨a, ns, rfl, hq, hl, fun _ => rfl⟩) ?_
  intro r s' h
  cases r with
  | error e => obtain ⟨_, _, _, _, _, _, _, _, _, _, _, _, z⟩ := h; exact z.elim
  | ok fl =>
    cases fl with
    | next => exact h.elim
    | brk => exact h.elim
    | cont => exact h.elim
    | ret u =>
      obtain ⟨v, H', os, bare,
            un, hok', r', q⟩ := h
      cases q
      cases r'
      refine ⟨rfl, OldK.of_keep fun b o e =>
            ?_, os, bare⟩
      cases q : H b with
      | none => exact un.keep b o e q (by intro z; cases z) (by intro z; cases z)
      | some u =>
        obtain ⟨_, _, rfl⟩ := hS.at b u q
        obtain ⟨e1, _⟩ := hok b _ q
        obtain ⟨e2, _⟩ := hok' b _ (un.frzs b _ _ q)
        rw [e] at e1
        cases e1
        exact e2
end
theorem walk_G {l : PySem.W.OpenLaw} {k : Nat} {q : Program} {loose : List Str} {XP : (Str → Option Value) → Heap → Prop} {YP : World → Heap → Prop} {d : DefRec} {K : Params → PySem.W.Frag} {x : Str} (hn : l.most = some 63) (hdf : d.params.defaults = []) (hr : Room k callerA)
    (hY : ∀ (w : World) (h : Heap),
          YP w h → (K w.params).In h)
    (F : ∀ (w : World) (mg : Str → Option Value) (fa : Addr) (h : Heap),
          (K w.params).In h → h.Ns mainGlobals mg → mg d.name = some (.ref fa) →
      ∃ fd : FuncData, (∀ (s : Shared) (u : Value), BindsTo s fd ⟨[u], []⟩ [(x, u)]) ∧ ∀ base : Heap, (K w.params).In base → base.Ns mainGlobals mg → FnG l.prog w (K w.params) mg base k fa fd [x] (spTrue (K w.params))) :
    PySem.W.WalkO q loose XP YP l.row.toRowW d [] (fun f vs =>
          PySem.call f vs) := by
  apply Att.attach_call hn hdf
  intro w s₀ s₁ mg mb fa o pm cd doc a vs ns G Y ho hd hcd hmg hobj hints hlen hg
  obtain ⟨fd, hb, hF⟩ := F w mg fa _ (hY w _ Y) G.T.g hmg
  exact law_callG (hY w _ Y) G.T.g G.T.b G.T.builtins G.T.nolimit hg hobj hints hlen hr hF hb
end L2.DL


set_option
      maxHeartbeats 1000000
namespace L2.DL
open PySem PySem.Spec
      PyProof.Rows

/-! ### methods of lists that change nothing -/
def wMt (f : B2) (wa wb : WEx) : WEx := fun e Q x => wa e (fun d1 e1 => (∃ xs, d1 = .list xs) ∧ wb e1 (fun d2 e2 => f d1 d2 fun d => Q d e2) x) x
def FitsM (K : PySem.W.Frag) (f : B2) (r : V → List V → Hp → VK → Prop) : Prop := ∀ (p : Option Addr) (G₀ H₀ G H : Hp) (σ : L2.St) (e : En) (x y : V) (a b : D) (P : D → Prop) (Q : VK),
  Rl K p G₀ H₀ G H σ e → R K p G x a → R K p G y b → f a b P → (∀ d, P d → ∀ v G' H', Same G G' → Rl K p G₀ H₀ G' H' σ e → R K p G' v d → Q v H') → r x [y] H Q
/-- how many of the bools are b; where the first is -/
def cntD : B2
  | .list xs, .bool b, P => ∃ bs : List Bool, xs = bs.map PyData.bool ∧ P (.int (bs.count b))
  | _, _, _ => False
def posD : B2
  | .list xs, .bool b, P => ∃ (bs : List Bool) (j : Nat), xs = bs.map PyData.bool ∧ bs[j]? = some b ∧ (∀ m, m < j → bs[m]? ≠ some b) ∧ P (.int j)
  | _, _, _ => False
theorem cntD.mono : B2.Mono cntD := by
  intro a b P P' h q
  unfold cntD at q ⊢
  split at q
  · obtain ⟨bs, e, z⟩ := q; exact ⟨bs, e, h _ z⟩
  · exact q.elim
theorem posD.mono : B2.Mono posD := by
  intro a b P P' h q
  unfold posD at q ⊢
  split at q
  · obtain ⟨bs, j, e, i1, i2, z⟩ := q; exact ⟨bs, j, e, i1, i2, h _ z⟩
  · exact q.elim
section
variable {K : PySem.W.Frag} {F : Fx} {σ : L2.St} {H : Hp} {X : Cx} {pos : Pos} {a b : Expr} {es : List Expr} {wa wb : WEx} {wr : WAx}
theorem wMt.mono {f : B2} (hf : f.Mono) (ma : Mono wa) (mb : Mono wb) : Mono (wMt f wa wb) := fun e Q Q' x x' h1 h2 q =>
  ma e _ _ _ _ (fun d1 e1 q1 => ⟨q1.1, mb e1 _ _ _ _ (fun d2 e2 q2 => hf d1 d2 _ _ (fun d q3 => h1 d e2 q3) q2) h2 q1.2⟩) h2 q
theorem de_mt {name : Str} {id : String} {f : B2} {r : V → List V → Hp → VK → Prop} {ap : Pos} (hf : f.Mono) (ft : FitsM X.K f r) (slot : PySem.Slot "list" name id) (hty : typeOf (.builtin id) = pure (.type "method_descriptor")) (hm : MtR X id r) (ha : DE X F a wa) (hb : DE X F b wb)
    (hbase : attributeBase a name X.env (eval a X.env) = eval a X.env := by rfl) (hs : starEach [b] X.env = (false, eval b X.env) :: starEach [] X.env := by rfl)
    (hfew : ((backTo pos (starEach [b] X.env)).all (fun x => !x.1) && (backToKw pos (keywordEach [] X.env)).all (fun x => x.1.isSome) && decide ([b].length + ([] : List Keyword).length + (if ([] : List Keyword).isEmpty then 0 else 1) < 30)) = true := by rfl)
    (hline : (ap.endLine == pos.line) = true := by rfl) (hplain : (backTo pos (starEach [] X.env)).any (·.1) = false := by rfl) : DE X F (.Call (.Attribute a name ap) [b] [] pos) (wMt f wa wb) :=
  de_of (pe_bm PySem.F.plainAttrs_list slot hty hm ha.run (pa_cons hb.run pa_nil hs) hbase hfew hline hs hplain) (wMt.mono hf ha.mono hb.mono) fun σ H Q ⟨e, G, r, q⟩ => by
    refine tE.mono ha.mono (fun v H1 z => ?_) (tE.any ha.mono r q)
    obtain ⟨e1, G1, d, s1, r1, rv, ⟨xs, ed⟩, z⟩ := z
    subst ed
    obtain ⟨l, ys, ev, g1, ra⟩ := rv.lst_inv
    subst ev
    refine ⟨.inl ⟨rfl, _, .inl (.inl (r1.same _ _ g1))⟩, ?_⟩
    refine tE.mono hb.mono (fun v' H2 z => ?_) (tE.any hb.mono r1 (hb.mono e1 _ _ _ _ (fun _ _ z => z) (fun _ _ => PX.mono s1) z))
    obtain ⟨e2, G2, d', s2, r2, rv', y⟩ := z
    exact ft F.p F.G₀ F.H₀ G2 H2 σ e2 _ v' _ d' _ Q r2 (rv.mono s2) rv' y fun d z v G' H' s r' rv => z v G' H' (s1.trans (s2.trans s)) r' rv
theorem RA.ofBools {p : Option Addr} {G : Hp} : ∀ {ns : List Bool} {xs : List V}, RA K p G xs (ns.map PyData.bool) → xs = ns.map V.bl
  | [], _, h => by cases h; rfl
  | n :: ns, _, h => by
    cases h with
    | cons h t => rw [RA.ofBools t, h.bl_inv]; rfl
def rCntB (K : PySem.W.Frag) : V → List V → Hp → VK → Prop := fun x xs H Q => ∃ (p : Addr) (bs : List Bool) (b : Bool), x = .ref p ∧ xs = [.bl b] ∧ SqL K H p (bs.map V.bl) ∧ Q (.int (bs.count b : Nat)) H
theorem countB {b : Bool} : ∀ bs : List Bool, (bs.map Value.bool).countP (eqU (.bl b)) = bs.count b
  | [] => rfl
  | c :: bs => by
    rw [List.map_cons, List.countP_cons, countB bs, List.count_cons]
    cases b <;> cases c <;> rfl
theorem mt_cntB : MtR X "list.count" (rCntB X.K) := by
  intro pins s σ H x
        xs v us Q I rx rxs h
  obtain ⟨p, bs, b, rfl, rfl, hs, q⟩ := h
  cases rx
  obtain ⟨u, rfl,
        ru⟩ := rxs.one
  cases ru
  obtain ⟨its, rv, ⟨⟨cls, dd, data, sl⟩,
        n, ho, hc, hdn, hd⟩, hlen⟩ := I.list hs
  simp only at hc hd
  subst hc hd
  have eb := rv.bls
  subst eb
  refine call_meets PySem.F.slot_list_count ⟨_, ho, rfl⟩ PySem.F.entry_list_count (PySem.F.args_list_count_2 _ _) (SeqAt.list_countAt p _ n dd sl (.bool b) (eqU (.bl b))) ⟨ho, fun y hy => ?_, ?_⟩
  · exact mem_eqAt (x := .bl b) (v := .bool b) rfl rfl rv (by simp [flatV]) y (by simpa using hy)
  · refine ⟨.int (bs.count b : Nat), H, I.tok _, ⟨s.toks, ?_⟩, q⟩
    rw [← countB bs]
theorem fitsCnt : FitsM K cntD (rCntB K) := by
  intro p G₀ H₀ G H σ e x y a b P Q r ra rb q k
  unfold cntD at q
  split at q
  · obtain ⟨l, xs, rfl, h1, r1⟩ := ra.lst_inv
    cases rb.bl_inv
    obtain ⟨bs, e1, z⟩ := q
    subst e1
    have ey := r1.ofBools
    subst ey
    exact ⟨l, bs, _, rfl, rfl, SqL.of (r.same _ _ h1), ans r (.int _) k z⟩
  · exact q.elim
theorem fitsPos : FitsM K posD (rIndex K) := by
  intro p G₀ H₀ G H σ e x y a b P Q r ra rb q k
  unfold posD at q
  split at q
  · obtain ⟨l, xs, rfl, h1, r1⟩ := ra.lst_inv
    cases rb.bl_inv
    rename_i b
    obtain ⟨bs, j, e1, i1, i2, z⟩ := q
    subst e1
    have ey := r1.ofBools
    subst ey
    refine ⟨l, bs.map V.bl, .bl b, j, .bl b, rfl, rfl, SqL.of (r.same _ _ h1), rfl, by simp [flatV], by rw [List.getElem?_map, i1]; rfl, by simp [eqV], fun m z' hm hz => ?_, ans r (.int _) k z⟩
    rw [List.getElem?_map] at hz
    cases ec : bs[m]? with
    | none => rw [ec] at hz; cases hz
    | some c =>
      rw [ec] at hz
      cases hz
      have n := i2 m hm
      rw [ec] at n
      show (c == b) = false
      exact beq_eq_false_iff_ne.mpr fun z => n (by rw [z])
  · exact q.elim
/-! ### short forms -/
theorem ds_append {i : Nat} {x : Str} {p1 p2 p3 : Pos} (h : DE X F a wa) (hv : PE X (.Name x p1) (tVar i)) (hs : starEach [a] X.env = (false, eval a X.env) :: starEach [] X.env := by rfl)
    (hbase : attributeBase (.Name x p1) "append" X.env (eval (.Name x p1) X.env) = eval (.Name x p1) X.env := by rfl)
    (hfew : ((backTo p3 (starEach [a] X.env)).all (fun x => !x.1) && (backToKw p3 (keywordEach [] X.env)).all (fun x => x.1.isSome) && decide ([a].length + ([] : List Keyword).length + (if ([] : List Keyword).isEmpty then 0 else 1) < 30)) = true := by rfl)
    (hline : (p2.endLine == p3.line) = true := by rfl) (hplain : (backTo p3 (starEach [] X.env)).any (·.1) = false := by rfl) (hsw : swapsWith (.Call (.Attribute (.Name x p1) "append" p2) [a] [] p3) none pos.line X.env = pure false := by rfl) :
    DS X F (.Expr (.Call (.Attribute (.Name x p1) "append" p2) [a] [] p3) pos) (wApp i wa) :=
  ds_app h hv hs (pe_bm PySem.F.plainAttrs_list PySem.F.slot_list_append PySem.F.type_list_append mt_append hv (pa_cons h.run pa_nil hs) hbase hfew hline hs hplain) hsw
theorem ds_insert {i : Nat} {x : Str} {p1 p2 p3 : Pos} (hk : DE X F b wb) (h : DE X F a wa) (hv : PE X (.Name x p1) (tVar i)) (hs : starEach [b, a] X.env = (false, eval b X.env) :: starEach [a] X.env := by rfl) (hs2 : starEach [a] X.env = (false, eval a X.env) :: starEach [] X.env := by rfl)
    (hbase : attributeBase (.Name x p1) "insert" X.env (eval (.Name x p1) X.env) = eval (.Name x p1) X.env := by rfl)
    (hfew : ((backTo p3 (starEach [b, a] X.env)).all (fun x => !x.1) && (backToKw p3 (keywordEach [] X.env)).all (fun x => x.1.isSome) && decide ([b, a].length + ([] : List Keyword).length + (if ([] : List Keyword).isEmpty then 0 else 1) < 30)) = true := by rfl)
    (hline : (p2.endLine == p3.line) = true := by rfl) (hplain : (backTo p3 (starEach [a] X.env)).any (·.1) = false := by rfl) (hsw : swapsWith (.Call (.Attribute (.Name x p1) "insert" p2) [b, a] [] p3) none pos.line X.env = pure false := by rfl) :
    DS X F (.Expr (.Call (.Attribute (.Name x p1) "insert" p2) [b, a] [] p3) pos) (wIns i wb wa) :=
  ds_ins hk h (fun l xs k y H Q h1 h2 h3 h4 q => ⟨l, xs, k, y, rfl, rfl, h1, h2, h3, h4, q⟩) (pe_bm PySem.F.plainAttrs_list PySem.F.slot_list_insert PySem.F.type_list_insert mt_insert hv (pa_cons hk.run (pa_cons h.run pa_nil hs2) hs) hbase hfew hline hs hplain) hsw
end
/-! ### the text's defs -/
def FunAt (K : PySem.W.Frag) (mg : Str → Option Value) (x : Str) (st : Stmt) (ps : List Str) : Prop := ∃ f fd, Fun K x x st f fd ∧ mg x = some (.ref f) ∧ Binds K fd ps []
def Def (P : Program) (w : World) (K : PySem.W.Frag) (mg : Str → Option Value) (base : Heap) (x : Str) (k : Nat) (ps : List Str) (wf : Wc) : Prop :=
  ∃ f fd, FnG P w K mg base k f fd ps (spD K wf) ∧ mg x = some (.ref f) ∧ PySem.W.keepIn K (.ref f) = true ∧ Binds K fd ps []
section
variable {P : Program} {w : World} {K :
      PySem.W.Frag} {mg : Str → Option Value} {base : Heap}
theorem defD {x : Str} {st : Stmt} {N ps : List Str} {k : Nat} {wf : Wc} (F : FunAt K mg x st ps) (S : FnScope N ps (defScope st)) (len : ∀ ds k Q x, wf ds k Q x → ds.length = ps.length)
    (body : ∀ (f : Addr) (cdv : Value) (A : Around) (outer : List Env) (s : Shared) (H : Hp) (E : XK) (p : Option Addr) (G : Hp), A.guards = some [] → Room k (A.deeper (envOfC x (defScope st) s.heap.objs.size f cdv)) →
      ∃ ws, DSs (cxOf (L2.CX P w) P w K mg base N x (defScope st) f cdv A outer s H E) ⟨p, G, H, fun cls d _ H' => E cls d H'⟩ (defBody st) ws ∧ ∀ ds n Q x, wf ds n Q x → ws (enOf N ds n) (defEnds Q x)) : Def P w K mg base x (k + 1) ps wf := by
  obtain ⟨f, fd, h1, h2, h3⟩ := F
  exact ⟨f, fd, fnD h1 S len (body f), h2, h1.kp, h3⟩
theorem Def.mono {x : Str} {j k : Nat} {ps : List Str} {wf : Wc} (h : Def P w K mg base x j ps wf) (l : j ≤ k) : Def P w K mg base x k ps wf := by
  obtain ⟨f, fd, h1, h2⟩ := h
  exact ⟨f, fd, h1.mono l, h2⟩
/-- a def may be used for less -/
theorem Def.weak {x : Str} {k : Nat} {ps : List Str} {wf wf' : Wc} (h : Def P w K mg base x k ps wf) (m : ∀ ds n Q y, wf' ds n Q y → wf ds n Q y) : Def P w K mg base x k ps wf' := by
  obtain ⟨f, fd, h1, h2⟩ := h
  exact ⟨f, fd, h1.imp fun vs H Q E ⟨p, G, ds, n, wd, ra, q⟩ => ⟨p, G, ds, n, wd, ra, m _ _ _ _ q⟩, h2⟩
end
section
variable {X : Cx} {F : Fx} {pos : Pos} {a : Expr} {es : List Expr} {wr : WAx}
theorem de_fn {wf : Wc} {j k : Nat} {ps : List Str} {x : Str} {p : Pos} (d : Def X.prog X.w X.K X.mg X.base x j ps wf) (mf : wf.Mono) (hgd : X.A.guards = some []) (hr : Room k X.A) (tk : Takes X F.W) (ha : DA X F (a :: es) wr) (hj : j ≤ k := by decide) (hg : Gl X x := by rfl) (hdb : (x == ("__debug__" : Str)) = false := by decide)
    (he : starEach (a :: es) X.env = (false, eval a X.env) :: starEach es X.env := by rfl) (hpl : (backTo pos (starEach es X.env)).any (·.1) = false := by rfl) : DE X F (.Call (.Name x p) (a :: es) [] pos) (wCall wf wr) := by
  obtain ⟨f, fd, h1, h2, h3, h4⟩ := d
  exact de_call h1 mf hgd (hr.mono hj) h2 h3 h4 tk ha hg hdb he hpl
theorem de_const {x : Str} {i : Int} {t : Tok} {p : Pos} (hm : X.mg x = some (.int i t)) (hg : Gl X x := by rfl) (hdb : (x == ("__debug__" : Str)) = false := by decide) : DE X F (.Name x p) (wC (.int i)) := de_c (pe_glob (v := .int i) hg hm ⟨t, rfl⟩ hdb) fun _ _ _ => .int i
end
theorem hr65 {k : Nat} {A : Around} (hr : Room k A) : A.units + 65 < cLine := by have := hr.un; omega
theorem dss_never {X : Cx} {F : Fx} {sts : List Stmt} : DSs X F sts (fun _ _ => False) := dss_of pss_never (fun _ _ _ _ z => z) fun D σ H ⟨_, _, _, z⟩ => z
theorem ds_never {X : Cx} {F : Fx} {st : Stmt} : DS X F st (fun _ _ => False) := ds_of ps_never (fun _ _ _ _ z => z) fun D σ H ⟨_, _, _, z⟩ => z
end L2.DL


set_option
      maxHeartbeats 1000000
namespace L2.DL
open PySem PySem.Spec
      PyProof.Rows

/-! ### loops by a word over what is left -/
theorem wLoop.ind {g : WG} {wb : WSt} {B : DEnds} (I : List D → En → Prop) (hn : ∀ e, I [] e → B.nx e)
    (hs : ∀ d ds e, (∀ e', I ds e' → wLoop g wb B ds e') → I (d :: ds) e → g d e fun e1 => wb e1 { B with nx := fun e2 => wLoop g wb B ds e2, ct := fun e2 => wLoop g wb B ds e2, bk := B.nx }) : ∀ {ds : List D} {e : En}, I ds e → wLoop g wb B ds e
  | [], e, h => hn e h
  | d :: ds, e, h => hs d ds e (fun e' h' => wLoop.ind I hn hs h') h
theorem lcLoop.ind {g : WG} {wt : WTx} {we : WEx} {e₀ : En} {P : List D → Nat → Prop} (I : List D → List D → Nat → Prop) (hn : ∀ acc k, I acc [] k → P acc k)
    (hs : ∀ d ds acc k, (∀ acc' k', I acc' ds k' → lcLoop g wt we e₀ acc' ds k' P) → I acc (d :: ds) k →
      g d { e₀ with k := k } fun e1 => wt e1 (fun b e2 => if b = true then we e2 (fun y e3 => acc.length < 1000 ∧ lcLoop g wt we e₀ (acc ++ [y]) ds e3.k P) noX else lcLoop g wt we e₀ acc ds e2.k P) noX) : ∀ {ds acc : List D} {k : Nat}, I acc ds k → lcLoop g wt we e₀ acc ds k P
  | [], acc, k, h => hn acc k h
  | d :: ds, acc, k, h => hs d ds acc k (fun acc' k' h' => lcLoop.ind I hn hs h') h
/-! ### promises of one, two, three arguments, whose answer is a function's -/
def w1 (pre : D → Prop) (f : D → D) : Wc := fun ds k Q _ => ∃ a, ds = [a] ∧ pre a ∧ Q (f a) k
def w2 (pre : D → D → Prop) (f : D → D → D) : Wc := fun ds k Q _ => ∃ a b, ds = [a, b] ∧ pre a b ∧ Q (f a b) k
def w3 (pre : D → D → D → Prop) (f : D → D → D → D) : Wc := fun ds k Q _ => ∃ a b c, ds = [a, b, c] ∧ pre a b c ∧ Q (f a b c) k
theorem w1.mono {pre : D → Prop} {f : D → D} : Wc.Mono (w1 pre f) := fun ds k Q Q' x x' h _ ⟨a, e, p, q⟩ => ⟨a, e, p, h _ _ q⟩
theorem w2.mono {pre : D → D → Prop} {f : D → D → D} : Wc.Mono (w2 pre f) := fun ds k Q Q' x x' h _ ⟨a, b, e, p, q⟩ => ⟨a, b, e, p, h _ _ q⟩
theorem w3.mono {pre : D → D → D → Prop} {f : D → D → D → D} : Wc.Mono (w3 pre f) := fun ds k Q Q' x x' h _ ⟨a, b, c, e, p, q⟩ => ⟨a, b, c, e, p, h _ _ q⟩
theorem w1.len {pre : D → Prop} {f : D → D} {ds k Q x} (h : w1 pre f ds k Q x) : ds.length = 1 := by obtain ⟨a, e, _⟩ := h; rw [e]; rfl
theorem w2.len {pre : D → D → Prop} {f : D → D → D} {ds k Q x} (h : w2 pre f ds k Q x) : ds.length = 2 := by obtain ⟨a, b, e, _⟩ := h; rw [e]; rfl
theorem w3.len {pre : D → D → D → Prop} {f : D → D → D → D} {ds k Q x} (h : w3 pre f ds k Q x) : ds.length = 3 := by obtain ⟨a, b, c, e, _⟩ := h; rw [e]; rfl
/-! ### types -/
def isI : D → Bool
  | .int _ => true
  | .bool _ => true
  | _ => false
def isB : D → Bool
  | .bool _ => true
  | _ => false
def isT : D → Bool
  | .tuple _ => true
  | _ => false
def isInt : D → Bool
  | .int _ => true
  | _ => false
theorem fine.nd {d : D} (h : DL.fine d = true) : ∀ kv, d ≠ .dict kv := fun kv e => by rw [e] at h; simp only [DL.fine] at h; cases h
theorem kit_int {d : D} (h : DL.fine d = true) : kitB (tyN d) "int" = some (isI d) := by
  cases d with
  | none => exact (by decide +kernel : kitB "NoneType" "int" = some false)
  | bool _ => exact (by decide +kernel : kitB "bool" "int" = some true)
  | int _ => exact (by decide +kernel : kitB "int" "int" = some true)
  | str _ => exact (by decide +kernel : kitB "str" "int" = some false)
  | list _ => exact (by decide +kernel : kitB "list" "int" = some false)
  | tuple _ => exact (by decide +kernel : kitB "tuple" "int" = some false)
  | dict kv => exact absurd rfl (fine.nd h kv)
theorem kit_bool {d : D} (h : DL.fine d = true) : kitB (tyN d) "bool" = some (isB d) := by
  cases d with
  | none => exact (by decide +kernel : kitB "NoneType" "bool" = some false)
  | bool _ => exact (by decide +kernel : kitB "bool" "bool" = some true)
  | int _ => exact (by decide +kernel : kitB "int" "bool" = some false)
  | str _ => exact (by decide +kernel : kitB "str" "bool" = some false)
  | list _ => exact (by decide +kernel : kitB "list" "bool" = some false)
  | tuple _ => exact (by decide +kernel : kitB "tuple" "bool" = some false)
  | dict kv => exact absurd rfl (fine.nd h kv)
theorem kit_tuple {d : D} (h : DL.fine d = true) : kitB (tyN d) "tuple" = some (isT d) := by
  cases d with
  | none => exact (by decide +kernel : kitB "NoneType" "tuple" = some false)
  | bool _ => exact (by decide +kernel : kitB "bool" "tuple" = some false)
  | int _ => exact (by decide +kernel : kitB "int" "tuple" = some false)
  | str _ => exact (by decide +kernel : kitB "str" "tuple" = some false)
  | list _ => exact (by decide +kernel : kitB "list" "tuple" = some false)
  | tuple _ => exact (by decide +kernel : kitB "tuple" "tuple" = some true)
  | dict kv => exact absurd rfl (fine.nd h kv)
/-! ### small data -/
theorem fineAll.at {xs : List D} (h : fineAll xs = true) : ∀ d ∈ xs, fine d = true := by
  induction xs with
  | nil => intro d hd; cases hd
  | cons a r ih =>
    unfold fineAll at h
    rw [Bool.and_eq_true] at h
    intro d hd
    rcases List.mem_cons.mp
          hd with rfl | hd
    · exact h.1
    · exact ih h.2 d hd
theorem fineAll_of {xs : List D} (h : ∀ d ∈ xs, fine d = true) : fineAll xs = true := by
  induction xs with
  | nil => rfl
  | cons a r ih =>
    unfold fineAll
    rw [Bool.and_eq_true]
    exact ⟨h a List.mem_cons_self, ih fun d hd => h d (List.mem_cons_of_mem _ hd)⟩
theorem wtAll_mem {xs : List D} : ∀ d ∈ xs, wt d ≤ wtAll xs := by
  induction xs with
  | nil => intro d hd; cases hd
  | cons a r ih =>
    intro d hd
    unfold wtAll
    rcases List.mem_cons.mp
          hd with rfl | hd
    · omega
    · have := ih d hd; omega
theorem depthAll_mem {xs : List D} : ∀ d ∈ xs, d.depth ≤ PyData.depthAll xs := by
  induction xs with
  | nil => intro d hd; cases hd
  | cons a r ih =>
    intro d hd
    unfold PyData.depthAll
    rcases List.mem_cons.mp
          hd with rfl | hd
    · omega
    · have := ih d hd; omega
theorem depthAll_le {xs : List D} {m : Nat} (h : ∀ d ∈ xs, d.depth ≤ m) : PyData.depthAll xs ≤ m := by
  induction xs with
  | nil => simp [PyData.depthAll]
  | cons a r ih =>
    unfold PyData.depthAll
    have h1 := h a List.mem_cons_self
    have h2 := ih fun d hd => h d (List.mem_cons_of_mem _ hd)
    omega
theorem wtAll_le {xs : List D} {m : Nat} (h : ∀ d ∈ xs, wt d ≤ m) : wtAll xs ≤ xs.length * m := by
  induction xs with
  | nil => simp [wtAll]
  | cons a r ih =>
    unfold wtAll
    have h1 := h a List.mem_cons_self
    have h2 := ih fun d hd => h d (List.mem_cons_of_mem _ hd)
    rw [List.length_cons, Nat.succ_mul]
    omega
theorem Ok.tuple {n m k : Nat} {xs : List D} (h : ∀ d ∈ xs, Ok n m d) (hk : xs.length ≤ k) : Ok (k * n + 1) (m + 1) (.tuple xs) where
  f := by simp only [fine]; exact fineAll_of fun d hd => (h d hd).f
  w := by
    simp only [wt]
    have := wtAll_le fun d hd => (h d hd).w
    have := Nat.mul_le_mul_right n hk
    omega
  d := by simp only [PyData.depth]; have := depthAll_le fun d hd => (h d hd).d; omega
theorem Ok.list {n m k : Nat} {xs : List D} (h : ∀ d ∈ xs, Ok n m d) (hk : xs.length ≤ k) : Ok (k * n + 1) (m + 1) (.list xs) where
  f := by simp only [fine]; exact fineAll_of fun d hd => (h d hd).f
  w := by
    simp only [wt]
    have := wtAll_le fun d hd => (h d hd).w
    have := Nat.mul_le_mul_right n hk
    omega
  d := by simp only [PyData.depth]; have := depthAll_le fun d hd => (h d hd).d; omega
theorem Ok.mono {n m n' m' : Nat} {d : D} (h : Ok n m d) (hn : n ≤ n') (hm : m ≤ m') : Ok n' m' d := ⟨h.f, Nat.le_trans h.w hn, Nat.le_trans h.d hm⟩
theorem Ok.int {i : Int} (h : i.natAbs < 2 ^ 120) : Ok 1 0 (.int i) := ⟨by simp only [fine]; exact decide_eq_true h, by simp [wt], by simp [PyData.depth]⟩
theorem Ok.none : Ok 1 0 .none := ⟨rfl, Nat.le_refl _, Nat.le_refl _⟩
theorem Ok.bool {b : Bool} : Ok 1 0 (.bool b) := ⟨rfl, Nat.le_refl _, Nat.le_refl _⟩
theorem Ok.good {n m : Nat} {d : D} (h : Ok n m d) (hn : n ≤ 8000 := by decide) (hm : m ≤ 50 := by decide) : Good d := h.mono hn hm
theorem Ok.in_tuple {n m : Nat} {xs : List D} (h : Ok n m (.tuple xs)) : ∀ d ∈ xs, Ok n m d := fun d hd => by
  have f := h.f
  have w := h.w
  have dd := h.d
  simp only [fine, wt, PyData.depth] at f w dd
  have := wtAll_mem d hd
  have := depthAll_mem d hd
  exact ⟨fineAll.at f d hd, by omega, by omega⟩
theorem Ok.in_list {n m : Nat} {xs : List D} (h : Ok n m (.list xs)) : ∀ d ∈ xs, Ok n m d := fun d hd => by
  have f := h.f
  have w := h.w
  have dd := h.d
  simp only [fine, wt, PyData.depth] at f w dd
  have := wtAll_mem d hd
  have := depthAll_mem d hd
  exact ⟨fineAll.at f d hd, by omega, by omega⟩
/-- by reckoning -/
theorem good_of {d : D} (h : (fine d && decide (wt d ≤ 8000) && decide (d.depth ≤ 50)) = true) : Good d := by
  simp only [Bool.and_eq_true,
        decide_eq_true_eq] at h
  exact ⟨h.1.1, h.1.2, h.2⟩
end L2.DL


set_option
      maxHeartbeats 1000000
namespace L2.DL
open PySem PySem.Spec
      PyProof.Rows

theorem eqv_len (a b : Nat) : PyData.eqv (.int a) (.int b) = decide (a = b) := by
  rw [Bool.eq_iff_iff]
  simp only [PyData.eqv, beq_iff_eq, decide_eq_true_eq]
  omega
theorem int_le_nat (a : Nat) (b : Nat) : decide ((a : Int) ≤ (b : Int)) = decide (a ≤ b) := by
  rw [Bool.eq_iff_iff]
  simp
theorem atI_pos {xs : List D} {i : Int} (h0 : 0 ≤ i) (h1 : i < xs.length) : atI xs i = some (xs.getD i.toNat .none) := by
  obtain ⟨j, rfl⟩ :=
        Int.eq_ofNat_of_zero_le h0
  have hj : j < xs.length := by omega
  exact atI_nat (by simp [hj])
theorem getD_mem {xs : List D} {i : Int} (h0 : 0 ≤ i) (h1 : i < xs.length) : xs.getD i.toNat .none ∈ xs := by
  have hj : i.toNat < xs.length := by omega
  rw [List.getD_eq_getElem?_getD, List.getElem?_eq_getElem hj]
  exact List.getElem_mem hj
/-! #### a list made of parts of another -/
theorem wtAll_map {f : D → D} : ∀ {xs : List D}, (∀ d ∈ xs, wt (f d) ≤ wt d) → wtAll (xs.map f) ≤ wtAll xs
  | [], _ => Nat.le_refl _
  | d :: xs, h => by
    have h1 := h d List.mem_cons_self
    have h2 := wtAll_map fun d hd => h d (List.mem_cons_of_mem _ hd)
    simp only [List.map_cons, wtAll]
    omega
theorem Ok.mapL {n m : Nat} {f : D → D} {xs : List D} (h : Ok n m (.tuple xs)) (hf : ∀ d ∈ xs, fine (f d) = true ∧ wt (f d) ≤ wt d ∧ (f d).depth ≤ d.depth) : Ok n m (.list (xs.map f)) where
  f := by
    simp only [fine]
    refine fineAll_of fun d hd => ?_
    obtain ⟨e, he, rfl⟩ := List.mem_map.mp hd
    exact (hf e he).1
  w := by
    have w := h.w
    simp only [wt] at w ⊢
    have := wtAll_map fun d hd => (hf d hd).2.1
    omega
  d := by
    have d := h.d
    simp only [PyData.depth] at d ⊢
    have : PyData.depthAll (xs.map f) ≤ PyData.depthAll xs := depthAll_le fun d hd => by
      obtain ⟨e, he, rfl⟩ := List.mem_map.mp hd
      exact Nat.le_trans (hf e he).2.2 (depthAll_mem e he)
    omega
theorem Ok.part {n m : Nat} {xs : List D} (h : Ok n m (.tuple xs)) : ∀ d ∈ xs, fine d = true ∧ wt d ≤ wt (.tuple xs) ∧ d.depth ≤ (PyData.tuple xs).depth := fun d hd => by
  refine ⟨(h.in_tuple d hd).f, ?_, ?_⟩
  · simp only [wt]; have := wtAll_mem d hd; omega
  · simp only [PyData.depth]; have := depthAll_mem d hd; omega
theorem fmap_some {f : D → D} : ∀ ds : List D, ds.filterMap (fun d => some (f d)) = ds.map f
  | [] => rfl
  | d :: ds => by rw [List.filterMap_cons_some (f := fun d => some (f d)) (a := d) (b := f d) rfl, List.map_cons, fmap_some ds]
theorem rngD_zero {lo : Int} : rngD lo 0 = [] := rfl
theorem rngD_succ {lo : Int} {n : Nat} : rngD lo (n + 1) = .int lo :: rngD (lo + 1) n := by
  unfold rngD
  rw [List.range_succ_eq_map,
        List.map_cons, List.map_map]
  refine congr (congrArg _ ?_) ?_
  · simp
  · refine List.map_congr_left fun i _ => ?_
    simp only [Function.comp_apply, PyData.int.injEq]
    omega
theorem insI {ns : List Int} {r : Nat} {j : Int} : ((ns.map PyData.int).take r ++ [.int j] ++ (ns.map PyData.int).drop r) = (ns.take r ++ j :: ns.drop r).map PyData.int := by
  simp
theorem insP {ns : List Int} {r : Nat} {j : Int} : (ns.take r ++ j :: ns.drop r).Perm (j :: ns) := by
  have := List.perm_middle (a := j) (l₁ := ns.take r) (l₂ := ns.drop r)
  rwa [List.take_append_drop] at this
theorem ixN_pos {n : Nat} {i : Int} (h0 : 0 ≤ i) (h1 : i < n) : ixN n i = some i.toNat := by
  unfold ixN
  rw [if_pos h0, if_pos h1]
/-! ### a comprehension that draws nothing -/
theorem lcLoop.fm {g : WG} {wt : WTx} {we : WEx} {e₀ : En} {n : Nat} (f : D → Option D) {P : List D → Nat → Prop} : ∀ {ds acc : List D},
    (∀ d ∈ ds, ∀ (A : D → Nat → Prop) (B : Nat → Prop), (f d = none → B n) → (∀ y, f d = some y → A y n) → g d { e₀ with k := n } fun e1 => wt e1 (fun b e2 => if b = true then we e2 (fun y e3 => A y e3.k) noX else B e2.k) noX) →
    acc.length + ds.length ≤ 1000 → P (acc ++ ds.filterMap f) n → lcLoop g wt we e₀ acc ds n P
  | [], acc, _, _, q => by rw [List.filterMap_nil, List.append_nil] at q; exact q
  | d :: ds, acc, hs, hl, q => by
    rw [List.length_cons] at hl
    refine hs d List.mem_cons_self (fun y k => acc.length < 1000 ∧ lcLoop g wt we e₀ (acc ++ [y]) ds k P) (fun k => lcLoop g wt we e₀ acc ds k P) (fun h => ?_) (fun y h => ?_)
    · rw [List.filterMap_cons_none h] at q
      exact lcLoop.fm f (fun d hd => hs d (List.mem_cons_of_mem _ hd)) (by omega) q
    · rw [List.filterMap_cons_some h] at q
      exact ⟨by omega, lcLoop.fm f (fun d hd => hs d (List.mem_cons_of_mem _ hd)) (by rw [List.length_append, List.length_singleton]; omega) (by rw [List.append_assoc]; exact q)⟩
/-! ### the pen: what is read of it is any number, what is written is forgotten but for the count -/
section
variable {K : PySem.W.Frag} {F : Fx} {σ : L2.St} {H : Hp} {X : Cx} {pos : Pos} {a b : Expr} {wa wb : WEx} {p : Option Addr} {G₀ H₀ G : Hp} {e : En}
def penAt (i : Nat) (e : En) : Prop := e.s[i]? = some (.dat penD)
theorem Rl.pen {i : Nat} (r : Rl K p G₀ H₀ G H σ e) (h : penAt i e) : ∃ q c, ∃ (xs : List Int) (j s : Int), σ[i]? = some (some (.ref q)) ∧ p = some q ∧ G q = none ∧ H q = some (.lst [.ref c, .int j, .int s]) ∧ G c = some (.lst (xs.map V.int)) ∧ xs.length ≤ 12 ∧ 0 ≤ j ∧ j + (e.k : Int) ≤ most := by
  obtain ⟨α, r'⟩ := id r
  obtain ⟨v, h1, h2⟩ := r'.dat i _ h
  obtain ⟨q, rfl, hp⟩ := h2.pen_inv
  obtain ⟨h3, c, xs, j, s, h4, h5⟩ := r'.w.pen q hp
  exact ⟨q, c, xs, j, s, h1, hp, h3, h4, h5⟩
theorem Rl.penSet {q c : Addr} {j s j' s' : Int} {k' : Nat} (r : Rl K p G₀ H₀ G H σ e) (hp : p = some q) (hH : H q = some (.lst [.ref c, .int j, .int s])) (h0 : 0 ≤ j') (hm : j' + (k' : Int) ≤ most) : Rl K p G₀ H₀ G (L2.upd H q (.lst [.ref c, .int j', .int s'])) σ { e with k := k' } := by
  obtain ⟨α, r⟩ := r
  obtain ⟨gq, c', xs, j2, s2, h2, h3, h4, _⟩ := r.w.pen q hp
  have ec : c' = c := by rw [hH] at h2; injection h2 with h2; injection h2 with h2; injection h2 with h2 _; injection h2 with h2; exact h2.symm
  subst ec
  refine ⟨α, ⟨fun b u z => ?_, fun b ea => ?_⟩, ⟨r.st.gg, fun b u z n => ?_, r.st.nn, fun b d ea h => ?_⟩, r.len, r.dat, fun i ds h => ?_, r.sep⟩
  · rw [upd_ne (ne_of_none z gq)]; exact r.w.same _ _ z
  · rw [hp] at ea; cases ea
    exact ⟨gq, _, xs, j', s', upd_same, h3, h4, h0, hm⟩
  · rw [upd_ne (fun z => n (by rw [hp, z]))]; exact r.st.hh b u z n
  · rw [hp] at ea; cases ea
    obtain ⟨i, t, z⟩ := r.st.pc _ d hp h
    rw [hH] at z
    cases z
    exact ⟨j', s', upd_same⟩
  · obtain ⟨ys, q1, q2, q3, q4, q5, q6⟩ := r.own i ds h
    exact ⟨ys, q1, by rw [upd_ne (fun z => q5 (by rw [hp, z]))]; exact q2, q3, q4, q5, q6⟩
/-- the cells that the pen draws from -/
def PenIs (F : Fx) (xs : List Int) : Prop := xs.length ≤ 12 ∧ ∀ a, F.p = some a → ∃ c, HasC F.H₀ a c ∧ F.G₀ c = some (.lst (xs.map V.int))
def wPen0 (xs : List Int) (i : Nat) : WEx := fun e Q _ => penAt i e ∧ Q (.list (xs.map PyData.int)) e
def wPen1 (i : Nat) : WEx := fun e Q _ => penAt i e ∧ ∀ j : Int, 0 ≤ j → j + (e.k : Int) ≤ most → Q (.int j) e
def wPen2 (i : Nat) : WEx := fun e Q _ => penAt i e ∧ ∀ s : Int, Q (.int s) e
variable {x : Str} {i jj : Nat} {p1 p2 p3 : Pos}
theorem de_pen0 {xs : List Int} (hP : PenIs F xs) (hv : PE X (.Name x p1) (tVar i)) (hs : PlainIx (.Constant (.int 0) jj p2) := by intro _ _; rfl) : DE X F (.Subscript (.Name x p1) (.Constant (.int 0) jj p2) p3) (wPen0 xs i) :=
  de_of (pe_ix (ix_list.or ix_tup) hv pe_int hs) (fun e Q Q' x x' h _ q => ⟨q.1, h _ _ q.2⟩) fun σ H Q ⟨e, G, r, h, q⟩ => by
    obtain ⟨a, c, ys, j, s, h1, hp, h3, h4, h5, h6, h7, h8⟩ := r.pen h
    obtain ⟨c', g1, g2⟩ := hP.2 a hp
    obtain ⟨α, r'⟩ := id r
    obtain ⟨i', t', g3⟩ := r'.st.pc a c' hp g1
    have ec : c' = c := by rw [h4] at g3; injection g3 with g3; injection g3 with g3; injection g3 with g3 _; injection g3 with g3; exact g3.symm
    subst ec
    exact ⟨_, h1, .inl ⟨a, _, 0, .ref c', rfl, rfl, SqL.of h4, rfl, q _ G H (Same.refl G) r (.lst (r'.st.gg _ _ g2) (RA.toInts xs))⟩⟩
theorem de_pen1 (hv : PE X (.Name x p1) (tVar i)) (hs : PlainIx (.Constant (.int 1) jj p2) := by intro _ _; rfl) : DE X F (.Subscript (.Name x p1) (.Constant (.int 1) jj p2) p3) (wPen1 i) :=
  de_of (pe_ix (ix_list.or ix_tup) hv pe_int hs) (fun e Q Q' x x' h _ q => ⟨q.1, fun j l m => h _ _ (q.2 j l m)⟩) fun σ H Q ⟨e, G, r, h, q⟩ => by
    obtain ⟨a, c, xs, j, s, h1, hp, h3, h4, h5, h6, h7, h8⟩ := r.pen h
    exact ⟨_, h1, .inl ⟨a, _, 1, .int j, rfl, rfl, SqL.of h4, rfl, q j h7 h8 _ G H (Same.refl G) r (.int j)⟩⟩
theorem de_pen2 (hv : PE X (.Name x p1) (tVar i)) (hs : PlainIx (.Constant (.int 2) jj p2) := by intro _ _; rfl) : DE X F (.Subscript (.Name x p1) (.Constant (.int 2) jj p2) p3) (wPen2 i) :=
  de_of (pe_ix (ix_list.or ix_tup) hv pe_int hs) (fun e Q Q' x x' h _ q => ⟨q.1, fun j => h _ _ (q.2 j)⟩) fun σ H Q ⟨e, G, r, h, q⟩ => by
    obtain ⟨a, c, xs, j, s, h1, hp, h3, h4, h5, h6, h7, h8⟩ := r.pen h
    exact ⟨_, h1, .inl ⟨a, _, 2, .int s, rfl, rfl, SqL.of h4, rfl, q s _ G H (Same.refl G) r (.int s)⟩⟩
def wPenS1 (i : Nat) (w : WEx) : WSt := fun e D => w e (fun d e1 => ∃ (j : Int) (k' : Nat), d = .int j ∧ penAt i e1 ∧ 0 ≤ j ∧ j + (k' : Int) ≤ most ∧ D.nx { e1 with k := k' }) D.ex
def wPenS2 (i : Nat) (w : WEx) : WSt := fun e D => w e (fun d e1 => ∃ j, d = .int j ∧ penAt i e1 ∧ D.nx e1) D.ex
theorem ds_pen1 (h : DE X F a wa) (hv : PE X (.Name x p1) (tVar i))
    (ha : ∀ v, assign (.Subscript (.Name x p1) (.Constant (.int 1) jj p3) p2) X.env v = (do
      let ov ← holding [v] (eval (.Name x p1) X.env)
      let iv ← holding [v, ov] (eval (.Constant (.int 1) jj p3) X.env)
      standAt p2
      holding [v, ov,
            iv] (setItem ov iv v)
      release [v, ov, iv] []) := by intro _; rfl)
    (hs : swapsWithSole [.Subscript (.Name x p1) (.Constant (.int 1) jj p3) p2] a pos.line X.env = pure false := by rfl) (hw : swappedStores [.Subscript (.Name x p1) (.Constant (.int 1) jj p3) p2] a X.env = pure none := by rfl) (h1 : (assignEach [.Subscript (.Name x p1) (.Constant (.int 1) jj p3) p2] X.env).map (·.2) = [assign (.Subscript (.Name x p1) (.Constant (.int 1) jj p3) p2) X.env] := by rfl) :
    DS X F (.Assign [.Subscript (.Name x p1) (.Constant (.int 1) jj p3) p2] a pos) (wPenS1 i wa) :=
  ds_of (ps_asg h.run (pg_sub hv pe_int set_list ha) hs hw h1) (fun e A B l q => h.mono e _ _ _ _ (fun d e1 ⟨j, k', i1, i2, i3, i4, y⟩ => ⟨j, k', i1, i2, i3, i4, l.nx _ y⟩) l.ex q) fun D σ H ⟨e, G, r, q⟩ => by
    refine tE.mono h.mono (fun v H1 z => ?_) (tE.any h.mono r (h.mono e _ _ _ _ (fun _ _ z => z) (fun y e' z C G' H' s r' ec => z C σ G' H' s r' ec) q))
    obtain ⟨e1, G1, d, s1, r1, rv, j', k', ed, pa, j0, jm, z⟩ := z
    subst ed
    cases rv.int_inv
    obtain ⟨a, c, xs, j, s, g1, hp, h3, h4, h5, h6, h7, h8⟩ := r1.pen pa
    exact ⟨_, g1, a, _, 1, 1, rfl, rfl, h4, rfl, z σ G1 _ s1 (r1.penSet hp h4 j0 jm)⟩
theorem ds_pen2 (h : DE X F a wa) (hv : PE X (.Name x p1) (tVar i))
    (ha : ∀ v, assign (.Subscript (.Name x p1) (.Constant (.int 2) jj p3) p2) X.env v = (do
      let ov ← holding [v] (eval (.Name x p1) X.env)
      let iv ← holding [v, ov] (eval (.Constant (.int 2) jj p3) X.env)
      standAt p2
      holding [v, ov,
            iv] (setItem ov iv v)
      release [v, ov, iv] []) := by intro _; rfl)
    (hs : swapsWithSole [.Subscript (.Name x p1) (.Constant (.int 2) jj p3) p2] a pos.line X.env = pure false := by rfl) (hw : swappedStores [.Subscript (.Name x p1) (.Constant (.int 2) jj p3) p2] a X.env = pure none := by rfl) (h1 : (assignEach [.Subscript (.Name x p1) (.Constant (.int 2) jj p3) p2] X.env).map (·.2) = [assign (.Subscript (.Name x p1) (.Constant (.int 2) jj p3) p2) X.env] := by rfl) :
    DS X F (.Assign [.Subscript (.Name x p1) (.Constant (.int 2) jj p3) p2] a pos) (wPenS2 i wa) :=
  ds_of (ps_asg h.run (pg_sub hv pe_int set_list ha) hs hw h1) (fun e A B l q => h.mono e _ _ _ _ (fun d e1 ⟨j, i1, i2, y⟩ => ⟨j, i1, i2, l.nx _ y⟩) l.ex q) fun D σ H ⟨e, G, r, q⟩ => by
    refine tE.mono h.mono (fun v H1 z => ?_) (tE.any h.mono r (h.mono e _ _ _ _ (fun _ _ z => z) (fun y e' z C G' H' s r' ec => z C σ G' H' s r' ec) q))
    obtain ⟨e1, G1, d, s1, r1, rv, j', ed, pa, z⟩ := z
    subst ed
    cases rv.int_inv
    obtain ⟨a, c, xs, j, s, g1, hp, h3, h4, h5, h6, h7, h8⟩ := r1.pen pa
    exact ⟨_, g1, a, _, 2, 2, rfl, rfl, h4, rfl, z σ G1 _ s1 (r1.penSet hp h4 h7 h8)⟩
/-! ### tests that compare -/
variable {op : CmpOp}
theorem toTest {w : WEx} (m : Mono w) {Q : Bool → Hp → Prop} (q : tT K F (wTest w) σ H Q) : tE K F w σ H (fun x H' => ∃ k, x = .bl k ∧ Q k H') := by
  obtain ⟨e, G, r, q⟩ := q
  exact ⟨e, G, r, m e _ _ _ _ (fun d e1 ⟨k, ek, z⟩ v G' H' s r' rv => by
    subst ek
    exact ⟨k, rv.bl_inv, z G' H' s r'⟩) (fun _ _ z => z) q⟩
theorem dt_cmp {f : B2} {r : R2} (ho : OpR X (compareOp op) r) (hf : f.Mono) (ft : Fits X.K f r) (ha : DE X F a wa) (hb : DE X F b wb) (hm : behindInMarks op b = false := by first | exact nomark _ (by decide) (by decide) | rfl) : DT X F (.Compare a [op] [b] pos) (wTest (wBin f wa wb)) :=
  dt_of (pt_cmpR ho ha.run hb.run hm) (wTest.mono (wBin.mono hf ha.mono hb.mono)) fun σ H Q q => tE.two hf ft ha.mono hb.mono (toTest (wBin.mono hf ha.mono hb.mono) q)
theorem dt_isN {j} {p2 : Pos} (ha : DE X F a wa) : DT X F (.Compare a [.Is] [.Constant .none j p2] pos) (wTest (wIsN wa)) :=
  dt_of (pt_cmp (pc_isN ha.run) rfl) (wTest.mono (wIsN.mono ha.mono)) fun σ H Q q => by
    obtain ⟨e, G, r, q⟩ := toTest (wIsN.mono ha.mono) q
    exact ⟨e, G, r, ha.mono e _ _ _ _ (fun d e1 z v G' H' s r' rv => by
      obtain ⟨k, e1, e2⟩ := z _ G' H' s r' (.bl _)
      refine ⟨k, ?_, e2⟩
      rw [← e1, rv.isN]) (fun _ _ z => z) q⟩
theorem dt_notN {j} {p2 : Pos} (ha : DE X F a wa) : DT X F (.Compare a [.IsNot] [.Constant .none j p2] pos) (wTest (wNotN wa)) :=
  dt_of (pt_cmp (pc_notN ha.run) rfl) (wTest.mono (wNotN.mono ha.mono)) fun σ H Q q => by
    obtain ⟨e, G, r, q⟩ := toTest (wNotN.mono ha.mono) q
    exact ⟨e, G, r, ha.mono e _ _ _ _ (fun d e1 z v G' H' s r' rv => by
      obtain ⟨k, e1, e2⟩ := z _ G' H' s r' (.bl _)
      refine ⟨k, ?_, e2⟩
      rw [← e1, rv.isN]) (fun _ _ z => z) q⟩
end
/-! ### a def that reads the pen's cells -/
section
variable {P : Program} {w : World} {K :
      PySem.W.Frag} {mg : Str → Option Value} {base : Heap}
theorem defDp {x : Str} {st : Stmt} {N ps : List Str} {k : Nat} {wf : Wc} (F : FunAt K mg x st ps) (S : FnScope N ps (defScope st)) (len : ∀ ds k Q x, wf ds k Q x → ds.length = ps.length)
    (body : ∀ (f : Addr) (cdv : Value) (A : Around) (outer : List Env) (s : Shared) (H : Hp) (E : XK) (p : Option Addr) (G : Hp) (xs : List Int), A.guards = some [] → Room k (A.deeper (envOfC x (defScope st) s.heap.objs.size f cdv)) → PenIs ⟨p, G, H, fun cls d _ H' => E cls d H'⟩ xs →
      ∃ ws, DSs (cxOf (L2.CX P w) P w K mg base N x (defScope st) f cdv A outer s H E) ⟨p, G, H, fun cls d _ H' => E cls d H'⟩ (defBody st) ws ∧ ∀ ds n Q x, wf ds n Q x → ws (enOf N ds n) (defEnds Q x)) : Def P w K mg base x (k + 1) ps wf := by
  obtain ⟨f, fd, h1, h2, h3⟩ := F
  refine ⟨f, fd, ?_, h2, h1.kp, h3⟩
  refine fnG_of h1 S (fun vs H Q E ⟨p, G, ds, n, _, ra, q⟩ => by rw [ra.length]; exact len ds n _ _ q) fun cdv A outer s H vs Q E hg hr ⟨p, G, ds, n, wd, ra, q⟩ => ?_
  have hx : ∃ xs, PenIs ⟨p, G, H, fun cls d _ H' => E cls d H'⟩ xs := by
    cases p with
    | none => exact ⟨[], by decide, fun _ z => nomatch z⟩
    | some a =>
      obtain ⟨_, c, xs, i, r, g1, g2, g3, _⟩ := wd.pen a rfl
      exact ⟨xs, g3, fun b eb => by cases eb; exact ⟨c, ⟨i, r, g1⟩, g2⟩⟩
  obtain ⟨xs, hx⟩ := hx
  obtain ⟨ws, h, hq⟩ := body f cdv A outer s H E p G xs hg hr hx
  refine ⟨_, h.run, enOf N ds n, G, Rl.start wd ra, h.mono _ _ _ ⟨?_, ?_, ?_, ?_, ?_⟩ (hq ds n _ _ q)⟩
  · exact fun e' z σ' G' H' _ r => by obtain ⟨α, r'⟩ := id r; exact z _ G' H' r'.st r'.w .non
  · exact fun d e' z v σ' G' H' _ r rv => by obtain ⟨α, r'⟩ := id r; exact z v G' H' r'.st r'.w rv
  · exact fun _ z => z.elim
  · exact fun _ z => z.elim
  · exact fun y e' z C σ' G' H' _ r ec => by obtain ⟨α, r'⟩ := id r; exact z C G' H' r'.st r'.w ec
end
end L2.DL


set_option
      maxHeartbeats 1000000
namespace L2.DL
open PySem PySem.Spec
      PyProof.Rows
/-! ### the law's script is cut; a fresh list is given back; a pair of which one is a list of ours -/
def wSlS (wa : WEx) (wl wh : WOx) : WEx := fun e Q x => wa e (fun d e1 => wl e1 (fun lo e2 => wh e2 (fun hi e3 => ∃ ns : List Int, d = scrD ns ∧ Q (.list (cutD (ns.map PyData.int) lo hi)) e3) x) x) x
section
variable {K : PySem.W.Frag} {F : Fx} {σ : L2.St} {H : Hp} {X : Cx} {pos : Pos} {a b : Expr} {wa wb : WEx} {wl wh : WOx} {lo hi : Option Expr} {wr : WAx}
theorem de_slS {p2 : Pos} (ha : DE X F a wa) (hl : DO X F lo wl) (hh : DO X F hi wh) : DE X F (.Subscript a (.Slice lo hi none p2) pos) (wSlS wa wl wh) := by
  refine de_of (pe_slice (sl_list.or sl_tupA) ha.run hl.run hh.run) (fun e Q Q' x x' h1 h2 q => ha.mono e _ _ _ _ (fun d e1 q1 => hl.mono e1 _ _ _ _ (fun o e2 q2 => hh.mono e2 _ _ _ _ (fun u e3 ⟨ns, ed, q3⟩ => ⟨ns, ed, h1 _ _ q3⟩) h2 q2) h2 q1) h2 q) fun σ H Q q => ?_
  obtain ⟨e, G, r, q⟩ := q
  refine tE.mono ha.mono (fun v H1 z => ?_) (tE.any ha.mono r q)
  obtain ⟨e1, G1, d, s1, r1, rv, z⟩ := z
  refine ⟨e1, G1, r1, hl.mono e1 _ _ _ _ (fun o e2 z2 G2 H2 s2 r2 => ?_) (fun _ _ => PX.mono s1) z⟩
  refine ⟨e2, G2, r2, hh.mono e2 _ _ _ _ (fun u e3 z3 G3 H3 s3 r3 => ?_) (fun _ _ => PX.mono (s1.trans s2)) z2⟩
  have rv3 := rv.mono (s2.trans s3)
  have s13 := s1.trans (s2.trans s3)
  obtain ⟨ns, ed, z3⟩ := z3
  subst ed
  obtain ⟨l, rfl, g1⟩ := rv3.scr_inv
  exact .inl ⟨l, _, rfl, r3.same.seq g1, fun p hp => z3 _ (upd G3 p (.lst (cutV (ns.map V.int) o u))) _ (s13.trans (sameNew r3.same hp)) (r3.new hp) (.lst upd_same (((RA.toInts ns).cut o u).mono (sameNew r3.same hp)))⟩
/-- a, b = x, [..] where b is ours -/
def wParO (i j : Nat) (wa : WEx) (wr : WAx) : WSt := fun e D => wa e (fun d e1 => wr e1 (fun ds e2 => D.nx (put (put e2 i (.dat d)) j (.own ds))) D.ex) D.ex
theorem ds_parO {i j : Nat} {x y : Str} {px py pt : Pos} {kt k2 pt2} (hc : X.calm = true) (hN : X.N.Nodup) (h : DE X F a wa) (h' : DF X F b wr) (hij : i ≠ j) (hw : swappedStores [.Tuple [.Name x px, .Name y py] kt pt] (.Tuple [a, b] k2 pt2) X.env = pure (some [x, y]))
    (hi : X.N[i]? = some x := by rfl) (hj : X.N[j]? = some y := by rfl) (hx : X.env.scope.names.lookup x = some .local := by rfl) (hy : X.env.scope.names.lookup y = some .local := by rfl)
    (hs : swapsWithSole [.Tuple [.Name x px, .Name y py] kt pt] (.Tuple [a, b] k2 pt2) pos.line X.env = pure false := by rfl) (s1 : starEach [a, b] X.env = (false, eval a X.env) :: starEach [b] X.env := by rfl) (s2 : starEach [b] X.env = (false, eval b X.env) :: starEach [] X.env := by rfl) :
    DS X F (.Assign [.Tuple [.Name x px, .Name y py] kt pt] (.Tuple [a, b] k2 pt2) pos) (wParO i j wa wr) :=
  ds_of (ps_par hc hN hi hj hij hx hy (pa_cons h.run (pa_cons h'.run pa_nil s2) s1) hw hs) (fun e A B l q => h.mono e _ _ _ _ (fun d e1 z => h'.mono e1 _ _ _ _ (fun _ _ y => l.nx _ y) l.ex z) l.ex q) fun D σ H ⟨e, G, r, q⟩ => by
    refine tE.mono h.mono (fun v H1 z => ?_) (tE.any h.mono r (h.mono e _ _ _ _ (fun _ _ z => z) (fun y e' z C G' H' s r' ec => z C σ G' H' s r' ec) q))
    obtain ⟨e1, G1, d, s1, r1, rv, z⟩ := z
    refine ⟨e1, G1, r1, h'.mono e1 _ _ _ _ (fun ds e2 z2 q xs G' H' s r' hq ra => ?_) (fun y e' z C G' H' s r' ec => z C σ G' H' (s1.trans s) r' ec) z⟩
    exact ⟨v, _, rfl, z2 _ G' _ (s1.trans s) ((r'.put (rv.mono s)).own hq ra)⟩
/-- the same where a name is held in a cell -/
theorem ds_parC {i j : Nat} {x y : Str} {px py pt : Pos} {kt k2 pt2} (hc : X.calm = true) (h : DE X F a wa) (h' : DF X F b wr) (hg : DGs X [.Name x px, .Name y py] [i, j]) (s1 : starEach [a, b] X.env = (false, eval a X.env) :: starEach [b] X.env := by rfl) (s2 : starEach [b] X.env = (false, eval b X.env) :: starEach [] X.env := by rfl)
    (hn : (assignEach [.Name x px, .Name y py] X.env).length = 2 := by rfl) (hst : (assignEach [.Name x px, .Name y py] X.env).findIdx? (·.1) = none := by rfl)
    (hs : swapsWithSole [.Tuple [.Name x px, .Name y py] kt pt] (.Tuple [a, b] k2 pt2) pos.line X.env = pure false := by rfl) (hw : swappedStores [.Tuple [.Name x px, .Name y py] kt pt] (.Tuple [a, b] k2 pt2) X.env = pure none := by rfl) (h1 : (assignEach [.Tuple [.Name x px, .Name y py] kt pt] X.env).map (·.2) = [assign (.Tuple [.Name x px, .Name y py] kt pt) X.env] := by rfl) :
    DS X F (.Assign [.Tuple [.Name x px, .Name y py] kt pt] (.Tuple [a, b] k2 pt2) pos) (wParO i j wa wr) :=
  ds_of (ps_asg (pe_tup (pa_cons h.run (pa_cons h'.run pa_nil s2) s1)) (pg_tup hc hg.run hn hst) hs hw h1) (fun e A B l q => h.mono e _ _ _ _ (fun d e1 z => h'.mono e1 _ _ _ _ (fun _ _ y => l.nx _ y) l.ex z) l.ex q) fun D σ H ⟨e, G, r, q⟩ => by
    refine tE.mono h.mono (fun v H1 z => ?_) (tE.any h.mono r (h.mono e _ _ _ _ (fun _ _ z => z) (fun y e' z C G' H' s r' ec => z C σ G' H' s r' ec) q))
    obtain ⟨e1, G1, d, s1, r1, rv, z⟩ := z
    refine ⟨e1, G1, r1, h'.mono e1 _ _ _ _ (fun ds e2 z2 q xs G' H' s r' hq ra => ?_) (fun y e' z C G' H' s r' ec => z C σ G' H' (s1.trans s) r' ec) z⟩
    refine ⟨by rw [sizeLine_eq]; exact (by decide : 2 ≤ 16777216), fun p hp => ⟨p, [v, .ref q], rfl, SqT.of upd_same, rfl, rfl, ?_⟩⟩
    have r2 := ((r'.put (i := i) (rv.mono s)).own (i := j) hq ra).new (o := .tup [v, .ref q]) hp
    exact z2 _ _ _ ((s1.trans s).trans (sameNew (o := .tup [v, .ref q]) ((r'.put (i := i) (rv.mono s)).own (i := j) hq ra).same hp)) r2
def wAddF (wa wb : WEx) : WAx := fun e Q x => wa e (fun d e1 => wb e1 (fun d' e2 => ∃ xs ys, d = .list xs ∧ d' = .list ys ∧ xs.length + ys.length ≤ sizeLine ∧ Q (xs ++ ys) e2) x) x
theorem df_add (ha : DE X F a wa) (hb : DE X F b wb) : DF X F (.BinOp a .Add b pos) (wAddF wa wb) :=
  df_of (pe_op op_cat ha.run hb.run) (fun e Q Q' x x' h1 h2 q => ha.mono e _ _ _ _ (fun d e1 z => hb.mono e1 _ _ _ _ (fun d' e2 ⟨xs, ys, i1, i2, i3, y⟩ => ⟨xs, ys, i1, i2, i3, h1 _ _ y⟩) h2 z) h2 q) fun σ H Q ⟨e, G, r, q⟩ => by
    refine tE.mono ha.mono (fun v H1 z => ?_) (tE.any ha.mono r q)
    obtain ⟨e1, G1, d, s1, r1, rd, z⟩ := z
    refine tE.mono hb.mono (fun v' H2 z => ?_) (tE.any hb.mono r1 (hb.mono e1 _ _ _ _ (fun _ _ z => z) (fun _ _ => PX.mono s1) z))
    obtain ⟨e2, G2, d', s2, r2, rd', xs, ys, i1, i2, i3, y⟩ := z
    rw [i1] at rd
    rw [i2] at rd'
    obtain ⟨l, vs, ev, h1, ra⟩ := (rd.mono s2).lst_inv
    obtain ⟨m, ws, ew, h2, rb⟩ := rd'.lst_inv
    exact ⟨l, m, vs, ws, ev, ew, r2.same _ _ h1, r2.same _ _ h2, by rw [ra.length, rb.length]; exact i3, fun p hp => y p _ G2 H2 (s1.trans s2) r2 hp (ra.append rb)⟩
/-- the lists of ours are let go, an expression gives a fresh list -/
theorem Rl.lent (r : ∃ α, Rel K F.p F.G₀ F.H₀ G H σ e α) : ∃ G', Same G G' ∧ Rl K F.p F.G₀ F.H₀ G' H σ (lendE e) := by
  obtain ⟨α, r⟩ := r
  obtain ⟨s, r'⟩ := r.plus
  exact ⟨_, s, r'⟩
end
end L2.DL


set_option
      maxHeartbeats 1000000
namespace L2.DL
open PySem PySem.Spec
      PyProof.Rows
/-! ### a tuple turned round by a slice -/
section
variable {prog : Program} {w : World} {A :
      Around} {E : Value → Shared → Prop} {s : Shared}
theorem turn_places (n : Nat) : Builtin.Slice.slicePlaces ((n : Int) - 1) (-1) (-1) = n := by
  unfold
    Builtin.Slice.slicePlaces
  rw [if_neg (by decide)]
  by_cases h : (n
        : Int) - 1 > -1
  · rw [if_pos h, show (-(-1) : Int) = 1 by decide, Int.ediv_one]
    omega
  · rw [if_neg h]
    omega
theorem fm_all {f : Nat → Option Value} {g : Nat → Value} : ∀ {l : List Nat}, (∀ m ∈ l, f m = some (g m)) → l.filterMap f = l.map g
  | [], _ => rfl
  | m :: l, h => by rw [List.filterMap_cons_some (h m List.mem_cons_self), List.map_cons, fm_all fun y hy => h y (List.mem_cons_of_mem _ hy)]
theorem turn_pick (xs : List Value) : ((List.range xs.length).filterMap fun (m : Nat) => xs.toArray[(((xs.length : Int) - 1) + (m : Int) * (-1)).toNat]?) = xs.reverse := by
  rw [fm_all (g := fun m => xs.reverse.getD m .none) fun m hm => ?_]
  · apply List.ext_getElem?
    intro i
    rw [List.getElem?_map]
    by_cases hi : i < xs.length
    · rw [List.getElem?_range hi, List.getElem?_eq_getElem (by rw [List.length_reverse]; exact hi)]
      simp [List.getD_eq_getElem?_getD, List.getElem?_eq_getElem, hi]
    · rw [List.getElem?_eq_none (by simp; omega), List.getElem?_eq_none (by simp; omega)]
      rfl
  · rw [List.mem_range] at hm
    have : (((xs.length : Int) - 1) + (m : Int) * (-1)).toNat = xs.length - 1 - m := by omega
    simp only [this, List.getElem?_toArray]
    rw [List.getD_eq_getElem?_getD, List.getElem?_reverse hm, List.getElem?_eq_getElem (by omega)]
    rfl
theorem turn_applied {sl : Addr} {t : Tok} {n : Nat} {Q : Int × Int × Nat → Shared → Prop} {vs : Value} (hs : s.heap.IsSliceOf sl .none .none vs) (pv : IsPart vs (some (-1)))
    (h : Q ((n : Int) - 1, -1, n) s) : wpAny (model prog w) A (Builtin.Slice.sliceApplied (.ref sl) (pure (n : Int))) Q E s := by
  obtain ⟨os, hos,
        hcs, hds⟩ := id hs
  unfold Builtin.Slice.sliceApplied
        Builtin.Slice.sliceFields
  refine wpAny_bind (wpAny_bind (wpAny_field hos hds (x := .none) rfl (wpAny_bind (wpAny_field hos hds (x := .none) rfl (wpAny_bind (wpAny_field hos hds (x := vs) rfl (wpAny_pure ?_)))))))
  refine wpAny_bind (HT.slicePart_ pv ?_)
  show wpAny _ _ (if ((-1 : Int) == 0) = true then _ else _) _ _ s
  rw [if_neg (by decide)]
  refine wpAny_bind (HT.slicePart_ .none (wpAny_bind (HT.slicePart_ .none (wpAny_bind (wpAny_pure ?_)))))
  show wpAny _ _ (pure (((n : Int) - 1), (-1 : Int), Builtin.Slice.slicePlaces ((n : Int) - 1) (-1) (-1))) _ _ s
  rw [turn_places]
  exact wpAny_pure h
theorem turn_tuple_ {t sl : Addr} {items : List Value} {vs : Value} {Q : Value → Shared → Prop} (ht : IsTup s.heap t items.toArray) (hs : s.heap.IsSliceOf sl .none .none vs) (pv : IsPart vs (some (-1)))
    (h : Q (.ref s.heap.objs.size) { s with heap := s.heap.push { cls := .type "tuple", data := .seq items.reverse.toArray } })
    (hsz : items.length ≤ sizeLine) : wpAny (model prog w) A (getItem (.ref t) (.ref sl)) Q E s := by
  have htake : sizeOk (.seq items.reverse.toArray) := by
    show items.reverse.toArray.size ≤ sizeLine
    rw [List.size_toArray, List.length_reverse]
    exact hsz
  obtain ⟨os, hos,
        hcs, hds⟩ := id hs
  have hTs : s.TypeIs (.ref sl) "slice" :=
        ⟨os, hos, hcs⟩
  unfold getItem
  try with_reducible
        refine wpAny_holding ?_
  try (refine wpAny_bind (wpAny_pure ?_))
  refine wpAny_bind (wpAny_sequenceKey
        ht.typeIs (by decide) ?_)
  refine wpAny_bind (wpAny_callSpecial?_slot (name :=
        Str.ofString "__getitem__") ht.typeIs PyProof.Rows.slot_tuple_getitem
    (wpAny_call_entry PyProof.Rows.slot_tuple_getitem
          ht.typeIs entry_tuple_getitem ?_ (args_tuple_getitem _ _)))
  show wpAny _ _ (Builtin.Tuple.tupleItemsOf
        (.ref t) >>= _) _ _ s
  refine wpAny_bind
        (tupleItemsOf_ ht ?_)
  refine wpAny_bind
        (wpAny_typeOf hTs ?_)
  rw [if_pos (by decide), List.size_toArray]
  refine wpAny_bind (turn_applied (t := 0) hs pv ?_)
  have hno : ¬ ((((items.length : Int) - 1 == 0) && ((-1 : Int) == 1) && (items.length == items.length)) = true) := by
    intro q
    rw [Bool.and_eq_true,
          Bool.and_eq_true] at q
    exact absurd q.1.2 (by decide)
  show wpAny _ _ (if (((items.length : Int) - 1 == 0) && ((-1 : Int) == 1) && (items.length == items.length)) = true then _ else _) _ _ s
  rw [if_neg hno, turn_pick]
  first
    | exact wpAny_bind (m := Builtin.Tuple.tupleExact _) (wpAny_newObj_type (wpAny_pure ⟨_,
          rfl, wpAny_pure h⟩) htake)
    | exact wpAny_bind (m := Builtin.Tuple.tupleExact _) (wpAny_newObj_type
          (wpAny_bind (wpAny_pure (wpAny_pure ⟨_, rfl, wpAny_pure h⟩))) htake)
    | exact wpAny_bind (wpAny_bind (m :=
          Builtin.Tuple.tupleExact _) (wpAny_newObj_type (wpAny_pure (wpAny_pure ⟨_, rfl, wpAny_pure h⟩)) htake))
    | exact wpAny_bind (wpAny_bind (m :=
          Builtin.Tuple.tupleExact _) (wpAny_newObj_type (wpAny_pure ⟨_, rfl, wpAny_pure h⟩) htake))
end
def tRevT (K : PySem.W.Frag) (te : TE) : TE := fun σ H Q => te σ H fun x H1 => ∃ a xs, x = .ref a ∧ SqT K H1 a xs ∧ ∀ p, H1 p = none → Q (.ref p) (upd H1 p (.tup xs.reverse))
section
variable {X : Cx} {F : Fx} {wa : WEx}
theorem pe_revT {e : Expr} {te : TE} {k : Nat} {p1 p2 p3 pos : Pos} (he : PE X e te) : PE X (.Subscript e (.Slice none none (some (.UnaryOp .USub (.Constant (.int 1) k p1) p2)) p3) pos) (tRevT X.K te) := by
  refine ⟨fun pins s σ H Q I h =>
        ?_⟩
  refine Subscript_ (thn (he.run pins s σ H _ I h) fun v s1 ⟨x,
        H1, I1, r1, q1⟩ => ?_)
  obtain ⟨a, xs,
        ex, hx, q⟩ := q1
  subst ex
  cases r1
  have hst : PO X (some (.UnaryOp .USub (.Constant (.int 1) k p1) p2)) (tPart (tUn (rU fun i =>
        .int (-i)) (tC (.int 1)))) := po_some (pe_un un_neg pe_int)
  refine wpAny_Slice (thn (po_none.run pins s1 σ H1 (fun o H2 =>
        o = none ∧ H2 = H1) I1 ⟨rfl, rfl⟩) fun vl s2 ⟨l, H2, I2, pl, el, e2⟩ => ?_)
  subst el e2
  refine thn (po_none.run pins s2 σ H2 (fun o H3 =>
        o = none ∧ H3 = H2) I2 ⟨rfl, rfl⟩) fun vu s3 ⟨u, H3, I3, pu, eu, e3⟩ => ?_
  subst eu e3
  refine thn (hst.run pins s3 σ H3 (fun o H4 => o = some (-1) ∧ H4 = H3) I3 ⟨1,
        rfl, -1, rfl, rfl, rfl⟩) fun vs s4 ⟨o, H4, I4, ps, eo, e4⟩ => ?_
  subst eo e4
  have J5 : Inv X pins σ H4 { s4 with heap := s4.heap.push { cls := .type "slice", data := .fields #[vl, vu, vs] } } := I4.kept (t' := s4.toks) fun b ob q => Heap.get?_push_of_some _ q
  obtain ⟨its, r, ht, hz⟩ := J5.tuple hx
  cases pl
  cases pu
  show wpAny (model X.prog X.w) X.A (subscriptTail e (.Slice none none (some (.UnaryOp .USub (.Constant (.int 1) k p1) p2)) p3) (.ref a) (.ref s4.heap.objs.size)) (EP X pins σ Q) X.xe { s4 with heap := s4.heap.push { cls := .type "slice", data := .fields #[.none, .none, vs] } }
  refine tail_any (ops := [.ref a, .ref s4.heap.objs.size]) ht.typeIs (PyProof.Rows.slot_tuple_getitem.lookup) ?_ (by with_unfolding_all rfl)
  refine turn_tuple_ ht (Heap.IsSliceOf.new _ .none .none vs) ps ?_ (by have := r.length; omega)
  refine ⟨.ref _, _, J5.laid (t' := s4.toks) (o := .tup xs.reverse) (fun b ob q => Heap.get?_push_of_some _ q) (Nat.le_refl _) ?_, rfl, q _ (J5.hok.fresh (Nat.le_refl _))⟩
  exact ⟨by rw [List.length_reverse]; exact hz, _, r.reverse, IsTup.new _ _⟩
/-- xs[::-1], xs a tuple -/
def wRevT (w : WEx) : WEx := fun e Q x => w e (fun d e1 => ∃ ds, d = .tuple ds ∧ Q (.tuple ds.reverse) e1) x
theorem de_rev {e : Expr} {k : Nat} {p1 p2 p3 pos : Pos} (h : DE X F e wa) : DE X F (.Subscript e (.Slice none none (some (.UnaryOp .USub (.Constant (.int 1) k p1) p2)) p3) pos) (wRevT wa) :=
  de_of (pe_revT h.run) (fun e Q Q' x x' h1 h2 q => h.mono e _ _ _ _ (fun d e1 ⟨ds, ed, z⟩ => ⟨ds, ed, h1 _ _ z⟩) h2 q) fun σ H Q ⟨e, G, r, q⟩ =>
    ⟨e, G, r, h.mono e _ _ _ _ (fun d e1 ⟨ds, ed, z⟩ v G' H' s r' rv => by
      subst ed
      obtain ⟨a, xs, rfl, g, ra⟩ := rv.tup_inv
      exact ⟨a, xs, rfl, sameT r'.same g, fun p hp => z _ (upd G' p (.tup xs.reverse)) _ (s.trans (sameNew r'.same hp)) (r'.new hp) (.tup (SqT.of upd_same) (ra.reverse.mono (sameNew r'.same hp)))⟩) (fun _ _ z => z) q⟩
end
end L2.DL


set_option
      maxHeartbeats 1000000
namespace L2.DL
open PySem PySem.Spec
      PyProof.Rows
/-! ### sorted(set(t)), t a tuple of ints -/
def rSetTup (K : PySem.W.Frag) (w : World) : List V → Hp → VK → Prop := fun xs H Q => ∃ (l : Addr) (ns : List Int), xs = [.ref l] ∧ SqT K H l (ns.map V.int) ∧ ns.length ≤ 1000 ∧
  ∀ p S n, H p = none → (∀ k, S k = true ↔ k ∈ ns) → n ≤ ns.length → Q (.ref p) (upd H p (SetO w p S n))
theorem cr_setTup {X : Cx} (hc : X.calm = true) : CallR X (.type "set") (rSetTup X.K X.w) := by
  intro pins s σ
        H xs us Q I r h
  obtain ⟨l, ns, rfl, hq, hl, q⟩ := h
  rw [Vals.ref1 r]
  obtain ⟨its, rv, pt, hz⟩ := I.tuple hq
  have hi : IntsAre its.toArray.toList ns :=
        ints_of_vals rv
  refine call_set_tupI ns (I.ok.hd hc) (show s.heap.IsTuple l its.toArray from pt) hi (by unfold scanBound; omega) fun h' tk c R1 hcn k => ?_
  exact ⟨.ref _, upd H s.heap.objs.size (SetO X.w s.heap.objs.size (fun j => decide (j ∈ ns)) c), I.laid (t' := tk) (fun b u e => k b u e) (Nat.le_refl _) (setO_new R1), rfl, q _ _ _ (I.hok.fresh (Nat.le_refl _)) (fun j => by simp) hcn⟩
def wSortedSet (w : WEx) : WEx := fun e Q x => w e (fun d e1 => ∃ ns : List Int, d = .tuple (ns.map PyData.int) ∧ ns.length ≤ 60 ∧ ∀ ms : List Int, ms.Pairwise (· < ·) → (∀ k, k ∈ ms ↔ k ∈ ns) → ms.length ≤ ns.length → Q (.list (ms.map PyData.int)) e1) x
section
variable {X : Cx} {F : Fx} {pos : Pos} {a : Expr} {wa : WEx}
theorem de_sortedSet {p1 p2 q : Pos} (hc : X.calm = true) (h : DE X F a wa) (hm : X.mg "sorted" = none) (hm2 : X.mg "set" = none) (hg : Gl X "sorted" := by rfl) (hg2 : Gl X "set" := by rfl) (hv : bootBuiltins "sorted" = some (.builtin "sorted") := by decide +kernel) (hv2 : bootBuiltins "set" = some (.type "set") := by decide +kernel)
    (hs : starEach [a] X.env = (false, eval a X.env) :: starEach [] X.env := by rfl) (hpl : (backTo q (starEach [] X.env)).any (·.1) = false := by rfl)
    (hs2 : starEach [.Call (.Name "set" p2) [a] [] q] X.env = (false, eval (.Call (.Name "set" p2) [a] [] q) X.env) :: starEach [] X.env := by rfl) (hpl2 : (backTo pos (starEach [] X.env)).any (·.1) = false := by rfl) :
    DE X F (.Call (.Name "sorted" p1) [.Call (.Name "set" p2) [a] [] q] [] pos) (wSortedSet wa) :=
  de_of (pe_callB (cr_sortedSet hc) hg hm hv (pa_cons (pe_callTy (cr_setTup hc) hg2 hm2 hv2 (pa_cons h.run pa_nil hs) (by decide) (by decide) hs hpl) pa_nil hs2) (by decide) (by decide) hs2 hpl2)
    (fun e Q Q' x x' h1 h2 q => h.mono e _ _ _ _ (fun d e1 ⟨ns, ed, hl, z⟩ => ⟨ns, ed, hl, fun ms p1 p2 p3 => h1 _ _ (z ms p1 p2 p3)⟩) h2 q) fun σ H Q ⟨e, G, r, q⟩ =>
    ⟨e, G, r, h.mono e _ _ _ _ (fun d e1 ⟨ns, ed, hl, z⟩ v G' H' s r' rv => by
      subst ed
      obtain ⟨l, xs, rfl, g, ra⟩ := rv.tup_inv
      have ex := ra.ofInts
      subst ex
      refine ⟨l, ns, rfl, sameT r'.same g, by omega, fun p S n hp hS hn => ⟨p, S, n, rfl, upd_same, by omega, fun ms q' pw hk hlen hq => ?_⟩⟩
      have r2 := r'.new (o := SetO X.w p S n) hp
      have s2 := sameNew (o := SetO X.w p S n) r'.same hp
      exact z ms pw (fun k => by rw [hk, hS]) (by omega) _ _ _ (s.trans (s2.trans (sameNew r2.same hq))) (r2.new hq) (.lst upd_same (RA.toInts ms))) (fun _ _ z => z) q⟩
end
end L2.DL


set_option
      maxHeartbeats 1000000
namespace L2.DL
open PySem PySem.Spec
      PyProof.Rows
/-! ### all(list of bools), xs.extend(ys) -/
def allD : BL
  | [.list xs], P => ∃ bs : List Bool, xs = bs.map PyData.bool ∧ P (.bool (bs.all id))
  | _, _ => False
theorem allD.mono : BL.Mono allD := by
  intro a P P' h q
  unfold allD at q ⊢
  split at q
  · obtain ⟨bs, e, z⟩ := q; exact ⟨bs, e, h _ z⟩
  · exact q.elim
theorem fitsAll {K : PySem.W.Frag} : FitsL K allD (rAll K) := by
  intro p G₀ H₀ G H σ e xs ds P Q r ra q k
  unfold allD at q
  split at q
  · obtain ⟨x, rfl, rx⟩ := ra.one
    obtain ⟨a, ys, rfl, h1, r1⟩ := rx.lst_inv
    obtain ⟨bs, e1, z⟩ := q
    subst e1
    have ey := r1.ofBools
    subst ey
    exact ⟨a, bs, rfl, SqL.of (r.same _ _ h1), ans r (.bl _) k z⟩
  · exact q.elim
section
variable {K : PySem.W.Frag} {F : Fx} {X : Cx} {pos : Pos} {a : Expr} {wa : WEx}
def wExt (i : Nat) (w : WEx) : WSt := fun e D => (∃ ds, e.s[i]? = some (.own ds)) ∧ w e (fun d e1 => ∃ ds ys, e1.s[i]? = some (.own ds) ∧ d = .list ys ∧ ds.length + ys.length ≤ 1000 ∧ D.nx (put e1 i (.own (ds ++ ys)))) D.ex
theorem ds_extend {i : Nat} {x : Str} {p1 p2 p3 : Pos} (h : DE X F a wa) (hv : PE X (.Name x p1) (tVar i)) (hs : starEach [a] X.env = (false, eval a X.env) :: starEach [] X.env := by rfl)
    (hbase : attributeBase (.Name x p1) "extend" X.env (eval (.Name x p1) X.env) = eval (.Name x p1) X.env := by rfl)
    (hfew : ((backTo p3 (starEach [a] X.env)).all (fun x => !x.1) && (backToKw p3 (keywordEach [] X.env)).all (fun x => x.1.isSome) && decide ([a].length + ([] : List Keyword).length + (if ([] : List Keyword).isEmpty then 0 else 1) < 30)) = true := by rfl)
    (hline : (p2.endLine == p3.line) = true := by rfl) (hplain : (backTo p3 (starEach [] X.env)).any (·.1) = false := by rfl) (hsw : swapsWith (.Call (.Attribute (.Name x p1) "extend" p2) [a] [] p3) none pos.line X.env = pure false := by rfl) :
    DS X F (.Expr (.Call (.Attribute (.Name x p1) "extend" p2) [a] [] p3) pos) (wExt i wa) :=
  ds_of (ps_expr (pe_bm PySem.F.plainAttrs_list PySem.F.slot_list_extend PySem.F.type_list_extend mt_extend hv (pa_cons h.run pa_nil hs) hbase hfew hline hs hplain) hsw)
    (fun e A B l q => ⟨q.1, h.mono e _ _ _ _ (fun d e1 ⟨ds, ys, i1, i2, i3, z⟩ => ⟨ds, ys, i1, i2, i3, l.nx _ z⟩) l.ex q.2⟩) fun D σ H ⟨e, G, r, ⟨ds0, h0⟩, q⟩ => by
    obtain ⟨α, r0⟩ := id r
    obtain ⟨xs, h1, h2, _⟩ := r0.own i ds0 h0
    refine ⟨.ref (α i), h1, .inl ⟨rfl, _, .inl (.inl h2)⟩, ?_⟩
    refine tE.mono h.mono (fun v H1 z => ?_) (tE.any h.mono r (h.mono e _ _ _ _ (fun _ _ z => z) (fun y e' z C G' H' s r' ec => z C σ G' H' s r' ec) q))
    obtain ⟨e1, G1, d, s1, r1, rv, ds, ys, i1, ed, i2, z⟩ := z
    subst ed
    obtain ⟨b, ws, eb2, hb, rb⟩ := rv.lst_inv
    obtain ⟨β, r2⟩ := id r1
    obtain ⟨us, g1, g2, _, _, _, ra⟩ := r2.own i ds i1
    rw [h1] at g1
    have eb : α i = β i := by injection g1 with g1; injection g1 with g1; injection g1
    rw [← eb] at g2
    exact ⟨α i, b, us, ws, rfl, by rw [eb2], g2, r1.same _ _ hb, by rw [ra.length, rb.length, sizeLine_eq]; omega, z σ G1 _ s1 (r1.mut i1 h1 (ra.append rb))⟩
end
end L2.DL


set_option
      maxHeartbeats 4000000
namespace L2.DL
open PySem PySem.Spec
      PyProof.Rows
/-! ### set(xs), xs a list of ints -/
/-- the object that set() lays -/
abbrev setNew (w : World) : Obj := { cls := .type "set", dict := none, data := .set #[] 0 (.fresh 0 0 (!w.params.followText "set-order")) }
/-- how the heap stands behind set(xs) -/
def SetDone (w : World) (ns : List Int) (s s2 : Shared) : Prop :=
  ∃ (g : Heap) (tk c : Nat), s2 = { s with heap := g, toks := tk } ∧ SetR w g s.heap.objs.size (fun j => decide (j ∈ ns)) c ∧ c ≤ ns.length ∧ ∀ b o, s.heap.get? b = some o → g.get? b = some o
section
variable {P : Program} {w : World} {A : Around}
      {E : Value → Shared → Prop} {s : Shared}
theorem init_listI {l : Addr} {xs : Array Value} (ns : List Int) (hh : A.handled = none) (hl : s.heap.IsList l xs) (hi : IntsAre xs.toList ns) (hb : ns.length + 1 < scanBound) :
    codeAny (model P w) A (.call (.builtin "set.__init__") ⟨[.ref s.heap.objs.size, .ref l], []⟩) (wants (fun r s2 => r = .none ∧ SetDone w ns s s2) E) { s with heap := s.heap.push (setNew w) } := by
  have at0 : (s.heap.push (setNew w)).get? s.heap.objs.size = some (setNew w) := Heap.get?_push_size _ rfl
  have hz : xs.size = ns.length := by
    have := IntsAre.length hi
    rwa [Array.length_toList] at this
  have up := hl.push (setNew w)
  have ty : Shared.TypeIs { s with heap := s.heap.push (setNew w) } (.ref s.heap.objs.size) "set" :=
    ⟨_, at0, rfl⟩
  refine codeAny_call_builtin F.called_set.init.plain F.entry_set_init (check_set_init_1 ty ?_)
  have up' := up
  obtain ⟨⟨c0, d0, e0, f0⟩, at1, k0, n0, x0⟩ := up'
  dsimp only at k0 x0
  cases k0
  cases x0
  have no1 := F.sub_list_set
  have no2 := F.sub_list_frozenset
  have no3 : (Value.type "list" == Value.type "dict") = false := by decide
  have below : l < s.heap.objs.size := by
    obtain ⟨o, e, _⟩ := hl
    exact Heap.lt_size e
  have quiet : A.in1.in1.handled = none := by simp [hh]
  have one : (s.heap.push (setNew w)).objs.size = s.heap.objs.size + 1 := Heap.size_push ..
  have away : l ≠ (s.heap.push (setNew w)).objs.size := by
    rw [one]
    exact Nat.ne_of_lt (Nat.lt_succ_of_lt below)
  have at2 : ((s.heap.push (setNew w)).push { cls := .type "list_iterator", data := .fields #[.ref l, .int 0 0] }).get? s.heap.objs.size = some (setNew w) := Heap.get?_push_of_some _ at0
  unfold Builtin.«set.__init__»
        noKeywords Builtin.Frozenset.updateFrom
  generalize hit : pyIter = it
  wp_walk
  subst hit
  refine wpAny_pyIter_list up (wpAny_bind (wpAny_runValue ?_))
  have sep : s.heap.objs.size ∉ [(s.heap.push (setNew w)).objs.size, l] := by
    rw [one]
    intro z
    rcases List.mem_cons.mp
          z with z | z
    · exact Nat.ne_of_lt (Nat.lt_succ_self _) z
    · exact Nat.ne_of_lt below (List.mem_singleton.mp z).symm
  refine set_update_ints (Walks.list quiet _ l away xs).toS s.heap.objs.size sep ns hz hb (fun i v hv => ?_) (xs.size - 0) 0 _ (by omega) (Nat.zero_le _) ?s0 ?st fun s2 c mv hc R => ?_
  case s0 => exact ⟨⟨_, Heap.get?_push_size _ rfl, rfl, rfl⟩, up.push _⟩
  case st => exact ⟨0, Nat.le_refl 0, setR_new_at at2⟩
  · have lt : i < ns.length := by
      rw [← hz]
      exact (Array.getElem?_eq_some_iff.mp hv).1
    obtain ⟨t, e⟩ := hi.int_at i v (by rw [Array.getElem?_toList]; exact hv)
    exact ⟨ns[i], t, List.getElem?_eq_getElem lt, by rw [e, List.getD_eq_getElem?_getD, List.getElem?_eq_getElem lt] <;> rfl⟩
  · obtain ⟨g, gn, dr, tk, os⟩ := s2
    cases (show gn = s.gens from mv.gens)
    cases (show dr = s.drawn from mv.drawn)
    cases (show os = s.os from mv.os)
    show wpAny _ _ _ _ _ _
    refine wpAny_pure ?_
    show wpAny _ _ (ret
          Value.none) _ _ _
    rw [hz] at hc
    refine wpAny_pure ⟨rfl, g, tk, c, rfl, R, hc, fun b o e => ?_⟩
    have lt := Heap.lt_size e
    refine mv.heap b o ?_ (Heap.get?_push_of_some _ (Heap.get?_push_of_some _ e))
    rw [one]
    intro z
    rcases List.mem_cons.mp
          z with z | z
    · exact Nat.ne_of_lt lt z
    · exact Nat.ne_of_lt (Nat.lt_succ_of_lt lt) (List.mem_singleton.mp z)
theorem call_set_listI {l : Addr} {xs : Array Value} (ns : List Int) {Q : Value → Shared → Prop} (hh : A.handled = none) (hl : s.heap.IsList l xs) (hi : IntsAre xs.toList ns) (hb : ns.length + 1 < scanBound)
    (h : ∀ s2, SetDone w ns s s2 → Q (.ref s.heap.objs.size) s2) : wpAny (model P w) A (call (.type "set") [.ref l]) Q E s := by
  obtain ⟨c, tl, mro⟩ := F.called_set.mro
  have k1 := F.called_set.made
  have k2 := F.called_set.sub
  have k3 := F.called_set.notType
  have k4 := F.called_set.canCreate
  have k5 := F.typeCall_set_1 (.ref l)
  have k6 := F.called_set.init.lookup
  have ty : Shared.TypeIs { s with heap := s.heap.push (setNew w) } (.ref s.heap.objs.size) "set" := ⟨_, Heap.get?_push_size _ rfl, rfl⟩
  refine wpAny_call
        (codeAny_of_tree ?_)
  show wpAny _ _ (callAny
        (.type "set") _) _ _ _
  refine wpAny_pure ⟨Code.quiet_builtin _ (by decide +kernel),
        codeAny_builtin F.entry_type_call ?_⟩
  rw [Around.under_plain (weight_type_call_type
        "set" [.ref l] []) rfl]
  repeat (any_goals (first
        | assumption | wp_step))
  refine codeAny_mono (code_set_led1 (.ref l) (E := E) (Q₁ := fun o s1 => o = .ref s.heap.objs.size ∧ s1 = { s with heap := s.heap.push (setNew w) }) ⟨rfl, rfl⟩) fun r s1 z => ?_
  rcases r with e | (_ | _ | _ | o)
  · exact z
  iterate 3 exact z.elim
  · obtain ⟨rfl, rfl⟩ := z
    have k7 := F.called_set.init.bind (.ref s.heap.objs.size)
    repeat (any_goals (first
          | assumption | wp_step))
    refine codeAny_mono (init_listI (E := E) ns (by simp [hh]) hl hi hb) fun r s2 z => ?_
    rcases r with e | (_ | _ | _ | o)
    · exact z
    iterate 3 exact z.elim
    · obtain ⟨rfl, d⟩ := z
      repeat (any_goals (first
            | assumption | wp_step))
      exact h _ d
end
def rSetL (K : PySem.W.Frag) (w : World) : List V → Hp → VK → Prop := fun xs H Q => ∃ (l : Addr) (ns : List Int), xs = [.ref l] ∧ SqL K H l (ns.map V.int) ∧ ns.length ≤ 1000 ∧
  ∀ p S n, H p = none → (∀ k, S k = true ↔ k ∈ ns) → n ≤ ns.length → Q (.ref p) (upd H p (SetO w p S n))
theorem cr_setL {X : Cx} (hc : X.calm = true) : CallR X (.type "set") (rSetL X.K X.w) := by
  intro pins s σ
        H xs us Q I r h
  obtain ⟨l, ns, rfl, hq, hl, q⟩ := h
  rw [Vals.ref1 r]
  obtain ⟨its, rv,
        pl, hz⟩ := I.list hq
  have hi : IntsAre its.toArray.toList ns :=
        ints_of_vals rv
  refine call_set_listI ns (I.ok.hd hc) pl.isList hi (by unfold scanBound; omega) fun s2 ⟨h', tk, c, e, R1, hcn, k⟩ => ?_
  subst e
  exact ⟨.ref _, upd H s.heap.objs.size (SetO X.w s.heap.objs.size (fun j => decide (j ∈ ns)) c), I.laid (t' := tk) (fun b u e => k b u e) (Nat.le_refl _) (setO_new R1), rfl, q _ _ _ (I.hok.fresh (Nat.le_refl _)) (fun j => by simp) hcn⟩
/-- sorted(set(xs)), xs a list that nothing else holds -/
def wSortedSetL (w : WEx) : WEx := fun e Q x => w e (fun d e1 => ∃ ns : List Int, d = .list (ns.map PyData.int) ∧ ns.length ≤ 60 ∧ ∀ ms : List Int, ms.Pairwise (· < ·) → (∀ k, k ∈ ms ↔ k ∈ ns) → ms.length ≤ ns.length → Q (.list (ms.map PyData.int)) e1) x
section
variable {X : Cx} {F : Fx} {pos : Pos} {a : Expr} {wa : WEx}
theorem de_sortedSetL {p1 p2 q : Pos} (hc : X.calm = true) (h : DE X F a wa) (hm : X.mg "sorted" = none) (hm2 : X.mg "set" = none) (hg : Gl X "sorted" := by rfl) (hg2 : Gl X "set" := by rfl) (hv : bootBuiltins "sorted" = some (.builtin "sorted") := by decide +kernel) (hv2 : bootBuiltins "set" = some (.type "set") := by decide +kernel)
    (hs : starEach [a] X.env = (false, eval a X.env) :: starEach [] X.env := by rfl) (hpl : (backTo q (starEach [] X.env)).any (·.1) = false := by rfl)
    (hs2 : starEach [.Call (.Name "set" p2) [a] [] q] X.env = (false, eval (.Call (.Name "set" p2) [a] [] q) X.env) :: starEach [] X.env := by rfl) (hpl2 : (backTo pos (starEach [] X.env)).any (·.1) = false := by rfl) :
    DE X F (.Call (.Name "sorted" p1) [.Call (.Name "set" p2) [a] [] q] [] pos) (wSortedSetL wa) :=
  de_of (pe_callB (cr_sortedSet hc) hg hm hv (pa_cons (pe_callTy (cr_setL hc) hg2 hm2 hv2 (pa_cons h.run pa_nil hs) (by decide) (by decide) hs hpl) pa_nil hs2) (by decide) (by decide) hs2 hpl2)
    (fun e Q Q' x x' h1 h2 q => h.mono e _ _ _ _ (fun d e1 ⟨ns, ed, hl, z⟩ => ⟨ns, ed, hl, fun ms p1 p2 p3 => h1 _ _ (z ms p1 p2 p3)⟩) h2 q) fun σ H Q ⟨e, G, r, q⟩ =>
    ⟨e, G, r, h.mono e _ _ _ _ (fun d e1 ⟨ns, ed, hl, z⟩ v G' H' s r' rv => by
      subst ed
      obtain ⟨l, xs, rfl, g, ra⟩ := rv.lst_inv
      have ex := ra.ofInts
      subst ex
      refine ⟨l, ns, rfl, SqL.of (r'.same _ _ g), by omega, fun p S n hp hS hn => ⟨p, S, n, rfl, upd_same, by omega, fun ms q' pw hk hlen hq => ?_⟩⟩
      have r2 := r'.new (o := SetO X.w p S n) hp
      have s2 := sameNew (o := SetO X.w p S n) r'.same hp
      exact z ms pw (fun k => by rw [hk, hS]) (by omega) _ _ _ (s.trans (s2.trans (sameNew r2.same hq))) (r2.new hq) (.lst upd_same (RA.toInts ms))) (fun _ _ z => z) q⟩
end
end L2.DL


set_option
      maxHeartbeats 2000000
namespace L2.DL
open PySem PySem.Spec
      PyProof.Rows
/-! ### try: body, several clauses without a name -/
/-- what the clauses wish of an error -/
def wHs (K : PySem.W.Frag) : List (Value × WSt) → DEnds → D → En → Prop
  | [], D, y, e => D.ex y e
  | (c, ws) :: r, D, y, e => ∃ C b, y = excD C ∧ PySem.W.exmOne K (.ref C) c = some b ∧ (b = true → ws e D) ∧ (b = false → wHs K r D y e)
inductive DHs (X : Cx) (F : Fx) : List ExceptHandler → List (Value × WSt) → Prop
  | nil : DHs X F [] []
  | cons {x : Str} {c : Value} {ws : WSt} {b₀ : Stmt} {suite : List Stmt} {np pos' : Pos} {hds : List ExceptHandler} {l : List (Value × WSt)} (hc : Names X x c)
      (hsu : ∀ (a : Addr) (oe : Obj) (pn : List (Addr × Obj)), DSs (X.suite a ((a, oe) :: pn)) F (b₀ :: suite) ws) (r : DHs X F hds l) :
      DHs X F (.ExceptHandler (some (.Name x np)) none (b₀ :: suite) pos' :: hds) ((c, ws) :: l)
def wTryM (K : PySem.W.Frag) (l : List (Value × WSt)) (wb : WSt) : WSt := fun e D => wb e { D with ex := fun y e' => wHs K l D y e' }
section
variable {X : Cx} {F : Fx} {hds : List ExceptHandler} {l : List (Value × WSt)}
theorem DHs.ok (h : DHs X F hds l) : HdsOk X hds (l.map fun p => (p.1, fun _ _ _ => tS X.K F p.2)) := by
  induction h with
  | nil => exact .nil
  | cons hc hsu _ ih => exact .cons hc (fun a oe _ _ pn _ _ => (hsu a oe pn).run) ih
theorem DHs.mono (h : DHs X F hds l) : ∀ {A B : DEnds} {y : D} {e : En}, DEnds.le A B → wHs X.K l A y e → wHs X.K l B y e := by
  induction h with
  | nil => exact fun l q => l.ex _ _ q
  | cons hc hsu _ ih =>
    intro A B y e le ⟨C, b, e1, e2, q1, q2⟩
    exact ⟨C, b, e1, e2, fun hb => (hsu 0 { cls := .type "int", dict := none, data := .seq #[] } []).mono e _ _ le (q1 hb), fun hb => ih le (q2 hb)⟩
theorem DHs.to (h : DHs X F hds l) {G : Hp} {D : Ends} {C : Addr} {e : En} : wHs X.K l (endsOf X.K F G D) (excD C) e → ∀ σ' G' H', Same G G' → Rl X.K F.p F.G₀ F.H₀ G' H' σ' e → wMany X.K F.W D (l.map fun p => (p.1, fun _ _ _ => tS X.K F p.2)) (.ref C) none σ' H' := by
  induction h with
  | nil => exact fun q σ' G' H' s r => q C σ' G' H' s r rfl
  | cons hc hsu _ ih =>
    intro ⟨C', b, e1, e2, q1, q2⟩ σ' G' H' s r
    have ec := excD_inj e1
    subst ec
    exact ⟨b, e2, fun hb a _ => ⟨e, G', r, (hsu 0 { cls := .type "int", dict := none, data := .seq #[] } []).mono e _ _ (endsOf.le s) (q1 hb)⟩, fun hb => ih (q2 hb) σ' G' H' s r⟩
theorem ds_tryM {body : List Stmt} {h₀ : ExceptHandler} {pos : Pos} {wb : WSt} (hs : X.stack = X.env :: X.outer) (hf : X.env.frame = some X.env.locals) (tk : Takes X F.W)
    (hb : ∀ (W : WX) (pn : List (Addr × Obj)) (xe : Value → Shared → Prop), Takes (X.tr pn xe) W → PassesOwn (model X.prog X.w) X.A X.env xe → DSs (X.tr pn xe) { F with W := W } body wb)
    (hh : DHs X F (h₀ :: hds) l) : DS X F (.Try body (h₀ :: hds) [] [] pos) (wTryM X.K l wb) := by
  have mb : MonoS wb := (hb (fun _ _ _ _ => False) [] (fun _ _ => False) takes0 PassesOwn.never).mono
  refine ds_of (ps_try_many (tb := fun W => tS X.K { F with W := W } wb) hs hf tk (fun W pn xe tk po => (hb W pn xe tk po).run) hh.ok) (fun e A B le q => ?_) fun D σ H q => ?_
  · exact mb e { A with ex := fun y e' => wHs X.K l A y e' } _ ⟨le.nx, le.rt, le.bk, le.ct, fun y e' z => hh.mono le z⟩ q
  · obtain ⟨e, G, r, q⟩ := q
    refine ⟨e, G, r, mb e { endsOf X.K F G D with ex := fun y e' => wHs X.K l (endsOf X.K F G D) y e' } _ ⟨fun _ z => z, fun _ _ z => z, fun _ z => z, fun _ z => z, fun y e' z C σ' G' H' s r' e3 => ?_⟩ q⟩
    subst e3
    exact hh.to z σ' G' H' s r'
end
end L2.DL


set_option
      maxHeartbeats 2000000
namespace L2.DL
open PySem PySem.Spec
      PyProof.Rows
/-! ### defs whose answer is a list that nothing else holds -/
abbrev Wo := List D → Nat → (List D → Nat → Prop) → (D → Nat → Prop) → Prop
def Wo.Mono (w : Wo) : Prop := ∀ ds k Q Q' x x', (∀ es k, Q es k → Q' es k) → (∀ d k, x d k → x' d k) → w ds k Q x → w ds k Q' x'
def spO (K : PySem.W.Frag) (w : Wo) : Sp := fun vs H Q E => ∃ p G ds k, Wd K p k G H ∧ RA K p G vs ds ∧
  w ds k (fun es k' => ∀ a xs G' H', Stp p G H G' H' → Wd K p k' G' H' → H' a = none → RA K p G' xs es → Q (.ref a) (L2.upd H' a (.lst xs))) (fun x k' => ∀ C G' H', Stp p G H G' H' → Wd K p k' G' H' → x = excD C → E (.ref C) none H')
/-- the answer, as data -/
def plainO (w : Wo) : Wc := fun ds k Q x => w ds k (fun es k' => Q (.list es) k') x
theorem plainO.mono {w : Wo} (m : w.Mono) : (plainO w).Mono := fun ds k Q Q' x x' h1 h2 q => m ds k _ _ _ _ (fun es k => h1 _ _) h2 q
def DefO (P : Program) (w : World) (K : PySem.W.Frag) (mg : Str → Option Value) (base : Heap) (x : Str) (k : Nat) (ps : List Str) (wf : Wo) : Prop :=
  ∃ f fd, FnG P w K mg base k f fd ps (spO K wf) ∧ mg x = some (.ref f) ∧ PySem.W.keepIn K (.ref f) = true ∧ Binds K fd ps []
section
variable {P : Program} {w : World} {K :
      PySem.W.Frag} {mg : Str → Option Value} {base : Heap}
theorem DefO.plain {x : Str} {k : Nat} {ps : List Str} {wf : Wo} (h : DefO P w K mg base x k ps wf) (m : wf.Mono) : Def P w K mg base x k ps (plainO wf) := by
  obtain ⟨f, fd, h1, h2⟩ := h
  refine ⟨f, fd, h1.imp fun vs H Q E ⟨p, G, ds, n, wd, ra, q⟩ => ⟨p, G, ds, n, wd, ra, m ds n _ _ _ _ (fun es k' z a xs G' H' st wd' ha rx => ?_) (fun _ _ z => z) q⟩, h2⟩
  have r : Rl K p G H G' H' [] ⟨[], k'⟩ := ⟨fun _ => 0, wd', st, rfl, fun i d h => by simp at h, fun i ds h => by simp at h, fun i j ds es h => by simp at h⟩
  obtain ⟨α, r'⟩ := r.new (o := .lst xs) ha
  exact z (.ref a) _ _ r'.st r'.w (.lst upd_same (rx.mono (sameNew wd'.same ha)))
end
/-- a call of such a def gives a new list -/
def wCallF (wf : Wo) (wa : WAx) : WAx := fun e Q x => wa e (fun ds e1 => wf ds e1.k (fun es k' => Q es { e1 with k := k' }) (fun y k' => x y { e1 with k := k' })) x
section
variable {X : Cx} {F : Fx} {pos : Pos} {a : Expr} {es : List Expr} {wr : WAx}
theorem wCallF.mono {wf : Wo} (mf : wf.Mono) (m : MonoA wr) : MonoA (wCallF wf wr) := fun e Q Q' x x' h1 h2 q => m e _ _ _ _ (fun ds e1 z => mf ds e1.k _ _ _ _ (fun d k => h1 _ _) (fun d k => h2 _ _) z) h2 q
theorem df_fn {wf : Wo} {j k : Nat} {ps : List Str} {x : Str} {p : Pos} (d : DefO X.prog X.w X.K X.mg X.base x j ps wf) (mf : wf.Mono) (hgd : X.A.guards = some []) (hr : Room k X.A) (tk : Takes X F.W) (ha : DA X F (a :: es) wr) (hj : j ≤ k := by decide) (hg : Gl X x := by rfl) (hdb : (x == ("__debug__" : Str)) = false := by decide)
    (he : starEach (a :: es) X.env = (false, eval a X.env) :: starEach es X.env := by rfl) (hpl : (backTo pos (starEach es X.env)).any (·.1) = false := by rfl) : DF X F (.Call (.Name x p) (a :: es) [] pos) (wCallF wf wr) := by
  obtain ⟨f, fd, h1, h2, h3, h4⟩ := d
  refine df_of (pe_callG h1 hgd (hr.mono hj) hg h2 h3 h4 tk ha.run hdb he hpl) (wCallF.mono mf ha.mono) fun σ H Q ⟨e, G, r0, q⟩ => ?_
  refine tA.mono ha.mono (fun vs H1 z => ?_) (tA.bind ha.mono r0 q)
  obtain ⟨e1, G1, ds, s1, r1, ra, z⟩ := z
  exact ⟨F.p, G1, ds, e1.k, r1.wd, ra, mf ds e1.k _ _ _ _ (fun es k' h a xs G' H' st wd hq rx => h a xs G' H' (s1.trans st.gg) (r1.step st wd) hq rx) (fun y k' h C G' H' st wd ec => h C G' H' (s1.trans st.gg) (r1.step st wd) ec) z⟩
end
/-! #### blocks that end with the return of such a list -/
abbrev WOs := En → (List D → En → Prop) → (D → En → Prop) → Prop
def RO (K : PySem.W.Frag) (F : Fx) (G : Hp) (D : Ends) : List PyData → En → Prop := fun ds e' => ∀ a xs σ' G' H', Same G G' → Rl K F.p F.G₀ F.H₀ G' H' σ' e' → H' a = none → RA K F.p G' xs ds → D.rt (.ref a) (L2.upd H' a (.lst xs))
def tOw (K : PySem.W.Frag) (F : Fx) (w : WOs) : TS := fun D σ H => ∃ e G, Rl K F.p F.G₀ F.H₀ G H σ e ∧ w e (RO K F G D) (endsOf K F G D).ex
structure DSO (X : Cx) (F : Fx) (st : List Stmt) (w : WOs) : Prop where
  run : PSs X st (tOw X.K F w)
  mono : ∀ e Q Q' x x', (∀ ds e, Q ds e → Q' ds e) → (∀ d e, x d e → x' d e) → w e Q x → w e Q' x'
theorem RO.mono {K : PySem.W.Frag} {F : Fx} {G G' : Hp} {D : Ends} (s : Same G G') : ∀ ds e, RO K F G D ds e → RO K F G' D ds e := fun ds e h a xs σ' G2 H' s2 => h a xs σ' G2 H' (s.trans s2)
section
variable {X : Cx} {F : Fx} {pos : Pos} {a : Expr} {st : Stmt} {rest : List Stmt} {wr : WAx} {w1 : WSt} {w2 : WOs}
def wSeqO (w1 : WSt) (w2 : WOs) : WOs := fun e Q x => w1 e ⟨fun e' => w2 e' Q x, fun _ _ => False, fun _ => False, fun _ => False, x⟩
theorem dso_cons (h1 : DS X F st w1) (h2 : DSO X F rest w2) : DSO X F (st :: rest) (wSeqO w1 w2) := by
  refine ⟨⟨fun pins s σ H D I q => (pss_cons h1.run h2.run).run pins s σ H D I ?_⟩, fun e Q Q' x x' h3 h4 q => h1.mono e ⟨fun e' => w2 e' Q x, fun _ _ => False, fun _ => False, fun _ => False, x⟩ ⟨fun e' => w2 e' Q' x', fun _ _ => False, fun _ => False, fun _ => False, x'⟩ ⟨fun e' z => h2.mono e' _ _ _ _ h3 h4 z, fun _ _ z => z, fun _ z => z, fun _ z => z, h4⟩ q⟩
  obtain ⟨e, G, r, q⟩ := q
  refine ⟨e, G, r, h1.mono e ⟨fun e' => w2 e' (RO X.K F G D) (endsOf X.K F G D).ex, fun _ _ => False, fun _ => False, fun _ => False, (endsOf X.K F G D).ex⟩ (endsOf X.K F G { D with nx := tOw X.K F w2 D }) ⟨fun e' z σ' G' H' s' r' => ⟨e', G', r', h2.mono e' _ _ _ _ (RO.mono s') (fun y e2 z C σ2 G2 H2 s2 => z C σ2 G2 H2 (s'.trans s2)) z⟩, fun _ _ z => z.elim, fun _ z => z.elim, fun _ z => z.elim, fun _ _ z => z⟩ q⟩
/-- return of a call, or of what is new otherwise -/
theorem dso_ret (h : DF X F a wr) : DSO X F [.Return (some a) pos] (fun e Q x => wr e Q x) := by
  refine ⟨⟨fun pins s σ H D I q => (pss_one (ps_ret h.run)).run pins s σ H D I ?_⟩, fun e Q Q' x x' h1 h2 q => h.mono e _ _ _ _ h1 h2 q⟩
  obtain ⟨e, G, r, q⟩ := q
  exact ⟨e, G, r, h.mono e _ _ _ _ (fun ds e1 z a xs G' H' s r' ha ra => z a xs σ G' H' s r' ha ra) (fun y e1 z C G' H' s r' ec => z C σ G' H' s r' ec) q⟩
/-- without an address -/
def lessA (H : Hp) (a : Addr) : Hp := fun b => if b = a then none else H b
theorem lessA_upd {H : Hp} {a : Addr} {o : HO} (h : H a = some o) : L2.upd (lessA H a) a o = H := by
  funext b
  by_cases e : b = a
  · subst e
    rw [upd_same, h]
  · rw [upd_ne e]
    unfold lessA
    rw [if_neg e]
theorem lessA_ne {H : Hp} {a b : Addr} (h : b ≠ a) : lessA H a b = H b := if_neg h
theorem lessA_at {H : Hp} {a : Addr} : lessA H a a = none := if_pos rfl
theorem un_ne {e : En} {i j : Nat} {z : Slot} (h : (putUn e i).s[j]? = some z) (hz : z ≠ .un) : j ≠ i ∧ e.s[j]? = some z := by
  have h : (e.s.set i .un)[j]? = some z := h
  by_cases hj : i = j
  · subst hj
    by_cases hl : i < e.s.length
    · rw [List.getElem?_set_self hl] at h
      cases h
      exact absurd rfl hz
    · rw [List.getElem?_eq_none (by simpa using hl)] at h
      cases h
  · rw [List.getElem?_set_ne hj] at h
    exact ⟨Ne.symm hj, h⟩
/-- a list of ours is taken out -/
theorem Rl.out {K : PySem.W.Frag} {p : Option Addr} {G₀ H₀ G H : Hp} {σ : L2.St} {e : En} {i : Nat} {ds : List PyData} (r : Rl K p G₀ H₀ G H σ e) (h : e.s[i]? = some (.own ds)) : ∃ a xs, σ[i]? = some (some (.ref a)) ∧ H a = some (.lst xs) ∧ RA K p G xs ds ∧ Rl K p G₀ H₀ G (lessA H a) σ (putUn e i) := by
  obtain ⟨α, r⟩ := r
  obtain ⟨xs, h1, h2, h3, h4, h5, h6⟩ := r.own i ds h
  have ne : ∀ {b : Addr} {o : HO}, G b = some o → b ≠ α i := fun hb z => by rw [z, h3] at hb; cases hb
  have ne0 : ∀ {b : Addr} {o : HO}, H₀ b = some o → b ≠ α i := fun hb z => by rw [z, h4] at hb; cases hb
  have nep : ∀ {b : Addr}, p = some b → b ≠ α i := fun hb z => h5 (by rw [hb, z])
  refine ⟨α i, xs, h1, h2, h6, α, ⟨fun b o hb => ?_, fun b hb => ?_⟩, ⟨r.st.gg, fun b o hb hp => ?_, r.st.nn, fun b c hb hc => ?_⟩, by simpa [putUn] using r.len, fun j d hj => ?_, fun j es hj => ?_, fun j k es fs hj hk => ?_⟩
  · rw [lessA_ne (ne hb)]
    exact r.w.same b o hb
  · obtain ⟨q1, c, ys, t, u, q2, q3⟩ := r.w.pen b hb
    exact ⟨q1, c, ys, t, u, by rw [lessA_ne (nep hb)]; exact q2, q3⟩
  · rw [lessA_ne (ne0 hb)]
    exact r.st.hh b o hb hp
  · obtain ⟨t, u, q⟩ := r.st.pc b c hb hc
    exact ⟨t, u, by rw [lessA_ne (nep hb)]; exact q⟩
  · exact r.dat j d (un_ne hj (fun z => nomatch z)).2
  · obtain ⟨n1, n2⟩ := un_ne hj (fun z => nomatch z)
    obtain ⟨ys, q1, q2, q3, q4, q5, q6⟩ := r.own j es n2
    exact ⟨ys, q1, by rw [lessA_ne (r.sep j i es ds n2 h n1)]; exact q2, q3, q4, q5, q6⟩
  · exact r.sep j k es fs (un_ne hj (fun z => nomatch z)).2 (un_ne hk (fun z => nomatch z)).2
/-- return of a name that alone holds its list -/
theorem dso_own {i : Nat} {x : Str} {p : Pos} (h : PE X (.Name x p) (tVar i)) : DSO X F [.Return (some (.Name x p)) pos] (fun e Q _ => ∃ ds, e.s[i]? = some (.own ds) ∧ Q ds (putUn e i)) := by
  refine ⟨⟨fun pins s σ H D I q => (pss_one (ps_ret h)).run pins s σ H D I ?_⟩, fun e Q Q' x x' h1 _ ⟨ds, h2, q⟩ => ⟨ds, h2, h1 _ _ q⟩⟩
  obtain ⟨e, G, r, ds, h2, q⟩ := q
  obtain ⟨a, xs, h3, h4, h5, r'⟩ := r.out h2
  have z := q a xs σ G (lessA H a) (Same.refl G) r' lessA_at h5
  rw [lessA_upd h4] at z
  exact ⟨.ref a, h3, z⟩
end
section
variable {P : Program} {w : World} {K :
      PySem.W.Frag} {mg : Str → Option Value} {base : Heap}
theorem fnO {x qual : Str} {st : Stmt} {f : Addr} {fd : FuncData} {N ps : List Str} {k : Nat} {wf : Wo} (F : Fun K x qual st f fd) (S : FnScope N ps (defScope st)) (len : ∀ ds k Q x, wf ds k Q x → ds.length = ps.length)
    (body : ∀ (cdv : Value) (A : Around) (outer : List Env) (s : Shared) (H : Hp) (E : XK) (p : Option Addr) (G : Hp), A.guards = some [] → Room k (A.deeper (envOfC qual (defScope st) s.heap.objs.size f cdv)) →
      ∃ ws, DSO (cxOf (L2.CX P w) P w K mg base N qual (defScope st) f cdv A outer s H E) ⟨p, G, H, fun cls d _ H' => E cls d H'⟩ (defBody st) ws ∧ ∀ ds n Q x, wf ds n Q x → ws (enOf N ds n) (fun es e => Q es e.k) (fun d e => x d e.k)) :
    FnG P w K mg base (k + 1) f fd ps (spO K wf) := by
  refine fnG_of F S (fun vs H Q E ⟨p, G, ds, n, _, ra, q⟩ => by rw [ra.length]; exact len ds n _ _ q) fun cdv A outer s H vs Q E hg hr ⟨p, G, ds, n, wd, ra, q⟩ => ?_
  obtain ⟨ws, h, hq⟩ := body cdv A outer s H E p G hg hr
  refine ⟨_, h.run, enOf N ds n, G, Rl.start wd ra, h.mono _ _ _ _ _ (fun es e' z a xs σ' G' H' _ r ha rx => ?_) (fun y e' z C σ' G' H' _ r ec => ?_) (hq ds n _ _ q)⟩
  · obtain ⟨α, r'⟩ := id r
    exact z a xs G' H' r'.st r'.w ha rx
  · obtain ⟨α, r'⟩ := id r
    exact z C G' H' r'.st r'.w ec
theorem defO {x : Str} {st : Stmt} {N ps : List Str} {k : Nat} {wf : Wo} (F : FunAt K mg x st ps) (S : FnScope N ps (defScope st)) (len : ∀ ds k Q x, wf ds k Q x → ds.length = ps.length)
    (body : ∀ (f : Addr) (cdv : Value) (A : Around) (outer : List Env) (s : Shared) (H : Hp) (E : XK) (p : Option Addr) (G : Hp), A.guards = some [] → Room k (A.deeper (envOfC x (defScope st) s.heap.objs.size f cdv)) →
      ∃ ws, DSO (cxOf (L2.CX P w) P w K mg base N x (defScope st) f cdv A outer s H E) ⟨p, G, H, fun cls d _ H' => E cls d H'⟩ (defBody st) ws ∧ ∀ ds n Q x, wf ds n Q x → ws (enOf N ds n) (fun es e => Q es e.k) (fun d e => x d e.k)) : DefO P w K mg base x (k + 1) ps wf := by
  obtain ⟨f, fd, h1, h2, h3⟩ := F
  exact ⟨f, fd, fnO h1 S len (body f), h2, h1.kp, h3⟩
end
end L2.DL


set_option
      maxHeartbeats 4000000
namespace L2.DL
open PySem PySem.Spec
      PyProof.Rows
/-! ### the empty tuple, some times: itself -/
theorem tuple_void (l : Addr) (n : Nat) (dd : Option Addr) (sl : Array (Option Value)) (x : Int) (u : Tok) (c0 : (decide (x < -(2 ^ 63)) || decide (x ≥ 2 ^ 63)) = false) (c1 : ((#[] : Array Value).isEmpty || x == 1) = true) :
    Meets (Builtin.«tuple.__mul__» ⟨[.ref l, .int x u], []⟩) (fun _ R s => s.heap.get? l = some { cls := .type "tuple", dict := dd, data := .seq #[] n, slots := sl } ∧ R (.ok (.ret (Value.ref l))) s) :=
  .of_wp fun prog
        w A R s h => by
    obtain ⟨hp, g,
          d, tk, os⟩ := s
    obtain ⟨hl, h⟩ := h
    have f1 := AutoSeq1.idx_int
    wp_walk using
          wpAny_loadPart' hl
    refine wpAny_ite_false (decide_eq_false (by rw [c0] <;> exact Bool.false_ne_true)) ?_
    wp_walk using
          wpAny_loadPart' hl
    exact ⟨_, rfl, h⟩
def rVoid (K : PySem.W.Frag) : R2 := fun x y H Q => ∃ l i, x = .ref l ∧ y = .int i ∧ 1 ≤ i ∧ i ≤ 1000 ∧ SqT K H l [] ∧ Q (.ref l) H
theorem op_void {X : Cx} : OpR X (binaryOp .Mult) (rVoid X.K) := by
  intro pins s σ H x
        y v u Q I rx ry h
  obtain ⟨l, i, rfl, rfl, i1, i2, hT, q⟩ := h
  cases rx
  obtain ⟨t, rfl⟩ := ry
  obtain ⟨its, r, ⟨⟨cls, dd, data, sl⟩,
        ho, hc, n, hd⟩, hs⟩ := I.tuple hT
  simp only at hc hd
  subst hc hd
  cases r
  refine wpAny_binaryOp_repeat_ref (T := "tuple") (U := "int") (by decide) ⟨_, ho, rfl⟩ (fun s' => typeIs_int s' i t) noFill_tuple_mul F.fills_int_mul F.slot_int_rmul repeat_tuple F.slot_int_index.lookup
    (call_meets F.slot_int_rmul (typeIs_int s i t) F.entry_int_rmul (F.args_int_rmul_2 _ _) (int_rmul_tuple i t l _ n dd sl)
      ⟨ho, rfl, ⟨_, ho, rfl⟩, call_meets F.slot_tuple_mul ⟨_, ho, rfl⟩ F.entry_tuple_mul (F.args_tuple_mul_2 _ _) (tuple_void l n dd sl i t (by simp; omega) rfl) ⟨ho, ?_⟩⟩)
  exact ⟨.ref l, H, I.kept (t' := s.toks) fun _ _ z => z, rfl, q⟩
/-- times, of a tuple that may be empty -/
def mulE : B2
  | .tuple xs, .int k, P => 1 ≤ k ∧ k ≤ 1000 ∧ xs.length ≤ 1000 ∧ P (.tuple (List.replicate k.toNat xs).flatten)
  | _, _, _ => False
theorem mulE.mono : B2.Mono mulE := by
  intro a b P P' h q
  unfold mulE at q ⊢
  split at q
  · exact ⟨q.1, q.2.1, q.2.2.1, h _ q.2.2.2⟩
  · exact q.elim
def rMulE (K : PySem.W.Frag) : R2 := fun x y H Q => rRepT K x y H Q ∨ rOnce K x y H Q ∨ rVoid K x y H Q
theorem op_mulE {X : Cx} : OpR X (binaryOp .Mult) (rMulE X.K) := op_repT.or (op_once.or op_void)
theorem fitsMulE {K : PySem.W.Frag} : Fits K mulE (rMulE K) := by
  intro p G₀ H₀ G H σ e x y a b P Q r ra rb q k
  unfold mulE at q
  split at q
  · obtain ⟨l, xs, rfl, h1, r1⟩ := ra.tup_inv
    cases rb.int_inv
    obtain ⟨q1, q2, q3, q4⟩ := q
    rename_i i
    by_cases e1 : i = 1
    · subst e1
      refine .inr (.inl ⟨l, xs, rfl, rfl, sameT r.same h1, ans r (.tup h1 r1) k ?_⟩)
      simpa using q4
    · by_cases e2 : xs = []
      · subst e2
        have e3 := r1.nil_iff.mp rfl
        subst e3
        refine .inr (.inr ⟨l, i, rfl, rfl, q1, q2, sameT r.same h1, ans r (.tup h1 r1) k ?_⟩)
        have e4 : (List.replicate i.toNat ([] : List D)).flatten = [] := by
          generalize i.toNat = n
          induction n with
          | zero => rfl
          | succ n ih => rw [List.replicate_succ, List.flatten_cons, ih]; rfl
        rw [e4] at q4
        exact q4
      · exact .inl ⟨l, _, xs, rfl, rfl, sameT r.same h1, e2, by omega, q2, by rw [r1.length]; exact q3, fun z hz => ansT r (r1.rep _) k q4 hz⟩
  · exact q.elim
end L2.DL


set_option
      maxHeartbeats 2000000
namespace L2.DL
open PySem PySem.Spec
      PyProof.Rows
/-! ### enumerate(t), t a tuple -/
abbrev itOf (l : Addr) : Obj := { cls := .type "tuple_iterator", data := .fields #[.ref l, .int 0 0] }
abbrev enOfT (i : Addr) : Obj := { cls := .type "enumerate", data := .fields #[.none, .bool false, .ref i, rawInt 0, .none, .none] }
open AutoSeq1 in
theorem enum_newT (l : Addr) (xs : Array Value) (n : Nat) (dd : Option Addr) (sl : Array (Option Value)) :
    Meets (Builtin.«enumerate.__new__» ⟨[.type "enumerate", .ref l], []⟩) (fun _ R s => s.heap.get? l = some { cls := .type "tuple", dict := dd, data := .seq xs n, slots := sl } ∧
      R (.ok (.ret (.ref (s.heap.push (itOf l)).objs.size))) { s with heap := (s.heap.push (itOf l)).push (enOfT s.heap.objs.size) }) :=
  .of_wp fun P
        w A R s h => by
    obtain ⟨hp, g,
          d, tk, os⟩ := s
    obtain ⟨hl, h⟩ := h
    have sub := sub_enumerate
    have ht : Heap.IsTuple (Shared.heap ⟨hp, g, d, tk, os⟩) l xs :=
      ⟨_, hl, rfl, n, rfl⟩
    wp_walk using
          wpAny_loadPart' hl
    refine wpAny_stack_any fun st =>
      wpAny_pure ?_
    split
    · rename_i c _ _ _ _ _
      rcases Bool.eq_false_or_eq_true (c == Value.type "enumerate") with e | e <;> rw [e]
      all_goals
        wp_walk using
          wpAny_loadPart' hl, wpAny_pyIter_tuple ht
        exact ⟨_, rfl, h⟩
    · wp_walk using
          wpAny_loadPart' hl, wpAny_pyIter_tuple ht
      exact ⟨_, rfl, h⟩
section
variable {P : Program} {w : World} {A : Around}
      {E : Value → Shared → Prop} {s : Shared}
theorem call_enumT {l : Addr} {xs : Array Value} {Q : Value → Shared → Prop} (ht : s.heap.IsTuple l xs)
    (h : ∀ g, IsEnum g (s.heap.objs.size + 1) s.heap.objs.size 0 .none → g.IsTupleIter s.heap.objs.size l 0 → (∀ b o, s.heap.get? b = some o → g.get? b = some o) → Q (.ref (s.heap.objs.size + 1)) { s with heap := g }) :
    wpAny (model P w) A (call (.type "enumerate") [.ref l]) Q E s := by
  obtain ⟨⟨c, dd, dt, sl⟩, hl, hc, n, hd⟩ := ht
  dsimp only at hc hd
  cases hc
  cases hd
  refine callType_new F.called_enumerate (by decide) (F.typeCall_enumerate_1 _) (F.newCall_enumerate_1 _) (fun obj => F.args_object_init_2 obj _) F.entry_enumerate_new (enum_newT l xs n dd sl) ⟨hl, ?_⟩
  have z : (s.heap.push (itOf l)).objs.size = s.heap.objs.size + 1 := Heap.size_push ..
  show _ ∧ _
  rw [z]
  have he : IsEnum ((s.heap.push (itOf l)).push (enOfT s.heap.objs.size)) (s.heap.objs.size + 1) s.heap.objs.size 0 .none := by
    have q := Heap.get?_push_size (s.heap.push (itOf l)) (o := enOfT s.heap.objs.size) rfl
    rwa [z] at q
  exact ⟨⟨_, he, rfl⟩, h _ he ⟨_, Heap.get?_push_of_some _ (Heap.get?_push_size _ rfl), rfl, rfl⟩ fun b o x => Heap.get?_push_of_some _ (Heap.get?_push_of_some _ x)⟩
end
/-- the tuple at a, each item in a new pair -/
def IteT (K : PySem.W.Frag) (a : Addr) : It :=
  ⟨fun i H => ∃ (xs : List V) (x : V), SqT K H a xs ∧ xs[i]? = some x, fun i H v H' => ∃ T x, v = .ref T ∧ H T = none ∧ H' = L2.upd H T (.tup [.int (i : Nat), x]) ∧ ∀ xs, SqT K H a xs → xs[i]? = some x, fun i H => ∃ xs : List V, SqT K H a xs ∧ xs.length ≤ i⟩
theorem turn_enumT {P : Program} {w : World} {K : PySem.W.Frag} {elts : List Expr} {kk : Nat} {tpos : Pos} (a e it : Addr) :
    Turn P w K (.Tuple elts kk tpos) (IteT K a) [e, it] e (fun i h => (∃ old, IsEnum h e it ((i : Nat) : Int) old) ∧ h.IsTupleIter it a i ∧ e ≠ it) where
  mem := List.mem_cons_self
  obj := by
    rintro i h ⟨⟨old, he⟩, ⟨o, ho, hc, hd⟩, _⟩ b hb
    rcases List.mem_cons.mp
          hb with rfl | hb
    · exact ⟨_, he, fun v q => nomatch q⟩
    · rw [List.mem_singleton.mp
          hb]
      exact ⟨o, ho, fun v q => by rw [hd] at q; cases q⟩
  keep := by
    rintro i h h' ⟨⟨old, he⟩, hi, ne⟩ k
    exact ⟨⟨old, k e List.mem_cons_self _ he⟩, hi.at fun o q => k it (by simp) o q, ne⟩
  item := by
    intro X hP hw hK hc i
          pins s σ H E I hf st hg
    subst hP hw hK
    obtain ⟨⟨old, he⟩, hit, ne⟩ := st
    obtain ⟨xs, x, hq, hx⟩ := hg
    obtain ⟨its, rv, pt, hz⟩ := I.tuple hq
    obtain ⟨u, hu,
          ru⟩ := rv.get hx
    have le : e < s.heap.objs.size := Heap.lt_size he
    have li : it < s.heap.objs.size := by
      obtain ⟨_, q, _⟩ := hit
      exact Heap.lt_size q
    have ai : a ≠ it := fun z => by
      obtain ⟨o, h1, h2, _⟩ := pt
      obtain ⟨o', h3, h4, _⟩ := hit
      rw [z, h3] at h1
      cases h1
      rw [h4] at h2
      injection h2 with h2
      exact absurd h2 (by decide)
    have ae : a ≠ e := fun z => by
      obtain ⟨o, h1, h2, _⟩ := pt
      rw [z, he] at h1
      cases h1
      injection h2 with h2
      exact absurd h2 (by decide)
    have D := Draws.tuple (prog := X.prog) (w := X.w) (A := X.A.in1) (by simp [I.ok.hd hc]) it a ai its.toArray
    refine wpAny_pyNext_enum_itemD D he ⟨hit, pt⟩ (by simpa using (List.getElem?_eq_some_iff.mp hu).1) ne (by simp [ne, Ne.symm ae]) fun y g tk hy ho hs hT hsz hk => ?_
    have ey : y = u := by
      have q : its.toArray[i]? = some y := hy
      simp [hu] at q
      exact q.symm
    subst ey
    refine ⟨_, rfl, wpAny_letOwnedTupleGo_enum (s := { s with heap := g, toks := tk + 1 }) ho fun g2 he2 sb => ?_⟩
    have hT2 : g2.get? s.heap.objs.size = some { cls := .type "tuple", data := .seq #[.int i tk, y] } := (sb.2 _ (Nat.ne_of_gt le)).trans hT
    have new : ObjOk X.prog X.w (L2.upd H s.heap.objs.size (.tup [.int (i : Nat), x])) g2 s.heap.objs.size (.tup [.int (i : Nat), x]) :=
      ⟨by show 2 ≤ sizeLine; decide, [.int i tk, y], .cons ⟨_, rfl⟩ (.cons ru .nil), ⟨_, hT2, rfl, _, rfl⟩⟩
    have I1 : Inv X pins σ (L2.upd H s.heap.objs.size (.tup [.int (i : Nat), x])) { s with heap := g2, toks := tk + 1 } :=
      I.turnedNew (ch := [e, it]) (fun b ob hb q => (sb.2 b (fun z => hb (by simp [z]))).trans (hk b ob (fun z =>
            hb (by simp [z])) (fun z => hb (by simp [z])) q)) hf (Nat.le_refl _) new
    refine ⟨.ref s.heap.objs.size, _, I1, rfl, ⟨_, x, rfl, I.hok.fresh (Nat.le_refl _), rfl, fun ys hy => by rw [I.tuple_inj hy hq]; exact hx⟩, ⟨⟨y, ?_⟩, hs.1.at fun o q => (sb.2 it (Ne.symm ne)).trans q, ne⟩, fun b hb => ?_⟩
    · rw [show ((i + 1 : Nat) : Int) = (i : Int) + 1 by omega]
      exact he2
    · have lb : b < s.heap.objs.size := by
        rcases List.mem_cons.mp
              hb with rfl | hb
        · exact le
        · rw [List.mem_singleton.mp
              hb]
          exact li
      rw [upd_ne (Nat.ne_of_lt lb)]
      exact (hf b hb).1
  done := by
    intro X hP hw hK hc i
          pins s σ H E I hf st hg
    subst hP hw hK
    obtain ⟨⟨old, he⟩, hit, ne⟩ := st
    obtain ⟨xs, hq, hx⟩ := hg
    obtain ⟨its, rv, pt, hz⟩ := I.tuple hq
    obtain ⟨f0, f1, f2, f3,
          f4, f5⟩ := hf it (by simp)
    have nn : its.toArray[i]? = none := by
      have := rv.length
      rw [List.getElem?_toArray]
      exact List.getElem?_eq_none (by omega)
    have hh : X.A.in1.handled = none := by simp [I.ok.hd hc]
    have D : Draws X.prog X.w X.A.in1 it [it, a] i (fun _ _ => False) (fun j h => j = i ∧ h.IsTupleIter it a i ∧ h.IsTuple a its.toArray) :=
      { live := fun j h st => by
          obtain ⟨_, ⟨o, ho, _⟩, _⟩ := st
          exact ⟨o, ho⟩
        frame := fun j h h' st k => ⟨st.1, st.2.1.at fun o q => k it (by simp) o q, st.2.2.at fun o q => k a (by simp) o q⟩
        item := fun j s Q E hj st _ => absurd st.1 (Nat.ne_of_lt hj)
        done := fun s Q E st hE => wpAny_nextOf_tuple_end hh st.2.1 st.2.2 nn hE }
    exact wpAny_pyNext_enum_endD D he ⟨rfl, hit, pt⟩ fun g eb => ⟨rfl, I.turned (t' := s.toks) (fun b o hb q => eb b o hb q) f0 f1 f3 f4 f5⟩
  self := by
    rintro A i s Q E ⟨⟨_, he⟩, _⟩ h
    exact wpAny_pyIter_enum he h
def iEnumT (K : PySem.W.Frag) (ta : TA) : TI := fun σ H R => ta σ H fun vs H1 => ∃ a xs, vs = [.ref a] ∧ SqT K H1 a xs ∧ R (IteT K a) H1
theorem pi_enumT {X : Cx} {e : Expr} {ta : TA} {p pos tpos : Pos} {elts : List Expr} {kk : Nat} (hg : Gl X "enumerate") (hm : X.mg "enumerate" = none) (ha : PA X [e] ta) (hs : starEach [e] X.env = [(false, eval e X.env)] := by rfl) :
    PI X (.Tuple elts kk tpos) (.Call (.Name "enumerate" p) [e] [] pos) (iEnumT X.K ta) := by
  refine ⟨fun pins s σ H R I h =>
        ?_⟩
  refine Call_ (ld_blt I hg hm boot_enumerate (callWith_type1 (thn (ha.run pos pins s σ H _ I h) fun us s1 ⟨vs, H1, I1, r1, q1⟩ => ?_) hs rfl))
  obtain ⟨a, xs,
        ex, hq, q⟩ := q1
  subst ex
  rw [Vals.ref1 r1]
  obtain ⟨its, rv, pt,
        hz⟩ := I1.tuple hq
  refine call_enumT pt fun g he hit hk => wpAny_pyIter_enum he ?_
  have I2 : Inv X pins σ H1 { s1 with heap := g } := I1.kept (t' := s1.toks) hk
  refine ⟨s1.heap.objs.size + 1, [s1.heap.objs.size + 1, s1.heap.objs.size], _, _, H1, rfl, I2, turn_enumT a (s1.heap.objs.size + 1) s1.heap.objs.size, ⟨⟨.none, he⟩, hit, Nat.succ_ne_self _⟩, fun b hb => ?_, q⟩
  have le : s1.heap.objs.size ≤ b := by
    rcases List.mem_cons.mp
          hb with rfl | hb
    · exact Nat.le_succ _
    · exact Nat.le_of_eq (List.mem_singleton.mp hb).symm
  exact I1.fpOk le (I1.hok.fresh le)
section
variable {K : PySem.W.Frag} {p : Option Addr} {G : Hp} {X : Cx} {F : Fx} {pos : Pos} {a : Expr} {wa : WEx}
theorem walkD_enumT {l : Addr} {xs : List V} {ds : List D} (h : SqT K G l xs) (r : RA K p G xs ds) : WalkD K p (IteT K l) (pairs (rngD 0 ds.length) ds) G where
  goes := fun i H hi s => by
    rw [pairs_length, rngD_length, Nat.min_self] at hi
    have lt : i < xs.length := by rw [r.length]; exact hi
    exact ⟨xs, xs[i], sameT s h, List.getElem?_eq_getElem lt⟩
  stops := fun H s => ⟨xs, sameT s h, by rw [pairs_length, rngD_length, Nat.min_self, r.length]; exact Nat.le_refl _⟩
  yields := fun i H x H' d hd s y => by
    obtain ⟨d1, d2, h1, h2, rfl⟩ := pairs_at hd
    obtain ⟨_, rfl⟩ := rngD_at h1
    obtain ⟨v, hv, rv⟩ := r.get h2
    obtain ⟨T, z, e1, e2, e3, e4⟩ := y
    have e5 := e4 xs (sameT s h)
    rw [hv] at e5
    cases e5
    exact .inr ⟨T, _, _, e1, e2, e3, rfl, .cons (by rw [Int.zero_add]; exact .int _) (.cons rv .nil)⟩
def wEnumT (wa : WEx) : WAx := fun e Q x => wa e (fun d e1 => ∃ ds, d = .tuple ds ∧ Q (pairs (rngD 0 ds.length) ds) e1) x
theorem wEnumT.mono (ma : Mono wa) : MonoA (wEnumT wa) := fun e Q Q' x x' h1 h2 q => ma e _ _ _ _ (fun d e1 ⟨ds, i, z⟩ => ⟨ds, i, h1 _ _ z⟩) h2 q
theorem di_enumT {q tp : Pos} {elts : List Expr} {kk : Nat} (h : DE X F a wa) (hm : X.mg "enumerate" = none) (hg : Gl X "enumerate" := by rfl) (hs : starEach [a] X.env = [(false, eval a X.env)] := by rfl) : DI X F (.Tuple elts kk tp) (.Call (.Name "enumerate" q) [a] [] pos) (wEnumT wa) :=
  di_of (pi_enumT hg hm (pa_cons h.run pa_nil hs) hs) (wEnumT.mono h.mono) fun σ H R ⟨e, G, r, z⟩ => by
    refine tE.mono h.mono (fun v H1 z => ?_) (tE.any h.mono r z)
    obtain ⟨e1, G1, d, s1, r1, rd, ds, rfl, z⟩ := z
    obtain ⟨l, xs, rfl, g1, ra⟩ := rd.tup_inv
    exact ⟨l, xs, rfl, sameT r1.same g1, z _ G1 H1 s1 r1 (walkD_enumT g1 ra)⟩
end
end L2.DL


set_option
      maxHeartbeats 1000000
namespace L2.DL
open PySem PySem.Spec
      PyProof.Rows
/-! ### a dict whose keys are ints, made in a loop, of which the keys are asked for -/
def noOwnB : List Slot → Bool
  | [] => true
  | .own _ :: _ => false
  | .un :: r => noOwnB r
  | .dat _ :: r => noOwnB r
theorem noOwnB.at : ∀ {s : List Slot}, noOwnB s = true → ∀ (i : Nat) ds, s[i]? ≠ some (.own ds)
  | [], _, i, ds => by simp
  | .own _ :: _, h, _, _ => nomatch h
  | .un :: r, h, 0, ds => by simp
  | .dat _ :: r, h, 0, ds => by simp
  | .un :: r, h, i + 1, ds => by
    rw [List.getElem?_cons_succ]
    exact noOwnB.at (s := r) h i ds
  | .dat _ :: r, h, i + 1, ds => by
    rw [List.getElem?_cons_succ]
    exact noOwnB.at (s := r) h i ds
theorem noOwn_of {e : En} (h : noOwnB e.s = true) : NoOwn e := noOwnB.at h
theorem NoOwn.un {e : En} {j : Nat} (h : NoOwn e) : NoOwn (putUn e j) := by
  intro i ds q
  have q : (e.s.set j .un)[i]? = some (.own ds) := q
  by_cases hj : j = i
  · subst hj
    by_cases hl : j < e.s.length
    · rw [List.getElem?_set_self hl] at q; cases q
    · rw [List.getElem?_eq_none (by simpa using hl)] at q; cases q
  · rw [List.getElem?_set_ne hj] at q
    exact h i ds q
abbrev trues (ns : List Int) : List (Key × V) := ns.map fun n => ((Sum.inl n : Key), V.bl true)
def putI (ns : List Int) (n : Int) : List Int := if n ∈ ns then ns else ns ++ [n]
theorem trues_has {ns : List Int} {n : Int} : ((trues ns).any fun kv => decide (kv.1 = (Sum.inl n : Key))) = decide (n ∈ ns) := by
  induction ns with
  | nil => rfl
  | cons m r ih =>
    show ((((Sum.inl m : Key), V.bl true) :: trues r).any fun kv => decide (kv.1 = (Sum.inl n : Key))) = _
    rw [List.any_cons, ih]
    by_cases h : m = n
    · subst h; simp
    · have h2 : ¬ n = m := fun z => h z.symm
      simp [h, h2]
theorem put_trues {ns : List Int} {n : Int} : putK (trues ns) (Sum.inl n) (V.bl true) = trues (putI ns n) := by
  unfold putK putI
  rw [trues_has]
  by_cases h : n ∈ ns
  · rw [if_pos (decide_eq_true h), if_pos h]
    unfold trues
    rw [List.map_map]
    refine List.map_congr_left fun m hm => ?_
    show (if (Sum.inl m : Key) = Sum.inl n then _ else _) = _
    by_cases e : (Sum.inl m : Key) = Sum.inl n
    · rw [if_pos e]
    · rw [if_neg e]
  · rw [if_neg (by simpa using h),
        if_neg h]
    unfold trues
    rw [List.map_append] <;> rfl
theorem mem_putI {ns : List Int} {n m : Int} : m ∈ putI ns n ↔ m ∈ ns ∨ m = n := by
  unfold putI
  by_cases h : n ∈ ns
  · rw [if_pos h]
    exact ⟨.inl, fun z => z.elim id fun e => by rw [e]; exact h⟩
  · rw [if_neg h]
    simp
theorem nodup_putI {ns : List Int} {n : Int} (d : ns.Nodup) : (putI ns n).Nodup := by
  unfold putI
  by_cases h : n ∈ ns
  · rw [if_pos h]; exact d
  · rw [if_neg h]
    exact List.nodup_append.mpr ⟨d, by simp, fun a ha b hb e => h (by rw [List.mem_singleton] at hb; rw [← hb, ← e]; exact ha)⟩
theorem len_putI {ns : List Int} {n : Int} : (putI ns n).length ≤ ns.length + 1 := by
  unfold putI
  by_cases h : n ∈ ns
  · rw [if_pos h]; omega
  · rw [if_neg h]; simp
/-- ascending, each once -/
theorem strict_of : ∀ {ys : List Int}, ys.Pairwise (· ≤ ·) → ys.Nodup → ys.Pairwise (· < ·) := fun h1 h2 => by
  refine (h1.and h2).imp fun ⟨a, b⟩ => ?_
  omega
/-- an expression that gives an int -/
def weI (we : WEx) : WEx := fun e Q x => we e (fun y e1 => ∃ n : Int, y = .int n ∧ Q y e1) x
theorem weI.mono {we : WEx} (m : Mono we) : Mono (weI we) := fun e Q Q' x x' h1 h2 q => m e _ _ _ _ (fun y e1 ⟨n, a, b⟩ => ⟨n, a, h1 _ _ b⟩) h2 q
def wKeys (j : Nat) (wi : WAx) (g : WG) (wt : WTx) (we : WEx) (vs : List Nat) : WSt := fun e B => noOwnB e.s = true ∧ j < e.s.length ∧ wi (putUn e j) (fun ds e1 => lcLoop g wt (weI we) (wipeE (putUn e j) vs) [] ds e1.k fun acc k =>
  ∃ ns : List Int, acc = ns.map PyData.int ∧ ns.length < 64 ∧ ∀ ms : List Int, ms.Pairwise (· < ·) → (∀ m, m ∈ ms ↔ m ∈ ns) → ms.length ≤ ns.length → B.rt (.list (ms.map PyData.int)) { wipeE (putUn e j) vs with k := k }) noX
theorem wKeys.mono {j : Nat} {wi : WAx} {g : WG} {wt : WTx} {we : WEx} {vs : List Nat} (mi : MonoA wi) (mg : MonoG g) (mt : MonoT wt) (me : Mono we) : MonoS (wKeys j wi g wt we vs) := fun e A B l ⟨no, hl, q⟩ =>
  ⟨no, hl, mi _ _ _ _ _ (fun ds e1 z => lcLoop.mono mg mt (weI.mono me) (fun acc k ⟨ns, a, b, c⟩ => ⟨ns, a, b, fun ms h1 h2 h3 => l.rt _ _ (c ms h1 h2 h3)⟩) z) (fun _ _ z => z) q⟩
/-- sorted(d), d's keys ints -/
abbrev rKeys : List V → Hp → VK → Prop := fun xs H Q => ∃ (a : Addr) (kvs : List (Key × V)) (ks : List Int), xs = [.ref a] ∧ Rd H a (.dK kvs) ∧ kvs.map (·.1) = ks.map Sum.inl ∧ ks.length < 64 ∧ ∀ (ys : List Int) (p : Addr), ys.Perm ks → ys.Pairwise (· ≤ ·) → H p = none → Q (.ref p) (upd H p (.lst (ys.map V.int)))
/-- over any ground -/
def kI (K : PySem.W.Frag) (p : Option Addr) (wi : WAx) : TI := fun σ H R => ∃ G₀ H₀, tI K (inn p G₀ H₀) wi σ H R
def kG (K : PySem.W.Frag) (p : Option Addr) (g : WG) (vs : List Nat) : TG := fun v σ H Q => ∃ G₀ H₀, tGc K (inn p G₀ H₀) g vs v σ H Q
def kT (K : PySem.W.Frag) (p : Option Addr) (wt : WTx) : TT := fun σ H Q => ∃ G₀ H₀, tT K (inn p G₀ H₀) wt σ H Q
def kE (K : PySem.W.Frag) (p : Option Addr) (we : WEx) : TE := fun σ H Q => ∃ G₀ H₀, tE K (inn p G₀ H₀) we σ H Q
/-- other slots that are not asked for -/
theorem Rl.turn {K : PySem.W.Frag} {p : Option Addr} {G₀ H₀ G H : Hp} {σ σ' : L2.St} {e : En} {vs : List Nat} {k : Nat} (r : Rl K p G₀ H₀ G H σ { wipeE e vs with k := k }) (w : wipe σ' vs = wipe σ vs) : Rl K p G₀ H₀ G H σ' { wipeE e vs with k := k } := by
  obtain ⟨α, r⟩ := r
  have hl : σ'.length = σ.length := by
    have z := congrArg List.length w
    rwa [wipe_length, wipe_length] at z
  refine ⟨α, r.w, r.st, by rw [hl]; exact r.len, fun i d h => ?_, fun i ds h => absurd h (wipeE_own (e := e) (vs := vs) i ds), fun i j ds es h => absurd h (wipeE_own (e := e) (vs := vs) i ds)⟩
  obtain ⟨h1, h2⟩ := wipeE_dat h
  have z := congrArg (fun l => l[i]?) w
  simp only [wipe_out h1] at z
  rw [z]
  exact r.dat i d h
theorem Rl.less {K : PySem.W.Frag} {p : Option Addr} {G₀ H₀ G H : Hp} {σ : L2.St} {e : En} {vs : List Nat} (r : Rl K p G₀ H₀ G H σ e) : Rl K p G₀ H₀ G H σ (wipeE e vs) := by
  obtain ⟨α, r⟩ := r
  refine ⟨α, r.w, r.st, ?_, fun i d h => r.dat i d (wipeE_dat h).2, fun i ds h => absurd h (wipeE_own i ds), fun i j ds es h => absurd h (wipeE_own i ds)⟩
  rw [r.len]
  unfold wipeE
  simp
/-- how it stands within the loop: the dict at a, in slot j -/
def KeysAt (K : PySem.W.Frag) (F : Fx) (D : Ends) (g : WG) (wt : WTx) (we : WEx) (e₀ : En) (a : Addr) (j : Nat) (G1 : Hp) (rest : List PyData) : L2.St → Hp → Prop := fun σ' H' =>
  ∃ acc ns k G2, Same G1 G2 ∧ σ'[j]? = some (some (V.ref a)) ∧ H' a = some (.dK (trues ns)) ∧ G2 a = none ∧ Rl K F.p F.G₀ F.H₀ G2 H' σ' { e₀ with k := k } ∧ (∀ m : Int, m ∈ ns ↔ PyData.int m ∈ acc) ∧ ns.Nodup ∧ ns.length ≤ acc.length ∧
    lcLoop g wt (weI we) e₀ acc rest k (fun acc k => ∃ ns : List Int, acc = ns.map PyData.int ∧ ns.length < 64 ∧ ∀ ms : List Int, ms.Pairwise (· < ·) → (∀ m, m ∈ ms ↔ m ∈ ns) → ms.length ≤ ns.length → (endsOf K F G2 D).rt (.list (ms.map PyData.int)) { e₀ with k := k })
section
variable {X : Cx} {F : Fx} {tg iter cond key : Expr} {wi : WAx} {g : WG} {wt : WTx} {we : WEx} {vs : List Nat}
theorem dss_keys {j : Nat} {x : Str} {p1 p2 p3 p4 p5 p6 p7 p8 p9 p10 p11 p12 p13 : Pos} {kd : Nat} (hp : PassesOwn (model X.prog X.w) X.A X.env X.xe) (hc : X.calm = true) (hu : X.A.units + 64 < cLine) (hN : X.N.Nodup) (hjv : j ∉ vs)
    (hi : ∀ G₀ H₀, DI X (inn F.p G₀ H₀) tg iter wi) (hg : ∀ G₀ H₀, DGc X (inn F.p G₀ H₀) tg g vs) (ht : ∀ G₀ H₀, DT X (inn F.p G₀ H₀) cond wt) (he : ∀ G₀ H₀, DE X (inn F.p G₀ H₀) key we) (pv : PE X (.Name x p5) (tVar j)) (pv2 : PE X (.Name x p11) (tVar j))
    (hm : X.mg "sorted" = none) (hgs : Gl X "sorted" := by rfl) (hv : bootBuiltins "sorted" = some (.builtin "sorted") := by decide +kernel) (hj : X.N[j]? = some x := by rfl) (hx : Loc X.env.scope x := by first | exact Or.inl rfl | exact Or.inr rfl)
    (hf : X.fn x = true ∨ X.env.scope.names.lookup x = some .local := by first | exact Or.inl rfl | exact Or.inr rfl) (hs : ∀ x, foldedSetIterable iter X.env x = pure x := by intro _; rfl)
    (hsw : swapsWith (.Dict [] [] p2) (some (.Name x p1)) p3.line X.env = pure false := by rfl) (hsw2 : swapsWith (.Constant (.bool true) kd p7) (some (.Subscript (.Name x p5) key p6)) p8.line X.env = pure false := by rfl)
    (hst : starEach [.Name x p11] X.env = (false, eval (.Name x p11) X.env) :: starEach [] X.env := by rfl) (hpl : (backTo p12 (starEach [] X.env)).any (·.1) = false := by rfl) :
    DSs X F [.Assign [.Name x p1] (.Dict [] [] p2) p3, .For tg iter [.If cond [.Assign [.Subscript (.Name x p5) key p6] (.Constant (.bool true) kd p7) p8] [] p9] [] p4, .Return (some (.Call (.Name "sorted" p10) [.Name x p11] [] p12)) p13] (wKeys j wi g wt we vs) := by
  refine dss_of (t := tSeq (tAsg tDNewK (gName j)) (tSeq (tFor (kI X.K F.p wi) (kG X.K F.p g vs) (tIfS (kT X.K F.p wt) (sDPut (tVar j) (kE X.K F.p we) (tC (.bl true))) tNext)) (tRet (tCB rKeys (tCons (tVar j) tNil)))))
    (pss_cons (ps_set hN hj hx pe_dnewK hsw hf) (pss_cons (ps_for hp hc ⟨fun pins s σ H R I ⟨G₀, H₀, q⟩ => (hi G₀ H₀).run.run pins s σ H R I q⟩ ⟨fun pins s' σ H' v u Q I r ⟨G₀, H₀, q⟩ => (hg G₀ H₀).run.run pins s' σ H' v u Q I r q⟩
      (pss_one (ps_if ⟨fun pins s' σ H' Q I ⟨G₀, H₀, q⟩ => (ht G₀ H₀).run.run pins s' σ H' Q I q⟩ (pss_one (ps_dput (by omega) pv ⟨fun pins s' σ H' Q I ⟨G₀, H₀, q⟩ => (he G₀ H₀).run.run pins s' σ H' Q I q⟩ pe_bl hsw2)) pss_nil)) hs)
      (pss_one (ps_ret (pe_callB (call_sortedDI hc) hgs hm hv (pa_cons pv2 pa_nil hst) (by decide) (by decide) hst hpl)))))
    (wKeys.mono (hi X.H_0 X.H_0).mono (hg X.H_0 X.H_0).mono (ht X.H_0 X.H_0).mono (he X.H_0 X.H_0).mono) fun D σ H ⟨e, G, r, no', hjs, q⟩ => ?_
  have mi := (hi X.H_0 X.H_0).mono
  have mg := (hg X.H_0 X.H_0).mono
  have mt := (ht X.H_0 X.H_0).mono
  have me := (he X.H_0 X.H_0).mono
  have no : NoOwn e := noOwn_of no'
  intro a ha
  obtain ⟨α, rr⟩ := id r
  have np : F.p ≠ some a := fun ep => by
    obtain ⟨_, c, xs, i, t, h2, _⟩ := rr.w.pen a ep
    rw [ha] at h2; cases h2
  have n0 : F.H₀ a = none := by
    cases z : F.H₀ a with
    | none => rfl
    | some o =>
      have := rr.st.hh a o z np
      rw [ha] at this; cases this
  have ga : G a = none := r.same.free ha
  have noU : NoOwn (putUn e j) := no.un
  -- the dict has come
  have r1 : Rl X.K F.p F.G₀ F.H₀ G (L2.upd H a (.dK [])) (σ.set j (some (.ref a))) (putUn e j) := r.un.upd noU ga n0 np
  have hjl : j < σ.length := by
    rw [rr.len]
    exact hjs
  refine ⟨G, L2.upd H a (.dK []), putUn e j, G, r1.rebase noU, mi _ _ _ _ _ (fun ds e1 z J G1 H1 s1 r2 wk => ?_) (fun _ _ z => z.elim) q⟩
  have step := fun (G6 H6 : Hp) (σ6 : L2.St) (e6 : En) (r6 : Rl X.K F.p G (L2.upd H a (.dK [])) G6 H6 σ6 e6) => (⟨let ⟨_, q⟩ := r6; q.st, r6.wd⟩ : Stp F.p G (L2.upd H a (.dK [])) G6 H6 ∧ Wd X.K F.p e6.k G6 H6)
  obtain ⟨st1, wd1⟩ := step G1 H1 _ e1 r2
  have r3 : Rl X.K F.p F.G₀ F.H₀ G1 H1 (σ.set j (some (.ref a))) { wipeE (putUn e j) vs with k := e1.k } := (r1.step st1 wd1).less
  have hd1 : H1 a = some (.dK []) := st1.hh _ _ upd_same np
  have gd1 : G1 a = none := st1.nn _ _ upd_same ga
  have wk' : Walk J ds.length (Same G1) (fun i H x H' => ∀ d, ds[i]? = some d → (H' = H ∧ R X.K F.p G1 x d) ∨ ∃ T xs es, x = .ref T ∧ H T = none ∧ H' = L2.upd H T (.tup xs) ∧ d = .tuple es ∧ RA X.K F.p G1 xs es) :=
    ⟨wk.goes, wk.stops, fun i H x H' _ s y d hd => wk.yields i H x H' d hd s y⟩
  have wU : ∀ k, NoOwn { wipeE (putUn e j) vs with k := k } := fun k => wipeE_own (e := putUn e j) (vs := vs)
  refine for_it (g := kG X.K F.p g vs) (tb := tIfS (kT X.K F.p wt) (sDPut (tVar j) (kE X.K F.p we) (tC (.bl true))) tNext) (D := { D with nx := tRet (tCB rKeys (tCons (tVar j) tNil)) D }) wk' (fun i => KeysAt X.K F D g wt we (wipeE (putUn e j) vs) a j G1 (ds.drop i))
    ⟨[], [], e1.k, G1, Same.refl G1, List.getElem?_set_self hjl, hd1, gd1, r3, fun m => by simp, .nil, Nat.le_refl _, lcLoop.mono mg mt (weI.mono me) (fun acc k ⟨ns, q1, q2, q3⟩ => ⟨ns, q1, q2, fun ms h1 h2 h3 => (endsOf.le s1).rt _ _ (q3 ms h1 h2 h3)⟩) z⟩
    (fun i σ' H' _ ⟨_, _, _, G2, s2, _, _, _, r2, _⟩ => s2.trans r2.same) (fun i x σ' H' H'' hlt ⟨acc, ns, k, G2, s2, hj2, hd2, gd2, r2, hm2, nd2, hl2, z2⟩ y => ?_) (fun σ' H' ⟨acc, ns, k, G2, s2, hj2, hd2, gd2, r2, hm2, nd2, hl2, z2⟩ => ?_)
  · rw [List.drop_eq_getElem_cons hlt] at z2
    have hd : ds[i]? = some ds[i] := List.getElem?_eq_getElem hlt
    have turn : ∀ G3 H3 v, Same G2 G3 → H3 a = some (.dK (trues ns)) → G3 a = none → Rl X.K F.p F.G₀ F.H₀ G3 H3 σ' { wipeE (putUn e j) vs with k := k } → R X.K F.p G3 v ds[i] →
        kG X.K F.p g vs v σ' H3 fun σ2 H2 => tIfS (kT X.K F.p wt) (sDPut (tVar j) (kE X.K F.p we) (tC (.bl true))) tNext
          { D with nx := KeysAt X.K F D g wt we (wipeE (putUn e j) vs) a j G1 (ds.drop (i + 1)), ct := KeysAt X.K F D g wt we (wipeE (putUn e j) vs) a j G1 (ds.drop (i + 1)), bk := tRet (tCB rKeys (tCons (tVar j) tNil)) D } σ2 H2 := fun G3 H3 v s3 hd3 gd3 r3 rv => by
      refine ⟨G3, H3, { wipeE (putUn e j) vs with k := k }, G3, _, r3.rebase (wU k), rv, wU k, mg _ _ _ _ (fun e4 z4 σ4 r4 no4 w4 => ?_) z2⟩
      have hj4 : σ4[j]? = some (some (V.ref a)) := by
        have z := congrArg (fun l => l[j]?) w4
        simp only [wipe_out hjv] at z
        rw [z]
        exact hj2
      refine ⟨G3, H3, e4, G3, r4, mt e4 _ _ _ _ (fun b e5 z5 G5 H5 s5 r5 => ?_) (fun _ _ u => u.elim) z4⟩
      have step := fun (G6 H6 : Hp) (e6 : En) (r6 : Rl X.K F.p G3 H3 G6 H6 σ4 e6) => (⟨let ⟨_, q⟩ := r6; q.st, r6.wd⟩ : Stp F.p G3 H3 G6 H6 ∧ Wd X.K F.p e6.k G6 H6)
      cases b with
      | false =>
        obtain ⟨st, wd⟩ := step G5 H5 e5 r5
        have s35 := s3.trans s5
        exact ⟨acc, ns, e5.k, G5, s2.trans s35, hj4, st.hh _ _ hd3 np, st.nn _ _ hd3 gd3, (r3.step st wd).turn w4, hm2, nd2, hl2,
          lcLoop.mono mg mt (weI.mono me) (fun acc k ⟨ns, q1, q2, q3⟩ => ⟨ns, q1, q2, fun ms h1 h2 h3 => (endsOf.le s35).rt _ _ (q3 ms h1 h2 h3)⟩) z5⟩
      | true =>
        refine ⟨.ref a, hj4, G3, H3, e5, G5, r5, me e5 _ _ _ _ (fun y e6 z6 v6 G6 H6 s6 r6 ry => ?_) (fun _ _ u => u.elim) z5⟩
        obtain ⟨n, ey, hla, z6⟩ := z6
        subst ey
        obtain ⟨st, wd⟩ := step G6 H6 e6 r6
        have hd6 := st.hh _ _ hd3 np
        have gd6 := st.nn _ _ hd3 gd3
        have s36 := s3.trans (s5.trans s6)
        have ev := ry.int_inv
        subst ev
        refine ⟨a, _, rfl, DPut.k (k := Sum.inl n) hd6 (by unfold trues; rw [List.length_map, sizeLine_eq]; omega), acc ++ [.int n], putI ns n, e6.k, G6, s2.trans s36, hj4, by rw [upd_same, put_trues], gd6, ((r3.step st wd).turn w4).upd (wU e6.k) gd6 n0 np, fun m => ?_, nodup_putI nd2, ?_,
          lcLoop.mono mg mt (weI.mono me) (fun acc k ⟨ns, q1, q2, q3⟩ => ⟨ns, q1, q2, fun ms h1 h2 h3 => (endsOf.le s36).rt _ _ (q3 ms h1 h2 h3)⟩) z6⟩
        · rw [mem_putI, hm2]
          simp
        · have := len_putI (ns := ns) (n := n)
          rw [List.length_append,
                List.length_singleton]
          omega
    rcases y _ hd with ⟨rfl, rv⟩ | ⟨T, xs, es, rfl, hT, rfl, ed, rxs⟩
    · exact turn G2 _ x (Same.refl G2) hd2 gd2 r2 (rv.mono s2)
    · have s3 := sameNew (o := .tup xs) r2.same hT
      have nT : a ≠ T := ne_of_none hd2 hT
      exact turn (L2.upd G2 T (.tup xs)) _ (.ref T) s3 (by rw [upd_ne nT]; exact hd2) (by rw [upd_ne nT]; exact gd2) (r2.new hT) (by rw [ed]; exact .tup (SqT.of upd_same) (rxs.mono (s2.trans s3)))
  · rw [List.drop_length] at z2
    obtain ⟨ns', ea, h64, fin⟩ := z2
    subst ea
    rw [List.length_map] at hl2
    refine ⟨.ref a, hj2, a, trues ns, ns, rfl, .inl hd2, by unfold trues; rw [List.map_map] <;> rfl, by omega, fun ys q py pw hq => ?_⟩
    have ys_nd : ys.Nodup := py.nodup_iff.mpr nd2
    have s3 := sameNew (o := .lst (ys.map V.int)) r2.same hq
    refine fin ys (strict_of pw ys_nd) (fun m => ?_) (by rw [py.length_eq]; exact hl2) _ σ' _ _ s3 (r2.new hq) (.lst upd_same (RA.toInts ys))
    rw [py.mem_iff, hm2]
    simp
end
end L2.DL


set_option
      maxHeartbeats 4000000
namespace L2.DL
open PySem PySem.Spec
      PyProof.Rows
/-! ### set(xs), xs a list of tuples of ints of which few are different -/
def FewT (ks : List (Addr × List Int)) : Prop := ∀ L : List (Addr × List Int), (L.map (·.2)).Nodup → (∀ p ∈ L, p ∈ ks) → L.length < 63
abbrev Kp (h h' : Heap) : Prop := ∀ b o, h.get? b = some o → h'.get? b = some o
section
variable {P : Program} {w : World} {A : Around}
      {E : Value → Shared → Prop} {s : Shared}
/-- one tuple more -/
theorem tup_in {S : Addr} {L : List (Addr × List Int)} {es : Array (Int × Value)} {ep : Nat} {t : SetTable} {p : Addr × List Int} {Q : Bool → Shared → Prop} (hS : SetTR P w s.heap S L es ep t) (hx : IsT P w s.heap p.2 p.1) (hu : A.units < cLine) (few : L.length < 63)
    (h : ∀ b h' L' es' ep' t', Heap.SameBut S s.heap h' → SetTR P w h' S L' es' ep' t' → (p.2 ∈ L.map (·.2) → L' = L) → (p.2 ∉ L.map (·.2) → L'.Perm (p :: L)) → Q b { s with heap := h', toks := s.toks + (p.2.length + 1) }) :
    wpAny (model P w) A (holding [Value.ref p.1] (setAdd S (.ref p.1))) Q E s := by
  refine wpAny_holding ?_
  unfold setAdd
  exact wpAny_holding (wpAny_bind (wpAny_pyHash_tuple hu hx (add_at (s := { s with toks := s.toks + (p.2.length + 1) }) hS hx hu (by omega) fun b h' L' es' ep' t' q1 q2 q3 q4 => h b h' L' es' ep' t' q1 q2 q3 q4)))
theorem loop_tups {I : Addr} {fp wr : List Addr} {G : Array GenState → Array GenState → Prop} {n : Nat} {Pv : Nat → Value → Prop} {St : Nat → Shared → Prop} {R : Result → Shared → Prop}
    (W : WalksS P w A.in1 I fp wr G n Pv St) (S : Addr) (out : S ∉ fp) (ks : List (Addr × List Int)) (hn : n = ks.length) (few : FewT ks) (hv : ∀ i v, Pv i v → ∃ p, ks[i]? = some p ∧ v = .ref p.1)
    (b0 : Heap) (hk : ∀ p ∈ ks, IsT P w b0 p.2 p.1) (S0 : b0.get? S = none) (w0 : ∀ b ∈ wr, b0.get? b = none) (hu : A.in1.units < cLine) :
    ∀ (m i : Nat) (s : Shared), n - i = m → i ≤ n → St i s → Kp b0 s.heap → (∃ L es ep t, SetTR P w s.heap S L es ep t ∧ Got ks i L) →
      (∀ s' L es ep t, Moved (S :: wr) G s s' → SetTR P w s'.heap S L es ep t → Got ks n L → Kp b0 s'.heap → R (.ok (.ret .none)) s') →
      codeAny (model P w) A (.builtin "set.update.loop" ⟨[.ref S,
            .ref I], []⟩) R s := by
  have sub : ∀ b ∈ wr, b ∈ S :: wr := fun b hb => List.mem_cons_of_mem _ hb
  have offw : S ∉ wr := fun z => out (W.sub _ z)
  have kept : ∀ {s s' : Shared}, Moved wr G s s' → Kp b0 s.heap → Kp b0 s'.heap := fun mv k b o e =>
    mv.heap b o (fun hb => by
      rw [w0 b hb] at e
      cases e) (k b o e)
  have inks : ∀ {i : Nat} {L : List (Addr × List Int)}, Got ks i L → ∀ p ∈ L, p ∈ ks := fun g p hp => List.mem_of_mem_take (g.sub p hp)
  intro m
  induction m with
  | zero =>
    rintro i s hm hi st k ⟨L, es, ep, t, T, g⟩ fin
    obtain rfl : i = n := by omega
    refine codeAny_builtin
          F.entry_set_update_loop ?_
    rw [Around.under_plainId
          F.plain_set_update_loop _]
    show wpAny _ A.in1
          (pyNext (.ref I) >>= _) _ _ s
    refine wpAny_bind (W.done s _ _ st fun s' mv => ?_)
    show wpAny _ A.in1
          (ret Value.none) _ _ s'
    have k' := kept mv k
    have T' : SetTR P w s'.heap S L es ep t := T.keep (fun o e => mv.heap S o offw e) fun p hp => isT_keep (hk p (inks g p hp)) k'
    exact wpAny_pure (fin s' L es ep t (mv.mono sub) T' g k')
  | succ m ih =>
    rintro i s hm hi st k ⟨L, es, ep, t, T, g⟩ fin
    have lt : i < n := by omega
    refine codeAny_builtin
          F.entry_set_update_loop ?_
    rw [Around.under_plainId
          F.plain_set_update_loop _]
    show wpAny _ A.in1
          (pyNext (.ref I) >>= _) _ _ s
    refine wpAny_bind (W.item i s _ _ lt st fun v s' pv st' mv => ?_)
    obtain ⟨p, ep0, rfl⟩ := hv i v pv
    have k' := kept mv k
    have T' : SetTR P w s'.heap S L es ep t := T.keep (fun o e => mv.heap S o offw e) fun p hp => isT_keep (hk p (inks g p hp)) k'
    show wpAny _ A.in1
          (holding [Value.ref p.1] (setAdd S (.ref p.1)) >>= _) _ _ s'
    refine wpAny_bind (tup_in T' (isT_keep (hk p (List.mem_of_getElem? ep0)) k') hu (few L T'.nd (inks g)) fun b h' L' es' ep' t' sb T2 c1 c2 => ?_)
    have g2 : Got ks (i + 1) L' := by
      by_cases c : p.2 ∈ L.map (·.2)
      · rw [c1 c]
        exact g.same ep0 c
      · exact g.more ep0 (c2 c)
    have k2 : Kp b0 h' := fun b o e => by
      have ne : b ≠ S := fun z => by
        rw [z, S0] at e
        cases e
      rw [sb.2 b ne]
      exact k' b o e
    have st2 := W.frame (i + 1) s' h' (s'.toks + (p.2.length + 1)) st' (Nat.le_add_right _ _) fun b hb o e => by
      rw [sb.2 b fun z => out (by rw [← z]; exact hb)]
      exact e
    refine wpAny_pure ⟨plainId_quiet F.plain_set_update_loop _, ih (i + 1) _ (by omega) lt st2 k2 ⟨L', es', ep', t', T2, g2⟩ fun s3 L3 es3 ep3 t3 mv3 T3 g3 k3 => ?_⟩
    refine fin s3 L3 es3 ep3 t3 (Moved.trans W.gtrans ((mv.mono sub).then_heap (Nat.le_add_right _ _) fun b o hb e => ?_) mv3) T3 g3 k3
    rw [sb.2 b fun z => hb (by rw [z]; exact List.mem_cons_self)]
    exact e
/-- how the heap stands behind set(xs) -/
def SetDoneT (P : Program) (w : World) (ks : List (Addr × List Int)) (s s2 : Shared) : Prop :=
  ∃ (g : Heap) (tk : Nat) (L : List (Addr × List Int)) (es : Array (Int × Value)) (ep : Nat) (t : SetTable), s2 = { s with heap := g, toks := tk } ∧ SetTR P w g s.heap.objs.size L es ep t ∧ Got ks ks.length L ∧ Kp s.heap g
theorem init_tups {l : Addr} {xs : Array Value} (ks : List (Addr × List Int)) (hh : A.handled = none) (hl : s.heap.IsList l xs) (hi : xs.toList = ks.map fun p => Value.ref p.1) (hk : ∀ p ∈ ks, IsT P w s.heap p.2 p.1) (few : FewT ks) (hu : A.units + 3 < cLine) :
    codeAny (model P w) A (.call (.builtin "set.__init__") ⟨[.ref s.heap.objs.size, .ref l], []⟩) (wants (fun r s2 => r = .none ∧ SetDoneT P w ks s s2) E) { s with heap := s.heap.push (setNew w) } := by
  have at0 : (s.heap.push (setNew w)).get? s.heap.objs.size = some (setNew w) := Heap.get?_push_size _ rfl
  have hz : xs.size = ks.length := by
    have q := congrArg List.length hi
    rwa [Array.length_toList, List.length_map] at q
  have up := hl.push (setNew w)
  have ty : Shared.TypeIs { s with heap := s.heap.push (setNew w) } (.ref s.heap.objs.size) "set" :=
    ⟨_, at0, rfl⟩
  refine codeAny_call_builtin F.called_set.init.plain F.entry_set_init (check_set_init_1 ty ?_)
  have up' := up
  obtain ⟨⟨c0, d0, e0, f0⟩, at1, k0, n0, x0⟩ := up'
  dsimp only at k0 x0
  cases k0
  cases x0
  have no1 := F.sub_list_set
  have no2 := F.sub_list_frozenset
  have no3 : (Value.type "list" == Value.type "dict") = false := by decide
  have below : l < s.heap.objs.size := by
    obtain ⟨o, e, _⟩ := hl
    exact Heap.lt_size e
  have quiet : A.in1.in1.in1.handled = none := by simp [hh]
  have one : (s.heap.push (setNew w)).objs.size = s.heap.objs.size + 1 := Heap.size_push ..
  have away : l ≠ (s.heap.push (setNew w)).objs.size := by
    rw [one]
    exact Nat.ne_of_lt (Nat.lt_succ_of_lt below)
  unfold Builtin.«set.__init__»
        noKeywords Builtin.Frozenset.updateFrom
  generalize hit : pyIter = it
  wp_walk
  subst hit
  refine wpAny_pyIter_list up (wpAny_bind (wpAny_runValue ?_))
  have sep : s.heap.objs.size ∉ [(s.heap.push (setNew w)).objs.size, l] := by
    rw [one]
    intro z
    rcases List.mem_cons.mp
          z with z | z
    · exact Nat.ne_of_lt (Nat.lt_succ_self _) z
    · exact Nat.ne_of_lt below (List.mem_singleton.mp z).symm
  have gone : ∀ b, s.heap.objs.size ≤ b → s.heap.get? b = none := fun b hb => by
    cases q : s.heap.get? b with
    | none => rfl
    | some o =>
      exact absurd (Nat.lt_of_lt_of_le (Heap.lt_size q) hb) (Nat.lt_irrefl _)
  refine loop_tups (Walks.list (by first | exact quiet | simp [hh]) _ l away xs).toS s.heap.objs.size sep ks hz few (fun i v hv => ?_) s.heap hk (gone _ (Nat.le_refl _)) (fun b hb => gone b ?_) (by first | exact hu | (simp at hu ⊢; omega)) (xs.size - 0) 0 _ (by omega) (Nat.zero_le _) ?s0 (fun b o e => Heap.get?_push_of_some _ (Heap.get?_push_of_some _ e)) ?st fun s2 L es ep t mv R g k => ?_
  case s0 => exact ⟨⟨_, Heap.get?_push_size _ rfl, rfl, rfl⟩, up.push _⟩
  case st => exact ⟨[], #[], 0, _, setTR_fresh (Heap.get?_push_of_some _ at0), Got.zero ks⟩
  · have q : xs.toList[i]? = some v := by rw [Array.getElem?_toList]; exact hv
    rw [hi, List.getElem?_map] at q
    cases e : ks[i]? with
    | none => rw [e] at q; cases q
    | some p =>
      rw [e] at q
      exact ⟨p, rfl,
            (Option.some.inj q).symm⟩
  · rw [List.mem_singleton.mp hb, one]
    exact Nat.le_succ _
  · obtain ⟨g2, gn, dr, tk, os⟩ := s2
    cases (show gn = s.gens from mv.gens)
    cases (show dr = s.drawn from mv.drawn)
    cases (show os = s.os from mv.os)
    show wpAny _ _ _ _ _ _
    refine wpAny_pure ?_
    show wpAny _ _ (ret
          Value.none) _ _ _
    rw [hz] at g
    exact wpAny_pure ⟨rfl, g2, tk, L, es, ep, t, rfl, R, g, k⟩
theorem call_set_tupsF {l : Addr} {xs : Array Value} (ks : List (Addr × List Int)) {Q : Value → Shared → Prop} (hh : A.handled = none) (hl : s.heap.IsList l xs) (hi : xs.toList = ks.map fun p => Value.ref p.1) (hk : ∀ p ∈ ks, IsT P w s.heap p.2 p.1) (few : FewT ks) (hu : A.units + 10 < cLine)
    (h : ∀ s2, SetDoneT P w ks s s2 → Q (.ref s.heap.objs.size) s2) : wpAny (model P w) A (call (.type "set") [.ref l]) Q E s := by
  obtain ⟨c, tl, mro⟩ := F.called_set.mro
  have k1 := F.called_set.made
  have k2 := F.called_set.sub
  have k3 := F.called_set.notType
  have k4 := F.called_set.canCreate
  have k5 := F.typeCall_set_1 (.ref l)
  have k6 := F.called_set.init.lookup
  have ty : Shared.TypeIs { s with heap := s.heap.push (setNew w) } (.ref s.heap.objs.size) "set" := ⟨_, Heap.get?_push_size _ rfl, rfl⟩
  refine wpAny_call
        (codeAny_of_tree ?_)
  show wpAny _ _ (callAny
        (.type "set") _) _ _ _
  refine wpAny_pure ⟨Code.quiet_builtin _ (by decide +kernel),
        codeAny_builtin F.entry_type_call ?_⟩
  rw [Around.under_plain (weight_type_call_type
        "set" [.ref l] []) rfl]
  repeat (any_goals (first
        | assumption | wp_step))
  refine codeAny_mono (code_set_led1 (.ref l) (E := E) (Q₁ := fun o s1 => o = .ref s.heap.objs.size ∧ s1 = { s with heap := s.heap.push (setNew w) }) ⟨rfl, rfl⟩) fun r s1 z => ?_
  rcases r with e | (_ | _ | _ | o)
  · exact z
  iterate 3 exact z.elim
  · obtain ⟨rfl, rfl⟩ := z
    have k7 := F.called_set.init.bind (.ref s.heap.objs.size)
    repeat (any_goals (first
          | assumption | wp_step))
    refine codeAny_mono (init_tups (E := E) ks (by simp [hh]) hl hi hk few (by first | (simp; omega) | omega)) fun r s2 z => ?_
    rcases r with e | (_ | _ | _ | o)
    · exact z
    iterate 3 exact z.elim
    · obtain ⟨rfl, d⟩ := z
      repeat (any_goals (first
            | assumption | wp_step))
      exact h _ d
end
/-- set(xs), xs a list of tuples of ints, few of them different -/
def rSetF (K : PySem.W.Frag) (P : Program) (w : World) : List V → Hp → VK → Prop := fun xs H Q => ∃ (l : Addr) (ks : List (Addr × List Int)), xs = [V.ref l] ∧ SqL K H l (ks.map fun p => V.ref p.1) ∧ (∀ p ∈ ks, SqT K H p.1 (p.2.map V.int)) ∧ FewT ks ∧
  ∀ a L, H a = none → (∀ p ∈ L, p ∈ ks) → (∀ p ∈ ks,
        p.2 ∈ L.map (·.2)) → Q (.ref a) (upd H a (SetTO P w a L))
theorem cr_setF {X : Cx} (hc : X.calm = true) (hu : X.A.units + 64 < cLine) : CallR X (.type "set") (rSetF X.K X.prog X.w) := by
  intro pins s σ
        H xs us Q I r h
  obtain ⟨l, ks, rfl, hq, hk, few, q⟩ := h
  rw [Vals.ref1 r]
  obtain ⟨its, rv,
        pl, hz⟩ := I.list hq
  refine call_set_tupsF (P := X.prog) (w := X.w) ks (I.ok.hd hc) pl.isList (by simpa using refs_of_vals rv) (fun p hp => I.isT (hk p hp)) few (by omega) fun s2 ⟨h', tk, L, es, ep, t, e, R1, g, k⟩ => ?_
  subst e
  exact ⟨.ref _, upd H s.heap.objs.size (SetTO X.prog X.w s.heap.objs.size L), I.laid (t' := tk) k (Nat.le_refl _) (setTO_new R1.t0), rfl, q _ L (I.hok.fresh (Nat.le_refl _)) (fun p hp => List.mem_of_mem_take (g.sub p hp)) fun p hp => g.all p (by rw [List.take_length]; exact hp)⟩
abbrev tupI (t : List Int) : PyData := .tuple (t.map PyData.int)
/-- few different ones among ts -/
def FewI (ts : List (List Int)) : Prop := ∀ L : List (List Int), L.Nodup → (∀ t ∈ L, t ∈ ts) → L.length < 63
theorem FewI.ks {ks : List (Addr × List Int)} (h : FewI (ks.map (·.2))) : FewT ks := fun L nd sub => by
  have := h (L.map (·.2)) nd fun t ht => by
    obtain ⟨p, hp, e⟩ := List.mem_map.mp ht
    exact List.mem_map.mpr ⟨p, sub p hp, e⟩
  rwa [List.length_map] at this
theorem RA.tups {K : PySem.W.Frag} {p : Option Addr} {G : Hp} : ∀ {ts : List (List Int)} {xs : List V}, RA K p G xs (ts.map tupI) → ∃ ks : List (Addr × List Int), xs = ks.map (fun q => V.ref q.1) ∧ ks.map (·.2) = ts ∧ ∀ q ∈ ks, SqT K G q.1 (q.2.map V.int)
  | [], _, .nil => ⟨[], rfl, rfl, fun q h => nomatch h⟩
  | t :: ts, _, .cons r rs => by
    obtain ⟨ks, e1, e2, h⟩ := RA.tups (ts := ts) rs
    obtain ⟨l, ys, rfl, g, ra⟩ := R.tup_inv r
    have ex := ra.ofInts
    subst ex
    refine ⟨(l, t) :: ks, by rw [e1, List.map_cons], by rw [List.map_cons, e2], fun q hq => ?_⟩
    rcases List.mem_cons.mp hq with z | z
    · rw [z]; exact g
    · exact h q z
theorem RA.ofTups {K : PySem.W.Frag} {p : Option Addr} {G : Hp} : ∀ {ks : List (Addr × List Int)}, (∀ q ∈ ks, SqT K G q.1 (q.2.map V.int)) → RA K p G (ks.map fun q => V.ref q.1) (ks.map fun q => tupI q.2)
  | [], _ => .nil
  | q :: ks, h => .cons (.tup (h q List.mem_cons_self) (RA.toInts q.2)) (RA.ofTups fun z hz => h z (List.mem_cons_of_mem _ hz))
/-- sorted(set(xs)), xs a list of tuples of so many ints -/
def wSortedSetT (w : WEx) : WEx := fun e Q x => w e (fun d e1 => ∃ (ts : List (List Int)) (n : Nat) (B : Int), d = .list (ts.map tupI) ∧ 1 ≤ n ∧ (∀ t ∈ ts, t.length = n ∧ TS.Bd B t) ∧ FewI ts ∧
  ∀ us : List (List Int), us.Nodup → (∀ t, t ∈ us ↔ t ∈ ts) → us.Pairwise (fun a b => TS.code B a ≤ TS.code B b) → Q (.list (us.map tupI)) e1) x
section
variable {X : Cx} {F : Fx} {pos : Pos} {a : Expr} {wa : WEx}
theorem de_sortedSetT {p1 p2 q : Pos} (hc : X.calm = true) (hu : X.A.units + 64 < cLine) (h : DE X F a wa) (hm : X.mg "sorted" = none) (hm2 : X.mg "set" = none) (hg : Gl X "sorted" := by rfl) (hg2 : Gl X "set" := by rfl) (hv : bootBuiltins "sorted" = some (.builtin "sorted") := by decide +kernel) (hv2 : bootBuiltins "set" = some (.type "set") := by decide +kernel)
    (hs : starEach [a] X.env = (false, eval a X.env) :: starEach [] X.env := by rfl) (hpl : (backTo q (starEach [] X.env)).any (·.1) = false := by rfl)
    (hs2 : starEach [.Call (.Name "set" p2) [a] [] q] X.env = (false, eval (.Call (.Name "set" p2) [a] [] q) X.env) :: starEach [] X.env := by rfl) (hpl2 : (backTo pos (starEach [] X.env)).any (·.1) = false := by rfl) :
    DE X F (.Call (.Name "sorted" p1) [.Call (.Name "set" p2) [a] [] q] [] pos) (wSortedSetT wa) :=
  de_of (pe_callB (cr_sortedT hc) hg hm hv (pa_cons (pe_callTy (cr_setF hc hu) hg2 hm2 hv2 (pa_cons h.run pa_nil hs) (by decide) (by decide) hs hpl) pa_nil hs2) (by decide) (by decide) hs2 hpl2)
    (fun e Q Q' x x' h1 h2 q => h.mono e _ _ _ _ (fun d e1 ⟨ts, n, B, ed, hn, hl, few, z⟩ => ⟨ts, n, B, ed, hn, hl, few, fun us p1 p2 p3 => h1 _ _ (z us p1 p2 p3)⟩) h2 q) fun σ H Q ⟨e, G, r, q⟩ =>
    ⟨e, G, r, h.mono e _ _ _ _ (fun d e1 ⟨ts, n, B, ed, hn, hl, few, z⟩ v G' H' s r' rv => by
      subst ed
      obtain ⟨l, xs, rfl, g, ra⟩ := rv.lst_inv
      obtain ⟨ks, rfl, rfl, hk⟩ := ra.tups
      refine ⟨l, ks, rfl, SqL.of (r'.same _ _ g), fun q hq => sameT r'.same (hk q hq), few.ks, fun b L hb s1 s2 => ⟨b, L, n, B, rfl, upd_same, fun q hq => ?_, hn, fun q hq => hl q.2 (List.mem_map.mpr ⟨q, s1 q hq, rfl⟩), fun L' q' pm nd _ pw hq => ?_⟩⟩
      · have r2 := r'.new (o := SetTO X.prog X.w b L) hb
        exact sameT r2.same (sameT (sameNew (o := SetTO X.prog X.w b L) r'.same hb) (hk q (s1 q hq)))
      have r2 := r'.new (o := SetTO X.prog X.w b L) hb
      have s3 := sameNew (o := SetTO X.prog X.w b L) r'.same hb
      have s4 := sameNew (o := .lst (L'.map fun q => V.ref q.1)) r2.same hq
      have eq : (L'.map (·.2)).map tupI = L'.map fun q => tupI q.2 := by rw [List.map_map] <;> rfl
      refine z (L'.map (·.2)) nd (fun t => ?_) ?_ _ _ _ (s.trans (s3.trans s4)) (r2.new hq) (.lst upd_same (by
        rw [eq]
        exact RA.ofTups fun q hq => sameT s4 (sameT s3 (hk q (s1 q (pm.mem_iff.mp hq))))))
      · rw [(pm.map (·.2)).mem_iff]
        refine ⟨fun ht => ?_, fun ht => ?_⟩
        · obtain ⟨q, hq, e⟩ := List.mem_map.mp ht
          exact List.mem_map.mpr ⟨q, s1 q hq, e⟩
        · obtain ⟨q, hq, e⟩ := List.mem_map.mp ht
          rw [← e]
          exact s2 q hq
      · exact List.pairwise_map.mpr pw) (fun _ _ z => z) q⟩
end
end L2.DL


set_option
      maxHeartbeats 1000000
namespace L2.DL
open PySem PySem.Spec
      PyProof.Rows
/-! ### sorted(t), t a tuple of ints -/
def rSortedTup (K : PySem.W.Frag) : List V → Hp → VK → Prop := fun xs H Q => ∃ (a : Addr) (ns : List Int), xs = [.ref a] ∧ SqT K H a (ns.map V.int) ∧ ns.length < 64 ∧
  ∀ (ys : List Int) (p : Addr), ys.Perm ns → ys.Pairwise (· ≤ ·) → H p = none → Q (.ref p) (upd H p (.lst (ys.map V.int)))
theorem cr_sortedTup {X : Cx} : CallR X (.builtin "sorted") (rSortedTup X.K) := by
  intro pins s σ
        H xs us Q I r q
  obtain ⟨a, ns, rfl, hq, few, q⟩ := q
  rw [Vals.ref1 r]
  obtain ⟨its, rv, ⟨o, ho, oc, n, od⟩, hz⟩ := I.tuple hq
  have hi : IntsAre its.toArray.toList ns :=
        ints_of_vals rv
  have len : its.toArray.toList.length = ns.length := IntsAre.length hi
  refine Calls.call_function_entry kind_sorted
        plain_sorted entry_sorted (args_sorted1 _) ?_
  unfold Builtin.«sorted»
  refine wpAny_bind (m :=
        checkCount "sorted" 1 1 _) (wpAny_pure ?_)
  refine wpAny_bind (wpAny_collect_seq a (.inr rfl) ho oc od (fun g k => ?_) (by rw [← Array.length_toList, len, sizeLine_eq]; omega))
  have I1 : Inv X pins σ H { s with heap := g } := I.kept (t' := s.toks) k
  refine wpAny_bind (wpAny_newList ?_ (by rw [len, sizeLine_eq]; omega))
  have new : (g.push (seqObj "list" its.toArray.toList.toArray 0)).get? g.objs.size = some (seqObj "list" its.toArray.toList.toArray 0) := Heap.get?_push_size _ rfl
  show wpAny _ _ _ _ _ { s with heap := g.push (seqObj "list" its.toArray.toList.toArray 0) }
  refine wpAny_bind (wpAny_holding (wpAny_call_entry slot_list_sort ⟨_, new, rfl⟩ entry_list_sort
    (list_sort_tree (s := { s with heap := g.push (seqObj "list" its.toArray.toList.toArray 0) }) new hi (by omega) fun out ys g1 g2 g3 => ⟨_, rfl, ?_⟩) (args_list_sort _)))
  obtain ⟨e, he⟩ := sortedHeap_at (vs := its.toArray.toList) (out := out) new
  have hl : (ys.map V.int).length ≤ sizeLine := by
    rw [List.length_map, g2.length_eq, sizeLine_eq]
    omega
  refine wpAny_pure ⟨_, rfl, .ref g.objs.size, upd H g.objs.size (.lst (ys.map V.int)), I1.laid (t' := s.toks) (fun b u z => ?_) (Nat.le_refl _)
    (show ObjOk X.prog X.w _ _ _ (.lst (ys.map V.int)) from ⟨hl, out.toList, e, vals_of_ints g1, by rw [Array.toArray_toList]; exact he⟩), rfl, q ys _ g2 g3 (I1.hok.fresh (Nat.le_refl _))⟩
  have lt : b < g.objs.size := Heap.lt_size z
  rw [sortedHeap_old (Nat.ne_of_lt lt) (by rw [Heap.size_push]; exact Nat.lt_succ_of_lt lt)]
  exact Heap.get?_push_of_some _ z
def sortedTD : BL
  | [.tuple xs], P => ∃ ns : List Int, xs = ns.map PyData.int ∧ ns.length < 64 ∧ ∀ ns' : List Int, ns'.Perm ns → ns'.Pairwise (· ≤ ·) → P (.list (ns'.map PyData.int))
  | _, _ => False
theorem sortedTD.mono : BL.Mono sortedTD := by
  intro a P P' h q
  unfold sortedTD at q ⊢
  split at q
  · obtain ⟨ns, e, f, z⟩ := q
    exact ⟨ns, e, f, fun ns' p1 p2 => h _ (z ns' p1 p2)⟩
  · exact q.elim
theorem fitsSortedT {K : PySem.W.Frag} : FitsL K sortedTD (rSortedTup K) := by
  intro p G₀ H₀ G H σ e xs ds P Q r ra q k
  unfold sortedTD at q
  split at q
  · obtain ⟨x, rfl, rx⟩ := ra.one
    obtain ⟨a, ys, rfl, h1, r1⟩ := rx.tup_inv
    obtain ⟨ns, e1, few, z⟩ := q
    subst e1
    have ey := r1.ofInts
    subst ey
    exact ⟨a, ns, rfl, sameT r.same h1, few, fun ns' l p1 p2 hl => ansL r (RA.toInts ns') k (z ns' p1 p2) hl⟩
  · exact q.elim
end L2.DL


set_option
      maxHeartbeats 1000000
namespace L2.DL
open PySem PySem.Spec
      PyProof.Rows
/-! ### while: a word over the slots, with a number that falls -/
def wWhile (c : WTx) (wb : WSt) : WSt := fun e B => ∃ I : Nat → En → Prop, (∃ m, I m e) ∧ ∀ m e1, I m e1 →
  c e1 (fun k e2 => if k = true then wb e2 { B with nx := fun e3 => ∃ m', m' < m ∧ I m' e3, ct := fun e3 => ∃ m', m' < m ∧ I m' e3, bk := B.nx } else B.nx e2) B.ex
section
variable {X : Cx} {F : Fx} {pos : Pos} {c : Expr} {body : List Stmt} {cw : WTx} {wb : WSt}
theorem wWhile.mono (mc : MonoT cw) (mb : MonoS wb) : MonoS (wWhile cw wb) := fun e A B l ⟨I, h0, h⟩ => ⟨I, h0, fun m e1 i => mc e1 _ _ _ _ (fun k e2 z => by
  cases k with
  | true => exact mb e2 { A with nx := fun e3 => ∃ m', m' < m ∧ I m' e3, ct := fun e3 => ∃ m', m' < m ∧ I m' e3, bk := A.nx } _ ⟨fun _ y => y, l.rt, fun _ y => l.nx _ y, fun _ y => y, l.ex⟩ z
  | false => exact l.nx _ z) l.ex (h m e1 i)⟩
theorem ds_while (hp : PassesOwn (model X.prog X.w) X.A X.env X.xe) (hc : DT X F c cw) (hb : DSs X F body wb) : DS X F (.While c body [] pos) (wWhile cw wb) :=
  ds_of (ps_while hp hc.run hb.run) (wWhile.mono hc.mono hb.mono) fun D σ H ⟨e, G, r, I, ⟨m0, i0⟩, turn⟩ => by
    refine ⟨fun m σ H => ∃ e1 G1, Same G G1 ∧ Rl X.K F.p F.G₀ F.H₀ G1 H σ e1 ∧ I m e1, ⟨m0, e, G, Same.refl G, r, i0⟩, ?_⟩
    rintro m σ1 H1 ⟨e1, G1, s1, r1, i1⟩
    have t := hc.mono e1 _ _ _ _ (fun _ _ z => z) (fun y e' (z : (endsOf X.K F G D).ex y e') => (fun C G' H' s r' ec => z C σ1 G' H' (s1.trans s) r' ec : PX X.K F.p F.G₀ F.H₀ F.W G1 σ1 y e')) (turn m e1 i1)
    refine tT.mono hc.mono (fun b H2 z => ?_) (tT.bind hc.mono r1 t)
    obtain ⟨e2, G2, s2, r2, z⟩ := z
    cases b with
    | false => exact z σ1 G2 H2 (s1.trans s2) r2
    | true =>
      rw [if_pos rfl] at z
      rw [if_pos rfl]
      have le := endsOf.le (K := X.K) (F := F) (D := D) (s1.trans s2)
      refine ⟨fun σ' H' => ∃ m', m' < m ∧ ∃ e3 G3, Same G G3 ∧ Rl X.K F.p F.G₀ F.H₀ G3 H' σ' e3 ∧ I m' e3, fun σ' H' z => z, e2, G2, r2, hb.mono e2 { endsOf X.K F G D with nx := fun e3 => ∃ m', m' < m ∧ I m' e3, ct := fun e3 => ∃ m', m' < m ∧ I m' e3, bk := (endsOf X.K F G D).nx } _ ?_ z⟩
      exact ⟨fun e4 ⟨m', lt, i⟩ σ4 G4 H4 s4 r4 => ⟨m', lt, e4, G4, (s1.trans s2).trans s4, r4, i⟩, le.rt, fun e4 y4 => le.nx e4 y4, fun e4 ⟨m', lt, i⟩ σ4 G4 H4 s4 r4 => ⟨m', lt, e4, G4, (s1.trans s2).trans s4, r4, i⟩, le.ex⟩
end
end L2.DL


set_option
      maxHeartbeats 2000000
namespace L2.DL
open PySem PySem.Spec
      PyProof.Rows
/-! ### answers: data, a list that nothing else holds, a tuple whose first item is such a list -/
inductive Ans where
  | dat (d : D) | own (ds : List D) | tup (ds rest : List D)
def Ans.data : Ans → D
  | .dat d => d
  | .own ds => .list ds
  | .tup ds rest => .tuple (.list ds :: rest)
def PAns (K : PySem.W.Frag) (p : Option Addr) (Q : VK) : Ans → Hp → Hp → Prop
  | .dat d, G, H => ∀ v, R K p G v d → Q v H
  | .own ds, G, H => ∀ a xs, H a = none → RA K p G xs ds → Q (.ref a) (L2.upd H a (.lst xs))
  | .tup ds rest, G, H => ∀ a xs T vs, H a = none → RA K p G xs ds → H T = none → a ≠ T → RA K p G vs rest → Q (.ref T) (L2.upd (L2.upd H T (.tup (.ref a :: vs))) a (.lst xs))
theorem upd_flip {H : Hp} {a b : Addr} {o u : HO} (h : a ≠ b) : L2.upd (L2.upd H a o) b u = L2.upd (L2.upd H b u) a o := by
  funext c
  by_cases e1 : c = a
  · subst e1
    rw [upd_ne h, upd_same, upd_same]
  · rw [upd_ne e1]
    by_cases e2 : c = b
    · subst e2
      rw [upd_same, upd_same]
    · rw [upd_ne e2, upd_ne e1, upd_ne e2]
abbrev Wa := List D → Nat → (Ans → Nat → Prop) → (D → Nat → Prop) → Prop
def Wa.Mono (w : Wa) : Prop := ∀ ds k Q Q' x x', (∀ es k, Q es k → Q' es k) → (∀ d k, x d k → x' d k) → w ds k Q x → w ds k Q' x'
def spA (K : PySem.W.Frag) (w : Wa) : Sp := fun vs H Q E => ∃ p G ds k, Wd K p k G H ∧ RA K p G vs ds ∧
  w ds k (fun an k' => ∀ G' H', Stp p G H G' H' → Wd K p k' G' H' → PAns K p Q an G' H') (fun x k' => ∀ C G' H', Stp p G H G' H' → Wd K p k' G' H' → x = excD C → E (.ref C) none H')
def plainA (w : Wa) : Wc := fun ds k Q x => w ds k (fun an k' => Q an.data k') x
theorem plainA.mono {w : Wa} (m : w.Mono) : (plainA w).Mono := fun ds k Q Q' x x' h1 h2 q => m ds k _ _ _ _ (fun es k => h1 _ _) h2 q
def DefA (P : Program) (w : World) (K : PySem.W.Frag) (mg : Str → Option Value) (base : Heap) (x : Str) (k : Nat) (ps : List Str) (wf : Wa) : Prop :=
  ∃ f fd, FnG P w K mg base k f fd ps (spA K wf) ∧ mg x = some (.ref f) ∧ PySem.W.keepIn K (.ref f) = true ∧ Binds K fd ps []
section
variable {P : Program} {w : World} {K :
      PySem.W.Frag} {mg : Str → Option Value} {base : Heap}
theorem DefA.plain {x : Str} {k : Nat} {ps : List Str} {wf : Wa} (h : DefA P w K mg base x k ps wf) (m : wf.Mono) : Def P w K mg base x k ps (plainA wf) := by
  obtain ⟨f, fd, h1, h2⟩ := h
  refine ⟨f, fd, h1.imp fun vs H Q E ⟨p, G, ds, n, wd, ra, q⟩ => ⟨p, G, ds, n, wd, ra, m ds n _ _ _ _ (fun an k' z G' H' st wd' => ?_) (fun _ _ z => z) q⟩, h2⟩
  have r : Rl K p G H G' H' [] ⟨[], k'⟩ := ⟨fun _ => 0, wd', st, rfl, fun i d h => by simp at h, fun i ds h => by simp at h, fun i j ds es h => by simp at h⟩
  cases an with
  | dat d => exact fun v rv => z v _ _ st wd' rv
  | own es =>
    intro a xs ha rx
    obtain ⟨α, r'⟩ := r.new (o := .lst xs) ha
    exact z (.ref a) _ _ r'.st r'.w (.lst upd_same (rx.mono (sameNew wd'.same ha)))
  | tup es rest =>
    intro a xs T vs' ha rx hT ne rr
    have r1 := r.new (o := .lst xs) ha
    have hT' : L2.upd H' a (.lst xs) T = none := by rw [upd_ne ne.symm]; exact hT
    obtain ⟨α, r'⟩ := r1.new (o := .tup (.ref a :: vs')) hT'
    have s1 := sameNew (o := .lst xs) wd'.same ha
    have s2 := sameNew (o := .tup (.ref a :: vs')) r1.same hT'
    rw [upd_flip ne.symm]
    exact z (.ref T) _ _ r'.st r'.w (.tup (SqT.of upd_same) (.cons (.lst (s2 _ _ upd_same) (rx.mono (s1.trans s2))) (rr.mono (s1.trans s2))))
end
/-- something new that nothing will look at -/
theorem Rl.junk {K : PySem.W.Frag} {p : Option Addr} {G₀ H₀ G H : Hp} {σ : L2.St} {e : En} {q : Addr} {o : HO} (r : Rl K p G₀ H₀ G H σ e) (hq : H q = none) : Rl K p G₀ H₀ G (L2.upd H q o) σ e := by
  obtain ⟨α, r⟩ := r
  have np : p ≠ some q := fun ep => by
    obtain ⟨_, c, xs, i, t, h2, _⟩ := r.w.pen q ep
    rw [hq] at h2; cases h2
  have n0 : H₀ q = none := by
    cases z : H₀ q with
    | none => rfl
    | some o => have := r.st.hh q o z np; rw [hq] at this; cases this
  have gq : G q = none := r.w.same.free hq
  refine ⟨α, ⟨fun b u z => ?_, fun a ea => ?_⟩, ⟨r.st.gg, fun b u z n => ?_, r.st.nn, fun a c ea h => ?_⟩, r.len, r.dat, fun j es h => ?_, r.sep⟩
  · rw [upd_ne (ne_of_none z gq)]; exact r.w.same _ _ z
  · obtain ⟨h1, c, xs, i, t, h2, h3⟩ := r.w.pen a ea
    exact ⟨h1, c, xs, i, t, by rw [upd_ne (ne_of_none h2 hq)]; exact h2, h3⟩
  · rw [upd_ne (ne_of_none z n0)]; exact r.st.hh b u z n
  · obtain ⟨i, t, z⟩ := r.st.pc a c ea h
    exact ⟨i, t, by rw [upd_ne (ne_of_none z hq)]; exact z⟩
  · obtain ⟨ys, q1, q2, q3, q4, q5, q6⟩ := r.own j es h
    exact ⟨ys, q1, by rw [upd_ne (ne_of_none q2 hq)]; exact q2, q3, q4, q5, q6⟩
/-! #### expressions that give an answer -/
abbrev WAn := En → (Ans → En → Prop) → PD → Prop
def MonoAn (w : WAn) : Prop := ∀ e Q Q' x x', (∀ b e, Q b e → Q' b e) → (∀ d e, x d e → x' d e) → w e Q x → w e Q' x'
def PN (K : PySem.W.Frag) (F : Fx) (G : Hp) (σ : L2.St) (Q : VK) : Ans → En → Prop := fun an e' => ∀ G' H', Same G G' → Rl K F.p F.G₀ F.H₀ G' H' σ e' → PAns K F.p Q an G' H'
def tAn (K : PySem.W.Frag) (F : Fx) (w : WAn) : TE := fun σ H Q => ∃ e G, Rl K F.p F.G₀ F.H₀ G H σ e ∧ w e (PN K F G σ Q) (PX K F.p F.G₀ F.H₀ F.W G σ)
structure DAn (X : Cx) (F : Fx) (e : Expr) (w : WAn) : Prop where
  run : PE X e (tAn X.K F w)
  mono : MonoAn w
section
variable {X : Cx} {F : Fx} {pos : Pos} {a : Expr} {es : List Expr} {wr : WAx} {wa : WAn} {wd : WEx}
theorem dan_of {e : Expr} {t : TE} {w : WAn} (h : PE X e t) (m : MonoAn w) (i : ∀ σ H Q, tAn X.K F w σ H Q → t σ H Q) : DAn X F e w := ⟨⟨fun pins s σ H Q I q => h.run pins s σ H Q I (i σ H Q q)⟩, m⟩
/-- a call of a def that gives an answer -/
def wCallA (wf : Wa) (wa : WAx) : WAn := fun e Q x => wa e (fun ds e1 => wf ds e1.k (fun an k' => Q an { e1 with k := k' }) (fun y k' => x y { e1 with k := k' })) x
theorem wCallA.mono {wf : Wa} (mf : wf.Mono) (m : MonoA wr) : MonoAn (wCallA wf wr) := fun e Q Q' x x' h1 h2 q => m e _ _ _ _ (fun ds e1 z => mf ds e1.k _ _ _ _ (fun d k => h1 _ _) (fun d k => h2 _ _) z) h2 q
theorem dan_fn {wf : Wa} {j k : Nat} {ps : List Str} {x : Str} {p : Pos} (d : DefA X.prog X.w X.K X.mg X.base x j ps wf) (mf : wf.Mono) (hgd : X.A.guards = some []) (hr : Room k X.A) (tk : Takes X F.W) (ha : DA X F (a :: es) wr) (hj : j ≤ k := by decide) (hg : Gl X x := by rfl) (hdb : (x == ("__debug__" : Str)) = false := by decide)
    (he : starEach (a :: es) X.env = (false, eval a X.env) :: starEach es X.env := by rfl) (hpl : (backTo pos (starEach es X.env)).any (·.1) = false := by rfl) : DAn X F (.Call (.Name x p) (a :: es) [] pos) (wCallA wf wr) := by
  obtain ⟨f, fd, h1, h2, h3, h4⟩ := d
  refine dan_of (pe_callG h1 hgd (hr.mono hj) hg h2 h3 h4 tk ha.run hdb he hpl) (wCallA.mono mf ha.mono) fun σ H Q ⟨e, G, r0, q⟩ => ?_
  refine tA.mono ha.mono (fun vs H1 z => ?_) (tA.bind ha.mono r0 q)
  obtain ⟨e1, G1, ds, s1, r1, ra, z⟩ := z
  exact ⟨F.p, G1, ds, e1.k, r1.wd, ra, mf ds e1.k _ _ _ _ (fun an k' h G' H' st wd => h G' H' (s1.trans st.gg) (r1.step st wd)) (fun y k' h C G' H' st wd ec => h C G' H' (s1.trans st.gg) (r1.step st wd) ec) z⟩
/-- the first item of such a tuple -/
def wIdx0 (w : WAn) : WAn := fun e Q x => w e (fun an e1 => ∃ ds rest, an = .tup ds rest ∧ Q (.own ds) e1) x
theorem dan_idx0 {j : Nat} {p2 : Pos} (h : DAn X F a wa) (hs : PlainIx (.Constant (.int 0) j p2) := by intro _ _; rfl) : DAn X F (.Subscript a (.Constant (.int 0) j p2) pos) (wIdx0 wa) := by
  refine dan_of (pe_ix ix_tup h.run pe_int hs) (fun e Q Q' x x' h1 h2 q => h.mono e _ _ _ _ (fun an e1 ⟨ds, rest, i, z⟩ => ⟨ds, rest, i, h1 _ _ z⟩) h2 q) fun σ H Q ⟨e, G, r, q⟩ => ?_
  refine ⟨e, G, r, h.mono e _ _ _ _ (fun an e1 ⟨ds, rest, i, z⟩ G' H' s r' => ?_) (fun _ _ z => z) q⟩
  subst i
  intro a xs T vs ha ra hT ne rv
  exact ⟨T, .ref a :: vs, 0, .ref a, rfl, rfl, SqT.of (by rw [upd_ne ne.symm, upd_same]), by simp [atI, ixN], z G' _ s (r'.junk hT) a xs (by rw [upd_ne ne]; exact ha) ra⟩
/-- data is an answer, too -/
theorem dan_dat (h : DE X F a wd) : DAn X F a (fun e Q x => wd e (fun d e1 => Q (.dat d) e1) x) :=
  dan_of h.run (fun e Q Q' x x' h1 h2 q => h.mono e _ _ _ _ (fun d e1 z => h1 _ _ z) h2 q) fun σ H Q ⟨e, G, r, q⟩ => ⟨e, G, r, h.mono e _ _ _ _ (fun d e1 z v G' H' s r' rv => z G' H' s r' v rv) (fun _ _ z => z) q⟩
theorem dan_own (h : DF X F a wr) : DAn X F a (fun e Q x => wr e (fun ds e1 => Q (.own ds) e1) x) :=
  dan_of h.run (fun e Q Q' x x' h1 h2 q => h.mono e _ _ _ _ (fun d e1 z => h1 _ _ z) h2 q) fun σ H Q ⟨e, G, r, q⟩ => ⟨e, G, r, h.mono e _ _ _ _ (fun ds e1 z a xs G' H' s r' ha ra => z G' H' s r' a xs ha ra) (fun _ _ z => z) q⟩
/-- an answer that is a list of its own -/
def wAnF (w : WAn) : WAx := fun e Q x => w e (fun an e1 => ∃ ds, an = .own ds ∧ Q ds e1) x
theorem df_an (h : DAn X F a wa) : DF X F a (wAnF wa) :=
  df_of h.run (fun e Q Q' x x' h1 h2 q => h.mono e _ _ _ _ (fun an e1 ⟨ds, i, z⟩ => ⟨ds, i, h1 _ _ z⟩) h2 q) fun σ H Q ⟨e, G, r, q⟩ => ⟨e, G, r, h.mono e _ _ _ _ (fun an e1 ⟨ds, i, z⟩ G' H' s r' => by
    subst i
    exact fun a xs ha ra => z a xs G' H' s r' ha ra) (fun _ _ z => z) q⟩
/-! #### statements -/
/-- x = such an answer: data, or a list of its own -/
def wSetA (i : Nat) (w : WAn) : WSt := fun e D => w e (fun an e1 => match an with
  | .dat d => D.nx (put e1 i (.dat d))
  | .own ds => D.nx (put e1 i (.own ds))
  | .tup _ _ => False) D.ex
theorem ds_setA {i : Nat} {x : Str} {p2 : Pos} (h : DAn X F a wa) (hN : X.N.Nodup) (hi : X.N[i]? = some x := by rfl) (hx : Loc X.env.scope x := by first | exact Or.inl rfl | exact Or.inr rfl) (hs : swapsWith a (some (.Name x p2)) pos.line X.env = pure false := by rfl)
    (hf : X.fn x = true ∨ X.env.scope.names.lookup x = some .local := by first | exact Or.inl rfl | exact Or.inr rfl) : DS X F (.Assign [.Name x p2] a pos) (wSetA i wa) :=
  ds_of (ps_set hN hi hx h.run hs hf) (fun e A B l q => h.mono e _ _ _ _ (fun an e1 z => by
    cases an with
    | dat d => exact l.nx _ z
    | own ds => exact l.nx _ z
    | tup ds rest => exact z) l.ex q) fun D σ H ⟨e, G, r, q⟩ =>
    ⟨e, G, r, h.mono e _ _ _ _ (fun an e1 z G' H' s r' => by
      cases an with
      | dat d => exact fun v rv => z _ G' _ s (r'.put rv)
      | own ds => exact fun q xs hq ra => z _ G' _ s (r'.own hq ra)
      | tup ds rest => exact z.elim) (fun y e' z C G' H' s r' ec => z C σ G' H' s r' ec) q⟩
/-- x, y, .. = such a tuple -/
def wUnA (is : List Nat) (w : WAn) : WSt := fun e D => w e (fun an e1 => match an with
  | .dat d => ∃ ds, d = .tuple ds ∧ ds.length = is.length ∧ D.nx (puts e1 is ds)
  | .own _ => False
  | .tup ds rest => ∃ i js, is = i :: js ∧ rest.length = js.length ∧ D.nx (puts (put e1 i (.own ds)) js rest)) D.ex
theorem ds_unA {is : List Nat} {tgs : List Expr} {k : Nat} {p2 : Pos} (hc : X.calm = true) (h : DAn X F a wa) (hg : DGs X tgs is) (hn : (assignEach tgs X.env).length = is.length := by rfl) (hst : (assignEach tgs X.env).findIdx? (·.1) = none := by rfl)
    (hs : swapsWithSole [.Tuple tgs k p2] a pos.line X.env = pure false := by rfl) (hw : swappedStores [.Tuple tgs k p2] a X.env = pure none := by rfl) (h1 : (assignEach [.Tuple tgs k p2] X.env).map (·.2) = [assign (.Tuple tgs k p2) X.env] := by rfl) : DS X F (.Assign [.Tuple tgs k p2] a pos) (wUnA is wa) :=
  ds_of (ps_asg h.run (pg_tup hc hg.run hn hst) hs hw h1) (fun e A B l q => h.mono e _ _ _ _ (fun an e1 z => by
    cases an with
    | dat d => exact let ⟨ds, e, i, z⟩ := z; ⟨ds, e, i, l.nx _ z⟩
    | own ds => exact z
    | tup ds rest => exact let ⟨i, js, e, j, z⟩ := z; ⟨i, js, e, j, l.nx _ z⟩) l.ex q) fun D σ H ⟨e, G, r, q⟩ =>
    ⟨e, G, r, h.mono e _ _ _ _ (fun an e1 z G' H' s r' => by
      cases an with
      | dat d =>
        obtain ⟨ds, rfl, hl, z⟩ := z
        intro v rv
        obtain ⟨T, xs, rfl, h2, ra⟩ := rv.tup_inv
        exact ⟨T, xs, rfl, sameT r'.same h2, by rw [ra.length]; exact hl, by rw [ra.length]; exact hl, z _ G' _ s (r'.puts ra)⟩
      | own ds => exact z.elim
      | tup ds rest =>
        obtain ⟨i, js, rfl, hl, z⟩ := z
        intro b xs T vs ha ra hT ne rv
        exact ⟨T, .ref b :: vs, rfl, SqT.of (by rw [upd_ne ne.symm, upd_same]), by rw [List.length_cons, List.length_cons, rv.length, hl], by rw [List.length_cons, List.length_cons, rv.length, hl], z _ G' _ s (((r'.junk hT).own (by rw [upd_ne ne]; exact ha) ra).puts rv)⟩) (fun y e' z C G' H' s r' ec => z C σ G' H' s r' ec) q⟩
end
/-! #### blocks that end with the return of an answer -/
abbrev WOa := En → (Ans → En → Prop) → (D → En → Prop) → Prop
def RAn (K : PySem.W.Frag) (F : Fx) (G : Hp) (D : Ends) : Ans → En → Prop := fun an e' => ∀ σ' G' H', Same G G' → Rl K F.p F.G₀ F.H₀ G' H' σ' e' → PAns K F.p D.rt an G' H'
def tAw (K : PySem.W.Frag) (F : Fx) (w : WOa) : TS := fun D σ H => ∃ e G, Rl K F.p F.G₀ F.H₀ G H σ e ∧ w e (RAn K F G D) (endsOf K F G D).ex
structure DSA (X : Cx) (F : Fx) (st : List Stmt) (w : WOa) : Prop where
  run : PSs X st (tAw X.K F w)
  mono : ∀ e Q Q' x x', (∀ ds e, Q ds e → Q' ds e) → (∀ d e, x d e → x' d e) → w e Q x → w e Q' x'
theorem RAn.mono {K : PySem.W.Frag} {F : Fx} {G G' : Hp} {D : Ends} (s : Same G G') : ∀ an e, RAn K F G D an e → RAn K F G' D an e := fun an e h σ' G2 H' s2 => h σ' G2 H' (s.trans s2)
section
variable {X : Cx} {F : Fx} {pos : Pos} {a : Expr} {st : Stmt} {rest : List Stmt} {es : List Expr} {wr : WAx} {wa : WAn} {w1 : WSt} {w2 : WOa}
def wSeqA (w1 : WSt) (w2 : WOa) : WOa := fun e Q x => w1 e ⟨fun e' => w2 e' Q x, fun d e' => Q (.dat d) e', fun _ => False, fun _ => False, x⟩
theorem dsa_cons (h1 : DS X F st w1) (h2 : DSA X F rest w2) : DSA X F (st :: rest) (wSeqA w1 w2) := by
  refine ⟨⟨fun pins s σ H D I q => (pss_cons h1.run h2.run).run pins s σ H D I ?_⟩, fun e Q Q' x x' h3 h4 q => h1.mono e ⟨fun e' => w2 e' Q x, fun d e' => Q (.dat d) e', fun _ => False, fun _ => False, x⟩ ⟨fun e' => w2 e' Q' x', fun d e' => Q' (.dat d) e', fun _ => False, fun _ => False, x'⟩ ⟨fun e' z => h2.mono e' _ _ _ _ h3 h4 z, fun _ _ z => h3 _ _ z, fun _ z => z, fun _ z => z, h4⟩ q⟩
  obtain ⟨e, G, r, q⟩ := q
  refine ⟨e, G, r, h1.mono e ⟨fun e' => w2 e' (RAn X.K F G D) (endsOf X.K F G D).ex, fun d e' => RAn X.K F G D (.dat d) e', fun _ => False, fun _ => False, (endsOf X.K F G D).ex⟩ (endsOf X.K F G { D with nx := tAw X.K F w2 D }) ⟨fun e' z σ' G' H' s' r' => ⟨e', G', r', h2.mono e' _ _ _ _ (RAn.mono s') (fun y e2 z C σ2 G2 H2 s2 => z C σ2 G2 H2 (s'.trans s2)) z⟩, fun d e' z v σ' G' H' s' r' rv => z σ' G' H' s' r' v rv, fun _ z => z.elim, fun _ z => z.elim, fun _ _ z => z⟩ q⟩
/-- return of an expression that gives an answer -/
theorem dsa_ret (h : DAn X F a wa) : DSA X F [.Return (some a) pos] (fun e Q x => wa e Q x) := by
  refine ⟨⟨fun pins s σ H D I q => (pss_one (ps_ret h.run)).run pins s σ H D I ?_⟩, fun e Q Q' x x' h1 h2 q => h.mono e _ _ _ _ h1 h2 q⟩
  obtain ⟨e, G, r, q⟩ := q
  exact ⟨e, G, r, h.mono e _ _ _ _ (fun an e1 z G' H' s r' => z σ G' H' s r') (fun y e1 z C G' H' s r' ec => z C σ G' H' s r' ec) q⟩
/-- return of a name: data, or a list that it alone holds -/
theorem dsa_own {i : Nat} {x : Str} {p : Pos} (h : PE X (.Name x p) (tVar i)) : DSA X F [.Return (some (.Name x p)) pos] (fun e Q _ => ∃ ds, e.s[i]? = some (.own ds) ∧ Q (.own ds) (putUn e i)) := by
  refine ⟨⟨fun pins s σ H D I q => (pss_one (ps_ret h)).run pins s σ H D I ?_⟩, fun e Q Q' x x' h1 _ ⟨ds, h2, q⟩ => ⟨ds, h2, h1 _ _ q⟩⟩
  obtain ⟨e, G, r, ds, h2, q⟩ := q
  obtain ⟨a, xs, h3, h4, h5, r'⟩ := r.out h2
  have z := q σ G (lessA H a) (Same.refl G) r' a xs lessA_at h5
  rw [lessA_upd h4] at z
  exact ⟨.ref a, h3, z⟩
/-- return of a tuple, whose first item is a name that alone holds its list -/
theorem dsa_tup {i k : Nat} {x : Str} {p p2 : Pos} (h : PE X (.Name x p) (tVar i)) (hr : DA X F es wr) (hs : starEach (.Name x p :: es) X.env = (false, eval (.Name x p) X.env) :: starEach es X.env := by rfl) :
    DSA X F [.Return (some (.Tuple (.Name x p :: es) k p2)) pos] (fun e Q y => (∃ ds, e.s[i]? = some (.own ds)) ∧ wr e (fun rs e1 => ∃ ds, e1.s[i]? = some (.own ds) ∧ rs.length ≤ 999 ∧ Q (.tup ds rs) (putUn e1 i)) y) := by
  refine ⟨⟨fun pins s σ H D I q => (pss_one (ps_ret (pe_tup (pa_cons h hr.run hs)))).run pins s σ H D I ?_⟩, fun e Q Q' x x' h1 h2 ⟨h3, q⟩ => ⟨h3, hr.mono e _ _ _ _ (fun rs e1 ⟨ds, i, j, z⟩ => ⟨ds, i, j, h1 _ _ z⟩) h2 q⟩⟩
  obtain ⟨e, G, r, ⟨ds0, hi⟩, q⟩ := q
  obtain ⟨a, xs0, ha, _⟩ := r.out hi
  refine ⟨.ref a, ha, e, G, r, hr.mono e _ _ _ _ (fun rs e1 ⟨ds, i1, l, z⟩ vs G' H' s r' rv => ?_) (fun y e1 z C G' H' s r' ec => z C σ G' H' s r' ec) q⟩
  obtain ⟨b, xs, hb, h4, h5, r2⟩ := r'.out i1
  rw [ha] at hb
  cases hb
  refine ⟨by rw [List.length_cons, rv.length]; exact le_line (by omega), fun T hT => ?_⟩
  have ne : a ≠ T := fun z => by rw [z, hT] at h4; cases h4
  have hT' : lessA H' a T = none := by rw [lessA_ne ne.symm]; exact hT
  have z := z σ G' (lessA H' a) s r2 a xs T vs lessA_at h5 hT' ne rv
  rw [upd_flip ne.symm, lessA_upd h4] at z
  exact z
end
section
variable {P : Program} {w : World} {K :
      PySem.W.Frag} {mg : Str → Option Value} {base : Heap}
theorem fnA {x qual : Str} {st : Stmt} {f : Addr} {fd : FuncData} {N ps : List Str} {k : Nat} {wf : Wa} (F : Fun K x qual st f fd) (S : FnScope N ps (defScope st)) (len : ∀ ds k Q x, wf ds k Q x → ds.length = ps.length)
    (body : ∀ (cdv : Value) (A : Around) (outer : List Env) (s : Shared) (H : Hp) (E : XK) (p : Option Addr) (G : Hp), A.guards = some [] → Room k (A.deeper (envOfC qual (defScope st) s.heap.objs.size f cdv)) →
      ∃ ws, DSA (cxOf (L2.CX P w) P w K mg base N qual (defScope st) f cdv A outer s H E) ⟨p, G, H, fun cls d _ H' => E cls d H'⟩ (defBody st) ws ∧ ∀ ds n Q x, wf ds n Q x → ws (enOf N ds n) (fun es e => Q es e.k) (fun d e => x d e.k)) :
    FnG P w K mg base (k + 1) f fd ps (spA K wf) := by
  refine fnG_of F S (fun vs H Q E ⟨p, G, ds, n, _, ra, q⟩ => by rw [ra.length]; exact len ds n _ _ q) fun cdv A outer s H vs Q E hg hr ⟨p, G, ds, n, wd, ra, q⟩ => ?_
  obtain ⟨ws, h, hq⟩ := body cdv A outer s H E p G hg hr
  refine ⟨_, h.run, enOf N ds n, G, Rl.start wd ra, h.mono _ _ _ _ _ (fun an e' z σ' G' H' _ r => ?_) (fun y e' z C σ' G' H' _ r ec => ?_) (hq ds n _ _ q)⟩
  · obtain ⟨α, r'⟩ := id r
    exact z G' H' r'.st r'.w
  · obtain ⟨α, r'⟩ := id r
    exact z C G' H' r'.st r'.w ec
theorem defA {x : Str} {st : Stmt} {N ps : List Str} {k : Nat} {wf : Wa} (F : FunAt K mg x st ps) (S : FnScope N ps (defScope st)) (len : ∀ ds k Q x, wf ds k Q x → ds.length = ps.length)
    (body : ∀ (f : Addr) (cdv : Value) (A : Around) (outer : List Env) (s : Shared) (H : Hp) (E : XK) (p : Option Addr) (G : Hp), A.guards = some [] → Room k (A.deeper (envOfC x (defScope st) s.heap.objs.size f cdv)) →
      ∃ ws, DSA (cxOf (L2.CX P w) P w K mg base N x (defScope st) f cdv A outer s H E) ⟨p, G, H, fun cls d _ H' => E cls d H'⟩ (defBody st) ws ∧ ∀ ds n Q x, wf ds n Q x → ws (enOf N ds n) (fun es e => Q es e.k) (fun d e => x d e.k)) : DefA P w K mg base x (k + 1) ps wf := by
  obtain ⟨f, fd, h1, h2, h3⟩ := F
  exact ⟨f, fd, fnA h1 S len (body f), h2, h1.kp, h3⟩
end
end L2.DL


set_option
      maxHeartbeats 1000000
namespace L2.DL
open PySem PySem.Spec
      PyProof.Rows
/-! ### what repr gives is data, too -/
def okS (x : Str) : Prop := PyData.strOk x = true
theorem okS.app {a b : Str} (ha : okS a) (hb : okS b) : okS (a ++ b) := by
  unfold okS PyData.strOk at *
  show (a.cps ++ b.cps).all _ = true
  rw [Array.all_append, ha, hb]
  rfl
theorem chr_lt (d : Char) : d.toNat < 0x110000 := by
  have := d.valid
  rcases this with h | h
  · have : d.toNat < 0xd800 := h
    omega
  · exact h.2
theorem okS.mk {l : List Nat} (h : ∀ c ∈ l, c < 0x110000) : okS ⟨l.toArray⟩ := by
  unfold okS PyData.strOk
  rw [Array.all_eq_true_iff_forall_mem]
  intro c hc
  exact decide_eq_true (h c (by simpa using hc))
theorem okS.of (s : String) : okS (s : Str) := by
  show okS (PySem.Str.ofString s)
  rewrite [PySem.Str.ofString_eq_toList s]
  exact .mk fun c hc => by
    obtain ⟨d, _, rfl⟩ := List.mem_map.mp hc
    exact chr_lt d
theorem okS.inv {x : Str} (h : okS x) : ∀ c ∈ x.cps.toList, c < 0x110000 := fun c hc => by
  unfold okS PyData.strOk at h
  rw [Array.all_eq_true_iff_forall_mem] at h
  exact of_decide_eq_true (h c (by simpa using hc))
theorem reprChar_lt {q c : Nat} (hc : c < 0x110000) : ∀ d ∈ PySem.Builtin.Str.reprChar q c, d < 0x110000 := fun d hd => by
  have hx : ∀ w : Nat, ∀ d ∈ List.replicate (w - ((Nat.toDigits 16 c).map Char.toNat).length) 48 ++ (Nat.toDigits 16 c).map Char.toNat, d < 0x110000 := fun w d hd => by
    rcases List.mem_append.mp hd with h | h
    · rw [(List.mem_replicate.mp h).2]
      decide
    · obtain ⟨e, _, rfl⟩ := List.mem_map.mp h
      exact chr_lt e
  have two : ∀ {a b d : Nat}, d ∈ [a, b] → a < 0x110000 → b < 0x110000 → d < 0x110000 := fun h ha hb => by
    rcases List.mem_cons.mp
          h with rfl | h
    · exact ha
    · rw [List.mem_singleton.mp h]; exact hb
  unfold PySem.Builtin.Str.reprChar at hd
  dsimp only at hd
  split at hd
  · exact two hd (by decide) hc
  split at hd
  · exact two hd (by decide) (by decide)
  split at hd
  · exact two hd (by decide) (by decide)
  split at hd
  · exact two hd (by decide) (by decide)
  split at hd
  · rw [List.mem_singleton.mp hd]; exact hc
  split at hd
  · rcases List.mem_append.mp hd with h | h
    · exact two h (by decide) (by decide)
    · exact hx _ _ h
  split at hd
  · rcases List.mem_append.mp hd with h | h
    · exact two h (by decide) (by decide)
    · exact hx _ _ h
  · rcases List.mem_append.mp hd with h | h
    · exact two h (by decide) (by decide)
    · exact hx _ _ h
theorem okS.repr {x : Str} (h : okS x) : okS (reprText x) := by
  have hq : reprQuote x < 0x110000 := by
    unfold reprQuote
    split <;> decide
  have hf : ∀ (l : List Nat) (o : Array Nat), (∀ c ∈ l, c < 0x110000) → (∀ c ∈ o.toList, c < 0x110000) → ∀ c ∈ (l.foldl (fun out c => out ++ (PySem.Builtin.Str.reprChar (reprQuote x) c).toArray) o).toList, c < 0x110000 := by
    intro l
    induction l with
    | nil => exact fun o _ ho => ho
    | cons a l ih =>
      intro o hl ho
      refine ih _ (fun c hc => hl c (List.mem_cons_of_mem _ hc)) fun c hc => ?_
      rw [Array.toList_append] at hc
      rcases List.mem_append.mp
            hc with h | h
      · exact ho c h
      · exact reprChar_lt (hl a List.mem_cons_self) c (by simpa using h)
  unfold okS PyData.strOk reprText
  rw [Array.all_eq_true_iff_forall_mem]
  intro c hc
  refine decide_eq_true ?_
  rcases Array.mem_push.mp hc with h1 | h1
  · refine hf x.cps.toList #[reprQuote x] h.inv (fun c hc => ?_) c ?_
    · simp at hc
      rw [hc]
      exact hq
    · rw [Array.foldl_toList]
      exact Array.mem_toList_iff.mpr h1
  · rw [h1]
    exact hq
theorem okS.join : ∀ {ts : List Str}, (∀ t ∈ ts, okS t) → okS (PySem.Str.join ", " ts)
  | [], _ => by
    show okS PySem.Str.empty
    unfold okS
    decide +kernel
  | [x], h => h x List.mem_cons_self
  | x :: y :: r, h => ((h x List.mem_cons_self).app (.of ", ")).app (okS.join fun t ht => h t (List.mem_cons_of_mem _ ht))
theorem okS.textFrom : ∀ (ts : List Str) (k : Nat) (acc : Str), okS acc → (∀ t ∈ ts, okS t) → okS (PySem.textFrom k acc ts)
  | [], _, _, ha, _ => ha
  | t :: ts, k, acc, ha, h => by
    show okS (PySem.textFrom (k + 1) (acc ++ ((if k > 0 then ", " else "" : String) : Str) ++ t) ts)
    exact okS.textFrom ts (k + 1) _ ((ha.app (.of _)).app (h t List.mem_cons_self)) fun u hu => h u (List.mem_cons_of_mem _ hu)
mutual
theorem fine.okS : ∀ d : D, fine d = true → okS d.shown
  | .none, _ => by simp only [PyData.shown]; exact .of _
  | .bool b, _ => by simp only [PyData.shown]; split <;> exact .of _
  | .int i, _ => by simp only [PyData.shown]; exact .of _
  | .str x, h => by
    simp only [PyData.shown]
    exact okS.repr (by unfold fine at h; exact h)
  | .list xs, h => by
    simp only [PyData.shown]
    unfold listText
    exact (okS.textFrom _ 0 _ (.of _) (fineAll.okS xs (by simpa only [fine] using h))).app (.of _)
  | .tuple xs, h => by
    simp only [PyData.shown]
    unfold tupleText
    exact ((okS.of _).app (okS.join (fineAll.okS xs (by simpa only [fine] using h)))).app (by split <;> exact .of _)
  | .dict _, h => by simp [fine] at h
theorem fineAll.okS : ∀ ds : List D, fineAll ds = true → ∀ t ∈ PyData.shownAll ds, okS t
  | [], _, t, ht => by simp only [PyData.shownAll] at ht; cases ht
  | d :: ds, h, t, ht => by
    unfold fineAll at h
    rw [Bool.and_eq_true] at h
    simp only [PyData.shownAll] at ht
    rcases List.mem_cons.mp ht with rfl | ht
    · exact fine.okS d h.1
    · exact fineAll.okS ds h.2 t ht
end
/-- the text that repr gives is data -/
theorem Ok.shown {n m : Nat} {d : D} (h : Ok n m d) : Ok (20 * n + 1) 0 (.str d.shown) := by
  refine ⟨?_, ?_, by simp [PyData.depth]⟩
  · unfold fine
    exact fine.okS d h.f
  · have a := fine.len d h.f
    have b := h.w
    simp only [wt]
    omega
end L2.DL


set_option
      maxHeartbeats 1000000
namespace L2.DL
open PySem PySem.Spec
      PyProof.Rows
/-! ### the law's body behind its pen -/
/-- what the law's body must come to: it returns True -/
abbrev lawE : DEnds := ⟨fun _ => False, fun d _ => d = .bool true, fun _ => False, fun _ => False, fun _ _ => False⟩
theorem pss_law {X : Cx} {W : WX} {sts : List Stmt} {ws : WSt} (h : ∀ q G H, DSs X ⟨some q, G, H, W⟩ sts ws) :
    PSs X sts (fun D σ H => ∃ q G' H' e, Rl X.K (some q) G' H' G' H σ e ∧ (∀ H1, D.rt (.bl true) H1) ∧ ws e lawE) :=
  ⟨fun pins s σ H D I ⟨q, G', H', e, r, hq, z⟩ => (h q G' H').run.run pins s σ H D I ⟨e, G', r, (h q G' H').mono e lawE _ ⟨fun _ z => z.elim, fun d e1 z v σ' G2 H2 _ _ rv => by
    subst z
    cases rv.bl_inv
    exact hq _, fun _ z => z.elim, fun _ z => z.elim, fun _ _ z => z.elim⟩ z⟩⟩
theorem rl_pen {K : PySem.W.Frag} {q : Addr} {k n : Nat} {G H : Hp} {σ : L2.St} (wd : Wd K (some q) k G H) (hl : σ.length = n + 2) (hs : σ[1]? = some (some (.ref q))) : Rl K (some q) G H G H σ ⟨.un :: .dat penD :: List.replicate n .un, k⟩ := by
  have no : ∀ (i : Nat) (z : Slot), (Slot.un :: .dat penD :: List.replicate n .un)[i]? = some z → z ≠ .un → i = 1 ∧ z = .dat penD := fun i z h hz => by
    match i, h with
    | 0, h => cases h; exact absurd rfl hz
    | 1, h => cases h; exact ⟨rfl, rfl⟩
    | i + 2, h =>
      have m := List.mem_of_getElem? (show (List.replicate n Slot.un)[i]? = some z from h)
      rw [List.mem_replicate] at m
      exact absurd m.2 hz
  refine ⟨fun _ => 0, wd, Stp.refl, by simp [hl], fun i d h => ?_, fun i ds h => ?_, fun i j ds es h => ?_⟩
  · obtain ⟨rfl, e⟩ := no i _ h (fun z => nomatch z)
    cases e
    exact ⟨_, hs, .pen rfl rfl⟩
  · obtain ⟨_, e⟩ := no i _ h (fun z => nomatch z)
    cases e
  · obtain ⟨_, e⟩ := no i _ h (fun z => nomatch z)
    cases e
end L2.DL


set_option
      maxHeartbeats 2000000
namespace L2.DL
open PySem PySem.Spec
      PyProof.Rows
/-! ### objects that do not change once they are made, as data -/
theorem flds_inj : ∀ {fs gs : List (Str × D)}, (fs.map fun f => (PyData.str f.1, f.2)) = (gs.map fun f => (PyData.str f.1, f.2)) → fs = gs
  | [], [], _ => rfl
  | [], _ :: _, h => by cases h
  | _ :: _, [], h => by cases h
  | (n, d) :: fs, (m, e) :: gs, h => by
    injection h with h1 h2
    injection h1 with h1 h3
    injection h1 with h1
    subst h1
    subst h3
    rw [flds_inj h2]
theorem objD_inj {C C' : Addr} {fs gs : List (Str × D)} (h : objD C fs = objD C' gs) : C = C' ∧ fs = gs := by
  injection h with e
  injection e with e1 e2
  injection e1 with _ e1
  injection e1 with e1
  exact ⟨Int.ofNat.inj e1, flds_inj e2⟩
section
variable {K : PySem.W.Frag} {p : Option Addr} {G : Hp}
theorem R.obj_inv {v : V} {C : Addr} {fs : List (Str × D)} (h : R K p G v (objD C fs)) : ∃ a dx fvs, v = .ref a ∧ G a = some (.ins C dx fvs) ∧ RF K p G fvs fs := by
  cases h with
  | pen h1 h2 => cases h2
  | exc h1 h2 =>
    injection h2 with e
    injection e with e _
    injection e with e _
    cases e
  | obj h1 h2 h3 =>
    obtain ⟨rfl, rfl⟩ := objD_inj h3
    exact ⟨_, _, _, rfl, h1, h2⟩
  | scr h1 h2 =>
    injection h2 with e
    injection e with e _
    injection e with e _
    cases e
theorem RF.look {n : Str} {d : D} : ∀ {fvs : List (Str × V)} {fs : List (Str × D)}, RF K p G fvs fs → fs.lookup n = some d → ∃ v, fvs.lookup n = some v ∧ R K p G v d
  | _, _, .nil, h => by cases h
  | _, _, .cons (n := m) r t, h => by
    rw [List.lookup_cons] at h ⊢
    cases e : n == m with
    | true =>
      rw [e] at h
      cases h
      exact ⟨_, rfl, r⟩
    | false =>
      rw [e] at h
      exact RF.look t h
theorem RF.zip : ∀ {ns : List Str} {vs : List V} {ds : List D}, RA K p G vs ds → RF K p G (ns.zip vs) (ns.zip ds)
  | [], _, _, _ => .nil
  | _ :: _, _, _, .nil => .nil
  | n :: ns, _, _, .cons r t => .cons r (RF.zip t)
end
/-- what of the text a class must have whose objects are data: its fields, its __init__ -/
structure ObjC (K : PySem.W.Frag) (C : Addr) (ns : List Str) : Prop where
  cl : L2.Cls K C
  no : ∀ n ∈ ns, NoAttr K C n
/-! #### reading a field -/
def wFld (K : PySem.W.Frag) (f : Str) (w : WEx) : WEx := fun e Q x => w e (fun d e1 => ∃ C fs v, d = objD C fs ∧ L2.Cls K C ∧ NoAttr K C f ∧ fs.lookup f = some v ∧ Q v e1) x
section
variable {X : Cx} {F : Fx} {pos : Pos} {a : Expr} {es : List Expr} {wa : WEx} {wr : WAx}
theorem de_fld {f : Str} (h : DE X F a wa) (hb : attributeBase a f X.env (eval a X.env) = eval a X.env := by rfl) : DE X F (.Attribute a f pos) (wFld X.K f wa) :=
  de_of (pe_fld h.run hb) (fun e Q Q' x x' h1 h2 q => h.mono e _ _ _ _ (fun d e1 ⟨C, fs, v, i1, i2, i3, i4, z⟩ => ⟨C, fs, v, i1, i2, i3, i4, h1 _ _ z⟩) h2 q) fun σ H Q ⟨e, G, r, q⟩ =>
    ⟨e, G, r, h.mono e _ _ _ _ (fun d e1 ⟨C, fs, v, i1, i2, i3, i4, z⟩ u G' H' s r' rv => by
      subst i1
      obtain ⟨b, dx, fvs, rfl, hb, rf⟩ := rv.obj_inv
      obtain ⟨y, hy, ry⟩ := rf.look i4
      exact ⟨b, C, dx, fvs, y, rfl, r'.same _ _ hb, i2, i3, hy, z y G' H' s r' ry⟩) (fun _ _ z => z) q⟩
def wFldO (C : Addr) (f : Str) (w : WEx) : WEx := fun e Q x => w e (fun d e1 => ∃ fs v, d = objD C fs ∧ fs.lookup f = some v ∧ Q v e1) x
theorem de_fldO {C : Addr} {ns : List Str} {f : Str} (hO : ObjC X.K C ns) (hf : f ∈ ns) (h : DE X F a wa) (hb : attributeBase a f X.env (eval a X.env) = eval a X.env := by rfl) : DE X F (.Attribute a f pos) (wFldO C f wa) :=
  de_of (de_fld h hb).run (fun e Q Q' x x' h1 h2 q => h.mono e _ _ _ _ (fun d e1 ⟨fs, v, i1, i4, z⟩ => ⟨fs, v, i1, i4, h1 _ _ z⟩) h2 q) fun σ H Q ⟨e, G, r, q⟩ =>
    ⟨e, G, r, h.mono e _ _ _ _ (fun d e1 ⟨fs, v, i1, i4, z⟩ => ⟨C, fs, v, i1, hO.cl, hO.no _ hf, i4, z⟩) (fun _ _ z => z) q⟩
/-! #### making an object -/
/-- __init__ stores its arguments under their names -/
def spInit (C : Addr) (ns : List Str) : Sp := fun vs H Q _ => ∃ p dx ws, vs = .ref p :: ws ∧ H p = some (.ins C dx []) ∧ ws.length = ns.length ∧ ∀ H', H' p = some (.ins C dx (ns.zip ws)) → (∀ b, b ≠ p → H' b = H b) → Q .non H'
def wMake (C : Addr) (ns : List Str) (w : WAx) : WEx := fun e Q x => w e (fun ds e1 => ds.length = ns.length ∧ Q (objD C (ns.zip ds)) e1) x
theorem de_make {C f : Addr} {fd : FuncData} {ns ps : List Str} {k j : Nat} {x : Str} {p1 : Pos} (M : Mk X.K C f) (I : FnOk X.prog X.w X.K X.mg X.base CX0 k f fd ps (spInit C ns)) (hr : Room j X.A) (hm : X.mg x = some (.ref C)) (hb : Binds X.K fd ps [])
    (ha : DA X F (a :: es) wr) (hj : k + 1 ≤ j := by decide) (hg : Gl X x := by rfl) (hdb : (x == ("__debug__" : Str)) = false := by decide) (he : starEach (a :: es) X.env = (false, eval a X.env) :: starEach es X.env := by rfl) (hpl : (backTo pos (starEach es X.env)).any (·.1) = false := by rfl) :
    DE X F (.Call (.Name x p1) (a :: es) [] pos) (wMake C ns wr) :=
  de_of (pe_make (E := fun _ _ _ => False) M I (hr.mono hj) hg hm hb .nil pass0 ha.run hdb he hpl) (fun e Q Q' x x' h1 h2 q => ha.mono e _ _ _ _ (fun ds e1 z => ⟨z.1, h1 _ _ z.2⟩) h2 q) fun σ H Q ⟨e, G, r, q⟩ =>
    ⟨e, G, r, ha.mono e _ _ _ _ (fun ds e1 z vs G' H' s r' rv => by
      intro y dx hy hdx ne
      refine ⟨y, dx, vs, by rw [List.append_nil], upd_same, by rw [rv.length]; exact z.1, fun H2 h1 h2 => ⟨rfl, ?_⟩⟩
      have r1 := r'.junk (o := .own y) hdx
      have hy1 : L2.upd H' dx (.own y) y = none := by rw [upd_ne ne.symm]; exact hy
      have r2 := r1.new (o := .ins C dx (ns.zip vs)) hy1
      have s2 := sameNew (o := .ins C dx (ns.zip vs)) r1.same hy1
      have eH : H2 = L2.upd (L2.upd H' dx (.own y)) y (.ins C dx (ns.zip vs)) := by
        funext b
        by_cases e : b = y
        · subst e
          rw [h1, upd_same]
        · rw [h2 b e, upd_ne e, upd_ne e]
      rw [eH]
      exact z.2 _ _ _ (s.trans s2) r2 (.obj upd_same (RF.zip (rv.mono s2)) rfl)) (fun _ _ z => z) q⟩
end
/-- a field is stored for the first time -/
theorem putF_new {n : Str} {v : V} : ∀ {fs : List (Str × V)}, (∀ f ∈ fs, f.1 ≠ n) → putF n v fs = fs ++ [(n, v)]
  | [], _ => rfl
  | (m, u) :: fs, h => by
    have h1 : m ≠ n := h (m, u) List.mem_cons_self
    show (if m = n then _ else _) = _
    rw [if_neg h1, putF_new fun f hf => h f (List.mem_cons_of_mem _ hf)]
    rfl
end L2.DL


set_option
      maxHeartbeats 2000000
namespace L2.DL
open PySem PySem.Spec
      PyProof.Rows
/-! ### list(range(n)) -/
def wLRg (w : WEx) : WEx := fun e Q x => w e (fun d e1 => ∃ j : Nat, d = .int j ∧ j ≤ 1000 ∧ Q (.list (rngD 0 j)) e1) x
section
variable {X : Cx} {F : Fx} {pos : Pos} {a : Expr} {wa : WEx}
theorem ra_rng {K : PySem.W.Frag} {p : Option Addr} {G : Hp} (b : Int) : ∀ n : Nat, RA K p G ((List.range n).map fun i => V.int (b + (i : Nat))) (rngD b n) := fun n => by
  unfold rngD
  have h : ∀ l : List Nat, RA K p G (l.map fun i => V.int (b + (i : Nat))) (l.map fun i => PyData.int (b + (i : Nat))) := fun l => by
    induction l with
    | nil => exact .nil
    | cons x l ih => exact .cons (.int _) ih
  exact h _
theorem de_lrg {p1 p2 pc : Pos} (h : DE X F a wa) (hc : X.calm = true) (hm : X.mg "list" = none) (hm2 : X.mg "range" = none) (hg : Gl X "list" := by rfl) (hg2 : Gl X "range" := by rfl) (na : starEach [a] X.env = (false, eval a X.env) :: starEach [] X.env := by rfl)
    (nb : starEach [.Call (.Name "range" p2) [a] [] pc] X.env = (false, eval (.Call (.Name "range" p2) [a] [] pc) X.env) :: starEach [] X.env := by rfl) : DE X F (.Call (.Name "list" p1) [.Call (.Name "range" p2) [a] [] pc] [] pos) (wLRg wa) :=
  de_of (pe_listRg hc hg hm (prg_1 hg2 hm2 h.run na) nb) (fun e Q Q' x x' h1 h2 q => h.mono e _ _ _ _ (fun d e1 ⟨j, i1, i2, z⟩ => ⟨j, i1, i2, h1 _ _ z⟩) h2 q) fun σ H Q ⟨e, G, r, q⟩ =>
    ⟨e, G, r, h.mono e _ _ _ _ (fun d e1 ⟨j, i1, i2, z⟩ u G' H' s r' rv => by
      subst i1
      cases rv.int_inv
      refine ⟨j, rfl, .of_le (by decide) (by omega) (by decide) (by omega), fun q hq => ?_⟩
      have e0 : rgV 0 (j : Int) = (List.range j).map fun i => V.int (0 + (i : Nat)) := by
        unfold rgV
        rw [Int.sub_zero, Int.toNat_natCast]
      rw [e0]
      exact z _ (L2.upd G' q (.lst _)) _ (s.trans (sameNew r'.same hq)) (r'.new hq) (.lst upd_same (ra_rng 0 j))) (fun _ _ z => z) q⟩
end
/-! ### loops by the number of the turn -/
theorem wLoop.idx {g : WG} {wb : WSt} {B : DEnds} (xs : List D) (I : Nat → En → Prop) (hs : ∀ j d e, xs[j]? = some d → I j e → (∀ e', I (j + 1) e' → wLoop g wb B (xs.drop (j + 1)) e') →
    g d e fun e1 => wb e1 { B with nx := fun e2 => wLoop g wb B (xs.drop (j + 1)) e2, ct := fun e2 => wLoop g wb B (xs.drop (j + 1)) e2, bk := B.nx }) (hn : ∀ e, I xs.length e → B.nx e) {e : En} (h0 : I 0 e) : wLoop g wb B xs e := by
  have all : ∀ k j e, j + k = xs.length → I j e → wLoop g wb B (xs.drop j) e := by
    intro k
    induction k with
    | zero =>
      intro j e hj hi
      rw [List.drop_of_length_le (by omega)]
      have : j = xs.length := by omega
      subst this
      exact hn e hi
    | succ k ih =>
      intro j e hj hi
      have lt : j < xs.length := by omega
      rw [List.drop_eq_getElem_cons lt]
      exact hs j _ e (List.getElem?_eq_getElem lt) hi fun e' hi' => ih (j + 1) e' (by omega) hi'
  have z := all xs.length 0 e (by omega) h0
  rw [List.drop_zero] at z
  exact z
theorem wLoop.rng {g : WG} {wb : WSt} {B : DEnds} (m : Nat) (I : Nat → En → Prop) (hs : ∀ j e, j < m → I j e → ∀ N : En → Prop, (∀ e', I (j + 1) e' → N e') → g (.int (j : Int)) e fun e1 => wb e1 { B with nx := N, ct := N, bk := B.nx }) (hn : ∀ e, I m e → B.nx e) {e : En} (h0 : I 0 e) : wLoop g wb B (rngD 0 m) e := by
  refine wLoop.idx (rngD 0 m) I (fun j d e hd hi nx => ?_) (fun e hi => hn e (by rw [rngD_length] at hi; exact hi)) h0
  obtain ⟨lt, rfl⟩ := rngD_at hd
  rw [Int.zero_add]
  exact hs j e lt hi _ nx
/-- a walk over items: what is to come stays hidden -/
theorem wLoop.its {g : WG} {wb : WSt} {B : DEnds} (xs : List D) (I : Nat → En → Prop) (hs : ∀ j d e, xs[j]? = some d → I j e → ∀ N : En → Prop, (∀ e', I (j + 1) e' → N e') → g d e fun e1 => wb e1 { B with nx := N, ct := N, bk := B.nx }) (hn : ∀ e, I xs.length e → B.nx e) {e : En} (h0 : I 0 e) : wLoop g wb B xs e :=
  wLoop.idx xs I (fun j d e hd hi nx => hs j d e hd hi _ nx) hn h0
/-- a walk that ends with False at the first item that f refuses -/
theorem wLoop.allM {α : Type} {g : WG} {wb : WSt} {B : DEnds} (h : α → D) (f : α → Bool) (R : Bool → Prop) (C : En → Prop) (hn : R true → ∀ e, C e → B.nx e) : ∀ (xs : List α) {e : En},
    (∀ a ∈ xs, ∀ e, C e → ∀ N : En → Prop, (f a = true → ∀ e', C e' → N e') → (f a = false → R false) → g (h a) e fun e1 => wb e1 { B with nx := N, ct := N, bk := B.nx }) → C e → R (xs.all f) → wLoop g wb B (xs.map h) e
  | [], e, _, c, q => hn q e c
  | a :: xs, e, hs, c, q => by
    rw [List.all_cons] at q
    refine hs a List.mem_cons_self e c _ (fun hf e' c' => wLoop.allM h f R C hn xs (fun b hb => hs b (List.mem_cons_of_mem _ hb)) c' ?_) fun hf => ?_
    · rw [hf] at q; exact q
    · rw [hf] at q; exact q
end L2.DL


set_option
      maxHeartbeats 2000000
namespace L2.DL
open PySem PySem.Spec
      PyProof.Rows
/-! ### several things one after another, each is data or a list of ours; several targets -/
inductive Itm where
  | d (x : PyData)
  | o (ds : List PyData)
/-- the lists of ours float: nothing speaks of them but what follows -/
def Fl (K : PySem.W.Frag) (p : Option Addr) (G₀ G H : Hp) (σ : L2.St) (e : En) : Hp → List Itm → List V → Prop
  | H₀, [], [] => Rl K p G₀ H₀ G H σ e
  | H₀, .d x :: is, v :: vs => R K p G v x ∧ Fl K p G₀ G H σ e H₀ is vs
  | H₀, .o ds :: is, v :: vs => ∃ q xs, v = .ref q ∧ H₀ q = none ∧ G₀ q = none ∧ p ≠ some q ∧ RA K p G xs ds ∧ Fl K p G₀ G H σ e (L2.upd H₀ q (.lst xs)) is vs
  | _, _, _ => False
def putsI : En → List Nat → List Itm → En
  | e, i :: is, .d x :: ds => putsI (put e i (.dat x)) is ds
  | e, i :: is, .o x :: ds => putsI (put e i (.own x)) is ds
  | e, _, _ => e
section
variable {K : PySem.W.Frag} {p : Option Addr} {G₀ H₀ G H : Hp} {σ : L2.St} {e : En}
theorem Rl.hide {q : Addr} {xs : List V} (r : Rl K p G₀ H₀ G H σ e) (hq : H q = none) : Rl K p G₀ (L2.upd H₀ q (.lst xs)) G (L2.upd H q (.lst xs)) σ e := by
  obtain ⟨α, r⟩ := r
  have np : p ≠ some q := fun ep => by
    obtain ⟨_, c, xs, i, t, h2, _⟩ := r.w.pen q ep
    rw [hq] at h2; cases h2
  have gq : G q = none := r.w.same.free hq
  refine ⟨α, ⟨fun b u z => ?_, fun a ea => ?_⟩, ⟨r.st.gg, fun b u z n => ?_, fun b u z n => ?_, fun a c ea h => ?_⟩, r.len, r.dat, fun j es h => ?_, r.sep⟩
  · rw [upd_ne (ne_of_none z gq)]; exact r.w.same _ _ z
  · obtain ⟨h1, c, xs, i, t, h2, h3⟩ := r.w.pen a ea
    exact ⟨h1, c, xs, i, t, by rw [upd_ne (ne_of_none h2 hq)]; exact h2, h3⟩
  · by_cases hb : b = q
    · subst hb
      rw [upd_same] at z ⊢
      exact z
    · rw [upd_ne hb] at z ⊢
      exact r.st.hh b u z n
  · by_cases hb : b = q
    · subst hb; exact gq
    · rw [upd_ne hb] at z
      exact r.st.nn b u z n
  · obtain ⟨i, t, z⟩ := h
    have hb : a ≠ q := fun ez => np (ea.trans (congrArg some ez))
    rw [upd_ne hb] at z
    obtain ⟨i', t', z'⟩ := r.st.pc a c ea ⟨i, t, z⟩
    exact ⟨i', t', by rw [upd_ne hb]; exact z'⟩
  · obtain ⟨ys, q1, q2, q3, q4, q5, q6⟩ := r.own j es h
    have nq : α j ≠ q := ne_of_none q2 hq
    exact ⟨ys, q1, by rw [upd_ne nq]; exact q2, q3, by rw [upd_ne nq]; exact q4, q5, q6⟩
/-- a floating list is given to a slot -/
theorem Rl.catch {i : Nat} {q : Addr} {xs : List V} {ds : List PyData} (r : Rl K p G₀ (L2.upd H₀ q (.lst xs)) G H σ e) (h0 : H₀ q = none) (g0 : G₀ q = none) (np : p ≠ some q) (ra : RA K p G xs ds) : Rl K p G₀ H₀ G H (σ.set i (some (.ref q))) (DL.put e i (.own ds)) := by
  obtain ⟨α, r⟩ := r
  have hq : H q = some (.lst xs) := r.st.hh q _ upd_same np
  have gq : G q = none := r.st.nn q _ upd_same g0
  have an : ∀ (j : Nat) es, e.s[j]? = some (.own es) → α j ≠ q := fun j es h => by
    obtain ⟨ys, q1, q2, q3, q4, q5, q6⟩ := r.own j es h
    intro ez
    rw [ez, upd_same] at q4
    cases q4
  have up : ∀ {b : Addr} {o : HO}, H₀ b = some o → L2.upd H₀ q (.lst xs) b = some o := fun {b o} z => by
    rw [upd_ne (ne_of_none z h0)]; exact z
  refine ⟨fun j => if j = i then q else α j, r.w, ⟨r.st.gg, fun b u z n => r.st.hh b u (up z) n, fun b u z n => r.st.nn b u (up z) n, fun a c ea h => ?_⟩, by simpa [DL.put] using r.len, fun j d h => ?_, fun j es h => ?_, fun j k es fs h1 h2 hjk => ?_⟩
  · obtain ⟨i, t, z⟩ := h
    exact r.st.pc a c ea ⟨i, t, up z⟩
  · obtain ⟨hj, h'⟩ := own_dat h
    rw [List.getElem?_set_ne (Ne.symm hj)]
    exact r.dat j d h'
  · rcases own_ne h with ⟨rfl, hl, rfl⟩ | ⟨hj, h'⟩
    · simp only [if_true]
      exact ⟨xs, List.getElem?_set_self (by rw [r.len]; exact hl), hq, gq, h0, np, ra⟩
    · obtain ⟨ys, q1, q2, q3, q4, q5, q6⟩ := r.own j es h'
      simp only [if_neg hj]
      exact ⟨ys, by rw [List.getElem?_set_ne (Ne.symm hj)]; exact q1, q2, q3, by rw [upd_ne (an j es h')] at q4; exact q4, q5, q6⟩
  · rcases own_ne h1 with ⟨rfl, _, rfl⟩ | ⟨hj, h1'⟩
    · rcases own_ne h2 with ⟨rfl, _, rfl⟩ | ⟨hk, h2'⟩
      · exact absurd rfl hjk
      · simp only [if_true, if_neg hk]
        exact Ne.symm (an k fs h2')
    · rcases own_ne h2 with ⟨rfl, _, rfl⟩ | ⟨hk, h2'⟩
      · simp only [if_true, if_neg hj]
        exact an j es h1'
      · simp only [if_neg hj, if_neg hk]
        exact r.sep j k es fs h1' h2' hjk
theorem Fl.putD {i : Nat} {v : V} {x : PyData} (rv : R K p G v x) : ∀ {its : List Itm} {vs : List V} {H₀ : Hp}, Fl K p G₀ G H σ e H₀ its vs → Fl K p G₀ G H (σ.set i (some v)) (DL.put e i (.dat x)) H₀ its vs
  | [], [], _, h => Rl.put h rv
  | .d y :: is, w :: vs, _, h => ⟨h.1, Fl.putD rv h.2⟩
  | .o ds :: is, w :: vs, _, ⟨q, xs, h1, h2, h3, h4, h5, h6⟩ => ⟨q, xs, h1, h2, h3, h4, h5, Fl.putD rv h6⟩
  | [], _ :: _, _, h => h.elim
  | .d _ :: _, [], _, h => h.elim
  | .o _ :: _, [], _, h => h.elim
theorem Fl.putO {i : Nat} {q : Addr} {xs : List V} {ds : List PyData} (g0 : G₀ q = none) (np : p ≠ some q) (ra : RA K p G xs ds) : ∀ {its : List Itm} {vs : List V} {H₀ : Hp}, H₀ q = none → Fl K p G₀ G H σ e (L2.upd H₀ q (.lst xs)) its vs → Fl K p G₀ G H (σ.set i (some (.ref q))) (DL.put e i (.own ds)) H₀ its vs
  | [], [], _, h0, h => Rl.catch h h0 g0 np ra
  | .d y :: is, w :: vs, _, h0, h => ⟨h.1, Fl.putO g0 np ra h0 h.2⟩
  | .o fs :: is, w :: vs, H₀, h0, ⟨b, ys, h1, h2, h3, h4, h5, h6⟩ => by
    have hb : b ≠ q := fun ez => by rw [ez, upd_same] at h2; cases h2
    rw [upd_ne hb] at h2
    refine ⟨b, ys, h1, h2, h3, h4, h5, Fl.putO g0 np ra (by rw [upd_ne hb.symm]; exact h0) ?_⟩
    rw [upd_flip hb]
    exact h6
  | [], _ :: _, _, _, h => h.elim
  | .d _ :: _, [], _, _, h => h.elim
  | .o _ :: _, [], _, _, h => h.elim
theorem Fl.land : ∀ {is : List Nat} {its : List Itm} {vs : List V} {σ : L2.St} {e : En} {H₀ : Hp}, Fl K p G₀ G H σ e H₀ its vs → its.length = is.length → Rl K p G₀ H₀ G H (setsV σ is vs) (putsI e is its)
  | [], [], [], _, _, _, h, _ => h
  | i :: is, .d x :: its, v :: vs, _, _, _, h, hl => by
    unfold setsV putsI
    exact Fl.land (Fl.putD h.1 h.2) (Nat.succ.inj hl)
  | i :: is, .o ds :: its, v :: vs, _, _, _, h, hl => by
    obtain ⟨q, xs, rfl, h2, h3, h4, h5, h6⟩ := h
    unfold setsV putsI
    exact Fl.land (Fl.putO h3 h4 h5 h2 h6) (Nat.succ.inj hl)
  | _, [], _ :: _, _, _, _, h, _ => h.elim
  | _, .d _ :: _, [], _, _, _, h, _ => h.elim
  | _, .o _ :: _, [], _, _, _, h, _ => h.elim
  | _ :: _, [], [], _, _, _, _, hl => nomatch hl
  | [], .d _ :: _, _ :: _, _, _, _, _, hl => nomatch hl
  | [], .o _ :: _, _ :: _, _, _, _, _, hl => nomatch hl
theorem Fl.length : ∀ {its : List Itm} {vs : List V} {H₀ : Hp}, Fl K p G₀ G H σ e H₀ its vs → vs.length = its.length
  | [], [], _, _ => rfl
  | .d _ :: is, _ :: vs, _, h => congrArg Nat.succ (Fl.length h.2)
  | .o _ :: is, _ :: vs, _, ⟨_, _, _, _, _, _, _, h⟩ => congrArg Nat.succ (Fl.length h)
  | [], _ :: _, _, h => h.elim
  | .d _ :: _, [], _, h => h.elim
  | .o _ :: _, [], _, h => h.elim
end
abbrev WMs := En → (List Itm → En → Prop) → PD → Prop
def MonoM (w : WMs) : Prop := ∀ e Q Q' x x', (∀ b e, Q b e → Q' b e) → (∀ d e, x d e → x' d e) → w e Q x → w e Q' x'
def PM (K : PySem.W.Frag) (F : Fx) (G : Hp) (σ : L2.St) (Q : List V → Hp → Prop) : List Itm → En → Prop := fun its e' => ∀ vs G' H', Same G G' → Fl K F.p F.G₀ G' H' σ e' F.H₀ its vs → Q vs H'
def tM (K : PySem.W.Frag) (F : Fx) (w : WMs) : TA := fun σ H Q => ∃ e G, Rl K F.p F.G₀ F.H₀ G H σ e ∧ w e (PM K F G σ Q) (PX K F.p F.G₀ F.H₀ F.W G σ)
structure DM (X : Cx) (F : Fx) (es : List Expr) (w : WMs) : Prop where
  run : PA X es (tM X.K F w)
  mono : MonoM w
def wmD (w : WEx) (wr : WMs) : WMs := fun e Q x => w e (fun d e1 => wr e1 (fun its e2 => Q (.d d :: its) e2) x) x
def wmO (w : WAx) (wr : WMs) : WMs := fun e Q x => w e (fun ds e1 => wr e1 (fun its e2 => Q (.o ds :: its) e2) noX) x
section
variable {K : PySem.W.Frag} {F : Fx} {σ : L2.St} {H : Hp} {X : Cx} {pos : Pos} {a b : Expr} {es : List Expr} {wa wb : WEx} {wr : WAx} {wm : WMs}
theorem dm_nil : DM X F [] (fun e Q _ => Q [] e) := ⟨⟨fun pos pins s σ H Q I ⟨e, G, r, q⟩ => pa_nil.run pos pins s σ H Q I (q [] G H (Same.refl G) r)⟩, fun _ _ _ _ _ h _ q => h _ _ q⟩
theorem dm_d (ha : DE X F a wa) (hr : DM X F es wm) (hs : starEach (a :: es) X.env = (false, eval a X.env) :: starEach es X.env := by rfl) : DM X F (a :: es) (wmD wa wm) := by
  refine ⟨⟨fun pos pins s σ H Q I q => (pa_cons ha.run hr.run hs).run pos pins s σ H Q I ?_⟩, fun e Q Q' x x' h1 h2 q => ha.mono e _ _ _ _ (fun d e1 z => hr.mono e1 _ _ _ _ (fun its e2 y => h1 _ _ y) h2 z) h2 q⟩
  obtain ⟨e, G, r, q⟩ := q
  refine tE.mono ha.mono (fun v1 H1 q1 => ?_) (tE.any ha.mono r q)
  obtain ⟨e1, G1, d1, s1, r1, rv1, q1⟩ := q1
  exact ⟨e1, G1, r1, hr.mono e1 _ _ _ _ (fun its e2 y xs G' H' s h => y (v1 :: xs) G' H' (s1.trans s) ⟨rv1.mono s, h⟩) (fun _ _ => PX.mono s1) q1⟩
theorem dm_o (ha : DF X F a wr) (hr : ∀ G₀ H₀, DM X (inn F.p G₀ H₀) es wm) (hs : starEach (a :: es) X.env = (false, eval a X.env) :: starEach es X.env := by rfl) : DM X F (a :: es) (wmO wr wm) := by
  have m := (hr X.H_0 X.H_0).mono
  have hr' : PA X es (fun σ H Q => ∃ G₀ H₀, tM X.K (inn F.p G₀ H₀) wm σ H Q) := ⟨fun pos pins s σ H Q I ⟨G₀, H₀, q⟩ => (hr G₀ H₀).run.run pos pins s σ H Q I q⟩
  refine ⟨⟨fun pos pins s σ H Q I q => (pa_cons ha.run hr' hs).run pos pins s σ H Q I ?_⟩, fun e Q Q' x x' h1 h2 q => ha.mono e _ _ _ _ (fun d e1 z => m e1 _ _ _ _ (fun its e2 y => h1 _ _ y) (fun _ _ z => z) z) h2 q⟩
  obtain ⟨e, G, r, q⟩ := q
  refine ⟨e, G, r, ha.mono e _ _ _ _ (fun ds e1 z c xs G1 H1 s1 r1 hc rx => ?_) (fun _ _ z => z) q⟩
  have np : F.p ≠ some c := fun ep => by
    obtain ⟨_, _, _, _, _, h2, _⟩ := r1.wd.pen c ep
    rw [hc] at h2; cases h2
  have gc : G1 c = none := r1.same.free hc
  obtain ⟨β, r1'⟩ := id r1
  have g0 : F.G₀ c = none := by
    cases z : F.G₀ c with
    | none => rfl
    | some o => have := r1'.st.gg c o z; rw [gc] at this; cases this
  have h0 : F.H₀ c = none := by
    cases z : F.H₀ c with
    | none => rfl
    | some o => have := r1'.st.hh c o z np; rw [hc] at this; cases this
  refine ⟨F.G₀, L2.upd F.H₀ c (.lst xs), e1, G1, r1.hide hc, m e1 _ _ _ _ (fun its e2 y vs G2 H2 s2 h => ?_) (fun _ _ z => z.elim) z⟩
  exact y (.ref c :: vs) G2 H2 (s1.trans s2) ⟨c, xs, rfl, h0, g0, np, rx.mono s2, h⟩
def wMul (is : List Nat) (w : WMs) : WSt := fun e D => w e (fun its e1 => its.length = is.length ∧ is.length ≤ 1000 ∧ D.nx (putsI e1 is its)) D.ex
theorem ds_mul {is : List Nat} {tgs : List Expr} {k k2 : Nat} {p2 pt : Pos} (hc : X.calm = true) (h : DM X F es wm) (hg : DGs X tgs is) (hn : (assignEach tgs X.env).length = is.length := by rfl) (hst : (assignEach tgs X.env).findIdx? (·.1) = none := by rfl)
    (hs : swapsWithSole [.Tuple tgs k p2] (.Tuple es k2 pt) pos.line X.env = pure false := by rfl) (hw : swappedStores [.Tuple tgs k p2] (.Tuple es k2 pt) X.env = pure none := by rfl) (h1 : (assignEach [.Tuple tgs k p2] X.env).map (·.2) = [assign (.Tuple tgs k p2) X.env] := by rfl) : DS X F (.Assign [.Tuple tgs k p2] (.Tuple es k2 pt) pos) (wMul is wm) :=
  ds_of (ps_asg (pe_tup h.run) (pg_tup hc hg.run hn hst) hs hw h1) (fun e A B l q => h.mono e _ _ _ _ (fun its e1 z => ⟨z.1, z.2.1, l.nx _ z.2.2⟩) l.ex q) fun D σ H ⟨e, G, r, q⟩ =>
    ⟨e, G, r, h.mono e _ _ _ _ (fun its e1 ⟨z1, z2, z3⟩ vs G' H' s fl => by
      have hl : vs.length = is.length := fl.length.trans z1
      have r' := fl.land z1
      refine ⟨by rw [hl]; exact le_line z2, fun hp hh => ⟨hp, vs, rfl, SqT.of upd_same, hl, hl, ?_⟩⟩
      exact z3 _ (L2.upd G' hp (.tup vs)) _ (s.trans (sameNew (o := .tup vs) r'.same hh)) (r'.new hh)) (fun y e' z C G' H' s r' ec => z C σ G' H' s r' ec) q⟩
/-- x += n -/
def wAug (i : Nat) (w : WEx) : WSt := fun e D => (∃ d, e.s[i]? = some (.dat d)) ∧ w e (fun d e1 => ∃ m n : Int, e.s[i]? = some (.dat (.int m)) ∧ d = .int n ∧ D.nx (put e1 i (.dat (.int (m + n))))) D.ex
theorem ds_aug {i : Nat} {x : Str} {p2 : Pos} (h : DE X F a wa) (hN : X.N.Nodup) (hi : X.N[i]? = some x := by rfl) (hx : Loc X.env.scope x := by first | exact Or.inl rfl | exact Or.inr rfl) (hf : X.fn x = true ∨ X.env.scope.names.lookup x = some .local := by first | exact Or.inl rfl | exact Or.inr rfl) : DS X F (.AugAssign (.Name x p2) .Add a pos) (wAug i wa) :=
  ds_of (ps_aug hN hi hx h.run ip_add hf) (fun e A B l q => ⟨q.1, h.mono e _ _ _ _ (fun d e1 ⟨m, n, i1, i2, z⟩ => ⟨m, n, i1, i2, l.nx _ z⟩) l.ex q.2⟩) fun D σ H ⟨e, G, r, ⟨d0, hd⟩, q⟩ => by
    obtain ⟨β, r0⟩ := id r
    obtain ⟨v, hv, rv⟩ := r0.dat i d0 hd
    refine ⟨v, hv, e, G, r, h.mono e _ _ _ _ (fun d e1 ⟨m, n, i1, i2, z⟩ u G' H' s r' ru => ?_) (fun y e' z C G' H' s r' ec => z C σ G' H' s r' ec) q⟩
    rw [hd] at i1
    cases i1
    subst i2
    cases rv.int_inv
    cases ru.int_inv
    exact ⟨m, n, rfl, rfl, z _ G' _ s (r'.put (.int _))⟩
end
end L2.DL


set_option
      maxHeartbeats 2000000
namespace L2.DL
open PySem PySem.Spec
      PyProof.Rows
/-! ### try: body, except C as n: return isinstance(n, D) -/
def wTryIs (K : PySem.W.Frag) (CR cv : Value) (i : Nat) (wb : WSt) : WSt := fun e D => wb e { D with ex := fun y e' => ∃ C b, y = excD C ∧ PySem.W.exmOne K (.ref C) CR = some true ∧ ExcC K C ∧ PySem.W.kitOne K (.ref C) cv = some b ∧ i < e'.s.length ∧ D.rt (.bool b) e' }
section
variable {K : PySem.W.Frag} {F : Fx} {σ : L2.St} {H : Hp} {X : Cx} {x n y : Str} {i : Nat} {CR cv : Value} {c : V} {body : List Stmt} {np np2 p1 p2 p3 rp pos pos' : Pos} {wb : WSt}
theorem ds_tryIs (hs : X.stack = X.env :: X.outer) (hf : X.env.frame = some X.env.locals) (hN : X.N.Nodup) (hc : Names X x CR)
    (hb : ∀ (W : WX) (pn : List (Addr × Obj)) (xe : Value → Shared → Prop), Takes (X.tr pn xe) W → PassesOwn (model X.prog X.w) X.A X.env xe → DSs (X.tr pn xe) { F with W := W } body wb)
    (hm : X.mg "isinstance" = none) (hy : ∀ a pn, PE (X.suite a pn) (.Name y p2) (tC c)) (hcv : ∀ u, RelV c u → u = cv)
    (hi : X.N[i]? = some n := by rfl) (hln : X.env.kindOf n = some .local := by rfl) (hd : (n == ("__debug__" : Str)) = false := by decide) (hcd : (n == ("__classdict__" : Str)) = false := by decide)
    (hg : Gl X "isinstance" := by rfl) (hv : bootBuiltins "isinstance" = some (.builtin "isinstance") := by decide +kernel)
    (hs1 : starEach [.Name n np2, .Name y p2] X.env = (false, eval (.Name n np2) X.env) :: starEach [.Name y p2] X.env := by rfl) (hs2 : starEach [.Name y p2] X.env = (false, eval (.Name y p2) X.env) :: starEach [] X.env := by rfl)
    (hpl : (backTo p3 (starEach [.Name y p2] X.env)).any (·.1) = false := by rfl) :
    DS X F (.Try body [.ExceptHandler (some (.Name x np)) (some n) [.Return (some (.Call (.Name "isinstance" p1) [.Name n np2, .Name y p2] [] p3)) rp] pos'] [] [] pos) (wTryIs X.K CR cv i wb) := by
  have mb : MonoS wb := (hb (fun _ _ _ _ => False) [] (fun _ _ => False) takes0 PassesOwn.never).mono
  refine ds_of (ps_try_as (tb := fun W => tS X.K { F with W := W } wb) (Wout := fun _ _ _ _ => False) (ts := fun a cls d D σ H => ∃ C b, cls = .ref C ∧ d = none ∧ ExcC X.K C ∧ PySem.W.kitOne X.K (.ref C) cv = some b ∧ σ[i]? = some (some (.ref a)) ∧ D.rt (.bl b) H) hs hf hN hi hln hc takes0 (fun W pn xe tk po => (hb W pn xe tk po).run) (fun a oe cls d pn hz hfs => ⟨fun pins s σ H D I ⟨C, b, e1, e2, hC, hk, hσ, q⟩ => ?_⟩)) (fun e A B l q => ?_) fun D σ H q => ?_
  · subst e1 e2
    refine (pss_one (ps_ret (pe_callB (call_isE hC hz hfs) hg hm hv (pa_cons (pe_var hi (.inl hln) hd hcd) (pa_cons (hy a _) pa_nil hs2) hs1) (by decide) (by decide) hs1 hpl))).run pins s σ H D I ?_
    exact ⟨.ref a, hσ, c, cv, b, rfl, hcv, hk, q⟩
  · exact mb e { A with ex := fun y e' => ∃ C b, y = excD C ∧ PySem.W.exmOne X.K (.ref C) CR = some true ∧ ExcC X.K C ∧ PySem.W.kitOne X.K (.ref C) cv = some b ∧ i < e'.s.length ∧ A.rt (.bool b) e' } _ ⟨l.nx, l.rt, l.bk, l.ct, fun y e' ⟨C, b, e1, e2, e3, e4, e5, z⟩ => ⟨C, b, e1, e2, e3, e4, e5, l.rt _ _ z⟩⟩ q
  · obtain ⟨e, G, r, q⟩ := q
    refine ⟨e, G, r, mb e { endsOf X.K F G D with ex := fun y e' => ∃ C b, y = excD C ∧ PySem.W.exmOne X.K (.ref C) CR = some true ∧ ExcC X.K C ∧ PySem.W.kitOne X.K (.ref C) cv = some b ∧ i < e'.s.length ∧ (endsOf X.K F G D).rt (.bool b) e' } _ ⟨fun _ z => z, fun _ _ z => z, fun _ z => z, fun _ z => z, fun y e' ⟨C, b, e1, e2, e3, e4, hlt, z⟩ C' σ' G' H' s r' e5 => ?_⟩ q⟩
    have ec : C = C' := excD_inj (e1.symm.trans e5)
    subst ec
    refine ⟨true, e2, fun _ a ha => ⟨C, b, rfl, rfl, e3, e4, ?_, z (.bl b) _ G' _ s r' (.bl b)⟩, fun h => nomatch h⟩
    obtain ⟨β, r0⟩ := id r'
    exact List.getElem?_set_self (by rw [r0.len]; exact hlt)
end
end L2.DL


set_option
      maxHeartbeats 2000000
namespace L2.DL
open PySem PySem.Spec
      PyProof.Rows
/-! ### int of a truth -/
def intBD : BL
  | [.bool b], P => P (.int (if b then 1 else 0))
  | _, _ => False
theorem intBD.mono : BL.Mono intBD := by
  intro a P P' h q
  unfold intBD at q ⊢
  split at q <;> first | exact h _ q | exact q.elim
theorem fitsIntB {K : PySem.W.Frag} : FitsL K intBD (fun xs H Q => (∃ i, xs = [.int i] ∧ Q (.int i) H) ∨ ∃ k, xs = [.bl k] ∧ Q (.int (if k then 1 else 0)) H) := by
  intro p G₀ H₀ G H σ e xs ds P Q r ra q k
  unfold intBD at q
  split at q
  · obtain ⟨x, rfl, rx⟩ := ra.one
    cases rx.bl_inv
    exact .inr ⟨_, rfl, ans r (.int _) k q⟩
  · exact q.elim
/-! ### no times a tuple -/
theorem tuple_zero (l : Addr) (items : Array Value) (n : Nat) (dd : Option Addr) (sl : Array (Option Value)) (u : Tok) (cz : (items.isEmpty || (0 : Int) == 1) = false) :
    Meets (Builtin.«tuple.__mul__» ⟨[.ref l, .int 0 u], []⟩) (fun _ R s => s.heap.get? l = some { cls := .type "tuple", dict := dd, data := .seq items n, slots := sl } ∧
      R (.ok (.ret (Value.ref s.heap.objs.size))) { s with heap := s.heap.push { cls := Value.type "tuple", data := Data.seq #[] }, toks := s.toks }) :=
  .of_wp fun prog
        w A R s h => by
    obtain ⟨hp, g,
          d, tk, os⟩ := s
    obtain ⟨hl, h⟩ := h
    have f1 := AutoSeq1.idx_int
    wp_walk using
          wpAny_loadPart' hl
    repeat (first
      | (refine wpAny_ite_false (decide_eq_false (by rw [cz]; exact Bool.false_ne_true)) ?_; wp_walk using wpAny_loadPart' hl)
      | (refine wpAny_ite_false (decide_eq_false (Nat.not_lt.mpr (Nat.zero_le _))) ?_; wp_walk using wpAny_loadPart' hl))
    exact ⟨_, rfl, h⟩
def rZero (K : PySem.W.Frag) : R2 := fun x y H Q => ∃ l xs, x = .ref l ∧ y = .int 0 ∧ SqT K H l xs ∧ xs ≠ [] ∧ ∀ p, H p = none → Q (.ref p) (L2.upd H p (.tup []))
theorem op_zero {X : Cx} : OpR X (binaryOp .Mult) (rZero X.K) := by
  intro pins s σ H x
        y v u Q I rx ry h
  obtain ⟨l, xs, rfl, rfl, hT, hne, q⟩ := h
  cases rx
  obtain ⟨t, rfl⟩ := ry
  obtain ⟨its, r, ⟨⟨cls, dd, data, sl⟩,
        ho, hc, n, hd⟩, hs⟩ := I.tuple hT
  simp only at hc hd
  subst hc hd
  have hle : its.length = xs.length :=
        r.length.symm
  have hn : its ≠ [] :=
        fun e => hne (by
    rw [e] at hle
    exact List.eq_nil_of_length_eq_zero
          hle.symm)
  have hi : its.toArray.isEmpty
        = false := by
    cases its with
    | nil => exact absurd rfl hn
    | cons a b => rfl
  refine wpAny_binaryOp_repeat_ref (T := "tuple") (U := "int") (by decide) ⟨_, ho, rfl⟩ (fun s' => typeIs_int s' 0 t) noFill_tuple_mul F.fills_int_mul F.slot_int_rmul repeat_tuple F.slot_int_index.lookup
    (call_meets F.slot_int_rmul (typeIs_int s 0 t) F.entry_int_rmul (F.args_int_rmul_2 _ _) (int_rmul_tuple 0 t l its.toArray n dd sl)
      ⟨ho, rfl, ⟨_, ho, rfl⟩, call_meets F.slot_tuple_mul ⟨_, ho, rfl⟩ F.entry_tuple_mul (F.args_tuple_mul_2 _ _) (tuple_zero l its.toArray n dd sl t (by rw [hi]; rfl)) ⟨ho, ?_⟩⟩)
  refine ⟨.ref s.heap.objs.size, _, I.laid (t' := s.toks) (o := .tup []) (fun b ob q => Heap.get?_push_of_some _ q) (Nat.le_refl _) ?_, rfl, q _ (I.hok.fresh (Nat.le_refl _))⟩
  exact ⟨Nat.zero_le _, [], .nil, IsTup.new _ _⟩
/-- times, zero allowed -/
def mulZ : B2
  | .tuple xs, .int k, P => xs ≠ [] ∧ 0 ≤ k ∧ k ≤ 1000 ∧ xs.length ≤ 1000 ∧ P (.tuple (List.replicate k.toNat xs).flatten)
  | _, _, _ => False
theorem mulZ.mono : B2.Mono mulZ := by
  intro a b P P' h q
  unfold mulZ at q ⊢
  split at q
  · exact ⟨q.1, q.2.1, q.2.2.1, q.2.2.2.1, h _ q.2.2.2.2⟩
  · exact q.elim
def rMulZ (K : PySem.W.Frag) : R2 := fun x y H Q => rRepT K x y H Q ∨ rOnce K x y H Q ∨ rZero K x y H Q
theorem op_mulZ {X : Cx} : OpR X (binaryOp .Mult) (rMulZ X.K) := op_repT.or (op_once.or op_zero)
theorem fitsMulZ {K : PySem.W.Frag} : Fits K mulZ (rMulZ K) := by
  intro p G₀ H₀ G H σ e x y a b P Q r ra rb q k
  unfold mulZ at q
  split at q
  · obtain ⟨l, xs, rfl, h1, r1⟩ := ra.tup_inv
    cases rb.int_inv
    obtain ⟨q0, q1, q2, q3, q4⟩ := q
    rename_i i
    have hne : xs ≠ [] := fun z => q0 (r1.nil_iff.mp z)
    by_cases e1 : i = 1
    · subst e1
      refine .inr (.inl ⟨l, xs, rfl, rfl, sameT r.same h1, ans r (.tup h1 r1) k ?_⟩)
      simpa using q4
    · by_cases e2 : i = 0
      · subst e2
        exact .inr (.inr ⟨l, xs, rfl, rfl, sameT r.same h1, hne, fun z hz => ansT r .nil k q4 hz⟩)
      · exact .inl ⟨l, _, xs, rfl, rfl, sameT r.same h1, hne, by omega, q2, by rw [r1.length]; exact q3, fun z hz => ansT r (r1.rep _) k q4 hz⟩
  · exact q.elim
end L2.DL


set_option
      maxHeartbeats 2000000
namespace CmbKit
open PySem PySem.Spec
open Sem (wp)
theorem mro_cmb : mroOf (.type "itertools.combinations") = pure [.type "itertools.combinations", .type "object"] := by rw [mroOf_type]; kernel_rfl
theorem lookup_cmb_new : typeLookup (.type "itertools.combinations") "__new__" = pure (some (.builtin "itertools.combinations.__new__")) := by rw [typeLookup_type, builtinLookup_eq_fast]; kernel_rfl
theorem look_init : typeLookup (.type "itertools.combinations") "__init__" = pure (some (.builtin "object.__init__")) := by rw [typeLookup_type, builtinLookup_eq_fast]; kernel_rfl
theorem sub_self : isSubtype (.type "itertools.combinations") (.type "itertools.combinations") = pure true := by rw [isSubtype_type]; kernel_rfl
theorem slot_cmb_init : Slot "itertools.combinations" "__init__" "object.__init__" :=
  .of (owner := "object") (n := "__init__") look_init (by decide +kernel) (by decide +kernel) (by decide +kernel) (by first | exact .inl (by decide +kernel) | exact .inr (by decide +kernel)) (by rw [isSubtype_type] <;> kernel_rfl)
theorem sub_cmb : isSubtype (.type "itertools.combinations") (.type "itertools.combinations") = pure true := by rw [isSubtype_type]; kernel_rfl
theorem called_cmb : TypeCalled "itertools.combinations" "itertools.combinations.__new__" "object.__init__" :=
  ⟨by decide +kernel, by decide +kernel, ⟨_, _, mro_cmb⟩, madeBy_type mro_cmb lookup_cmb_new (by decide +kernel), by decide +kernel, sub_cmb, slot_cmb_init⟩
theorem typeCall_cmb_2 (a b : Value) : checkTypeCall "itertools.combinations" ⟨[a, b], []⟩ = pure () := by kernel_rfl
theorem newCall_cmb_2 (a b : Value) : checkBuiltinCall "itertools.combinations.__new__" ⟨[.type "itertools.combinations", a, b], []⟩ = pure () := by kernel_rfl
theorem entry_cmb_new : entryFor table "itertools.combinations.__new__" = some Builtin.«itertools.combinations.__new__» := entryFor_of_tree (by kernel_rfl)
theorem slot_cmb_iter : Slot "itertools.combinations" "__iter__" "itertools.combinations.__iter__" :=
  .of (owner := "itertools.combinations") (n := "__iter__") (by rw [typeLookup_type, builtinLookup_eq_fast]; kernel_rfl) (by decide +kernel) (by decide +kernel) (by decide +kernel)
    (by first | exact .inl (by decide +kernel) | exact .inr (by decide +kernel)) sub_cmb
theorem slot_cmb_next : Slot "itertools.combinations" "__next__" "itertools.combinations.__next__" :=
  .of (owner := "itertools.combinations") (n := "__next__") (by rw [typeLookup_type, builtinLookup_eq_fast]; kernel_rfl) (by decide +kernel) (by decide +kernel) (by decide +kernel)
    (by first | exact .inl (by decide +kernel) | exact .inr (by decide +kernel)) sub_cmb
theorem entry_cmb_iter : entryFor table "itertools.combinations.__iter__" = some Builtin.«dict_keyiterator.__iter__» :=
  entryFor_alias (id' :=
        "dict_keyiterator.__iter__") (by kernel_rfl) rfl (by decide +kernel) (by kernel_rfl)
theorem entry_cmb_next : entryFor table "itertools.combinations.__next__" = some Builtin.«itertools.combinations.__next__» := entryFor_of_tree (by kernel_rfl)
theorem owner_cmb : Manifest.owners.lookup (String.ofList ['s', 'n', 'o', 'i', 't', 'a', 'n', 'i', 'b', 'm', 'o', 'c', '.', 's', 'l', 'o', 'o', 't', 'r', 'e', 't', 'i'].reverse) = some Manifest.sig_itertools_combinations := by kernel_rfl
theorem noDict_cmb : typeHasDict (.type "itertools.combinations") = false := by decide +kernel
theorem noClose_cmb : typeLookup (.type "itertools.combinations") "close" = pure none := by rw [typeLookup_type, builtinLookup_eq_fast]; kernel_rfl
theorem args_cmb_iter (a : Value) : argsOk "itertools.combinations.__iter__" ⟨[a], []⟩ := by
  unfold argsOk; rw [signature?_of (id := "itertools.combinations.__iter__") (n := ['_', '_', 'r', 'e', 't', 'i', '_', '_']) (o := ['s', 'n', 'o', 'i', 't', 'a', 'n', 'i', 'b', 'm', 'o', 'c', '.', 's', 'l', 'o', 'o', 't', 'r', 'e', 't', 'i']) (by kernel_rfl) owner_cmb]; kernel_rfl
theorem args_cmb_next (a : Value) : argsOk "itertools.combinations.__next__" ⟨[a], []⟩ := by
  unfold argsOk; rw [signature?_of (id := "itertools.combinations.__next__") (n := ['_', '_', 't', 'x', 'e', 'n', '_', '_']) (o := ['s', 'n', 'o', 'i', 't', 'a', 'n', 'i', 'b', 'm', 'o', 'c', '.', 's', 'l', 'o', 'o', 't', 'r', 'e', 't', 'i']) (by kernel_rfl) owner_cmb]; kernel_rfl
/-- the walk's record -/
abbrev IsCmb (h : Heap) (it pool : Addr) (st : Int) (last : Value) (ix : List Nat) : Prop := h.get? it = some { cls := .type "itertools.combinations", dict := none, data := .fields (Value.ref pool :: .int st 0 :: last :: ix.map fun (n : Nat) => Value.int n 0).toArray, slots := #[] }
abbrev IsPool (h : Heap) (pool : Addr) (xs : Array Value) : Prop := h.get? pool = some { cls := .type "tuple", dict := none, data := .seq xs, slots := #[] }
/-- the indices behind these -/
def nextC (n : Nat) (indices : List Nat) : Option (List Nat) :=
  match (List.range indices.length).reverse.find? fun i => indices.getD i 0 != i + n - indices.length with
  | none => none
  | some i => some (indices.take i ++ (List.range (indices.length - i)).map (indices.getD i 0 + 1 + ·))
section
variable {prog : Program} {w : World} {A :
      Around} {E : Value → Shared → Prop} {s : Shared}
theorem iter_cmb {it pool : Addr} {st : Int} {last : Value} {ix : List Nat} {Q : Value → Shared → Prop} (hit : IsCmb s.heap it pool st last ix) (h : Q (.ref it) s) : wpAny (model prog w) A (pyIter (.ref it)) Q E s := by
  have hT : s.TypeIs (.ref it) "itertools.combinations" := ⟨_, hit, rfl⟩
  refine wpAny_pyIter_slot hT slot_cmb_iter (wpAny_call_entry slot_cmb_iter hT entry_cmb_iter ?_ (args_cmb_iter _))
  show wpAny _ _ (ret
        (.ref it)) _ _ s
  exact wpAny_pure ⟨_, rfl, "itertools.combinations", _, hT, slot_cmb_next.lookup, h⟩
/-- the tuple that is handed out -/
abbrev picked (xs : Array Value) (ix : List Nat) : Obj := { cls := .type "tuple", data := .seq (ix.map fun i => xs.getD i .none).toArray }
theorem cmb_out {it pool : Addr} {st : Int} {last : Value} {ix : List Nat} {xs : Array Value} {Q : PySem.Fin → Shared → Prop} (hit : IsCmb s.heap it pool st last ix) (hp : IsPool s.heap pool xs) (hz : ix.length ≤ 1000)
    (hQ : ∀ h', IsCmb h' it pool st (.ref s.heap.objs.size) ix → Heap.SameBut it (s.heap.push (picked xs ix)) h' → Q (.done (.ret (.ref s.heap.objs.size))) { s with heap := h' }) :
    wpAny (model prog w) A (((Builtin.Itertools.itPoolItems (.ref pool)) >>= fun items => newTuple (ix.map fun i => items.getD i .none)) >>= fun result => field (.ref it) 2 >>= fun before => setField (.ref it) 2 result >>= fun _ => letGo [before] [result] >>= fun _ => ret result) Q E s := by
  refine wpAny_bind ?_
  refine wpAny_bind ?_
  unfold Builtin.Itertools.itPoolItems
  refine wpAny_bind (wpAny_seqItems hp rfl (wpAny_pure ?_))
  refine wpAny_newTuple ?_ (by rw [List.length_map]; exact Nat.le_trans hz (by decide))
  have h1 : IsCmb (s.heap.push (picked xs ix)) it pool st last ix := Heap.get?_push_of_some _ hit
  refine wpAny_bind (wpAny_field h1 rfl (x := last) (by simp) ?_)
  refine wpAny_bind (wpAny_setField h1 rfl (by simp) ?_)
  refine wpAny_bind
        (wpAny_letGo (wpAny_pure ?_))
  refine hQ _ ?_ (Heap.SameBut.update ..)
  refine (Heap.get?_update_self _ h1 rfl).trans ?_
  simp [Obj.mapFields]
theorem numbers_cmb {it pool : Addr} {st : Int} {last : Value} {ix : List Nat} {Q : List Nat → Shared → Prop} (hit : IsCmb s.heap it pool st last ix) (h : Q ix s) : wpAny (model prog w) A (Builtin.Itertools.itNumbersFrom (.ref it) 3) Q E s := by
  unfold Builtin.Itertools.itNumbersFrom
  refine wpAny_bind (wpAny_load hit ?_)
  refine wpAny_of_eq (a := ix) ?_ h
  simp only [List.drop_succ_cons, List.drop_zero, List.map_map]
  refine congrArg pure ?_
  refine (List.map_congr_left (g := id) fun n _ => ?_).trans (List.map_id ix)
  rfl
theorem cmb_first {it pool : Addr} {last : Value} {ix : List Nat} {xs : Array Value} {Q : Option Value → Shared → Prop} (hit : IsCmb s.heap it pool 0 last ix) (hp : IsPool s.heap pool xs) (hz : ix.length ≤ 1000) (hne : pool ≠ it)
    (hQ : ∀ h' h'', IsCmb h' it pool 1 last ix → Heap.SameBut it s.heap h' → IsCmb h'' it pool 1 (.ref h'.objs.size) ix → Heap.SameBut it (h'.push (picked xs ix)) h'' → Q (some (.ref h'.objs.size)) { s with heap := h'' }) : wpAny (model prog w) A (callSpecial? (.ref it) "__next__") Q E s := by
  have hT : s.TypeIs (.ref it) "itertools.combinations" := ⟨_, hit, rfl⟩
  refine wpAny_callSpecial?_slot (name := Str.ofString "__next__") hT slot_cmb_next (wpAny_call_entry slot_cmb_next hT entry_cmb_next ?_ (args_cmb_next _))
  show wpAny _ _ (field
        (.ref it) 0 >>= _) _ _ s
  refine wpAny_bind (wpAny_field hit rfl (x := .ref pool) (by simp) ?_)
  refine wpAny_bind (numbers_cmb hit ?_)
  show wpAny _ _ (Builtin.Itertools.itIntField (.ref it) 1 >>= _) _ _ s
  unfold Builtin.Itertools.itIntField
  refine wpAny_bind ?_
  refine wpAny_bind (wpAny_field hit rfl (x := .int 0 0) (by simp) (wpAny_pure ?_))
  show wpAny _ _ (setField (.ref it) 1 (rawInt 1) >>= _) _ _ s
  refine wpAny_bind (wpAny_setField
        hit rfl (by simp) ?_)
  have h1 : IsCmb (s.heap.update it (Obj.mapFields (·.setIfInBounds 1 (rawInt 1)))) it pool 1 last ix := (Heap.get?_update_self _ hit rfl).trans (by simp [Obj.mapFields]; rfl)
  have sb : Heap.SameBut it s.heap (s.heap.update it (Obj.mapFields (·.setIfInBounds 1 (rawInt 1)))) := Heap.SameBut.update ..
  refine cmb_out (xs := xs) (s := { s with heap := s.heap.update it (Obj.mapFields (·.setIfInBounds 1 (rawInt 1))) }) h1 ((sb.2 pool hne).trans hp) hz ?_
  intro h'' q1 q2
  exact ⟨_, rfl, hQ _ h'' h1 sb q1 q2⟩
theorem cmb_more {it pool : Addr} {last : Value} {ix ix' : List Nat} {xs : Array Value} {Q : Option Value → Shared → Prop} (hit : IsCmb s.heap it pool 1 last ix) (hp : IsPool s.heap pool xs) (hz : ix'.length ≤ 1000) (hne : pool ≠ it) (hn : nextC xs.size ix = some ix')
    (hQ : ∀ h' h'', IsCmb h' it pool 1 last ix' → Heap.SameBut it s.heap h' → IsCmb h'' it pool 1 (.ref h'.objs.size) ix' → Heap.SameBut it (h'.push (picked xs ix')) h'' → Q (some (.ref h'.objs.size)) { s with heap := h'' }) : wpAny (model prog w) A (callSpecial? (.ref it) "__next__") Q E s := by
  have hT : s.TypeIs (.ref it) "itertools.combinations" := ⟨_, hit, rfl⟩
  refine wpAny_callSpecial?_slot (name := Str.ofString "__next__") hT slot_cmb_next (wpAny_call_entry slot_cmb_next hT entry_cmb_next ?_ (args_cmb_next _))
  show wpAny _ _ (field
        (.ref it) 0 >>= _) _ _ s
  refine wpAny_bind (wpAny_field hit rfl (x := .ref pool) (by simp) ?_)
  refine wpAny_bind (numbers_cmb hit ?_)
  show wpAny _ _ (Builtin.Itertools.itIntField (.ref it) 1 >>= _) _ _ s
  unfold Builtin.Itertools.itIntField
  refine wpAny_bind ?_
  refine wpAny_bind (wpAny_field hit rfl (x := .int 1 0) (by simp) (wpAny_pure ?_))
  show wpAny _ _ (Builtin.Itertools.itPoolItems (.ref pool) >>= _) _ _ s
  refine wpAny_bind ?_
  unfold Builtin.Itertools.itPoolItems
  refine wpAny_bind (wpAny_seqItems hp rfl (wpAny_pure ?_))
  show wpAny _ _ (match nextC xs.size ix with
    | some next => (Builtin.Itertools.itSetNumbersFrom (.ref it) 3 next >>= fun _ => (((Builtin.Itertools.itPoolItems (.ref pool)) >>= fun items => newTuple (next.map fun i => items.getD i .none)) >>= fun result => field (.ref it) 2 >>= fun before => setField (.ref it) 2 result >>= fun _ => letGo [before] [result] >>= fun _ => ret result))
    | none => (setField (.ref it) 1 (rawInt 2) >>= fun _ => Builtin.Itertools.itStop)) _ _ _
  rw [hn]
  dsimp only
  unfold Builtin.Itertools.itSetNumbersFrom
  have hl : (ix'.map fun (n : Nat) => rawInt n).toArray.size ≤ 1000 := by simp; exact hz
  refine wpAny_bind (wpAny_updateFields hit rfl ?_ (Nat.le_trans (m := 1003) (by simp; omega) (by decide)))
  have h1 : IsCmb (s.heap.update it (Obj.mapFields fun fs => fs.extract 0 3 ++ (ix'.map fun (n : Nat) => rawInt n).toArray)) it pool 1 last ix' := (Heap.get?_update_self _ hit rfl).trans (by simp [Obj.mapFields, rawInt])
  have sb : Heap.SameBut it s.heap (s.heap.update it (Obj.mapFields fun fs => fs.extract 0 3 ++ (ix'.map fun (n : Nat) => rawInt n).toArray)) := Heap.SameBut.update ..
  refine cmb_out (xs := xs) (s := { s with heap := s.heap.update it (Obj.mapFields fun fs => fs.extract 0 3 ++ (ix'.map fun (n : Nat) => rawInt n).toArray) }) h1 ((sb.2 pool hne).trans hp) hz ?_
  intro h'' q1 q2
  exact ⟨_, rfl, hQ _ h'' h1 sb q1 q2⟩
/-- the end's exception -/
def StopC (e : Value) (h : Heap) : Prop := CpRep.StopE e h
theorem stop_cmb {Q : PySem.Fin → Shared → Prop} (hh : A.handled = none) {it : Addr} {h₀ : Heap} (x : Heap.ExtBut it h₀ s.heap) (hQ : ∀ e h', CpRep.StopE e h' → Heap.ExtBut it h₀ h' → E e { s with heap := h' }) : wpAny (model prog w) A (Builtin.Itertools.itStop (α := PySem.Fin)) Q E s := by
  unfold Builtin.Itertools.itStop
  refine wpAny_bind ?_
  simp only [newExc, newTuple]
  refine wpAny_bind (wpAny_newObj_type
        ?_ (by size_fits))
  refine wpAny_bind (m := firstArgMember _ _) (wpAny_of_eq (a :=
        Value.none) (by first | rfl | (simp only [firstArgMember]; rfl)) ?_)
  refine wpAny_newObj_type
        ?_ (by size_fits)
  simp only [raiseNew]
  refine wpAny_bind
        (wpAny_handled ?_)
  rw [hh]
  refine wpAny_bind
        (wpAny_pure (wpAny_throw ?_))
  exact hQ _ _ ⟨_, _, _, rfl, Heap.get?_push_size _ rfl, rfl, rfl, rfl⟩ ((x.push _).push _)
theorem cmb_end {it pool : Addr} {last : Value} {ix : List Nat} {xs : Array Value} {Q : Option Value → Shared → Prop} (hh : A.handled = none) (hit : IsCmb s.heap it pool 1 last ix) (hp : IsPool s.heap pool xs) (hn : nextC xs.size ix = none)
    (hQ : ∀ e h', CpRep.StopE e h' → Heap.ExtBut it s.heap h' → E e { s with heap := h' }) : wpAny (model prog w) A (callSpecial? (.ref it) "__next__") Q E s := by
  have hT : s.TypeIs (.ref it) "itertools.combinations" := ⟨_, hit, rfl⟩
  refine wpAny_callSpecial?_slot (name := Str.ofString "__next__") hT slot_cmb_next (wpAny_call_entry slot_cmb_next hT entry_cmb_next ?_ (args_cmb_next _))
  show wpAny _ _ (field
        (.ref it) 0 >>= _) _ _ s
  refine wpAny_bind (wpAny_field hit rfl (x := .ref pool) (by simp) ?_)
  refine wpAny_bind (numbers_cmb hit ?_)
  show wpAny _ _ (Builtin.Itertools.itIntField (.ref it) 1 >>= _) _ _ s
  unfold Builtin.Itertools.itIntField
  refine wpAny_bind ?_
  refine wpAny_bind (wpAny_field hit rfl (x := .int 1 0) (by simp) (wpAny_pure ?_))
  show wpAny _ _ (Builtin.Itertools.itPoolItems (.ref pool) >>= _) _ _ s
  refine wpAny_bind ?_
  unfold Builtin.Itertools.itPoolItems
  refine wpAny_bind (wpAny_seqItems hp rfl (wpAny_pure ?_))
  show wpAny _ _ (match nextC xs.size ix with
    | some next => (Builtin.Itertools.itSetNumbersFrom (.ref it) 3 next >>= fun _ => (((Builtin.Itertools.itPoolItems (.ref pool)) >>= fun items => newTuple (next.map fun i => items.getD i .none)) >>= fun result => field (.ref it) 2 >>= fun before => setField (.ref it) 2 result >>= fun _ => letGo [before] [result] >>= fun _ => ret result))
    | none => (setField (.ref it) 1 (rawInt 2) >>= fun _ => Builtin.Itertools.itStop)) _ _ _
  rw [hn]
  dsimp only
  refine wpAny_bind (wpAny_setField
        hit rfl (by simp) ?_)
  exact stop_cmb (by first | exact hh | (show A.in1.handled = none; exact hh)) (Heap.SameBut.update ..).extBut hQ
end
end CmbKit


set_option
      maxHeartbeats 4000000
namespace CmbKit
open PySem PySem.Spec
      PyProof.Rows L2
open Sem (wp)
theorem bind_cmb (a b : Value) : Builtin.Itertools.itBindNamed "combinations" ["iterable", "r"] 2 2 [a, b] [] = pure [some a, some b] := by kernel_rfl
theorem plain_cmb_new : plainId "itertools.combinations.__new__" = true := by decide +kernel
section
variable {prog : Program} {w : World} {A :
      Around} {E : Value → Shared → Prop} {s : Shared}
theorem code_cmb_new {Q₁ : Value → Shared → Prop} {r : Addr} {a b c : Int} {t u v tk : Tok} {n k : Nat} (hh : A.handled = none) (hr : IsRange s.heap r a b c t u v) (hsmall : Builtin.Range.small a b c = true) (hn : Builtin.Range.rangeSize a b c = n) (hlen : n ≤ 1000) (hk : k ≤ n)
    (h : ∀ (h' : Heap) (tk : Nat) (acc : Array Value), (∀ b o,
          s.heap.get? b = some o → h'.get? b = some o) → ItemsOf (fun i v => ∃ t, v = .int (a + i * c) t) acc n →
      Q₁ (.ref (h'.push { cls := .type "tuple", data := .seq acc }).objs.size) { s with heap := (h'.push { cls := .type "tuple", data := .seq acc }).push { cls := .type "itertools.combinations", data := .fields (Value.ref h'.objs.size :: .int 0 0 :: .none :: (List.range k).map fun (n : Nat) => Value.int n 0).toArray }, toks := tk }) :
    codeAny (model prog w) A (.call (.builtin "itertools.combinations.__new__") ⟨[.type "itertools.combinations", .ref r, .int k tk], []⟩) (wants Q₁ E) s := by
  refine codeAny_of_tree ?_
  show wpAny _ A.in1 (do checkBuiltinCall "itertools.combinations.__new__" ⟨[.type "itertools.combinations", .ref r, .int k tk], []⟩; again (.builtin "itertools.combinations.__new__" ⟨[.type "itertools.combinations", .ref r, .int k tk], []⟩)) _ _ s
  refine wpAny_bind (wpAny_of_eq (newCall_cmb_2 _ _) (wpAny_pure ⟨plainId_quiet plain_cmb_new _, codeAny_builtin entry_cmb_new ?_⟩))
  rw [Around.under_plainId plain_cmb_new _]
  have hsub := sub_cmb
  have hd := noDict_cmb
  have hh1 : A.in1.handled
        = none := hh
  unfold Builtin.«itertools.combinations.__new__»
  refine wpAny_bind ?_
  show wpAny _ _ (Builtin.Itertools.itClassAndRest "combinations" { pos := [Value.type "itertools.combinations", Value.ref r, Value.int (↑k) tk] } >>= _) _ _ s
  have hn' : ¬ ((decide ((k : Int) < -(2 ^ 63 : Int)) || decide ((k : Int) ≥ 2 ^ 63)) = true) := by
    rw [decide_eq_false (by omega), decide_eq_false (by omega)]
    decide
  have hle : n ≤ 2 ^ 24 := Nat.le_trans hlen (by decide)
  wp_walk using collect_range (A := A.in1) hh1 hr hsmall hn hle
  rw [show ("itertools." ++ "combinations" : String) = "itertools.combinations" from by decide]
  refine wpAny_of_eq sub_cmb ?_
  refine wpAny_pure ?_
  dsimp only
  refine wpAny_bind (wpAny_of_eq (bind_cmb _ _) ?_)
  dsimp only
  wp_walk using collect_range (A := A.in1) hh1 hr hsmall hn hle
  rw [if_neg hn']
  refine wpAny_pure ?_
  refine wpAny_bind (collect_range (A := A.in1) hh1 hr hsmall hn hle fun h' tk acc hk2 hacc => ?_)
  have hk0 : ¬ ((k : Int) < 0) := by omega
  have hk1 : Builtin.Itertools.itTooMany (k : Int) = false := by
    unfold Builtin.Itertools.itTooMany
    exact decide_eq_false
          (by omega)
  rw [if_neg hk0]
  rw [hk1, if_neg (by decide)]
  have hal : acc.toList.length = n := by rw [Array.length_toList]; exact hacc.1
  refine wpAny_bind (wpAny_newTuple ?_ (by rw [hal]; exact Nat.le_trans hlen (by decide)))
  refine wpAny_pure ?_
  dsimp only
  rw [Int.toNat_natCast, hal, if_neg (by omega)]
  unfold Builtin.Itertools.itNewRecord
  rw [hd]
  refine wpAny_bind ?_
  simp only [Bool.not_false,
        if_true]
  refine wpAny_newObj_type ?_ ?_
  · refine wpAny_pure ?_
    have e : acc.toList.toArray = acc :=
          by simp
    rw [e]
    exact h h' tk acc hk2 hacc
  · show _ ≤ _
    simp only [List.size_toArray, List.length_append, List.length_cons, List.length_nil, List.length_map, List.length_range]
    rw [sizeLine_eq]
    omega
theorem call_cmb {Q : Value → Shared → Prop} {r : Addr} {a b c : Int} {t u v tk : Tok} {n k : Nat} (hh : A.handled = none) (hr : IsRange s.heap r a b c t u v) (hsmall : Builtin.Range.small a b c = true) (hn : Builtin.Range.rangeSize a b c = n) (hlen : n ≤ 1000) (hk : k ≤ n)
    (h : ∀ (h' : Heap) (tk : Nat) (acc : Array Value), (∀ b o,
          s.heap.get? b = some o → h'.get? b = some o) → ItemsOf (fun i v => ∃ t, v = .int (a + i * c) t) acc n →
      Q (.ref (h'.push { cls := .type "tuple", data := .seq acc }).objs.size) { s with heap := (h'.push { cls := .type "tuple", data := .seq acc }).push { cls := .type "itertools.combinations", data := .fields (Value.ref h'.objs.size :: .int 0 0 :: .none :: (List.range k).map fun (n : Nat) => Value.int n 0).toArray }, toks := tk }) :
    wpAny (model prog w) A (call (.type "itertools.combinations") [.ref r, .int k tk]) Q E s := by
  refine callType_codes (Q₁ := fun obj s₁ => s₁.TypeIs obj "itertools.combinations" ∧ Q obj s₁) called_cmb (typeCall_cmb_2 _ _) F.entry_object_init
    (code_cmb_new (A := A.in1) hh hr hsmall hn hlen hk fun h' tk acc hk hacc => ⟨⟨_, Heap.get?_push_size _ rfl, rfl⟩, h h' tk acc hk hacc⟩) fun obj s₁ h₁ => ?_
  exact ⟨h₁.1, F.args_object_init_3 obj _ _, object_init_meets called_cmb.init.lookup called_cmb.made (by decide) prog w A.in1 _ s₁ ⟨h₁.1, rfl, h₁.2⟩⟩
/-! the next one, the end -/
theorem next_first {it pool : Addr} {last : Value} {ix : List Nat} {xs : Array Value} {Q : Option Value → Shared → Prop} (hit : IsCmb s.heap it pool 0 last ix) (hp : IsPool s.heap pool xs) (hz : ix.length ≤ 1000) (hne : pool ≠ it)
    (hQ : ∀ h' h'', IsCmb h' it pool 1 last ix → Heap.SameBut it s.heap h' → IsCmb h'' it pool 1 (.ref h'.objs.size) ix → Heap.SameBut it (h'.push (picked xs ix)) h'' → Q (some (.ref h'.objs.size)) { s with heap := h'' }) : wpAny (model prog w) A (pyNext (.ref it)) Q E s := by
  unfold pyNext
  exact wpAny_bind (wpAny_attempt (cmb_first hit hp hz hne fun h' h'' q1 q2 q3 q4 => wpAny_pure (hQ h' h'' q1 q2 q3 q4)))
theorem next_more {it pool : Addr} {last : Value} {ix ix' : List Nat} {xs : Array Value} {Q : Option Value → Shared → Prop} (hit : IsCmb s.heap it pool 1 last ix) (hp : IsPool s.heap pool xs) (hz : ix'.length ≤ 1000) (hne : pool ≠ it) (hn : nextC xs.size ix = some ix')
    (hQ : ∀ h' h'', IsCmb h' it pool 1 last ix' → Heap.SameBut it s.heap h' → IsCmb h'' it pool 1 (.ref h'.objs.size) ix' → Heap.SameBut it (h'.push (picked xs ix')) h'' → Q (some (.ref h'.objs.size)) { s with heap := h'' }) : wpAny (model prog w) A (pyNext (.ref it)) Q E s := by
  unfold pyNext
  exact wpAny_bind (wpAny_attempt (cmb_more hit hp hz hne hn fun h' h'' q1 q2 q3 q4 => wpAny_pure (hQ h' h'' q1 q2 q3 q4)))
theorem next_end {it pool : Addr} {last : Value} {ix : List Nat} {xs : Array Value} {Q : Option Value → Shared → Prop} (hh : A.handled = none) (hit : IsCmb s.heap it pool 1 last ix) (hp : IsPool s.heap pool xs) (hn : nextC xs.size ix = none)
    (hQ : ∀ h', Heap.ExtBut it s.heap h' → Q none { s with heap :=
          h' }) : wpAny (model prog w) A (pyNext (.ref it)) Q E s := by
  unfold pyNext
  refine wpAny_bind (wpAny_attempt (cmb_end hh hit hp hn fun e h' st eb => ?_))
  obtain ⟨a, o, vs, rfl, ho, hc, hd, _⟩ := st
  refine wpAny_bind (wpAny_isInstance (T := "StopIteration") (b := true) ⟨_, ho, hc⟩ isSubtype_stop ?_)
  exact wpAny_pure (hQ _ eb)
end
end CmbKit


set_option
      maxHeartbeats 4000000
namespace L2
open PySem PySem.Spec PyProof.Rows CmbKit
/-- the i-th of the combinations -/
def cmbAt (n r : Nat) : Nat → Option (List Nat)
  | 0 => some (List.range r)
  | i + 1 => (cmbAt n r i).bind (nextC n)
theorem nextC_len {n : Nat} {ix ix' : List Nat} (h : nextC n ix = some ix') : ix'.length = ix.length := by
  unfold nextC at h
  split at h
  · cases h
  · rename_i i hi
    cases h
    have m := List.mem_of_find?_eq_some hi
    rw [List.mem_reverse, List.mem_range] at m
    rw [List.length_append, List.length_take, List.length_map, List.length_range]
    omega
theorem cmbAt_len {n r : Nat} : ∀ {i : Nat} {ix : List Nat}, cmbAt n r i = some ix → ix.length = r
  | 0, ix, h => by
    cases h
    exact List.length_range
  | i + 1, ix, h => by
    unfold cmbAt at h
    cases e : cmbAt n r i with
    | none =>
          rw [e] at h; cases h
    | some jx =>
      rw [e] at h
      exact (nextC_len h).trans (cmbAt_len e)
theorem vals_getD {ws : List V} {us : Array Value} (h : Vals ws us.toList) (i : Nat) : RelV (ws.getD i .non) (us.getD i .none) := by
  have gen : ∀ {ws : List V} {us : List Value}, Vals ws us → ∀ i : Nat, RelV (ws.getD i .non) (us.getD i .none) := by
    intro ws us h
    induction h with
    | nil => intro i; exact rfl
    | cons r _ ih =>
      intro i
      cases i with
      | zero => exact r
      | succ i => exact ih i
  have := gen h i
  rw [Array.getD_eq_getD_getElem?]
  rw [List.getD_eq_getElem?_getD (l := us.toList)] at this
  rw [← Array.getElem?_toList]
  exact this
theorem vals_pick {ws : List V} {us : Array Value} (h : Vals ws us.toList) : ∀ ix : List Nat, Vals (ix.map fun i => ws.getD i .non) (ix.map fun i => us.getD i .none)
  | [] => .nil
  | i :: ix => .cons (vals_getD h i) (vals_pick h ix)
def Itcm (n r : Nat) (ws : List V) : It := ⟨fun i _ => (cmbAt n r i).isSome = true, fun i H v H' => ∃ T ix, cmbAt n r i = some ix ∧ v = .ref T ∧ H T = none ∧ H' = upd H T (.tup (ix.map fun i => ws.getD i .non)), fun i _ => cmbAt n r i = none⟩
def CmAt (n r : Nat) (pool it : Addr) (us : Array Value) (i : Nat) (h : Heap) : Prop := IsPool h pool us ∧ pool ≠ it ∧ match i with
  | 0 => IsCmb h it pool 0 .none (List.range r)
  | k + 1 => ∃ last ix, cmbAt n r k = some ix ∧ IsCmb h it pool 1 last ix
theorem turn_cmb {P : Program} {w : World} {K : PySem.W.Frag} {tg : Expr} {it pool : Addr} {ws : List V} {us : Array Value} {r : Nat} (hv : Vals ws us.toList) (hr : r ≤ 1000) : Turn P w K tg (Itcm us.size r ws) [it, pool] it (CmAt us.size r pool it us) where
  mem := by simp
  obj := fun i h st b hb => by
    obtain ⟨h1, h2, h3⟩ := st
    simp only [List.mem_cons,
          List.not_mem_nil, or_false] at hb
    rcases hb with rfl | rfl
    · cases i with
      | zero => exact ⟨_, h3, fun v z => by cases z⟩
      | succ i => obtain ⟨l, ix, _, h3⟩ := h3; exact ⟨_, h3, fun v z => by cases z⟩
    · exact ⟨_, h1, fun v z => by cases z⟩
  keep := fun i h h' st k => by
    obtain ⟨h1, h2, h3⟩ := st
    refine ⟨k pool (by simp) _ h1, h2, ?_⟩
    cases i with
    | zero => exact k it (by simp) _ h3
    | succ i => obtain ⟨l, ix, e, h3⟩ := h3; exact ⟨l, ix, e, k it (by simp) _ h3⟩
  item := by
    intro X hP hw hK hc i
          pins s σ H E I hf st hg
    subst hP hw hK
    obtain ⟨f0, f1, f2, f3,
          f4, f5⟩ := hf it (by simp)
    have p0 := (hf pool (by simp)).1
    obtain ⟨h1, h2, h3⟩ := st
    have fin : ∀ (h' h'' : Heap) (ix : List Nat) (last : Value), ix.length ≤ 1000 → cmbAt us.size r i = some ix → IsCmb h' it pool 1 last ix → Heap.SameBut it s.heap h' → IsCmb h'' it pool 1 (.ref h'.objs.size) ix → Heap.SameBut it (h'.push (picked us ix)) h'' →
        ∃ u, (some (Value.ref h'.objs.size) : Option Value) = some u ∧ wpAny (model X.prog X.w) X.A (letOwnedTupleGo tg (.ref it) u) (fun _ s2 => ∃ x H', Inv X pins σ H' s2 ∧ RelV x u ∧ (Itcm us.size r ws).yld i H x H' ∧ CmAt us.size r pool it us (i + 1) s2.heap ∧ ∀ b ∈ [it, pool], H' b = none) E { s with heap := h'' } := by
      intro h' h'' ix last hz hi q1 q2 q3 q4
      have IA : Inv X pins σ H { s with heap := h' } := I.turned (t' := s.toks) (fun b o hb e => q2.extBut b o hb e) f0 f1 f3 f4 f5
      have IB : Inv X pins σ (upd H h'.objs.size (.tup (ix.map fun i => ws.getD i .non))) { s with heap := h'.push (picked us ix) } :=
        IA.laid (t' := s.toks) (fun b o e => Heap.get?_push_of_some _ e) (Nat.le_refl _) (show ObjOk X.prog X.w _ _ _ (.tup _) from ⟨by rw [List.length_map]; exact Nat.le_trans hz (by decide), _, vals_pick hv ix, IsTup.new _ _⟩)
      have T0 : H h'.objs.size = none := IA.hok.fresh (Nat.le_refl _)
      have nit : it ≠ h'.objs.size := Nat.ne_of_lt (Heap.lt_size q1)
      have hp' : h'.get? pool = some _ := (q2.2 pool h2).trans h1
      have npo : pool ≠ h'.objs.size := Nat.ne_of_lt (Heap.lt_size hp')
      have IC : Inv X pins σ (upd H h'.objs.size (.tup (ix.map fun i => ws.getD i .non))) { s with heap := h'' } := IB.turned (t' := s.toks) (fun b o hb e => q4.extBut b o hb e) (by rw [upd_ne nit]; exact f0) f1 f3 f4 f5
      refine ⟨_, rfl, go_of (s := { s with heap := h'' }) q3 rfl rfl (by decide) ⟨.ref h'.objs.size, _, IC, rfl, ⟨_, ix, hi, rfl, T0, rfl⟩, ⟨(q4.2 pool h2).trans (Heap.get?_push_of_some _ hp'), h2, _, ix, hi, q3⟩, fun b hb => ?_⟩⟩
      simp only [List.mem_cons,
            List.not_mem_nil, or_false] at hb
      rcases hb with rfl | rfl
      · rw [upd_ne nit]; exact f0
      · rw [upd_ne npo]; exact p0
    cases i with
    | zero => exact next_first h3 h1 (by rw [List.length_range]; exact hr) h2 fun h' h'' q1 q2 q3 q4 => fin h' h'' _ _ (by rw [List.length_range]; exact hr) rfl q1 q2 q3 q4
    | succ i =>
      obtain ⟨last, ix, e, h3⟩ := h3
      obtain ⟨ix', hix⟩ := Option.isSome_iff_exists.mp (show (cmbAt us.size r (i + 1)).isSome = true from hg)
      have hn : nextC us.size ix = some ix' := by
        unfold cmbAt at hix
        rw [e] at hix
        exact hix
      have hl : ix'.length ≤ 1000 := by rw [cmbAt_len hix]; exact hr
      exact next_more h3 h1 hl h2 hn fun h' h'' q1 q2 q3 q4 => fin h' h'' _ _ hl hix q1 q2 q3 q4
  done := by
    intro X hP hw hK hc i
          pins s σ H E I hf st hg
    subst hP hw hK
    obtain ⟨f0, f1, f2, f3,
          f4, f5⟩ := hf it (by simp)
    obtain ⟨h1, h2, h3⟩ := st
    cases i with
    | zero => cases hg
    | succ i =>
      obtain ⟨last, ix, e, h3⟩ := h3
      have hn : nextC us.size ix = none := by
        have hg : cmbAt us.size r (i + 1) = none := hg
        unfold cmbAt at hg
        rw [e] at hg
        exact hg
      exact CmbKit.next_end (I.ok.hd hc) h3 h1 hn fun h' eb => ⟨rfl, I.turned (t' := s.toks) (fun b o hb e => eb b o hb e) f0 f1 f3 f4 f5⟩
  self := fun A i
        s Q E st h => by
    obtain ⟨h1, h2, h3⟩ := st
    cases i with
    | zero => exact iter_cmb h3 h
    | succ i => obtain ⟨last, ix, e, h3⟩ := h3; exact iter_cmb h3 h
end L2


set_option
      maxHeartbeats 4000000
namespace L2
open PySem PySem.Spec PyProof.Rows CmbKit
/-- a range that nothing else speaks of -/
def PRgF (X : Cx) (e : Expr) (t : St → Hp → (Int → Hp → Prop) → Prop) : Prop :=
  ∀ (pins : List (Addr × Obj)) (s : Shared) (σ : St) (H : Hp) (Q : Int → Hp → Prop), Inv X pins σ H s → t σ H Q →
    wpAny (model X.prog X.w) X.A (eval e X.env) (fun x s' => ∃ r n t u v H', x = .ref r ∧ IsRange s'.heap r 0 n 1 t u v ∧ Inv X pins σ H' s' ∧ FpOk X pins H' r ∧ Q n H') X.xe s
section
variable {X : Cx} {a b : Expr} {ta tb : TE}
def tRgF (ta : TE) : St → Hp → (Int → Hp → Prop) → Prop := fun σ H Q => ta σ H fun x H1 => ∃ n, x = .int n ∧ Q n H1
theorem prgF {p pos : Pos} (hg : Gl X "range") (hm : X.mg "range" = none) (ha : PE X a ta) (na : starEach [a] X.env = (false, eval a X.env) :: starEach [] X.env := by rfl) : PRgF X (.Call (.Name "range" p) [a] [] pos) (tRgF ta) := by
  intro pins s σ H Q I h
  refine Call_ (ld_blt I hg hm boot_range (PyProof.Rows.callWith_type1
        (one_arg ha I h (fun v s2 x H2 I2 r q => ?_) na) na))
  obtain ⟨n, rfl, q⟩ := q
  obtain ⟨t, rfl⟩ := r
  exact call_range_1 ⟨_, n, _, _, _, H2, rfl, IsRange.new _ _ _ _ _ _ _, I2.kept fun b u e => Heap.get?_push_of_some _ e, I2.fpOk (Nat.le_refl _) (I2.hok.fresh (Nat.le_refl _)), q⟩
def iCmb (ta tb : TE) : TI := fun σ H R => ta σ H fun x H1 => ∃ n : Int, x = .int n ∧ ∃ m : Nat, n = (m : Int) ∧ m ≤ 1000 ∧ tb σ H1 fun y H2 => ∃ k : Nat, y = .int (k : Int) ∧ k ≤ m ∧ R (Itcm m k (rgV 0 m)) H2
theorem pi_cmb {tg : Expr} {p p2 p3 pos : Pos} (hc : X.calm = true) (hg : Gl X "combinations") (hm : X.mg "combinations" = some (.type "itertools.combinations")) (hg2 : Gl X "range") (hm2 : X.mg "range" = none) (ha : PE X a ta) (hb : PE X b tb)
    (n0 : starEach [a] X.env = (false, eval a X.env) :: starEach [] X.env := by rfl) (n1 : starEach [.Call (.Name "range" p2) [a] [] p3, b] X.env = (false, eval (.Call (.Name "range" p2) [a] [] p3) X.env) :: starEach [b] X.env := by rfl) (n2 : starEach [b] X.env = (false, eval b X.env) :: starEach [] X.env := by rfl) (hpl : (backTo pos (starEach [b] X.env)).any (·.1) = false := by rfl) :
    PI X tg (.Call (.Name "combinations" p) [.Call (.Name "range" p2) [a] [] p3, b] [] pos) (iCmb ta tb) := by
  refine ⟨fun pins s σ H R I h =>
        ?_⟩
  refine Call_ (ld_glob I hg hm (PyProof.Rows.callWith_type1 (args_cons (thn (prgF hg2 hm2 ha n0 pins s σ H (fun n H1 => ∃ m : Nat, n = (m : Int) ∧ m ≤ 1000 ∧ tb σ H1 fun y H2 => ∃ k : Nat, y = .int (k : Int) ∧ k ≤ m ∧ R (Itcm m k (rgV 0 m)) H2) I ?_) fun x s1 z => ?_) n1) n1 hpl))
  · exact h
  · obtain ⟨r, _, t, u, v, H1, rfl, hr, I1, fk, m, rfl, hm1, q⟩ := z
    have IP : Inv X (pins ++ [(r, { cls := .type "range", data := .fields #[.int 0 t, .int m u, .int 1 v] })]) σ H1 s1 := I1.pins_of fun p hp => by
      rcases List.mem_append.mp
            hp with hp | hp
      · exact I1.pin p (List.mem_append_right _ hp)
      · rw [List.mem_singleton.mp
            hp]
        exact ⟨hr, fk.1, fk.2.1, fk.2.2.1, fun v z => by cases z⟩
    refine args_cons (thn (hb.run _ s1 σ H1 _ IP q) fun y s2 z => ?_) n2
    obtain ⟨yv, H2, J, ry, k, rfl, hk, q2⟩ := z
    obtain ⟨tk, rfl⟩ := ry
    refine args_nil ?_
    have hr2 : IsRange s2.heap r 0 m 1 t u v := (J.pin (r, _) (List.mem_append_right _ (List.mem_append_right _ (List.mem_singleton.mpr rfl)))).1
    have I2 : Inv X pins σ H2 s2 := J.pins_of fun p hp => J.pin p (List.mem_append_right _ (List.mem_append_left _ hp))
    refine call_cmb (n := m) (I2.ok.hd hc) hr2 (small_one (by decide) (by decide) (by omega) (by omega)) (by have := rangeSize_nat 0 (m : Int); simpa using this) hm1 hk fun h' tk2 acc hkp hi => ?_
    have IA : Inv X pins σ H2 { s2 with heap := h', toks := tk2 } := I2.kept hkp
    have IB : Inv X pins σ H2 { s2 with heap := h'.push { cls := .type "tuple", data := .seq acc }, toks := tk2 } := IA.kept (t' := tk2) fun b o e => Heap.get?_push_of_some _ e
    have hacc : acc.size = m := hi.1
    have hit : IsCmb ((h'.push { cls := .type "tuple", data := .seq acc }).push { cls := .type "itertools.combinations", data := .fields (Value.ref h'.objs.size :: .int 0 0 :: .none :: (List.range k).map fun (n : Nat) => Value.int n 0).toArray }) (h'.push { cls := .type "tuple", data := .seq acc }).objs.size h'.objs.size 0 .none (List.range k) := Heap.get?_push_size _ rfl
    have hpo : IsPool ((h'.push { cls := .type "tuple", data := .seq acc }).push { cls := .type "itertools.combinations", data := .fields (Value.ref h'.objs.size :: .int 0 0 :: .none :: (List.range k).map fun (n : Nat) => Value.int n 0).toArray }) h'.objs.size acc := Heap.get?_push_of_some _ (Heap.get?_push_size _ rfl)
    have hne : h'.objs.size ≠ (h'.push { cls := .type "tuple", data := .seq acc }).objs.size := Nat.ne_of_lt (Heap.lt_size (Heap.get?_push_size _ rfl))
    have IC : Inv X pins σ H2 { s2 with heap := (h'.push { cls := .type "tuple", data := .seq acc }).push { cls := .type "itertools.combinations", data := .fields (Value.ref h'.objs.size :: .int 0 0 :: .none :: (List.range k).map fun (n : Nat) => Value.int n 0).toArray }, toks := tk2 } := IB.kept (t' := tk2) fun b o e => Heap.get?_push_of_some _ e
    refine iter_cmb hit ?_
    have em : ((m : Int) - 0).toNat = m := by simp
    have hvs : Vals (rgV 0 (m : Int)) acc.toList := vals_rg (by rw [em]; exact hi)
    refine ⟨_, [(h'.push { cls := .type "tuple", data := .seq acc }).objs.size, h'.objs.size], _, _, H2, rfl, IC, turn_cmb (r := k) hvs (by omega), ⟨hpo, hne, hit⟩, fun b hb => ?_, by rw [hacc]; exact q2⟩
    simp only [List.mem_cons,
          List.not_mem_nil, or_false] at hb
    rcases hb with rfl | rfl
    · exact IB.fpOk (Nat.le_refl _) (IB.hok.fresh (Nat.le_refl _))
    · exact IA.fpOk (Nat.le_refl _) (IA.hok.fresh (Nat.le_refl _))
end
end L2


set_option
      maxHeartbeats 4000000
namespace L2.DL
open PySem PySem.Spec PyProof.Rows CmbKit
/-! ### for x in combinations(range(n), k) -/
def cmbFrom (n : Nat) : Nat → List Nat → List (List Nat)
  | 0, _ => []
  | f + 1, ix => ix :: match nextC n ix with
    | none => []
    | some j => cmbFrom n f j
def cmbs (n r : Nat) : List (List Nat) := cmbFrom n 130 (List.range r)
theorem cmbFrom_at {n r : Nat} : ∀ {f j : Nat} {ix : List Nat}, cmbAt n r j = some ix → ∀ i, (cmbFrom n f ix)[i]? = none ∨ cmbAt n r (j + i) = (cmbFrom n f ix)[i]?
  | 0, _, _, _, i => .inl rfl
  | f + 1, j, ix, h, 0 => .inr h
  | f + 1, j, ix, h, i + 1 => by
    unfold cmbFrom
    rw [List.getElem?_cons_succ]
    cases e : nextC n ix with
    | none => exact .inl rfl
    | some jx =>
      have h2 : cmbAt n r (j + 1) = some jx := by
        unfold cmbAt
        rw [h]
        exact e
      have := cmbFrom_at (f := f) h2 i
      rw [show j + (i + 1) = j + 1 + i from by omega]
      exact this
theorem cmbFrom_end {n r : Nat} : ∀ {f j : Nat} {ix : List Nat}, cmbAt n r j = some ix → (cmbFrom n f ix).length < f → cmbAt n r (j + (cmbFrom n f ix).length) = none
  | 0, _, _, _, h => absurd h (Nat.not_lt_zero _)
  | f + 1, j, ix, h, hl => by
    unfold cmbFrom at hl ⊢
    cases e : nextC n ix with
    | none =>
      show cmbAt n r (j + 1) = none
      unfold cmbAt
      rw [h]
      exact e
    | some jx =>
      rw [e] at hl
      have h2 : cmbAt n r (j + 1) = some jx := by
        unfold cmbAt
        rw [h]
        exact e
      have := cmbFrom_end (f := f) h2 (by simpa using hl)
      show cmbAt n r (j + ((cmbFrom n f jx).length + 1)) = none
      rw [show j + ((cmbFrom n f jx).length + 1) = j + 1 + (cmbFrom n f jx).length from by omega]
      exact this
def cmbsOk (n r : Nat) : Bool := decide ((cmbs n r).length < 130) && (cmbs n r).all fun ix => ix.all fun i => decide (i < n)
theorem cmbs_ok : ∀ n, n ≤ 8 → ∀ r, r ≤ n → cmbsOk n r = true := by
  have h : ((List.range 9).all fun n => (List.range 9).all fun r => decide (n < r) || cmbsOk n r) = true := by decide +kernel
  intro n hn r hr
  have h1 := List.all_eq_true.mp h n (List.mem_range.mpr (by omega))
  have h2 := List.all_eq_true.mp h1 r (List.mem_range.mpr (by omega))
  rw [decide_eq_false (by omega), Bool.false_or] at h2
  exact h2
def cmD (ix : List Nat) : D := .tuple (ix.map fun (i : Nat) => PyData.int (i : Int))
theorem walkD_cmb {K : PySem.W.Frag} {p : Option Addr} {G : Hp} {n r : Nat} (hn : n ≤ 8) (hr : r ≤ n) : WalkD K p (Itcm n r (rgV 0 n)) ((cmbs n r).map cmD) G := by
  have ok := cmbs_ok n hn r hr
  simp only [cmbsOk, Bool.and_eq_true, decide_eq_true_eq] at ok
  have h0 : cmbAt n r 0 = some (List.range r) := rfl
  have at_ : ∀ i ix, (cmbs n r)[i]? = some ix → cmbAt n r i = some ix := fun i ix h => by
    have := cmbFrom_at (f := 130) h0 i
    rw [Nat.zero_add] at this
    rcases this with e | e
    · rw [show cmbFrom n 130 (List.range r) = cmbs n r from rfl, h] at e; cases e
    · rw [e]; exact h
  refine ⟨fun i H hi s => ?_, fun H s => ?_, fun i H x H' d hd s y => ?_⟩
  · rw [List.length_map] at hi
    show (cmbAt n r i).isSome = true
    rw [at_ i _ (List.getElem?_eq_getElem hi)]
    rfl
  · rw [List.length_map]
    have := cmbFrom_end (f := 130) h0 ok.1
    rw [Nat.zero_add] at this
    exact this
  · obtain ⟨T, ix, e, rfl, T0, rfl⟩ := y
    rw [List.getElem?_map] at hd
    cases hix : (cmbs n r)[i]? with
    | none => rw [hix] at hd; cases hd
    | some jx =>
      rw [hix] at hd
      cases hd
      have e2 := at_ i jx hix
      rw [e] at e2
      cases e2
      refine .inr ⟨T, _, _, rfl, T0, rfl, rfl, ?_⟩
      have hb : ∀ i ∈ ix, i < n := fun i hi => of_decide_eq_true (List.all_eq_true.mp (List.all_eq_true.mp ok.2 ix (List.mem_of_getElem? hix)) i hi)
      have gen : ∀ l : List Nat, (∀ i ∈ l, i < n) → RA K p G (l.map fun i => (rgV 0 (n : Int)).getD i .non) (l.map fun (i : Nat) => PyData.int (i : Int)) := by
        intro l hl
        induction l with
        | nil => exact .nil
        | cons i l ih =>
          refine .cons ?_ (ih fun j hj => hl j (List.mem_cons_of_mem _ hj))
          have hi :=
                hl i List.mem_cons_self
          have ev : (rgV 0 (n : Int)).getD i .non = .int (i : Int) := by
            unfold rgV
            rw [List.getD_eq_getElem?_getD, List.getElem?_map, List.getElem?_range (by simpa using hi)]
            simp
          show R K p G ((rgV 0 (n : Int)).getD i .non) (.int (i : Int))
          rw [ev]
          exact .int _
      exact gen ix hb
def wCmb (wa wb : WEx) : WAx := fun e Q x => wa e (fun d e1 => ∃ n : Nat, d = .int (n : Int) ∧ n ≤ 8 ∧ wb e1 (fun d' e2 => ∃ k : Nat, d' = .int (k : Int) ∧ k ≤ n ∧ Q ((cmbs n k).map cmD) e2) x) x
section
variable {X : Cx} {F : Fx} {tg a b : Expr} {wa wb : WEx}
theorem wCmb.mono (m : Mono wa) (m' : Mono wb) : MonoA (wCmb wa wb) := fun e Q Q' x x' h1 h2 q => m e _ _ _ _ (fun d e1 ⟨n, i1, i2, z⟩ => ⟨n, i1, i2, m' e1 _ _ _ _ (fun d' e2 ⟨k, j1, j2, z⟩ => ⟨k, j1, j2, h1 _ _ z⟩) h2 z⟩) h2 q
theorem di_cmb {p p2 p3 pos : Pos} (hc : X.calm = true) (h : DE X F a wa) (h' : DE X F b wb) (hm : X.mg "combinations" = some (.type "itertools.combinations")) (hm2 : X.mg "range" = none) (hg : Gl X "combinations" := by rfl) (hg2 : Gl X "range" := by rfl)
    (n0 : starEach [a] X.env = (false, eval a X.env) :: starEach [] X.env := by rfl) (n1 : starEach [.Call (.Name "range" p2) [a] [] p3, b] X.env = (false, eval (.Call (.Name "range" p2) [a] [] p3) X.env) :: starEach [b] X.env := by rfl) (n2 : starEach [b] X.env = (false, eval b X.env) :: starEach [] X.env := by rfl) (hpl : (backTo pos (starEach [b] X.env)).any (·.1) = false := by rfl) :
    DI X F tg (.Call (.Name "combinations" p) [.Call (.Name "range" p2) [a] [] p3, b] [] pos) (wCmb wa wb) :=
  di_of (pi_cmb hc hg hm hg2 hm2 h.run h'.run n0 n1 n2 hpl) (wCmb.mono h.mono h'.mono) fun σ H R ⟨e, G, r, z⟩ => by
    refine tE.mono h.mono (fun v H1 z => ?_) (tE.any h.mono r z)
    obtain ⟨e1, G1, d, s1, r1, rd, n, rfl, hn, z⟩ := z
    cases rd.int_inv
    refine ⟨_, rfl, n, rfl, by omega, ?_⟩
    refine tE.mono h'.mono (fun v' H2 z => ?_) (tE.any h'.mono r1 (h'.mono e1 _ _ _ _ (fun _ _ z => z) (fun _ _ => PX.mono s1) z))
    obtain ⟨e2, G2, d', s2, r2, rd', k, rfl, hk, z⟩ := z
    cases rd'.int_inv
    exact ⟨k, rfl, hk, z _ G2 H2 (s1.trans s2) r2 (walkD_cmb hn hk)⟩
end
/-! ### any(list of bools) -/
def anyD : BL
  | [.list xs], P => ∃ bs : List Bool, xs = bs.map PyData.bool ∧ P (.bool (bs.any id))
  | _, _ => False
theorem anyD.mono : BL.Mono anyD := by
  intro a P P' h q
  unfold anyD at q ⊢
  split at q
  · obtain ⟨bs, e, z⟩ := q; exact ⟨bs, e, h _ z⟩
  · exact q.elim
theorem fitsAny {K : PySem.W.Frag} : FitsL K anyD (rAny K) := by
  intro p G₀ H₀ G H σ e xs ds P Q r ra q k
  unfold anyD at q
  split at q
  · obtain ⟨x, rfl, rx⟩ := ra.one
    obtain ⟨a, ys, rfl, h1, r1⟩ := rx.lst_inv
    obtain ⟨bs, e1, z⟩ := q
    subst e1
    have ey := r1.ofBools
    subst ey
    exact ⟨a, bs, rfl, SqL.of (r.same _ _ h1), ans r (.bl _) k z⟩
  · exact q.elim
/-! ### tuple(range(n)) -/
def wTRg (w : WEx) : WEx := fun e Q x => w e (fun d e1 => ∃ j : Nat, d = .int j ∧ j ≤ 1000 ∧ Q (.tuple (rngD 0 j)) e1) x
section
variable {X : Cx} {F : Fx} {pos : Pos} {a : Expr} {wa : WEx}
theorem de_trg {p1 p2 pc : Pos} (h : DE X F a wa) (hc : X.calm = true) (hm : X.mg "tuple" = none) (hm2 : X.mg "range" = none) (hg : Gl X "tuple" := by rfl) (hg2 : Gl X "range" := by rfl) (na : starEach [a] X.env = (false, eval a X.env) :: starEach [] X.env := by rfl)
    (nb : starEach [.Call (.Name "range" p2) [a] [] pc] X.env = (false, eval (.Call (.Name "range" p2) [a] [] pc) X.env) :: starEach [] X.env := by rfl) : DE X F (.Call (.Name "tuple" p1) [.Call (.Name "range" p2) [a] [] pc] [] pos) (wTRg wa) :=
  de_of (pe_tupRg hc hg hm (prg_1 hg2 hm2 h.run na) nb) (fun e Q Q' x x' h1 h2 q => h.mono e _ _ _ _ (fun d e1 ⟨j, i1, i2, z⟩ => ⟨j, i1, i2, h1 _ _ z⟩) h2 q) fun σ H Q ⟨e, G, r, q⟩ =>
    ⟨e, G, r, h.mono e _ _ _ _ (fun d e1 ⟨j, i1, i2, z⟩ u G' H' s r' rv => by
      subst i1
      cases rv.int_inv
      refine ⟨j, rfl, .of_le (by decide) (by omega) (by decide) (by omega), fun q hq => ?_⟩
      have e0 : rgV 0 (j : Int) = (List.range j).map fun i => V.int (0 + (i : Nat)) := by
        unfold rgV
        rw [Int.sub_zero, Int.toNat_natCast]
      rw [e0]
      exact z _ (L2.upd G' q (.tup _)) _ (s.trans (sameNew r'.same hq)) (r'.new hq) (.tup (SqT.of upd_same) (ra_rng 0 j))) (fun _ _ z => z) q⟩
end
theorem mem_cmbs {n r : Nat} {ix : List Nat} (hn : n ≤ 8) (hr : r ≤ n) (h : ix ∈ cmbs n r) : (∀ i ∈ ix, i < n) ∧ ix.length = r := by
  have ok := cmbs_ok n hn r hr
  simp only [cmbsOk, Bool.and_eq_true, decide_eq_true_eq] at ok
  refine ⟨fun i hi => of_decide_eq_true (List.all_eq_true.mp (List.all_eq_true.mp ok.2 ix h) i hi), ?_⟩
  obtain ⟨i, hi⟩ := List.mem_iff_getElem?.mp h
  have h0 : cmbAt n r 0 = some (List.range r) := rfl
  have := cmbFrom_at (f := 130) h0 i
  rcases this with e | e
  · rw [show cmbFrom n 130 (List.range r) = cmbs n r from rfl, hi] at e; cases e
  · rw [show cmbFrom n 130 (List.range r) = cmbs n r from rfl, hi] at e
    exact cmbAt_len e
theorem cmbs_zero (n : Nat) : cmbs n 0 = [[]] := rfl
end L2.DL


namespace L2.DL
open PySem PySem.Spec
      PyProof.Rows
/-! ### sorted(xs), xs a list of data that are alike -/
abbrev srtD (ds : List D) : List D := ds.mergeSort (PySem.W.dataLe false id)
def rSortData (K : PySem.W.Frag) : List V → Hp → VK → Prop := fun xs H Q => ∃ (a : Addr) (vs : List V) (ds : List D), xs = [.ref a] ∧ SqL K H a vs ∧ DpAll K H vs ds ∧ vs.length = ds.length ∧ (∀ d ∈ ds, d.depth ≤ 50) ∧ PySem.W.AllAlike ds ∧ PySem.W.Sortable ds ∧
  ∀ p, H p = none → Q (.ref p) (upd H p (.lst (((vs.zip ds).mergeSort (PySem.W.dataLe false Prod.snd)).map Prod.fst)))
theorem each_zip : ∀ {vs : List V} {us : List Value} {ds : List D}, Vals vs us → vs.length = ds.length → PySem.W.EachIs (fun u (p : V × D) => RelV p.1 u) us (vs.zip ds)
  | [], _, [], .nil, _ => .nil
  | v :: vs, _, d :: ds, .cons r rs, h => .cons r (each_zip rs (by simpa using h))
theorem each_read {X : Cx} {pins : List (Addr × Obj)} {σ : L2.St} {H : Hp} {s : Shared} (I : Inv X pins σ H s) : ∀ {vs : List V} {us : List Value} {ds : List D}, Vals vs us → DpAll X.K H vs ds → PySem.W.EachIs (fun u (p : V × D) => ∃ as, Reads s.heap u p.2 as) us (vs.zip ds)
  | [], _, [], .nil, .nil => .nil
  | v :: vs, _, d :: ds, .cons r rs, .cons q qs => .cons (q.reads I _ _ _ r) (each_read I rs qs)
theorem vals_of_each : ∀ {us : List Value} {ps : List (V × D)}, PySem.W.EachIs (fun u (p : V × D) => RelV p.1 u) us ps → Vals (ps.map Prod.fst) us
  | [], [], .nil => .nil
  | _ :: _, _ :: _, .cons r rs => .cons r (vals_of_each rs)
theorem zip_snd : ∀ {vs : List V} {ds : List D}, vs.length = ds.length → (vs.zip ds).map Prod.snd = ds
  | [], [], _ => rfl
  | v :: vs, d :: ds, h => by rw [List.zip_cons_cons, List.map_cons, zip_snd (by simpa using h)]
theorem cr_sortData {X : Cx} (hu : X.A.units + 64 < cLine) : CallR X (.builtin "sorted") (rSortData X.K) := by
  intro pins s σ
        H xs us Q I r h
  obtain ⟨a, vs, ds, rfl, hs, hd, hl, hdp, hal, hk, q⟩ := h
  rw [Vals.ref1 r]
  obtain ⟨its, rv,
        pl, hz⟩ := I.list hs
  have hb : (vs.zip ds).length = vs.length := by rw [List.length_zip, hl, Nat.min_self]
  refine PySem.W.sorted_data (enc := Prod.snd) pl.isList (each_zip rv hl) (each_read I rv hd) (by rw [zip_snd hl]; exact hal) (by rw [zip_snd hl]; exact hk) (by omega) (fun p hp => ?_) fun out ho eo => ?_
  · have : p.2 ∈ ds := by
      rw [← zip_snd hl]
      exact List.mem_map.mpr ⟨p, hp, rfl⟩
    have := hdp _ this
    omega
  · refine ⟨.ref (s.heap.objs.size + 1), upd H (s.heap.objs.size + 1) (.lst (((vs.zip ds).mergeSort (PySem.W.dataLe false Prod.snd)).map Prod.fst)), I.laid (t' := s.toks) (fun b u z => sortedAll_old z) (Nat.le_succ _) ⟨?_, out, (sortedAll_at s.heap its (List.toArray out)).choose, vals_of_each eo, ?_⟩, rfl, q _ (I.hok.fresh (Nat.le_succ _))⟩
    · rw [List.length_map, (List.mergeSort_perm _ _).length_eq, hb]
      exact hz
    · exact (sortedAll_at s.heap its (List.toArray out)).choose_spec
/-- what is alike to itself and to the others -/
def sortData : BL
  | [.list ds], P => Good (.list ds) ∧ PySem.W.AllAlike ds ∧ PySem.W.Sortable ds ∧ P (.list (srtD ds))
  | _, _ => False
theorem sortData.mono : BL.Mono sortData := by
  intro a P P' h q
  unfold sortData at q ⊢
  split at q
  · obtain ⟨g, e, f, z⟩ := q
    exact ⟨g, e, f, h _ z⟩
  · exact q.elim
theorem RA.ofZip {K : PySem.W.Frag} {p : Option Addr} {G : Hp} : ∀ {vs : List V} {ds : List D}, RA K p G vs ds → ∀ z ∈ vs.zip ds, R K p G z.1 z.2
  | _, _, .nil, z, h => nomatch h
  | _, _, .cons r rs, z, h => by
    rw [List.zip_cons_cons] at h
    rcases List.mem_cons.mp h with h | h
    · rw [h]; exact r
    · exact RA.ofZip rs z h
theorem RA.ofPairs {K : PySem.W.Frag} {p : Option Addr} {G : Hp} : ∀ {zs : List (V × D)}, (∀ z ∈ zs, R K p G z.1 z.2) → RA K p G (zs.map Prod.fst) (zs.map Prod.snd)
  | [], _ => .nil
  | z :: zs, h => .cons (h z List.mem_cons_self) (RA.ofPairs fun y hy => h y (List.mem_cons_of_mem _ hy))
theorem fitsSortData {K : PySem.W.Frag} : FitsL K sortData (rSortData K) := by
  intro p G₀ H₀ G H σ e xs ds P Q r ra q k
  unfold sortData at q
  split at q
  · obtain ⟨x, rfl, rx⟩ := ra.one
    obtain ⟨a, ys, rfl, h1, r1⟩ := rx.lst_inv
    obtain ⟨g, e1, f1, z⟩ := q
    rename_i ds
    have nd := g.noDict
    simp only [PyData.hasDict] at nd
    refine ⟨a, ys, ds, rfl, SqL.of (r.same _ _ h1), r1.dp r.same nd, r1.length, fun d hd => ?_, e1, f1, fun q hq => ?_⟩
    · have := g.d
      simp only [PyData.depth] at this
      have := depthAll_mem d hd
      omega
    · have e2 : ((ys.zip ds).mergeSort (PySem.W.dataLe false Prod.snd)).map Prod.snd = srtD ds := by
        rw [PySem.W.sort_maps (r := PySem.W.dataLe false Prod.snd) (s := PySem.W.dataLe false id) Prod.snd (fun a _ b _ => rfl), zip_snd r1.length]
      refine ansL r (ds := srtD ds) ?_ k z hq
      rw [← e2]
      exact RA.ofPairs fun z hz => RA.ofZip r1 z ((List.mergeSort_perm _ _).mem_iff.mp hz)
  · exact q.elim
/-! ### max(t), min(t), t a tuple or a list of ints -/
def rMost (K : PySem.W.Frag) (f : Int → List Int → Int) : List V → Hp → VK → Prop := fun xs H Q => ∃ (a : Addr) (n : Int) (ns : List Int), xs = [.ref a] ∧ (SqT K H a ((n :: ns).map V.int) ∨ SqL K H a ((n :: ns).map V.int)) ∧ Q (.int (f n ns)) H
theorem dp_ints {K : PySem.W.Frag} {H : Hp} : ∀ ns : List Int, DpAll K H (ns.map V.int) (ns.map PyData.int)
  | [] => .nil
  | n :: ns => .cons (.int n) (dp_ints ns)
theorem alikeAll_ints {ns : List Int} : PySem.W.AlikeAll (ns.map PyData.int) := by
  refine ⟨fun x hx y hy => ?_, fun x hx => ?_⟩
  · obtain ⟨i, _, rfl⟩ := List.mem_map.mp hx
    obtain ⟨j, _, rfl⟩ := List.mem_map.mp hy
    simp [PySem.W.alike]
  · obtain ⟨i, _, rfl⟩ := List.mem_map.mp hx
    exact fun z => nomatch z
theorem reads_int {h : Heap} {v : Value} {i : Int} {as : List Addr} (r : Reads h v (.int i) as) : RelV (.int i) v := by
  cases r
  exact ⟨_, rfl⟩
theorem cr_max {X : Cx} (hc : X.calm = true) (hu : X.A.units + 64 < cLine) : CallR X (.builtin "max") (rMost X.K fun n ns => ns.foldl max n) := by
  intro pins s σ
        H xs us Q I r h
  obtain ⟨a, n, ns, rfl, h, q⟩ := h
  rw [Vals.ref1 r]
  have dz : PyData.depthAll (.int n :: ns.map PyData.int) = 0 := PySem.W.depth_ints (n :: ns)
  have fin : ∀ (v : Value) (h' : Heap) (tk : Nat) (bs : List Addr), Reads h' v (PySem.W.maxD (.int n) (ns.map PyData.int)) bs → (∀ b o, s.heap.get? b = some o → h'.get? b = some o) → ∃ (y : V) (H' : Hp), Inv X pins σ H' { s with heap := h', toks := tk } ∧ RelV y v ∧ Q y H' := fun v h' tk bs rd kp => by
    rw [PySem.W.maxD_ints] at rd
    exact ⟨_, H, I.kept (t' := tk) kp, reads_int rd, q⟩
  rcases h with h | h
  · obtain ⟨its, rv, pl, hz⟩ := I.tuple h
    obtain ⟨as, hr⟩ := Dp.readsAll I _ _ _ (dp_ints (n :: ns)) rv
    exact PySem.W.max_tuple_data (I.ok.hd hc) pl (by rw [List.toList_toArray]; exact hr) (alikeAll_ints (ns := n :: ns)) (by rw [dz]; omega) fun i v h' tk bs _ rd kp => fin v h' tk bs rd kp
  · obtain ⟨its, rv, pl, hz⟩ := I.list h
    obtain ⟨as, hr⟩ := Dp.readsAll I _ _ _ (dp_ints (n :: ns)) rv
    exact PySem.W.max_list_data (I.ok.hd hc) pl.isList (by rw [List.toList_toArray]; exact hr) (alikeAll_ints (ns := n :: ns)) (by rw [dz]; omega) fun i v h' tk bs _ rd kp => fin v h' tk bs rd kp
theorem cr_min {X : Cx} (hc : X.calm = true) (hu : X.A.units + 64 < cLine) : CallR X (.builtin "min") (rMost X.K fun n ns => ns.foldl min n) := by
  intro pins s σ
        H xs us Q I r h
  obtain ⟨a, n, ns, rfl, h, q⟩ := h
  rw [Vals.ref1 r]
  have dz : PyData.depthAll (.int n :: ns.map PyData.int) = 0 := PySem.W.depth_ints (n :: ns)
  have fin : ∀ (v : Value) (h' : Heap) (tk : Nat) (bs : List Addr), Reads h' v (PySem.W.minD (.int n) (ns.map PyData.int)) bs → (∀ b o, s.heap.get? b = some o → h'.get? b = some o) → ∃ (y : V) (H' : Hp), Inv X pins σ H' { s with heap := h', toks := tk } ∧ RelV y v ∧ Q y H' := fun v h' tk bs rd kp => by
    rw [PySem.W.minD_ints] at rd
    exact ⟨_, H, I.kept (t' := tk) kp, reads_int rd, q⟩
  rcases h with h | h
  · obtain ⟨its, rv, pl, hz⟩ := I.tuple h
    obtain ⟨as, hr⟩ := Dp.readsAll I _ _ _ (dp_ints (n :: ns)) rv
    exact PySem.W.min_tuple_data (I.ok.hd hc) pl (by rw [List.toList_toArray]; exact hr) (alikeAll_ints (ns := n :: ns)) (by rw [dz]; omega) fun i v h' tk bs _ rd kp => fin v h' tk bs rd kp
  · obtain ⟨its, rv, pl, hz⟩ := I.list h
    obtain ⟨as, hr⟩ := Dp.readsAll I _ _ _ (dp_ints (n :: ns)) rv
    exact PySem.W.min_list_data (I.ok.hd hc) pl.isList (by rw [List.toList_toArray]; exact hr) (alikeAll_ints (ns := n :: ns)) (by rw [dz]; omega) fun i v h' tk bs _ rd kp => fin v h' tk bs rd kp
def mostD (f : Int → List Int → Int) : BL
  | [d], P => ∃ (n : Int) (ns : List Int), items d = some ((n :: ns).map PyData.int) ∧ P (.int (f n ns))
  | _, _ => False
abbrev maxI : BL := mostD fun n ns => ns.foldl max n
abbrev minI : BL := mostD fun n ns => ns.foldl min n
theorem mostD.mono {f : Int → List Int → Int} : BL.Mono (mostD f) := by
  intro a P P' h q
  unfold mostD at q ⊢
  split at q
  · obtain ⟨n, ns, e, z⟩ := q
    exact ⟨n, ns, e, h _ z⟩
  · exact q.elim
theorem fitsMost {K : PySem.W.Frag} {f : Int → List Int → Int} : FitsL K (mostD f) (rMost K f) := by
  intro p G₀ H₀ G H σ e xs ds P Q r ra q k
  unfold mostD at q
  split at q
  · obtain ⟨x, rfl, rx⟩ := ra.one
    obtain ⟨n, ns, ei, z⟩ := q
    rename_i d
    cases d <;> simp only [items, Option.some.injEq, reduceCtorEq] at ei
    · obtain ⟨a, ys, rfl, h1, r1⟩ := rx.lst_inv
      subst ei
      have ey := r1.ofInts
      subst ey
      exact ⟨a, n, ns, rfl, .inr (SqL.of (r.same _ _ h1)), ans r (.int _) k z⟩
    · obtain ⟨a, ys, rfl, h1, r1⟩ := rx.tup_inv
      subst ei
      have ey := r1.ofInts
      subst ey
      exact ⟨a, n, ns, rfl, .inl (sameT r.same h1), ans r (.int _) k z⟩
  · exact q.elim
end L2.DL


namespace L2.DL
open PySem PySem.Spec
      PyProof.Rows
/-! ### data without truths: equal are the same -/
mutual
def noBool : D → Bool
  | .none => true
  | .bool _ => false
  | .int _ => true
  | .str _ => true
  | .list xs => noBoolA xs
  | .tuple xs => noBoolA xs
  | .dict _ => false
def noBoolA : List D → Bool
  | [] => true
  | d :: ds => noBool d && noBoolA ds
end
theorem noBoolA_iff : ∀ {ds : List D}, noBoolA ds = true ↔ ∀ d ∈ ds, noBool d = true
  | [] => by simp [noBoolA]
  | d :: ds => by
    unfold noBoolA
    rw [Bool.and_eq_true, noBoolA_iff (ds := ds)]
    simp
mutual
theorem eqv_pure : ∀ {a b : D}, noBool a = true → noBool b = true → (PyData.eqv a b = true ↔ a = b)
  | .none, b, _, h => by cases b <;> simp_all [noBool, PyData.eqv]
  | .bool _, _, h, _ => by simp only [noBool] at h; cases h
  | .dict _, _, h, _ => by simp only [noBool] at h; cases h
  | .int i, b, _, h => by cases b <;> simp_all [noBool, PyData.eqv]
  | .str i, b, _, h => by cases b <;> simp_all [noBool, PyData.eqv]
  | .list xs, b, h, h' => by
    cases b with
    | list ys =>
      simp only [noBool] at h h'
      simp only [PyData.eqv, PyData.list.injEq]
      exact eqv_pureA h h'
    | dict _ => simp only [noBool] at h'; cases h'
    | bool _ => simp only [noBool] at h'; cases h'
    | _ => simp [PyData.eqv]
  | .tuple xs, b, h, h' => by
    cases b with
    | tuple ys =>
      simp only [noBool] at h h'
      simp only [PyData.eqv, PyData.tuple.injEq]
      exact eqv_pureA h h'
    | dict _ => simp only [noBool] at h'; cases h'
    | bool _ => simp only [noBool] at h'; cases h'
    | _ => simp [PyData.eqv]
theorem eqv_pureA : ∀ {xs ys : List D}, noBoolA xs = true → noBoolA ys = true → (PyData.eqvAll xs ys = true ↔ xs = ys)
  | [], [], _, _ => by simp [PyData.eqvAll]
  | [], _ :: _, _, _ => by simp [PyData.eqvAll]
  | _ :: _, [], _, _ => by simp [PyData.eqvAll]
  | x :: xs, y :: ys,
        h, h' => by
    unfold noBoolA at h h'
    rw [Bool.and_eq_true] at h h'
    simp only [PyData.eqvAll, Bool.and_eq_true, List.cons.injEq]
    rw [eqv_pure h.1 h'.1, eqv_pureA h.2 h'.2]
end
/-! ### x or y, x None or a list or a tuple -/
def truD : D → Option Bool
  | .none => some false
  | .bool b => some b
  | .list xs => some (!xs.isEmpty)
  | .tuple xs => some (!xs.isEmpty)
  | _ => none
def wOrD (wa wb : WEx) : WEx := fun e Q x => wa e (fun d e1 => ∃ c, truD d = some c ∧ if c = true then Q d e1 else wb e1 Q x) x
section
variable {X : Cx} {F : Fx} {pos : Pos} {a b : Expr} {rest : List Expr} {wa wb : WEx}
theorem truD_V {K : PySem.W.Frag} {p : Option Addr} {G H : Hp} {v : V} {d : D} {k : Bool} (s : Same G H) (r : R K p G v d) (h : truD d = some k) : TruV K v H k := by
  have em : ∀ {vs : List V} {ds : List D}, RA K p G vs ds → (!ds.isEmpty) = !vs.isEmpty := fun r => by cases r <;> rfl
  cases d <;> simp only [truD, Option.some.injEq, reduceCtorEq] at h
  · subst h
    cases r.non_inv
    rfl
  · subst h
    cases r.bl_inv
    rfl
  · obtain ⟨a, ys, rfl, h1, r1⟩ := r.lst_inv
    exact .inl ⟨ys, SqL.of (s _ _ h1), by rw [← h, em r1]⟩
  · obtain ⟨a, ys, rfl, h1, r1⟩ := r.tup_inv
    exact .inr (.inl ⟨ys, sameT s h1, by rw [← h, em r1]⟩)
theorem wOrD.mono (ma : Mono wa) (mb : Mono wb) : Mono (wOrD wa wb) := fun e Q Q' x x' h1 h2 q => ma e _ _ _ _ (fun d e1 ⟨c, ec, z⟩ => ⟨c, ec, by
  cases c with
  | true => exact h1 _ _ z
  | false => exact mb e1 _ _ _ _ h1 h2 z⟩) h2 q
theorem de_orD (ha : DE X F a wa) (hb : DE X F (.BoolOp .Or (b :: rest) pos) wb) : DE X F (.BoolOp .Or (a :: b :: rest) pos) (wOrD wa wb) :=
  de_of (pe_orT ha.run hb.run) (wOrD.mono ha.mono hb.mono) fun σ H Q ⟨e, G, r, q⟩ => ⟨e, G, r, ha.mono e _ _ _ _ (fun d e1 ⟨k, ek, z⟩ v G' H' s r' rv => by
    refine ⟨k, truD_V r'.same rv ek, ?_⟩
    cases k with
    | false => exact ⟨e1, G', r', hb.mono e1 _ _ _ _ (fun _ _ => PQ.mono s) (fun _ _ => PX.mono s) z⟩
    | true => exact z _ G' H' s r' rv) (fun _ _ z => z) q⟩
end
end L2.DL



namespace L2.DL.K12
open PySem PySem.Spec
      PyProof.Rows
def topS (i : Nat) : Stmt := PySem.Challenge.pw_whererules_k12_whole_breaks.main.body.getD i (.Pass ⟨0, 0, 0, 0⟩)
abbrev s_law_open : Stmt := topS 44
theorem sc_law_open : FnScope ["_law_script", "_law_cells", "_law_k", "_law_cell"] ["_law_script"] (defScope s_law_open) := ⟨rfl, rfl, rfl, by decide +kernel, rfl, by decide +kernel, by decide +kernel⟩
abbrev s_law_spread : Stmt := topS 43
theorem sc_law_spread : FnScope ["_law_cell", "_law_at", "_law_primes", "_law_mixed", "_law_one_here", "_law_rest", "_law_two", "_law_three"] ["_law_cell", "_law_at"] (defScope s_law_spread) := ⟨rfl, rfl, rfl, by decide +kernel, rfl, by decide +kernel, by decide +kernel⟩
abbrev s_law_take : Stmt := topS 45
theorem sc_law_take : FnScope ["_law_pen", "_law_many", "_law_at", "_law_cell", "_law_found"] ["_law_pen", "_law_many"] (defScope s_law_take) := ⟨rfl, rfl, rfl, by decide +kernel, rfl, by decide +kernel, by decide +kernel⟩
abbrev s_law_columns : Stmt := topS 48
theorem sc_law_columns : FnScope ["_law_pen", "_law_most", "_law_found", "_law_closed", "_law_k", "_law_own", "_law_step"] ["_law_pen", "_law_most"] (defScope s_law_columns) := ⟨rfl, rfl, rfl, by decide +kernel, rfl, by decide +kernel, by decide +kernel⟩
abbrev s_law_one : Stmt := topS 47
theorem sc_law_one : FnScope ["_law_pen", "_law_some"] ["_law_pen", "_law_some"] (defScope s_law_one) := ⟨rfl, rfl, rfl, by decide +kernel, rfl, by decide +kernel, by decide +kernel⟩
abbrev s_law_value : Stmt := topS 49
theorem sc_law_value : FnScope ["_law_pen", "_law_column"] ["_law_pen", "_law_column"] (defScope s_law_value) := ⟨rfl, rfl, rfl, by decide +kernel, rfl, by decide +kernel, by decide +kernel⟩
abbrev s_law_rule : Stmt := topS 52
theorem sc_law_rule : FnScope ["_law_pen", "_law_columns_here", "_law_column", "_law_want", "_law_given", "_law_k", "_law_road"] ["_law_pen", "_law_columns_here"] (defScope s_law_rule) := ⟨rfl, rfl, rfl, by decide +kernel, rfl, by decide +kernel, by decide +kernel⟩
abbrev s_law_rules : Stmt := topS 53
theorem sc_law_rules : FnScope ["_law_pen", "_law_columns_here", "_law_many", "_law_k"] ["_law_pen", "_law_columns_here", "_law_many"] (defScope s_law_rules) := ⟨rfl, rfl, rfl, by decide +kernel, rfl, by decide +kernel, by decide +kernel⟩
abbrev s_law_row : Stmt := topS 50
theorem sc_law_row : FnScope ["_law_pen", "_law_columns_here", "_law_column"] ["_law_pen", "_law_columns_here"] (defScope s_law_row) := ⟨rfl, rfl, rfl, by decide +kernel, rfl, by decide +kernel, by decide +kernel⟩
abbrev s_law_table : Stmt := topS 51
theorem sc_law_table : FnScope ["_law_pen", "_law_columns_here", "_law_many", "_law_found", "_law_k", "_law_row_here", "_law_at", "_law_other"] ["_law_pen", "_law_columns_here", "_law_many"] (defScope s_law_table) := ⟨rfl, rfl, rfl, by decide +kernel, rfl, by decide +kernel, by decide +kernel⟩
abbrev s_law_anew : Stmt := topS 46
theorem sc_law_anew : FnScope ["_law_pen"] ["_law_pen"] (defScope s_law_anew) := ⟨rfl, rfl, rfl, by decide +kernel, rfl, by decide +kernel, by decide +kernel⟩
abbrev s_breaks_left : Stmt := topS 40
theorem sc_breaks_left : FnScope ["found", "out", "left", "told", "row"] ["found", "out"] (defScope s_breaks_left) := ⟨rfl, rfl, rfl, by decide +kernel, rfl, by decide +kernel, by decide +kernel⟩
abbrev s_fewest_rows : Stmt := topS 41
theorem sc_fewest_rows : FnScope ["found", "many", "size", "out"] ["found", "many"] (defScope s_fewest_rows) := ⟨rfl, rfl, rfl, by decide +kernel, rfl, by decide +kernel, by decide +kernel⟩
abbrev s_is_integer : Stmt := topS 12
theorem sc_is_integer : FnScope ["value"] ["value"] (defScope s_is_integer) := ⟨rfl, rfl, rfl, by decide +kernel, rfl, by decide +kernel, by decide +kernel⟩
abbrev s_is_closed : Stmt := topS 15
theorem sc_is_closed : FnScope ["value", "last", "one"] ["value"] (defScope s_is_closed) := ⟨rfl, rfl, rfl, by decide +kernel, rfl, by decide +kernel, by decide +kernel⟩
abbrev s_is_columns : Stmt := topS 16
theorem sc_is_columns : FnScope ["value", "closed", "column"] ["value"] (defScope s_is_columns) := ⟨rfl, rfl, rfl, by decide +kernel, rfl, by decide +kernel, by decide +kernel⟩
abbrev s_check_columns : Stmt := topS 19
theorem sc_check_columns : FnScope ["columns"] ["columns"] (defScope s_check_columns) := ⟨rfl, rfl, rfl, by decide +kernel, rfl, by decide +kernel, by decide +kernel⟩
abbrev s_is_value_of : Stmt := topS 14
theorem sc_is_value_of : FnScope ["column", "value"] ["column", "value"] (defScope s_is_value_of) := ⟨rfl, rfl, rfl, by decide +kernel, rfl, by decide +kernel, by decide +kernel⟩
abbrev s_is_number : Stmt := topS 13
theorem sc_is_number : FnScope ["value", "limit"] ["value", "limit"] (defScope s_is_number) := ⟨rfl, rfl, rfl, by decide +kernel, rfl, by decide +kernel, by decide +kernel⟩
abbrev s_entry_is_right : Stmt := topS 25
theorem sc_entry_is_right : FnScope ["columns", "value"] ["columns", "value"] (defScope s_entry_is_right) := ⟨rfl, rfl, rfl, by decide +kernel, rfl, by decide +kernel, by decide +kernel⟩
abbrev s_given_is_right : Stmt := topS 26
theorem sc_given_is_right : FnScope ["columns", "value", "last", "entry"] ["columns", "value"] (defScope s_given_is_right) := ⟨rfl, rfl, rfl, by decide +kernel, rfl, by decide +kernel, by decide +kernel⟩
abbrev s_rule_is_right : Stmt := topS 27
theorem sc_rule_is_right : FnScope ["columns", "value", "given", "column", "want", "entry"] ["columns", "value"] (defScope s_rule_is_right) := ⟨rfl, rfl, rfl, by decide +kernel, rfl, by decide +kernel, by decide +kernel⟩
abbrev s_rules_are_right : Stmt := topS 28
theorem sc_rules_are_right : FnScope ["columns", "value", "rule"] ["columns", "value"] (defScope s_rules_are_right) := ⟨rfl, rfl, rfl, by decide +kernel, rfl, by decide +kernel, by decide +kernel⟩
abbrev s_check_rules : Stmt := topS 30
theorem sc_check_rules : FnScope ["columns", "rules"] ["columns", "rules"] (defScope s_check_rules) := ⟨rfl, rfl, rfl, by decide +kernel, rfl, by decide +kernel, by decide +kernel⟩
abbrev s_row_is_right : Stmt := topS 17
theorem sc_row_is_right : FnScope ["columns", "value", "column", "one"] ["columns", "value"] (defScope s_row_is_right) := ⟨rfl, rfl, rfl, by decide +kernel, rfl, by decide +kernel, by decide +kernel⟩
abbrev s_table_is_right : Stmt := topS 18
theorem sc_table_is_right : FnScope ["columns", "value", "row"] ["columns", "value"] (defScope s_table_is_right) := ⟨rfl, rfl, rfl, by decide +kernel, rfl, by decide +kernel, by decide +kernel⟩
abbrev s_check_table : Stmt := topS 20
theorem sc_check_table : FnScope ["columns", "table"] ["columns", "table"] (defScope s_check_table) := ⟨rfl, rfl, rfl, by decide +kernel, rfl, by decide +kernel, by decide +kernel⟩
abbrev s_is_value_rule : Stmt := topS 23
theorem sc_is_value_rule : FnScope ["rule"] ["rule"] (defScope s_is_value_rule) := ⟨rfl, rfl, rfl, by decide +kernel, rfl, by decide +kernel, by decide +kernel⟩
abbrev s_has_given : Stmt := topS 24
theorem sc_has_given : FnScope ["given", "row", "column", "value"] ["given", "row"] (defScope s_has_given) := ⟨rfl, rfl, rfl, by decide +kernel, rfl, by decide +kernel, by decide +kernel⟩
abbrev s_are_alike : Stmt := topS 39
theorem sc_are_alike : FnScope ["given", "one", "other", "column", "_"] ["given", "one", "other"] (defScope s_are_alike) := ⟨rfl, rfl, rfl, by decide +kernel, rfl, by decide +kernel, by decide +kernel⟩
abbrev s_broken_pairs : Stmt := topS 38
theorem sc_broken_pairs : FnScope ["rule", "table", "given", "column", "_", "found", "i", "j"] ["rule", "table"] (defScope s_broken_pairs) := ⟨rfl, rfl, rfl, by decide +kernel, rfl, by decide +kernel, by decide +kernel⟩
abbrev s_broken_singles : Stmt := topS 37
theorem sc_broken_singles : FnScope ["rule", "table", "given", "column", "want", "found", "i"] ["rule", "table"] (defScope s_broken_singles) := ⟨rfl, rfl, rfl, by decide +kernel, rfl, by decide +kernel, by decide +kernel⟩
abbrev s_broken_rows : Stmt := topS 36
theorem sc_broken_rows : FnScope ["rule", "table"] ["rule", "table"] (defScope s_broken_rows) := ⟨rfl, rfl, rfl, by decide +kernel, rfl, by decide +kernel, by decide +kernel⟩
abbrev s_list_breaks : Stmt := topS 35
theorem sc_list_breaks : FnScope ["rules", "table", "found", "k", "rows"] ["rules", "table"] (defScope s_list_breaks) := ⟨rfl, rfl, rfl, by decide +kernel, rfl, by decide +kernel, by decide +kernel⟩
abbrev s_breaks : Stmt := topS 32
theorem sc_breaks : FnScope ["columns", "rules", "table"] ["columns", "rules", "table"] (defScope s_breaks) := ⟨rfl, rfl, rfl, by decide +kernel, rfl, by decide +kernel, by decide +kernel⟩
abbrev s_fewest_out : Stmt := topS 34
theorem sc_fewest_out : FnScope ["columns", "rules", "table"] ["columns", "rules", "table"] (defScope s_fewest_out) := ⟨rfl, rfl, rfl, by decide +kernel, rfl, by decide +kernel, by decide +kernel⟩
abbrev s_law_turned : Stmt := topS 54
theorem sc_law_turned : FnScope ["_law_found", "_law_many", "_law_other", "_law_row_here", "_law_k"] ["_law_found", "_law_many"] (defScope s_law_turned) := ⟨rfl, rfl, rfl, by decide +kernel, rfl, by decide +kernel, by decide +kernel⟩
abbrev s_check_rule : Stmt := topS 29
theorem sc_check_rule : FnScope ["columns", "rule"] ["columns", "rule"] (defScope s_check_rule) := ⟨rfl, rfl, rfl, by decide +kernel, rfl, by decide +kernel, by decide +kernel⟩
abbrev s_holds : Stmt := topS 33
theorem sc_holds : FnScope ["columns", "rule", "table"] ["columns", "rule", "table"] (defScope s_holds) := ⟨rfl, rfl, rfl, by decide +kernel, rfl, by decide +kernel, by decide +kernel⟩
abbrev s_law_right : Stmt := topS 55
theorem sc_law_right : FnScope ["_law_pen", "_law_columns_here", "_law_rules_here", "_law_table_here", "_law_found", "_law_many", "_law_k", "_law_own", "_law_row_here", "_law_due", "_law_part", "_law_out", "_law_rest"] ["_law_pen", "_law_columns_here", "_law_rules_here", "_law_table_here"] (defScope s_law_right) := ⟨rfl, rfl, rfl, by decide +kernel, rfl, by decide +kernel, by decide +kernel⟩
abbrev s_law : Stmt := topS 56
theorem sc_law : FnScope ["_law_script", "_law_pen", "_law_turn", "_law_columns_here", "_law_rules_here", "_law_table_here", "_law_pairs", "_law_rule_here"] ["_law_script"] (defScope s_law) := ⟨rfl, rfl, rfl, by decide +kernel, rfl, by decide +kernel, by decide +kernel⟩
/-- where the classes stand -/
structure Cls where
  InvalidColumns : Addr
  InvalidRule : Addr
  InvalidRules : Addr
  InvalidTable : Addr
structure Txt (K : PySem.W.Frag) (mg : Str → Option Value) (A : Cls) : Prop where
  z_any : mg "any" = none
  z_bool : mg "bool" = none
  z_combinations : mg "combinations" = some (.type "itertools.combinations")
  z_enumerate : mg "enumerate" = none
  z_int : mg "int" = none
  z_isinstance : mg "isinstance" = none
  z_len : mg "len" = none
  z_list : mg "list" = none
  z_max : mg "max" = none
  z_range : mg "range" = none
  z_set : mg "set" = none
  z_sorted : mg "sorted" = none
  z_tuple : mg "tuple" = none
  z_zip : mg "zip" = none
  c_MOST_CLOSED : ∃ t, mg "MOST_CLOSED" = some (.int 2 t)
  c_MOST_COLUMNS : ∃ t, mg "MOST_COLUMNS" = some (.int 4 t)
  c_MOST_ROWS : ∃ t, mg "MOST_ROWS" = some (.int 8 t)
  c_MOST_RULES : ∃ t, mg "MOST_RULES" = some (.int 8 t)
  c_MOST_VALUES : ∃ t, mg "MOST_VALUES" = some (.int 3 t)
  g_InvalidColumns : mg "InvalidColumns" = some (.ref A.InvalidColumns)
  g_InvalidRule : mg "InvalidRule" = some (.ref A.InvalidRule)
  g_InvalidRules : mg "InvalidRules" = some (.ref A.InvalidRules)
  g_InvalidTable : mg "InvalidTable" = some (.ref A.InvalidTable)
  k_InvalidColumns : PySem.W.keepIn K (.ref A.InvalidColumns) = true
  x_InvalidColumns : PySem.W.excIn K A.InvalidColumns [.type "ValueError", .type "Exception", .type "BaseException", .type "object"] "ValueError.__new__" = true
  s_InvalidColumns : PySem.W.subIn K (.ref A.InvalidColumns) (.type "BaseException") = some true
  t_InvalidColumns : PySem.W.typeIn K (.ref A.InvalidColumns) = some (.type "type")
  e_InvalidColumns : ExcC K A.InvalidColumns
  k_InvalidRule : PySem.W.keepIn K (.ref A.InvalidRule) = true
  x_InvalidRule : PySem.W.excIn K A.InvalidRule [.type "ValueError", .type "Exception", .type "BaseException", .type "object"] "ValueError.__new__" = true
  s_InvalidRule : PySem.W.subIn K (.ref A.InvalidRule) (.type "BaseException") = some true
  t_InvalidRule : PySem.W.typeIn K (.ref A.InvalidRule) = some (.type "type")
  e_InvalidRule : ExcC K A.InvalidRule
  k_InvalidRules : PySem.W.keepIn K (.ref A.InvalidRules) = true
  x_InvalidRules : PySem.W.excIn K A.InvalidRules [.type "ValueError", .type "Exception", .type "BaseException", .type "object"] "ValueError.__new__" = true
  s_InvalidRules : PySem.W.subIn K (.ref A.InvalidRules) (.type "BaseException") = some true
  t_InvalidRules : PySem.W.typeIn K (.ref A.InvalidRules) = some (.type "type")
  e_InvalidRules : ExcC K A.InvalidRules
  k_InvalidTable : PySem.W.keepIn K (.ref A.InvalidTable) = true
  x_InvalidTable : PySem.W.excIn K A.InvalidTable [.type "ValueError", .type "Exception", .type "BaseException", .type "object"] "ValueError.__new__" = true
  s_InvalidTable : PySem.W.subIn K (.ref A.InvalidTable) (.type "BaseException") = some true
  t_InvalidTable : PySem.W.typeIn K (.ref A.InvalidTable) = some (.type "type")
  e_InvalidTable : ExcC K A.InvalidTable
end L2.DL.K12




namespace L2.DL.K12
open PySem PySem.Spec
      PyProof.Rows
section
variable {P : Program} {w : World} {K : PySem.W.Frag} {mg : Str → Option Value} {base : Heap} {A : Cls}
/-! ### is_integer, is_number -/
abbrev w_is_integer : Wc := w1 (fun d => fine d = true) fun d => .bool (isInt d)
abbrev m_is_integer : Wc.Mono w_is_integer := w1.mono
theorem d_is_integer (T : Txt K mg A) (F : FunAt K mg "is_integer" s_is_integer ["value"]) : Def P w K mg base "is_integer" 1 ["value"] w_is_integer := by
  refine defD F sc_is_integer (fun ds k Q x h => w1.len h) fun f cdv A outer s H E p G hg hr => ⟨_, (dss_one (ds_ret (de_and (de_isi (T := "int") (de_var (pv 0)) T.z_isinstance T.z_int (by decide +kernel)) (de_one (de_not (de_isi (T := "bool") (de_var (pv 0)) T.z_isinstance T.z_bool (by decide +kernel))))))), ?_⟩
  rintro ds n Q x ⟨a, rfl, ha, q⟩
  simp only [wRet, wSet, wSeq, wNext, wDrop, wIfS, wTest, wAnd, wOr, wNot, wIf, wBin, wVar, wC, wAndV, wOrV, wNotV, wIsN, wNotN, wNeg, wChain, wNil, wCons, wTup, wLst, wBi, wCall, wIsi, wSl, wSo, wNo, wSeqI, wFor, gNm, gTp, puts, wAsg, wPar, wMul, wmD, wmO, putsI, wAug, wTryIs, wRng1, wRng2, wEnum, wEnumT, wZip, wLc, wYes, wLend, wRel, wOwn, wApp, wIns, wSetIx, wLstF, wListF, wRepF, wAddF, wSlS, wParO, wRevT, wSortedSet, wSortedSetL, wSortedSetT, wKeys, weI, wExt, allD, wMt, wRaise, wSeqO, wCallF, plainO, wCallA, wIdx0, wAnF, wSetA, wUnA, wSeqA, plainA, wFld, wFldO, wMake, wLRg, Ans.data, Ans.own.injEq, Ans.tup.injEq, Ans.dat.injEq, wTry, wTryM, wHs, wIsC, enOf, put, putUn, defEnds, lendE, lend, wipeE, hide, lenD, intD, listD, tupleD, reprD, wPen0, wPen1, wPen2, wPenS1, wPenS2, penAt, List.map_cons, List.map_nil, List.length_cons, List.length_nil, List.nil_append, List.cons_append, Nat.reduceAdd, Nat.reduceSub, Nat.reduceLeDiff, Nat.zero_add, List.replicate_zero, List.replicate_succ, List.getElem?_cons_zero, List.getElem?_cons_succ, List.set_cons_zero, List.set_cons_succ, Option.some.injEq, Slot.dat.injEq, Slot.own.injEq, PyData.bool.injEq, PyData.int.injEq, PyData.tuple.injEq, PyData.list.injEq, exists_eq_left', exists_eq_left, and_true, true_and, if_true, if_false, Bool.false_eq_true, reduceCtorEq, List.mapIdx_cons, List.mapIdx_nil, kit_int ha, kit_bool ha]
  cases a <;> first | exact ⟨fine.nd ha, fine.nd ha, q⟩ | exact ⟨fine.nd ha, q⟩
def numB (d m : D) : Bool := match d, m with | .int v, .int n => decide (0 ≤ v) && decide (v < n) | _, _ => false
abbrev w_is_number : Wc := w2 (fun d m => fine d = true ∧ ∃ i, m = .int i) fun d m => .bool (numB d m)
abbrev m_is_number : Wc.Mono w_is_number := w2.mono
theorem d_is_number (d_is_integer : Def P w K mg base "is_integer" 1 ["value"] w_is_integer) (F : FunAt K mg "is_number" s_is_number ["value", "limit"]) : Def P w K mg base "is_number" 2 ["value", "limit"] w_is_number := by
  refine defD F sc_is_number (fun ds k Q x h => w2.len h) fun f cdv A outer s H E p G hg hr => ⟨_, (dss_one (ds_ret (de_and (de_fn d_is_integer m_is_integer hg hr (takes_of rfl rfl rfl rfl) (da_cons (de_var (pv 0)) da_nil)) (de_one (de_chain op_le op_lt cmpD.mono cmpD.mono fitsCmp fitsCmp de_int (de_var (pv 0)) (de_var (pv 1))))))), ?_⟩
  rintro ds n Q x ⟨a, b, rfl, ⟨ha, i, rfl⟩, q⟩
  simp only [wRet, wSet, wSeq, wNext, wDrop, wIfS, wTest, wAnd, wOr, wNot, wIf, wBin, wVar, wC, wAndV, wOrV, wNotV, wIsN, wNotN, wNeg, wChain, wNil, wCons, wTup, wLst, wBi, wCall, wIsi, wSl, wSo, wNo, wSeqI, wFor, gNm, gTp, puts, wAsg, wPar, wMul, wmD, wmO, putsI, wAug, wTryIs, wRng1, wRng2, wEnum, wEnumT, wZip, wLc, wYes, wLend, wRel, wOwn, wApp, wIns, wSetIx, wLstF, wListF, wRepF, wAddF, wSlS, wParO, wRevT, wSortedSet, wSortedSetL, wSortedSetT, wKeys, weI, wExt, allD, wMt, wRaise, wSeqO, wCallF, plainO, wCallA, wIdx0, wAnF, wSetA, wUnA, wSeqA, plainA, wFld, wFldO, wMake, wLRg, Ans.data, Ans.own.injEq, Ans.tup.injEq, Ans.dat.injEq, wTry, wTryM, wHs, wIsC, enOf, put, putUn, defEnds, lendE, lend, wipeE, hide, lenD, intD, listD, tupleD, reprD, wPen0, wPen1, wPen2, wPenS1, wPenS2, penAt, List.map_cons, List.map_nil, List.length_cons, List.length_nil, List.nil_append, List.cons_append, Nat.reduceAdd, Nat.reduceSub, Nat.reduceLeDiff, Nat.zero_add, List.replicate_zero, List.replicate_succ, List.getElem?_cons_zero, List.getElem?_cons_succ, List.set_cons_zero, List.set_cons_succ, Option.some.injEq, Slot.dat.injEq, Slot.own.injEq, PyData.bool.injEq, PyData.int.injEq, PyData.tuple.injEq, PyData.list.injEq, exists_eq_left', exists_eq_left, and_true, true_and, if_true, if_false, Bool.false_eq_true, reduceCtorEq, List.mapIdx_cons, List.mapIdx_nil]
  refine ⟨a, rfl, ha, ?_⟩
  cases a with
  | int v =>
    simp only [isInt, cmpD, numB] at q ⊢
    refine ⟨true, rfl, ?_⟩
    simp only [if_true]
    refine ⟨_, rfl, ?_⟩
    by_cases h : 0 ≤ v
    · simp only [h, decide_true, Bool.true_and, if_true] at q ⊢
      exact q
    · simp only [h, decide_false, Bool.false_and, if_false] at q ⊢
      exact q
  | _ => exact ⟨false, rfl, q⟩
/-! ### is_value_of -/
def inCol (c v : D) : Bool := match c with | .none => true | .tuple xs => inB v xs | _ => false
def valB (c v : D) : Bool := match v with | .int i => decide (0 ≤ i) && inCol c v | _ => false
/-- a column, or near one -/
def colish (c : D) : Prop := c = .none ∨ ∃ xs, c = .tuple xs ∧ Good c
abbrev w_is_value_of : Wc := w2 (fun c v => colish c ∧ Good v) fun c v => .bool (valB c v)
abbrev m_is_value_of : Wc.Mono w_is_value_of := w2.mono
theorem d_is_value_of (d_is_integer : Def P w K mg base "is_integer" 1 ["value"] w_is_integer) (F : FunAt K mg "is_value_of" s_is_value_of ["column", "value"]) : Def P w K mg base "is_value_of" 2 ["column", "value"] w_is_value_of := by
  refine defD F sc_is_value_of (fun ds k Q x h => w2.len h) fun f cdv A outer s H E p G hg hr => ⟨_, (dss_cons (ds_if (dw_or (dt_not (dt_val (de_fn d_is_integer m_is_integer hg hr (takes_of rfl rfl rfl rfl) (da_cons (de_var (pv 1)) da_nil)))) (dw_or1 (dt_cmp op_lt cmpD.mono fitsCmp (de_var (pv 1)) de_int))).dt
    (dss_one (ds_ret de_bl))
    dss_nil)
    (dss_one (ds_ret (de_or (de_isN (de_var (pv 0))) (de_one (de_cmp (op_inA (hr65 hr)) inD.mono fitsIn (de_var (pv 1)) (de_var (pv 0)))))))), ?_⟩
  rintro ds n Q x ⟨a, b, rfl, ⟨hc, hv⟩, q⟩
  simp only [wRet, wSet, wSeq, wNext, wDrop, wIfS, wTest, wAnd, wOr, wNot, wIf, wBin, wVar, wC, wAndV, wOrV, wNotV, wIsN, wNotN, wNeg, wChain, wNil, wCons, wTup, wLst, wBi, wCall, wIsi, wSl, wSo, wNo, wSeqI, wFor, gNm, gTp, puts, wAsg, wPar, wMul, wmD, wmO, putsI, wAug, wTryIs, wRng1, wRng2, wEnum, wEnumT, wZip, wLc, wYes, wLend, wRel, wOwn, wApp, wIns, wSetIx, wLstF, wListF, wRepF, wAddF, wSlS, wParO, wRevT, wSortedSet, wSortedSetL, wSortedSetT, wKeys, weI, wExt, allD, wMt, wRaise, wSeqO, wCallF, plainO, wCallA, wIdx0, wAnF, wSetA, wUnA, wSeqA, plainA, wFld, wFldO, wMake, wLRg, Ans.data, Ans.own.injEq, Ans.tup.injEq, Ans.dat.injEq, wTry, wTryM, wHs, wIsC, enOf, put, putUn, defEnds, lendE, lend, wipeE, hide, lenD, intD, listD, tupleD, reprD, wPen0, wPen1, wPen2, wPenS1, wPenS2, penAt, List.map_cons, List.map_nil, List.length_cons, List.length_nil, List.nil_append, List.cons_append, Nat.reduceAdd, Nat.reduceSub, Nat.reduceLeDiff, Nat.zero_add, List.replicate_zero, List.replicate_succ, List.getElem?_cons_zero, List.getElem?_cons_succ, List.set_cons_zero, List.set_cons_succ, Option.some.injEq, Slot.dat.injEq, Slot.own.injEq, PyData.bool.injEq, PyData.int.injEq, PyData.tuple.injEq, PyData.list.injEq, exists_eq_left', exists_eq_left, and_true, true_and, if_true, if_false, Bool.false_eq_true, reduceCtorEq, List.mapIdx_cons, List.mapIdx_nil]
  refine ⟨b, rfl, hv.f, ?_⟩
  cases b with
  | int v =>
    simp only [isInt, cmpD, valB, Bool.not_true] at q ⊢
    refine ⟨true, rfl, ?_⟩
    simp only [Bool.not_true, if_false, Bool.false_eq_true]
    refine ⟨_, rfl, ?_⟩
    by_cases h : v < 0
    · have h' : ¬ 0 ≤ v := by omega
      simp only [h, h', decide_true, decide_false, Bool.false_and, if_true] at q ⊢
      exact q
    · have h' : 0 ≤ v := by omega
      simp only [h, h', decide_true, decide_false, Bool.true_and, if_false, Bool.false_eq_true] at q ⊢
      rcases hc with rfl | ⟨xs, rfl, g⟩
      · exact q
      · exact ⟨hv, g, xs, rfl, q⟩
  | _ => exact ⟨false, rfl, q⟩
end
end L2.DL.K12




namespace L2.DL.K12
open PySem PySem.Spec
      PyProof.Rows
section
variable {P : Program} {w : World} {K : PySem.W.Frag} {mg : Str → Option Value} {base : Heap} {A : Cls}
/-! ### is_closed -/
def ascB : Int → List D → Bool
  | _, [] => true
  | l, .int i :: r => decide (l < i) && ascB i r
  | _, _ :: _ => false
def closedB : D → Bool
  | .tuple xs => decide (1 ≤ xs.length) && decide (xs.length ≤ 3) && ascB (-1) xs
  | _ => false
abbrev w_is_closed : Wc := w1 (fun d => Good d) fun d => .bool (closedB d)
abbrev m_is_closed : Wc.Mono w_is_closed := w1.mono
theorem d_is_closed (T : Txt K mg A) (d_is_integer : Def P w K mg base "is_integer" 1 ["value"] w_is_integer) (F : FunAt K mg "is_closed" s_is_closed ["value"]) : Def P w K mg base "is_closed" 2 ["value"] w_is_closed := by
  obtain ⟨_, cc_MOST_VALUES⟩ := T.c_MOST_VALUES
  refine defD F sc_is_closed (fun ds k Q x h => w1.len h) fun f cdv Ar outer s H E p G hg hr => ⟨_, (dss_cons (ds_if (dw_or (dt_not (dt_val (de_isi (T := "tuple") (de_var (pv 0)) T.z_isinstance T.z_tuple (by decide +kernel)))) (dw_or1 (dt_not (dt_chain op_le op_le cmpD.mono cmpD.mono fitsCmp fitsCmp de_int (de_bi lenD.mono fitsLen call_len_seq (da_cons (de_var (pv 0)) da_nil) T.z_len) (de_const cc_MOST_VALUES))))).dt
    (dss_one (ds_ret de_bl))
    dss_nil)
    (dss_cons (ds_set (i := 1) (de_neg de_int) sc_is_closed.nd)
    (dss_cons (ds_for (passes_of rfl) rfl (di_seq (de_var (pv 0))) (dg_nm (i := 2) sc_is_closed.nd)
    (dss_cons (ds_if (dw_or (dt_not (dt_val (de_fn d_is_integer m_is_integer hg hr (takes_of rfl rfl rfl rfl) (da_cons (de_var (pv 2)) da_nil)))) (dw_or1 (dt_cmp op_le cmpD.mono fitsCmp (de_var (pv 2)) (de_var (pv 1))))).dt
    (dss_one (ds_ret de_bl))
    dss_nil)
    (dss_one (ds_set (i := 1) (de_var (pv 2)) sc_is_closed.nd))))
    (dss_one (ds_ret de_bl))))), ?_⟩
  rintro ds n Q x ⟨a, rfl, ha, q⟩
  simp only [wRet, wSet, wSeq, wNext, wDrop, wIfS, wTest, wAnd, wOr, wNot, wIf, wBin, wVar, wC, wAndV, wOrV, wNotV, wIsN, wNotN, wNeg, wChain, wNil, wCons, wTup, wLst, wBi, wCall, wIsi, wSl, wSo, wNo, wSeqI, wFor, gNm, gTp, puts, wAsg, wPar, wMul, wmD, wmO, putsI, wAug, wTryIs, wRng1, wRng2, wEnum, wEnumT, wZip, wLc, wYes, wLend, wRel, wOwn, wApp, wIns, wSetIx, wLstF, wListF, wRepF, wAddF, wSlS, wParO, wRevT, wSortedSet, wSortedSetL, wSortedSetT, wKeys, weI, wExt, allD, wMt, wRaise, wSeqO, wCallF, plainO, wCallA, wIdx0, wAnF, wSetA, wUnA, wSeqA, plainA, wFld, wFldO, wMake, wLRg, Ans.data, Ans.own.injEq, Ans.tup.injEq, Ans.dat.injEq, wTry, wTryM, wHs, wIsC, enOf, put, putUn, defEnds, lendE, lend, wipeE, hide, lenD, intD, listD, tupleD, reprD, wPen0, wPen1, wPen2, wPenS1, wPenS2, penAt, List.map_cons, List.map_nil, List.length_cons, List.length_nil, List.nil_append, List.cons_append, Nat.reduceAdd, Nat.reduceSub, Nat.reduceLeDiff, Nat.zero_add, List.replicate_zero, List.replicate_succ, List.getElem?_cons_zero, List.getElem?_cons_succ, List.set_cons_zero, List.set_cons_succ, Option.some.injEq, Slot.dat.injEq, Slot.own.injEq, PyData.bool.injEq, PyData.int.injEq, PyData.tuple.injEq, PyData.list.injEq, exists_eq_left', exists_eq_left, and_true, true_and, if_true, if_false, Bool.false_eq_true, reduceCtorEq, List.mapIdx_cons, List.mapIdx_nil, kit_tuple ha.f]
  refine ⟨fine.nd ha.f, ?_⟩
  cases a with
  | tuple xs =>
    simp only [isT, Bool.not_true, if_false, Bool.false_eq_true, closedB, cmpD] at q ⊢
    by_cases h1 : 1 ≤ xs.length
    · have h1' : (1 : Int) ≤ xs.length := by omega
      refine ⟨_, rfl, ?_⟩
      simp only [h1, h1', decide_true, Bool.true_and, if_true] at q ⊢
      refine ⟨_, rfl, ?_⟩
      by_cases h3 : xs.length ≤ 3
      · have h3' : (xs.length : Int) ≤ 3 := by omega
        simp only [h3, h3', decide_true, Bool.true_and, Bool.not_true, if_false, Bool.false_eq_true] at q ⊢
        refine ⟨xs, rfl, ?_⟩
        refine wLoop.ind (fun ds e => ∃ l u, e = ⟨[.dat (.tuple xs), .dat (.int l), u], n⟩ ∧ Q (.bool (ascB l ds)) n ∧ ∀ d ∈ ds, fine d = true) ?_ ?_ ⟨-1, .un, rfl, q, fun d hd => (ha.in_tuple d hd).f⟩
        · rintro e ⟨l, u, rfl, q, _⟩
          exact q
        · rintro d ds e ih ⟨l, u, rfl, q, hf⟩
          simp only [wRet, wSet, wSeq, wNext, wDrop, wIfS, wTest, wAnd, wOr, wNot, wIf, wBin, wVar, wC, wAndV, wOrV, wNotV, wIsN, wNotN, wNeg, wChain, wNil, wCons, wTup, wLst, wBi, wCall, wIsi, wSl, wSo, wNo, wSeqI, wFor, gNm, gTp, puts, wAsg, wPar, wMul, wmD, wmO, putsI, wAug, wTryIs, wRng1, wRng2, wEnum, wEnumT, wZip, wLc, wYes, wLend, wRel, wOwn, wApp, wIns, wSetIx, wLstF, wListF, wRepF, wAddF, wSlS, wParO, wRevT, wSortedSet, wSortedSetL, wSortedSetT, wKeys, weI, wExt, allD, wMt, wRaise, wSeqO, wCallF, plainO, wCallA, wIdx0, wAnF, wSetA, wUnA, wSeqA, plainA, wFld, wFldO, wMake, wLRg, Ans.data, Ans.own.injEq, Ans.tup.injEq, Ans.dat.injEq, wTry, wTryM, wHs, wIsC, enOf, put, putUn, defEnds, lendE, lend, wipeE, hide, lenD, intD, listD, tupleD, reprD, wPen0, wPen1, wPen2, wPenS1, wPenS2, penAt, List.map_cons, List.map_nil, List.length_cons, List.length_nil, List.nil_append, List.cons_append, Nat.reduceAdd, Nat.reduceSub, Nat.reduceLeDiff, Nat.zero_add, List.replicate_zero, List.replicate_succ, List.getElem?_cons_zero, List.getElem?_cons_succ, List.set_cons_zero, List.set_cons_succ, Option.some.injEq, Slot.dat.injEq, Slot.own.injEq, PyData.bool.injEq, PyData.int.injEq, PyData.tuple.injEq, PyData.list.injEq, exists_eq_left', exists_eq_left, and_true, true_and, if_true, if_false, Bool.false_eq_true, reduceCtorEq, List.mapIdx_cons, List.mapIdx_nil]
          have hd := hf d List.mem_cons_self
          refine ⟨d, rfl, hd, ?_⟩
          cases d with
          | int v =>
            simp only [isInt, cmpD, ascB] at q ⊢
            refine ⟨_, rfl, ?_⟩
            simp only [Bool.not_true, if_false, Bool.false_eq_true]
            refine ⟨_, rfl, ?_⟩
            by_cases hv : v ≤ l
            · have hv' : ¬ l < v := by omega
              simp only [hv, hv', decide_true, decide_false, Bool.false_and, if_true] at q ⊢
              exact q
            · have hv' : l < v := by omega
              simp only [hv, hv', decide_true, decide_false, Bool.true_and, if_false, Bool.false_eq_true] at q ⊢
              exact ih _ ⟨v, _, rfl, q, fun d hd => hf d (List.mem_cons_of_mem _ hd)⟩
          | _ => exact ⟨_, rfl, q⟩
      · have h3' : ¬ (xs.length : Int) ≤ 3 := by omega
        simp only [h3, h3', decide_false, Bool.false_and, Bool.not_false, if_true] at q ⊢
        exact q
    · have h1' : ¬ (1 : Int) ≤ xs.length := by omega
      refine ⟨_, rfl, ?_⟩
      simp only [h1, h1', decide_false, Bool.false_and, Bool.not_false, if_true, if_false, Bool.false_eq_true] at q ⊢
      exact q
  | _ => exact q
end
end L2.DL.K12




namespace L2.DL.K12
open PySem PySem.Spec
      PyProof.Rows
section
variable {P : Program} {w : World} {K : PySem.W.Frag} {mg : Str → Option Value} {base : Heap} {A : Cls}
/-! ### is_columns -/
def colsB : D → Bool
  | .tuple xs => decide (1 ≤ xs.length) && decide (xs.length ≤ 4) && ((xs.filterMap fun d => if isN d = true then none else some d).all closedB && decide ((xs.filterMap fun d => if isN d = true then none else some d).length ≤ 2))
  | _ => false
abbrev w_is_columns : Wc := w1 (fun d => Good d) fun d => .bool (colsB d)
abbrev m_is_columns : Wc.Mono w_is_columns := w1.mono
theorem d_is_columns (T : Txt K mg A) (d_is_closed : Def P w K mg base "is_closed" 2 ["value"] w_is_closed) (F : FunAt K mg "is_columns" s_is_columns ["value"]) : Def P w K mg base "is_columns" 3 ["value"] w_is_columns := by
  obtain ⟨_, cc_MOST_COLUMNS⟩ := T.c_MOST_COLUMNS
  obtain ⟨_, cc_MOST_CLOSED⟩ := T.c_MOST_CLOSED
  refine defD F sc_is_columns (fun ds k Q x h => w1.len h) fun f cdv Ar outer s H E p G hg hr => ⟨_, (dss_cons (ds_if (dw_or (dt_not (dt_val (de_isi (T := "tuple") (de_var (pv 0)) T.z_isinstance T.z_tuple (by decide +kernel)))) (dw_or1 (dt_not (dt_chain op_le op_le cmpD.mono cmpD.mono fitsCmp fitsCmp de_int (de_bi lenD.mono fitsLen call_len_seq (da_cons (de_var (pv 0)) da_nil) T.z_len) (de_const cc_MOST_COLUMNS))))).dt
    (dss_one (ds_ret de_bl))
    dss_nil)
    (dss_cons (ds_setLc (i := 1) (own := [("column", 2)]) rfl sc_is_columns.nd (di_seq (de_var (pv 0))) (blkOk_by (N := ["value", "closed", "column"]) (sc := defScope s_is_columns) (by decide +kernel)) (fun _ _ _ _ _ _ _ => (dgc_nm (i := 2) sc_is_columns.nd (by decide))) (fun _ _ _ _ _ _ _ => (dts_one (dt_notN (de_var (pv 2))))) (fun _ _ _ _ _ _ _ => (de_var (pv 2))) (sw_true rfl rfl rfl (by decide +kernel)))
    (dss_cons (ds_for (passes_of rfl) rfl (di_seq (de_var (pv 1))) (dg_nm (i := 2) sc_is_columns.nd)
    (dss_one (ds_if (dt_not (dt_val (de_fn d_is_closed m_is_closed hg hr (takes_of rfl rfl rfl rfl) (da_cons (de_var (pv 2)) da_nil))))
    (dss_one (ds_ret de_bl))
    dss_nil)))
    (dss_one (ds_ret (de_cmp op_le cmpD.mono fitsCmp (de_bi lenD.mono fitsLen call_len_seq (da_cons (de_var (pv 1)) da_nil) T.z_len) (de_const cc_MOST_CLOSED))))))), ?_⟩
  rintro ds n Q x ⟨a, rfl, ha, q⟩
  simp only [wRet, wSet, wSeq, wNext, wDrop, wIfS, wTest, wAnd, wOr, wNot, wIf, wBin, wVar, wC, wAndV, wOrV, wNotV, wIsN, wNotN, wNeg, wChain, wNil, wCons, wTup, wLst, wBi, wCall, wIsi, wSl, wSo, wNo, wSeqI, wFor, gNm, gTp, puts, wAsg, wPar, wMul, wmD, wmO, putsI, wAug, wTryIs, wRng1, wRng2, wEnum, wEnumT, wZip, wLc, wYes, wLend, wRel, wOwn, wApp, wIns, wSetIx, wLstF, wListF, wRepF, wAddF, wSlS, wParO, wRevT, wSortedSet, wSortedSetL, wSortedSetT, wKeys, weI, wExt, allD, wMt, wRaise, wSeqO, wCallF, plainO, wCallA, wIdx0, wAnF, wSetA, wUnA, wSeqA, plainA, wFld, wFldO, wMake, wLRg, Ans.data, Ans.own.injEq, Ans.tup.injEq, Ans.dat.injEq, wTry, wTryM, wHs, wIsC, enOf, put, putUn, defEnds, lendE, lend, wipeE, hide, lenD, intD, listD, tupleD, reprD, wPen0, wPen1, wPen2, wPenS1, wPenS2, penAt, List.map_cons, List.map_nil, List.length_cons, List.length_nil, List.nil_append, List.cons_append, Nat.reduceAdd, Nat.reduceSub, Nat.reduceLeDiff, Nat.zero_add, List.replicate_zero, List.replicate_succ, List.getElem?_cons_zero, List.getElem?_cons_succ, List.set_cons_zero, List.set_cons_succ, Option.some.injEq, Slot.dat.injEq, Slot.own.injEq, PyData.bool.injEq, PyData.int.injEq, PyData.tuple.injEq, PyData.list.injEq, exists_eq_left', exists_eq_left, and_true, true_and, if_true, if_false, Bool.false_eq_true, reduceCtorEq, List.mapIdx_cons, List.mapIdx_nil, kit_tuple ha.f]
  refine ⟨fine.nd ha.f, ?_⟩
  cases a with
  | tuple xs =>
    simp only [isT, Bool.not_true, if_false, Bool.false_eq_true, colsB, cmpD] at q ⊢
    by_cases h1 : 1 ≤ xs.length
    · have h1' : (1 : Int) ≤ xs.length := by omega
      refine ⟨_, rfl, ?_⟩
      simp only [h1, h1', decide_true, Bool.true_and, if_true] at q ⊢
      refine ⟨_, rfl, ?_⟩
      by_cases h3 : xs.length ≤ 4
      · have h3' : (xs.length : Int) ≤ 4 := by omega
        simp only [h3, h3', decide_true, Bool.true_and, Bool.not_true, if_false, Bool.false_eq_true] at q ⊢
        refine ⟨xs, rfl, ?_⟩
        refine lcLoop.fm (fun d => if isN d = true then none else some d) (fun d hd A B h1 h2 => ?_) (by simp only [List.length_nil]; omega) ?_
        · simp only [wRet, wSet, wSeq, wNext, wDrop, wIfS, wTest, wAnd, wOr, wNot, wIf, wBin, wVar, wC, wAndV, wOrV, wNotV, wIsN, wNotN, wNeg, wChain, wNil, wCons, wTup, wLst, wBi, wCall, wIsi, wSl, wSo, wNo, wSeqI, wFor, gNm, gTp, puts, wAsg, wPar, wMul, wmD, wmO, putsI, wAug, wTryIs, wRng1, wRng2, wEnum, wEnumT, wZip, wLc, wYes, wLend, wRel, wOwn, wApp, wIns, wSetIx, wLstF, wListF, wRepF, wAddF, wSlS, wParO, wRevT, wSortedSet, wSortedSetL, wSortedSetT, wKeys, weI, wExt, allD, wMt, wRaise, wSeqO, wCallF, plainO, wCallA, wIdx0, wAnF, wSetA, wUnA, wSeqA, plainA, wFld, wFldO, wMake, wLRg, Ans.data, Ans.own.injEq, Ans.tup.injEq, Ans.dat.injEq, wTry, wTryM, wHs, wIsC, enOf, put, putUn, defEnds, lendE, lend, wipeE, hide, lenD, intD, listD, tupleD, reprD, wPen0, wPen1, wPen2, wPenS1, wPenS2, penAt, List.map_cons, List.map_nil, List.length_cons, List.length_nil, List.nil_append, List.cons_append, Nat.reduceAdd, Nat.reduceSub, Nat.reduceLeDiff, Nat.zero_add, List.replicate_zero, List.replicate_succ, List.getElem?_cons_zero, List.getElem?_cons_succ, List.set_cons_zero, List.set_cons_succ, Option.some.injEq, Slot.dat.injEq, Slot.own.injEq, PyData.bool.injEq, PyData.int.injEq, PyData.tuple.injEq, PyData.list.injEq, exists_eq_left', exists_eq_left, and_true, true_and, if_true, if_false, Bool.false_eq_true, reduceCtorEq, List.mapIdx_cons, List.mapIdx_nil]
          cases hn : isN d with
          | true => exact h1 (by rw [hn]; rfl)
          | false => exact h2 d (by rw [hn]; rfl)
        · simp only [wRet, wSet, wSeq, wNext, wDrop, wIfS, wTest, wAnd, wOr, wNot, wIf, wBin, wVar, wC, wAndV, wOrV, wNotV, wIsN, wNotN, wNeg, wChain, wNil, wCons, wTup, wLst, wBi, wCall, wIsi, wSl, wSo, wNo, wSeqI, wFor, gNm, gTp, puts, wAsg, wPar, wMul, wmD, wmO, putsI, wAug, wTryIs, wRng1, wRng2, wEnum, wEnumT, wZip, wLc, wYes, wLend, wRel, wOwn, wApp, wIns, wSetIx, wLstF, wListF, wRepF, wAddF, wSlS, wParO, wRevT, wSortedSet, wSortedSetL, wSortedSetT, wKeys, weI, wExt, allD, wMt, wRaise, wSeqO, wCallF, plainO, wCallA, wIdx0, wAnF, wSetA, wUnA, wSeqA, plainA, wFld, wFldO, wMake, wLRg, Ans.data, Ans.own.injEq, Ans.tup.injEq, Ans.dat.injEq, wTry, wTryM, wHs, wIsC, enOf, put, putUn, defEnds, lendE, lend, wipeE, hide, lenD, intD, listD, tupleD, reprD, wPen0, wPen1, wPen2, wPenS1, wPenS2, penAt, List.map_cons, List.map_nil, List.length_cons, List.length_nil, List.nil_append, List.cons_append, Nat.reduceAdd, Nat.reduceSub, Nat.reduceLeDiff, Nat.zero_add, List.replicate_zero, List.replicate_succ, List.getElem?_cons_zero, List.getElem?_cons_succ, List.set_cons_zero, List.set_cons_succ, Option.some.injEq, Slot.dat.injEq, Slot.own.injEq, PyData.bool.injEq, PyData.int.injEq, PyData.tuple.injEq, PyData.list.injEq, exists_eq_left', exists_eq_left, and_true, true_and, if_true, if_false, Bool.false_eq_true, reduceCtorEq, List.mapIdx_cons, List.mapIdx_nil]
          refine ⟨_, rfl, ?_⟩
          have hg' : ∀ d ∈ xs.filterMap (fun d => if isN d = true then none else some d), Good d := fun d hd => by
            obtain ⟨e, he, h⟩ := List.mem_filterMap.mp hd
            split at h
            · cases h
            · cases h; exact ha.in_tuple _ he
          generalize xs.filterMap (fun d => if isN d = true then none else some d) = cs at q hg' ⊢
          refine wLoop.ind (fun ds e => ∃ u, e = ⟨[.dat (.tuple xs), .dat (.list cs), u], n⟩ ∧ Q (.bool (ds.all closedB && decide (cs.length ≤ 2))) n ∧ ∀ d ∈ ds, Good d) ?_ ?_ ⟨.un, rfl, q, hg'⟩
          · rintro e ⟨u, rfl, q, _⟩
            simp only [wRet, wSet, wSeq, wNext, wDrop, wIfS, wTest, wAnd, wOr, wNot, wIf, wBin, wVar, wC, wAndV, wOrV, wNotV, wIsN, wNotN, wNeg, wChain, wNil, wCons, wTup, wLst, wBi, wCall, wIsi, wSl, wSo, wNo, wSeqI, wFor, gNm, gTp, puts, wAsg, wPar, wMul, wmD, wmO, putsI, wAug, wTryIs, wRng1, wRng2, wEnum, wEnumT, wZip, wLc, wYes, wLend, wRel, wOwn, wApp, wIns, wSetIx, wLstF, wListF, wRepF, wAddF, wSlS, wParO, wRevT, wSortedSet, wSortedSetL, wSortedSetT, wKeys, weI, wExt, allD, wMt, wRaise, wSeqO, wCallF, plainO, wCallA, wIdx0, wAnF, wSetA, wUnA, wSeqA, plainA, wFld, wFldO, wMake, wLRg, Ans.data, Ans.own.injEq, Ans.tup.injEq, Ans.dat.injEq, wTry, wTryM, wHs, wIsC, enOf, put, putUn, defEnds, lendE, lend, wipeE, hide, lenD, intD, listD, tupleD, reprD, wPen0, wPen1, wPen2, wPenS1, wPenS2, penAt, List.map_cons, List.map_nil, List.length_cons, List.length_nil, List.nil_append, List.cons_append, Nat.reduceAdd, Nat.reduceSub, Nat.reduceLeDiff, Nat.zero_add, List.replicate_zero, List.replicate_succ, List.getElem?_cons_zero, List.getElem?_cons_succ, List.set_cons_zero, List.set_cons_succ, Option.some.injEq, Slot.dat.injEq, Slot.own.injEq, PyData.bool.injEq, PyData.int.injEq, PyData.tuple.injEq, PyData.list.injEq, exists_eq_left', exists_eq_left, and_true, true_and, if_true, if_false, Bool.false_eq_true, reduceCtorEq, List.mapIdx_cons, List.mapIdx_nil, cmpD]
            simp only [List.all_nil, Bool.true_and] at q
            have e1 : decide ((cs.length : Int) ≤ 2) = decide (cs.length ≤ 2) := by
              by_cases h : cs.length ≤ 2
              · rw [decide_eq_true h, decide_eq_true (by omega)]
              · rw [decide_eq_false h, decide_eq_false (by omega)]
            rw [e1]
            exact q
          · rintro d ds e ih ⟨u, rfl, q, hf⟩
            simp only [wRet, wSet, wSeq, wNext, wDrop, wIfS, wTest, wAnd, wOr, wNot, wIf, wBin, wVar, wC, wAndV, wOrV, wNotV, wIsN, wNotN, wNeg, wChain, wNil, wCons, wTup, wLst, wBi, wCall, wIsi, wSl, wSo, wNo, wSeqI, wFor, gNm, gTp, puts, wAsg, wPar, wMul, wmD, wmO, putsI, wAug, wTryIs, wRng1, wRng2, wEnum, wEnumT, wZip, wLc, wYes, wLend, wRel, wOwn, wApp, wIns, wSetIx, wLstF, wListF, wRepF, wAddF, wSlS, wParO, wRevT, wSortedSet, wSortedSetL, wSortedSetT, wKeys, weI, wExt, allD, wMt, wRaise, wSeqO, wCallF, plainO, wCallA, wIdx0, wAnF, wSetA, wUnA, wSeqA, plainA, wFld, wFldO, wMake, wLRg, Ans.data, Ans.own.injEq, Ans.tup.injEq, Ans.dat.injEq, wTry, wTryM, wHs, wIsC, enOf, put, putUn, defEnds, lendE, lend, wipeE, hide, lenD, intD, listD, tupleD, reprD, wPen0, wPen1, wPen2, wPenS1, wPenS2, penAt, List.map_cons, List.map_nil, List.length_cons, List.length_nil, List.nil_append, List.cons_append, Nat.reduceAdd, Nat.reduceSub, Nat.reduceLeDiff, Nat.zero_add, List.replicate_zero, List.replicate_succ, List.getElem?_cons_zero, List.getElem?_cons_succ, List.set_cons_zero, List.set_cons_succ, Option.some.injEq, Slot.dat.injEq, Slot.own.injEq, PyData.bool.injEq, PyData.int.injEq, PyData.tuple.injEq, PyData.list.injEq, exists_eq_left', exists_eq_left, and_true, true_and, if_true, if_false, Bool.false_eq_true, reduceCtorEq, List.mapIdx_cons, List.mapIdx_nil]
            have hd := hf d List.mem_cons_self
            refine ⟨d, rfl, hd, ?_⟩
            refine ⟨_, rfl, ?_⟩
            rw [List.all_cons] at q
            cases hc : closedB d with
            | true =>
              rw [hc] at q
              simp only [Bool.not_true, if_false, Bool.false_eq_true, Bool.true_and] at q ⊢
              exact ih _ ⟨_, rfl, q, fun d hd => hf d (List.mem_cons_of_mem _ hd)⟩
            | false =>
              rw [hc] at q
              exact q
      · have h3' : ¬ (xs.length : Int) ≤ 4 := by omega
        simp only [h3, h3', decide_false, Bool.false_and, Bool.not_false, if_true] at q ⊢
        exact q
    · have h1' : ¬ (1 : Int) ≤ xs.length := by omega
      refine ⟨_, rfl, ?_⟩
      simp only [h1, h1', decide_false, Bool.false_and, Bool.not_false, if_true, if_false, Bool.false_eq_true] at q ⊢
      exact q
  | _ => exact q
/-! ### row_is_right -/
def rowB (cs : List D) : D → Bool
  | .tuple xs => decide (xs.length = cs.length) && (pairs cs xs).all fun | .tuple [c, v] => valB c v | _ => false
  | _ => false
abbrev w_row_is_right : Wc := w2 (fun c v => ∃ cs, c = .tuple cs ∧ (∀ d ∈ cs, colish d) ∧ Good v) fun c v => .bool (match c with | .tuple cs => rowB cs v | _ => false)
abbrev m_row_is_right : Wc.Mono w_row_is_right := w2.mono
theorem d_row_is_right (T : Txt K mg A) (d_is_value_of : Def P w K mg base "is_value_of" 2 ["column", "value"] w_is_value_of) (F : FunAt K mg "row_is_right" s_row_is_right ["columns", "value"]) : Def P w K mg base "row_is_right" 3 ["columns", "value"] w_row_is_right := by
  refine defD F sc_row_is_right (fun ds k Q x h => w2.len h) fun f cdv Ar outer s H E p G hg hr => ⟨_, (dss_cons (ds_if (dw_or (dt_not (dt_val (de_isi (T := "tuple") (de_var (pv 1)) T.z_isinstance T.z_tuple (by decide +kernel)))) (dw_or1 (dt_cmp (op_neA hr.units) neD.mono fitsNe (de_bi lenD.mono fitsLen call_len_seq (da_cons (de_var (pv 1)) da_nil) T.z_len) (de_bi lenD.mono fitsLen call_len_seq (da_cons (de_var (pv 0)) da_nil) T.z_len)))).dt
    (dss_one (ds_ret de_bl))
    dss_nil)
    (dss_cons (ds_for (passes_of rfl) rfl (di_zip (de_var (pv 0)) (de_var (pv 1)) T.z_zip) (dg_tp rfl (dgs_cons (i := 2) sc_row_is_right.nd (dgs_cons (i := 3) sc_row_is_right.nd dgs_nil)))
    (dss_one (ds_if (dt_not (dt_val (de_fn d_is_value_of m_is_value_of hg hr (takes_of rfl rfl rfl rfl) (da_cons (de_var (pv 2)) (da_cons (de_var (pv 3)) da_nil)))))
    (dss_one (ds_ret de_bl))
    dss_nil)))
    (dss_one (ds_ret de_bl)))), ?_⟩
  rintro ds n Q x ⟨a, b, rfl, ⟨cs, rfl, hc, hv⟩, q⟩
  simp only [wRet, wSet, wSeq, wNext, wDrop, wIfS, wTest, wAnd, wOr, wNot, wIf, wBin, wVar, wC, wAndV, wOrV, wNotV, wIsN, wNotN, wNeg, wChain, wNil, wCons, wTup, wLst, wBi, wCall, wIsi, wSl, wSo, wNo, wSeqI, wFor, gNm, gTp, puts, wAsg, wPar, wMul, wmD, wmO, putsI, wAug, wTryIs, wRng1, wRng2, wEnum, wEnumT, wZip, wLc, wYes, wLend, wRel, wOwn, wApp, wIns, wSetIx, wLstF, wListF, wRepF, wAddF, wSlS, wParO, wRevT, wSortedSet, wSortedSetL, wSortedSetT, wKeys, weI, wExt, allD, wMt, wRaise, wSeqO, wCallF, plainO, wCallA, wIdx0, wAnF, wSetA, wUnA, wSeqA, plainA, wFld, wFldO, wMake, wLRg, Ans.data, Ans.own.injEq, Ans.tup.injEq, Ans.dat.injEq, wTry, wTryM, wHs, wIsC, enOf, put, putUn, defEnds, lendE, lend, wipeE, hide, lenD, intD, listD, tupleD, reprD, wPen0, wPen1, wPen2, wPenS1, wPenS2, penAt, List.map_cons, List.map_nil, List.length_cons, List.length_nil, List.nil_append, List.cons_append, Nat.reduceAdd, Nat.reduceSub, Nat.reduceLeDiff, Nat.zero_add, List.replicate_zero, List.replicate_succ, List.getElem?_cons_zero, List.getElem?_cons_succ, List.set_cons_zero, List.set_cons_succ, Option.some.injEq, Slot.dat.injEq, Slot.own.injEq, PyData.bool.injEq, PyData.int.injEq, PyData.tuple.injEq, PyData.list.injEq, exists_eq_left', exists_eq_left, and_true, true_and, if_true, if_false, Bool.false_eq_true, reduceCtorEq, List.mapIdx_cons, List.mapIdx_nil, kit_tuple hv.f]
  refine ⟨fine.nd hv.f, ?_⟩
  cases b with
  | tuple xs =>
    simp only [isT, Bool.not_true, if_false, Bool.false_eq_true, rowB, neD, twoInts, true_or, true_and] at q ⊢
    refine ⟨_, rfl, ?_⟩
    rw [eqv_len]
    by_cases hl : xs.length = cs.length
    · simp only [hl, decide_true, Bool.true_and, Bool.not_true, if_false, Bool.false_eq_true] at q ⊢
      refine ⟨cs, xs, .inr ⟨rfl, rfl⟩, ?_⟩
      have hp : ∀ d ∈ pairs cs xs, ∃ c v, d = .tuple [c, v] ∧ colish c ∧ Good v := fun d hd => by
        obtain ⟨i, hi⟩ := List.mem_iff_getElem?.mp hd
        obtain ⟨c, v, h1, h2, h3⟩ := pairs_at hi
        exact ⟨c, v, h3, hc c (List.mem_of_getElem? h1), hv.in_tuple v (List.mem_of_getElem? h2)⟩
      refine wLoop.ind (fun ds e => ∃ u v, e = ⟨[.dat (.tuple cs), .dat (.tuple xs), u, v], n⟩ ∧ Q (.bool (ds.all fun | .tuple [c, v] => valB c v | _ => false)) n ∧ ∀ d ∈ ds, ∃ c v, d = .tuple [c, v] ∧ colish c ∧ Good v) ?_ ?_ ⟨.un, .un, rfl, q, hp⟩
      · rintro e ⟨u, v, rfl, q, _⟩
        exact q
      · rintro d ds e ih ⟨u, v, rfl, q, hf⟩
        obtain ⟨c, y, rfl, h1, h2⟩ := hf d List.mem_cons_self
        simp only [wRet, wSet, wSeq, wNext, wDrop, wIfS, wTest, wAnd, wOr, wNot, wIf, wBin, wVar, wC, wAndV, wOrV, wNotV, wIsN, wNotN, wNeg, wChain, wNil, wCons, wTup, wLst, wBi, wCall, wIsi, wSl, wSo, wNo, wSeqI, wFor, gNm, gTp, puts, wAsg, wPar, wMul, wmD, wmO, putsI, wAug, wTryIs, wRng1, wRng2, wEnum, wEnumT, wZip, wLc, wYes, wLend, wRel, wOwn, wApp, wIns, wSetIx, wLstF, wListF, wRepF, wAddF, wSlS, wParO, wRevT, wSortedSet, wSortedSetL, wSortedSetT, wKeys, weI, wExt, allD, wMt, wRaise, wSeqO, wCallF, plainO, wCallA, wIdx0, wAnF, wSetA, wUnA, wSeqA, plainA, wFld, wFldO, wMake, wLRg, Ans.data, Ans.own.injEq, Ans.tup.injEq, Ans.dat.injEq, wTry, wTryM, wHs, wIsC, enOf, put, putUn, defEnds, lendE, lend, wipeE, hide, lenD, intD, listD, tupleD, reprD, wPen0, wPen1, wPen2, wPenS1, wPenS2, penAt, List.map_cons, List.map_nil, List.length_cons, List.length_nil, List.nil_append, List.cons_append, Nat.reduceAdd, Nat.reduceSub, Nat.reduceLeDiff, Nat.zero_add, List.replicate_zero, List.replicate_succ, List.getElem?_cons_zero, List.getElem?_cons_succ, List.set_cons_zero, List.set_cons_succ, Option.some.injEq, Slot.dat.injEq, Slot.own.injEq, PyData.bool.injEq, PyData.int.injEq, PyData.tuple.injEq, PyData.list.injEq, exists_eq_left', exists_eq_left, and_true, true_and, if_true, if_false, Bool.false_eq_true, reduceCtorEq, List.mapIdx_cons, List.mapIdx_nil]
        refine ⟨c, y, rfl, ⟨h1, h2⟩, ?_⟩
        refine ⟨_, rfl, ?_⟩
        rw [List.all_cons] at q
        dsimp only at q
        cases hc : valB c y with
        | true =>
          rw [hc] at q
          simp only [Bool.not_true, if_false, Bool.false_eq_true, Bool.true_and] at q ⊢
          exact ih _ ⟨_, _, rfl, q, fun d hd => hf d (List.mem_cons_of_mem _ hd)⟩
        | false =>
          rw [hc] at q
          exact q
    · simp only [hl, decide_false, Bool.false_and, Bool.not_false, if_true] at q ⊢
      exact q
  | _ => exact q
end
end L2.DL.K12




namespace L2.DL.K12
open PySem PySem.Spec
      PyProof.Rows
section
variable {P : Program} {w : World} {K : PySem.W.Frag} {mg : Str → Option Value} {base : Heap} {A : Cls}
/-! ### entry_is_right -/
def entB (cs : List D) : D → Bool
  | .tuple [.int i, b] => decide (0 ≤ i) && decide (i < cs.length) && (isN b || valB (cs.getD i.toNat .none) b)
  | _ => false
def colsish (c : D) : Prop := ∃ cs, c = .tuple cs ∧ (∀ d ∈ cs, colish d) ∧ cs.length ≤ 100
def onCols (f : List D → D → Bool) (c v : D) : D := .bool (match c with | .tuple cs => f cs v | _ => false)
abbrev w_entry_is_right : Wc := w2 (fun c v => colsish c ∧ Good v) (onCols entB)
abbrev m_entry_is_right : Wc.Mono w_entry_is_right := w2.mono
theorem d_entry_is_right (T : Txt K mg A) (d_is_number : Def P w K mg base "is_number" 2 ["value", "limit"] w_is_number) (d_is_value_of : Def P w K mg base "is_value_of" 2 ["column", "value"] w_is_value_of) (F : FunAt K mg "entry_is_right" s_entry_is_right ["columns", "value"]) : Def P w K mg base "entry_is_right" 3 ["columns", "value"] w_entry_is_right := by
  refine defD F sc_entry_is_right (fun ds k Q x h => w2.len h) fun f cdv Ar outer s H E p G hg hr => ⟨_, (dss_cons (ds_if (dw_or (dt_not (dt_val (de_isi (T := "tuple") (de_var (pv 1)) T.z_isinstance T.z_tuple (by decide +kernel)))) (dw_or1 (dt_cmp (op_neA hr.units) neD.mono fitsNe (de_bi lenD.mono fitsLen call_len_seq (da_cons (de_var (pv 1)) da_nil) T.z_len) de_int))).dt
    (dss_one (ds_ret de_bl))
    dss_nil)
    (dss_cons (ds_if (dt_not (dt_val (de_fn d_is_number m_is_number hg hr (takes_of rfl rfl rfl rfl) (da_cons (de_idx (de_var (pv 1)) de_int) (da_cons (de_bi lenD.mono fitsLen call_len_seq (da_cons (de_var (pv 0)) da_nil) T.z_len) da_nil)))))
    (dss_one (ds_ret de_bl))
    dss_nil)
    (dss_one (ds_ret (de_or (de_isN (de_idx (de_var (pv 1)) de_int)) (de_one (de_fn d_is_value_of m_is_value_of hg hr (takes_of rfl rfl rfl rfl) (da_cons (de_idx (de_var (pv 0)) (de_idx (de_var (pv 1)) de_int)) (da_cons (de_idx (de_var (pv 1)) de_int) da_nil))))))))), ?_⟩
  rintro ds n Q x ⟨a, b, rfl, ⟨⟨cs, rfl, hc, hcl⟩, hv⟩, q⟩
  simp only [wRet, wSet, wSeq, wNext, wDrop, wIfS, wTest, wAnd, wOr, wNot, wIf, wBin, wVar, wC, wAndV, wOrV, wNotV, wIsN, wNotN, wNeg, wChain, wNil, wCons, wTup, wLst, wBi, wCall, wIsi, wSl, wSo, wNo, wSeqI, wFor, gNm, gTp, puts, wAsg, wPar, wMul, wmD, wmO, putsI, wAug, wTryIs, wRng1, wRng2, wEnum, wEnumT, wZip, wLc, wYes, wLend, wRel, wOwn, wApp, wIns, wSetIx, wLstF, wListF, wRepF, wAddF, wSlS, wParO, wRevT, wSortedSet, wSortedSetL, wSortedSetT, wKeys, weI, wExt, allD, wMt, wRaise, wSeqO, wCallF, plainO, wCallA, wIdx0, wAnF, wSetA, wUnA, wSeqA, plainA, wFld, wFldO, wMake, wLRg, Ans.data, Ans.own.injEq, Ans.tup.injEq, Ans.dat.injEq, wTry, wTryM, wHs, wIsC, enOf, put, putUn, defEnds, lendE, lend, wipeE, hide, lenD, intD, listD, tupleD, reprD, wPen0, wPen1, wPen2, wPenS1, wPenS2, penAt, List.map_cons, List.map_nil, List.length_cons, List.length_nil, List.nil_append, List.cons_append, Nat.reduceAdd, Nat.reduceSub, Nat.reduceLeDiff, Nat.zero_add, List.replicate_zero, List.replicate_succ, List.getElem?_cons_zero, List.getElem?_cons_succ, List.set_cons_zero, List.set_cons_succ, Option.some.injEq, Slot.dat.injEq, Slot.own.injEq, PyData.bool.injEq, PyData.int.injEq, PyData.tuple.injEq, PyData.list.injEq, exists_eq_left', exists_eq_left, and_true, true_and, if_true, if_false, Bool.false_eq_true, reduceCtorEq, List.mapIdx_cons, List.mapIdx_nil, kit_tuple hv.f, onCols] at q ⊢
  refine ⟨fine.nd hv.f, ?_⟩
  cases b with
  | tuple xs =>
    simp only [isT, Bool.not_true, if_false, Bool.false_eq_true, neD, twoInts, true_or, true_and] at q ⊢
    have e1 : PyData.eqv (.int (xs.length : Int)) (.int 2) = decide (xs.length = 2) := eqv_len xs.length 2
    refine ⟨_, rfl, ?_⟩
    rw [e1]
    match xs, q, hv with
    | [], q, hv => exact q
    | [_], q, hv => simpa [entB] using q
    | _ :: _ :: _ :: _, q, hv => simpa [entB] using q
    | [x0, y], q, hv =>
      have hx := hv.in_tuple x0 (by simp)
      have hy := hv.in_tuple y (by simp)
      simp only [List.length_cons, List.length_nil, Nat.reduceAdd, decide_true, Bool.not_true, if_false, Bool.false_eq_true]
      have z0 : ∀ P : D → Prop, P x0 → idxD (.tuple [x0, y]) (.int 0) P := fun P h => ⟨x0, rfl, h⟩
      have z1 : ∀ P : D → Prop, P y → idxD (.tuple [x0, y]) (.int 1) P := fun P h => ⟨y, rfl, h⟩
      refine z0 _ ⟨_, _, rfl, ⟨hx.f, _, rfl⟩, ?_⟩
      cases x0 with
      | int i =>
        simp only [numB, entB] at q ⊢
        refine ⟨_, rfl, ?_⟩
        by_cases h0 : 0 ≤ i
        · by_cases h1 : i < cs.length
          · simp only [h0, h1, decide_true, Bool.true_and, Bool.not_true, if_false, Bool.false_eq_true] at q ⊢
            refine z1 _ ?_
            cases hn : isN y with
            | true => rw [hn] at q; exact q
            | false =>
              rw [hn] at q
              refine z0 _ ⟨_, atI_pos h0 h1, z1 _ ⟨_, _, rfl, ⟨hc _ (getD_mem h0 h1), hy⟩, q⟩⟩
          · simp only [h0, h1, decide_true, decide_false, Bool.true_and, Bool.false_and, Bool.not_false, if_true] at q ⊢
            exact q
        · simp only [h0, decide_false, Bool.false_and, Bool.not_false, if_true] at q ⊢
          exact q
      | _ => exact ⟨_, rfl, q⟩
  | _ => exact q
/-! ### given_is_right -/
def givL (cs : List D) : Int → List D → Bool
  | _, [] => true
  | l, e :: r => entB cs e && match e with | .tuple (.int i :: _) => decide (l < i) && givL cs i r | _ => false
def givB (cs : List D) : D → Bool
  | .tuple es => givL cs (-1) es
  | _ => false
theorem entB_inv {cs : List D} {e : D} (h : entB cs e = true) : ∃ i b, e = .tuple [.int i, b] ∧ 0 ≤ i ∧ i < cs.length ∧ (isN b || valB (cs.getD i.toNat .none) b) = true := by
  unfold entB at h
  split at h
  · simp only [Bool.and_eq_true,
        decide_eq_true_eq] at h
    exact ⟨_, _, rfl, h.1.1, h.1.2, h.2⟩
  · cases h
abbrev w_given_is_right : Wc := w2 (fun c v => colsish c ∧ Good v) (onCols givB)
abbrev m_given_is_right : Wc.Mono w_given_is_right := w2.mono
theorem d_given_is_right (T : Txt K mg A) (d_entry_is_right : Def P w K mg base "entry_is_right" 3 ["columns", "value"] w_entry_is_right) (F : FunAt K mg "given_is_right" s_given_is_right ["columns", "value"]) : Def P w K mg base "given_is_right" 4 ["columns", "value"] w_given_is_right := by
  refine defD F sc_given_is_right (fun ds k Q x h => w2.len h) fun f cdv Ar outer s H E p G hg hr => ⟨_, (dss_cons (ds_if (dt_not (dt_val (de_isi (T := "tuple") (de_var (pv 1)) T.z_isinstance T.z_tuple (by decide +kernel))))
    (dss_one (ds_ret de_bl))
    dss_nil)
    (dss_cons (ds_set (i := 2) (de_neg de_int) sc_given_is_right.nd)
    (dss_cons (ds_for (passes_of rfl) rfl (di_seq (de_var (pv 1))) (dg_nm (i := 3) sc_given_is_right.nd)
    (dss_cons (ds_if (dw_or (dt_not (dt_val (de_fn d_entry_is_right m_entry_is_right hg hr (takes_of rfl rfl rfl rfl) (da_cons (de_var (pv 0)) (da_cons (de_var (pv 3)) da_nil))))) (dw_or1 (dt_cmp op_le cmpD.mono fitsCmp (de_idx (de_var (pv 3)) de_int) (de_var (pv 2))))).dt
    (dss_one (ds_ret de_bl))
    dss_nil)
    (dss_one (ds_set (i := 2) (de_idx (de_var (pv 3)) de_int) sc_given_is_right.nd))))
    (dss_one (ds_ret de_bl))))), ?_⟩
  rintro ds n Q x ⟨a, b, rfl, ⟨⟨cs, rfl, hc, hcl⟩, hv⟩, q⟩
  simp only [wRet, wSet, wSeq, wNext, wDrop, wIfS, wTest, wAnd, wOr, wNot, wIf, wBin, wVar, wC, wAndV, wOrV, wNotV, wIsN, wNotN, wNeg, wChain, wNil, wCons, wTup, wLst, wBi, wCall, wIsi, wSl, wSo, wNo, wSeqI, wFor, gNm, gTp, puts, wAsg, wPar, wMul, wmD, wmO, putsI, wAug, wTryIs, wRng1, wRng2, wEnum, wEnumT, wZip, wLc, wYes, wLend, wRel, wOwn, wApp, wIns, wSetIx, wLstF, wListF, wRepF, wAddF, wSlS, wParO, wRevT, wSortedSet, wSortedSetL, wSortedSetT, wKeys, weI, wExt, allD, wMt, wRaise, wSeqO, wCallF, plainO, wCallA, wIdx0, wAnF, wSetA, wUnA, wSeqA, plainA, wFld, wFldO, wMake, wLRg, Ans.data, Ans.own.injEq, Ans.tup.injEq, Ans.dat.injEq, wTry, wTryM, wHs, wIsC, enOf, put, putUn, defEnds, lendE, lend, wipeE, hide, lenD, intD, listD, tupleD, reprD, wPen0, wPen1, wPen2, wPenS1, wPenS2, penAt, List.map_cons, List.map_nil, List.length_cons, List.length_nil, List.nil_append, List.cons_append, Nat.reduceAdd, Nat.reduceSub, Nat.reduceLeDiff, Nat.zero_add, List.replicate_zero, List.replicate_succ, List.getElem?_cons_zero, List.getElem?_cons_succ, List.set_cons_zero, List.set_cons_succ, Option.some.injEq, Slot.dat.injEq, Slot.own.injEq, PyData.bool.injEq, PyData.int.injEq, PyData.tuple.injEq, PyData.list.injEq, exists_eq_left', exists_eq_left, and_true, true_and, if_true, if_false, Bool.false_eq_true, reduceCtorEq, List.mapIdx_cons, List.mapIdx_nil, kit_tuple hv.f, onCols] at q ⊢
  refine ⟨fine.nd hv.f, ?_⟩
  cases b with
  | tuple xs =>
    simp only [isT, Bool.not_true, if_false, Bool.false_eq_true, givB] at q ⊢
    refine ⟨xs, rfl, ?_⟩
    refine wLoop.ind (fun ds e => ∃ l u, e = ⟨[.dat (.tuple cs), .dat (.tuple xs), .dat (.int l), u], n⟩ ∧ Q (.bool (givL cs l ds)) n ∧ ∀ d ∈ ds, Good d) ?_ ?_ ⟨-1, .un, rfl, q, hv.in_tuple⟩
    · rintro e ⟨l, u, rfl, q, _⟩
      exact q
    · rintro d ds e ih ⟨l, u, rfl, q, hf⟩
      simp only [wRet, wSet, wSeq, wNext, wDrop, wIfS, wTest, wAnd, wOr, wNot, wIf, wBin, wVar, wC, wAndV, wOrV, wNotV, wIsN, wNotN, wNeg, wChain, wNil, wCons, wTup, wLst, wBi, wCall, wIsi, wSl, wSo, wNo, wSeqI, wFor, gNm, gTp, puts, wAsg, wPar, wMul, wmD, wmO, putsI, wAug, wTryIs, wRng1, wRng2, wEnum, wEnumT, wZip, wLc, wYes, wLend, wRel, wOwn, wApp, wIns, wSetIx, wLstF, wListF, wRepF, wAddF, wSlS, wParO, wRevT, wSortedSet, wSortedSetL, wSortedSetT, wKeys, weI, wExt, allD, wMt, wRaise, wSeqO, wCallF, plainO, wCallA, wIdx0, wAnF, wSetA, wUnA, wSeqA, plainA, wFld, wFldO, wMake, wLRg, Ans.data, Ans.own.injEq, Ans.tup.injEq, Ans.dat.injEq, wTry, wTryM, wHs, wIsC, enOf, put, putUn, defEnds, lendE, lend, wipeE, hide, lenD, intD, listD, tupleD, reprD, wPen0, wPen1, wPen2, wPenS1, wPenS2, penAt, List.map_cons, List.map_nil, List.length_cons, List.length_nil, List.nil_append, List.cons_append, Nat.reduceAdd, Nat.reduceSub, Nat.reduceLeDiff, Nat.zero_add, List.replicate_zero, List.replicate_succ, List.getElem?_cons_zero, List.getElem?_cons_succ, List.set_cons_zero, List.set_cons_succ, Option.some.injEq, Slot.dat.injEq, Slot.own.injEq, PyData.bool.injEq, PyData.int.injEq, PyData.tuple.injEq, PyData.list.injEq, exists_eq_left', exists_eq_left, and_true, true_and, if_true, if_false, Bool.false_eq_true, reduceCtorEq, List.mapIdx_cons, List.mapIdx_nil, onCols]
      refine ⟨_, _, rfl, ⟨⟨cs, rfl, hc, hcl⟩, hf d List.mem_cons_self⟩, ?_⟩
      simp only [wRet, wSet, wSeq, wNext, wDrop, wIfS, wTest, wAnd, wOr, wNot, wIf, wBin, wVar, wC, wAndV, wOrV, wNotV, wIsN, wNotN, wNeg, wChain, wNil, wCons, wTup, wLst, wBi, wCall, wIsi, wSl, wSo, wNo, wSeqI, wFor, gNm, gTp, puts, wAsg, wPar, wMul, wmD, wmO, putsI, wAug, wTryIs, wRng1, wRng2, wEnum, wEnumT, wZip, wLc, wYes, wLend, wRel, wOwn, wApp, wIns, wSetIx, wLstF, wListF, wRepF, wAddF, wSlS, wParO, wRevT, wSortedSet, wSortedSetL, wSortedSetT, wKeys, weI, wExt, allD, wMt, wRaise, wSeqO, wCallF, plainO, wCallA, wIdx0, wAnF, wSetA, wUnA, wSeqA, plainA, wFld, wFldO, wMake, wLRg, Ans.data, Ans.own.injEq, Ans.tup.injEq, Ans.dat.injEq, wTry, wTryM, wHs, wIsC, enOf, put, putUn, defEnds, lendE, lend, wipeE, hide, lenD, intD, listD, tupleD, reprD, wPen0, wPen1, wPen2, wPenS1, wPenS2, penAt, List.map_cons, List.map_nil, List.length_cons, List.length_nil, List.nil_append, List.cons_append, Nat.reduceAdd, Nat.reduceSub, Nat.reduceLeDiff, Nat.zero_add, List.replicate_zero, List.replicate_succ, List.getElem?_cons_zero, List.getElem?_cons_succ, List.set_cons_zero, List.set_cons_succ, Option.some.injEq, Slot.dat.injEq, Slot.own.injEq, PyData.bool.injEq, PyData.int.injEq, PyData.tuple.injEq, PyData.list.injEq, exists_eq_left', exists_eq_left, and_true, true_and, if_true, if_false, Bool.false_eq_true, reduceCtorEq, List.mapIdx_cons, List.mapIdx_nil, onCols, givL] at q ⊢
      cases he : entB cs d with
      | false =>
        rw [he] at q
        exact q
      | true =>
        rw [he] at q
        obtain ⟨i, b, rfl, h0, h1, _⟩ := entB_inv he
        simp only [Bool.not_true, if_false, Bool.false_eq_true, Bool.true_and] at q ⊢
        refine ⟨_, rfl, ?_⟩
        simp only [cmpD]
        refine ⟨_, rfl, ?_⟩
        by_cases hl : i ≤ l
        · have hl' : ¬ l < i := by omega
          simp only [hl, hl', decide_true, decide_false, Bool.false_and, if_true] at q ⊢
          exact q
        · have hl' : l < i := by omega
          simp only [hl, hl', decide_true, decide_false, Bool.true_and, if_false, Bool.false_eq_true] at q ⊢
          exact ⟨_, rfl, ih _ ⟨i, _, rfl, q, fun d hd => hf d (List.mem_cons_of_mem _ hd)⟩⟩
  | _ => exact q
end
end L2.DL.K12




namespace L2.DL.K12
open PySem PySem.Spec
      PyProof.Rows
section
variable {P : Program} {w : World} {K : PySem.W.Frag} {mg : Str → Option Value} {base : Heap} {A : Cls}
/-! ### rule_is_right -/
def fstD : D → D
  | .tuple (a :: _) => a
  | _ => .none
def sndD : D → D
  | .tuple (_ :: b :: _) => b
  | _ => .none
def valAt (cs : List D) : D → D → Bool
  | .int i, w => valB (cs.getD i.toNat .none) w
  | _, _ => false
def rulB (cs : List D) : D → Bool
  | .tuple [.tuple es, c, w] => givL cs (-1) es && (numB c (.int cs.length) && (!inB c (es.map fstD) && (isN w || (!inB .none (es.map sndD) && valAt cs c w))))
  | _ => false
theorem givL_inv {cs : List D} : ∀ {es : List D} {l : Int}, givL cs l es = true → ∀ e ∈ es, ∃ i b, e = .tuple [.int i, b] ∧ l < i ∧ 0 ≤ i ∧ i < cs.length ∧ (isN b || valB (cs.getD i.toNat .none) b) = true
  | [], _, _, e, he => by cases he
  | d :: es, l, h, e, he => by
    unfold givL at h
    rw [Bool.and_eq_true] at h
    obtain ⟨i, b, rfl, h0, h1, h2⟩ := entB_inv h.1
    have h3 := h.2
    simp only [Bool.and_eq_true,
          decide_eq_true_eq] at h3
    rcases List.mem_cons.mp
          he with rfl | he
    · exact ⟨i, b, rfl, h3.1, h0, h1, h2⟩
    · obtain ⟨j, b', rfl, g1, g2⟩ := givL_inv h3.2 e he
      exact ⟨j, b', rfl, by omega, g2⟩
theorem givL_len {cs : List D} : ∀ {es : List D} {l : Int}, givL cs l es = true → l + 1 ≤ cs.length → (es.length : Int) + l + 1 ≤ cs.length
  | [], _, _, h => by simpa using h
  | d :: es, l, h, hl => by
    unfold givL at h
    rw [Bool.and_eq_true] at h
    obtain ⟨i, b, rfl, h0, h1, h2⟩ := entB_inv h.1
    have h3 := h.2
    simp only [Bool.and_eq_true,
          decide_eq_true_eq] at h3
    have := givL_len h3.2 (by omega)
    rw [List.length_cons]
    omega
theorem numB_inv {c : D} {m : Int} (h : numB c (.int m) = true) : ∃ i, c = .int i ∧ 0 ≤ i ∧ i < m := by
  unfold numB at h
  split at h
  · rename_i e
    cases e
    simp only [Bool.and_eq_true,
          decide_eq_true_eq] at h
    exact ⟨_, rfl, h⟩
  · cases h
abbrev w_rule_is_right : Wc := w2 (fun c v => colsish c ∧ Good v) (onCols rulB)
abbrev m_rule_is_right : Wc.Mono w_rule_is_right := w2.mono
theorem d_rule_is_right (T : Txt K mg A) (d_is_number : Def P w K mg base "is_number" 2 ["value", "limit"] w_is_number) (d_is_value_of : Def P w K mg base "is_value_of" 2 ["column", "value"] w_is_value_of) (d_given_is_right : Def P w K mg base "given_is_right" 4 ["columns", "value"] w_given_is_right)
    (F : FunAt K mg "rule_is_right" s_rule_is_right ["columns", "value"]) : Def P w K mg base "rule_is_right" 5 ["columns", "value"] w_rule_is_right := by
  refine defD F sc_rule_is_right (fun ds k Q x h => w2.len h) fun f cdv Ar outer s H E p G hg hr => ⟨_, (dss_cons (ds_if (dw_or (dt_not (dt_val (de_isi (T := "tuple") (de_var (pv 1)) T.z_isinstance T.z_tuple (by decide +kernel)))) (dw_or1 (dt_cmp (op_neA hr.units) neD.mono fitsNe (de_bi lenD.mono fitsLen call_len_seq (da_cons (de_var (pv 1)) da_nil) T.z_len) de_int))).dt
    (dss_one (ds_ret de_bl))
    dss_nil)
    (dss_cons (ds_asg (de_var (pv 1)) (dg_tp rfl (dgs_cons (i := 2) sc_rule_is_right.nd (dgs_cons (i := 3) sc_rule_is_right.nd (dgs_cons (i := 4) sc_rule_is_right.nd dgs_nil)))))
    (dss_cons (ds_if (dw_or (dt_not (dt_val (de_fn d_given_is_right m_given_is_right hg hr (takes_of rfl rfl rfl rfl) (da_cons (de_var (pv 0)) (da_cons (de_var (pv 2)) da_nil))))) (dw_or1 (dt_not (dt_val (de_fn d_is_number m_is_number hg hr (takes_of rfl rfl rfl rfl) (da_cons (de_var (pv 3)) (da_cons (de_bi lenD.mono fitsLen call_len_seq (da_cons (de_var (pv 0)) da_nil) T.z_len) da_nil))))))).dt
    (dss_one (ds_ret de_bl))
    dss_nil)
    (dss_cons (ds_if (dt_cmp (op_inA (hr65 hr)) inD.mono fitsIn (de_var (pv 3)) (de_lc (own := [("entry", 5)]) rfl sc_rule_is_right.nd (di_seq (de_var (pv 2))) (blkOk_by (N := ["columns", "value", "given", "column", "want", "entry"]) (sc := defScope s_rule_is_right) (by decide +kernel)) (fun _ _ _ _ _ _ _ => (dgc_nm (i := 5) sc_rule_is_right.nd (by decide))) (fun _ _ _ _ _ _ _ => dts_nil) (fun _ _ _ _ _ _ _ => (de_idx (de_var (pv 5)) de_int))))
    (dss_one (ds_ret de_bl))
    dss_nil)
    (dss_cons (ds_if (dt_isN (de_var (pv 4)))
    (dss_one (ds_ret de_bl))
    dss_nil)
    (dss_cons (ds_if (dt_cmp (op_inA (hr65 hr)) inD.mono fitsIn de_non (de_lc (own := [("entry", 5)]) rfl sc_rule_is_right.nd (di_seq (de_var (pv 2))) (blkOk_by (N := ["columns", "value", "given", "column", "want", "entry"]) (sc := defScope s_rule_is_right) (by decide +kernel)) (fun _ _ _ _ _ _ _ => (dgc_nm (i := 5) sc_rule_is_right.nd (by decide))) (fun _ _ _ _ _ _ _ => dts_nil) (fun _ _ _ _ _ _ _ => (de_idx (de_var (pv 5)) de_int))))
    (dss_one (ds_ret de_bl))
    dss_nil)
    (dss_one (ds_ret (de_fn d_is_value_of m_is_value_of hg hr (takes_of rfl rfl rfl rfl) (da_cons (de_idx (de_var (pv 0)) (de_var (pv 3))) (da_cons (de_var (pv 4)) da_nil))))))))))), ?_⟩
  rintro ds n Q x ⟨a, b, rfl, ⟨⟨cs, rfl, hc, hcl⟩, hv⟩, q⟩
  simp only [wRet, wSet, wSeq, wNext, wDrop, wIfS, wTest, wAnd, wOr, wNot, wIf, wBin, wVar, wC, wAndV, wOrV, wNotV, wIsN, wNotN, wNeg, wChain, wNil, wCons, wTup, wLst, wBi, wCall, wIsi, wSl, wSo, wNo, wSeqI, wFor, gNm, gTp, puts, wAsg, wPar, wMul, wmD, wmO, putsI, wAug, wTryIs, wRng1, wRng2, wEnum, wEnumT, wZip, wLc, wYes, wLend, wRel, wOwn, wApp, wIns, wSetIx, wLstF, wListF, wRepF, wAddF, wSlS, wParO, wRevT, wSortedSet, wSortedSetL, wSortedSetT, wKeys, weI, wExt, allD, wMt, wRaise, wSeqO, wCallF, plainO, wCallA, wIdx0, wAnF, wSetA, wUnA, wSeqA, plainA, wFld, wFldO, wMake, wLRg, Ans.data, Ans.own.injEq, Ans.tup.injEq, Ans.dat.injEq, wTry, wTryM, wHs, wIsC, enOf, put, putUn, defEnds, lendE, lend, wipeE, hide, lenD, intD, listD, tupleD, reprD, wPen0, wPen1, wPen2, wPenS1, wPenS2, penAt, List.map_cons, List.map_nil, List.length_cons, List.length_nil, List.nil_append, List.cons_append, Nat.reduceAdd, Nat.reduceSub, Nat.reduceLeDiff, Nat.zero_add, List.replicate_zero, List.replicate_succ, List.getElem?_cons_zero, List.getElem?_cons_succ, List.set_cons_zero, List.set_cons_succ, Option.some.injEq, Slot.dat.injEq, Slot.own.injEq, PyData.bool.injEq, PyData.int.injEq, PyData.tuple.injEq, PyData.list.injEq, exists_eq_left', exists_eq_left, and_true, true_and, if_true, if_false, Bool.false_eq_true, reduceCtorEq, List.mapIdx_cons, List.mapIdx_nil, kit_tuple hv.f, onCols] at q ⊢
  refine ⟨fine.nd hv.f, ?_⟩
  cases b with
  | tuple xs =>
    simp only [isT, Bool.not_true, if_false, Bool.false_eq_true, neD, twoInts, true_or, true_and] at q ⊢
    have e1 : PyData.eqv (.int (xs.length : Int)) (.int 3) = decide (xs.length = 3) := eqv_len xs.length 3
    refine ⟨_, rfl, ?_⟩
    rw [e1]
    match xs, q, hv with
    | [], q, hv => exact q
    | [_], q, hv => simpa [rulB] using q
    | [_, _], q, hv => simpa [rulB] using q
    | _ :: _ :: _ :: _ :: _, q, hv => simpa [rulB] using q
    | [g, c, v], q, hv =>
      have hgd := hv.in_tuple g (by simp)
      have hcd := hv.in_tuple c (by simp)
      have hvd := hv.in_tuple v (by simp)
      simp only [List.length_cons, List.length_nil, Nat.reduceAdd, decide_true, Bool.not_true, if_false, Bool.false_eq_true]
      refine ⟨_, rfl, rfl, ?_⟩
      simp only [wRet, wSet, wSeq, wNext, wDrop, wIfS, wTest, wAnd, wOr, wNot, wIf, wBin, wVar, wC, wAndV, wOrV, wNotV, wIsN, wNotN, wNeg, wChain, wNil, wCons, wTup, wLst, wBi, wCall, wIsi, wSl, wSo, wNo, wSeqI, wFor, gNm, gTp, puts, wAsg, wPar, wMul, wmD, wmO, putsI, wAug, wTryIs, wRng1, wRng2, wEnum, wEnumT, wZip, wLc, wYes, wLend, wRel, wOwn, wApp, wIns, wSetIx, wLstF, wListF, wRepF, wAddF, wSlS, wParO, wRevT, wSortedSet, wSortedSetL, wSortedSetT, wKeys, weI, wExt, allD, wMt, wRaise, wSeqO, wCallF, plainO, wCallA, wIdx0, wAnF, wSetA, wUnA, wSeqA, plainA, wFld, wFldO, wMake, wLRg, Ans.data, Ans.own.injEq, Ans.tup.injEq, Ans.dat.injEq, wTry, wTryM, wHs, wIsC, enOf, put, putUn, defEnds, lendE, lend, wipeE, hide, lenD, intD, listD, tupleD, reprD, wPen0, wPen1, wPen2, wPenS1, wPenS2, penAt, List.map_cons, List.map_nil, List.length_cons, List.length_nil, List.nil_append, List.cons_append, Nat.reduceAdd, Nat.reduceSub, Nat.reduceLeDiff, Nat.zero_add, List.replicate_zero, List.replicate_succ, List.getElem?_cons_zero, List.getElem?_cons_succ, List.set_cons_zero, List.set_cons_succ, Option.some.injEq, Slot.dat.injEq, Slot.own.injEq, PyData.bool.injEq, PyData.int.injEq, PyData.tuple.injEq, PyData.list.injEq, exists_eq_left', exists_eq_left, and_true, true_and, if_true, if_false, Bool.false_eq_true, reduceCtorEq, List.mapIdx_cons, List.mapIdx_nil, onCols]
      refine ⟨_, _, rfl, ⟨⟨cs, rfl, hc, hcl⟩, hgd⟩, ?_⟩
      dsimp only [onCols]
      refine ⟨_, rfl, ?_⟩
      cases g with
      | tuple es =>
        simp only [givB, rulB] at q ⊢
        rcases Bool.eq_false_or_eq_true (givL cs (-1) es) with hg1 | hg1
        · simp only [hg1, Bool.not_true, if_false, Bool.false_eq_true, Bool.true_and] at q ⊢
          refine ⟨_, _, rfl, ⟨hcd.f, _, rfl⟩, ?_⟩
          refine ⟨_, rfl, ?_⟩
          rcases Bool.eq_false_or_eq_true (numB c (.int cs.length)) with hn1 | hn1
          · obtain ⟨i, rfl, h0, h1⟩ := numB_inv hn1
            simp only [hn1, Bool.not_true, if_false, Bool.false_eq_true, Bool.true_and] at q ⊢
            have inv := givL_inv hg1
            have hlen : es.length ≤ 1000 := by
              have := givL_len hg1 (by omega)
              omega
            have f1 : Good (.list (es.map fstD)) := hgd.mapL fun d hd => by
              obtain ⟨j, b, rfl, _⟩ := inv d hd
              exact (hgd.in_tuple _ hd).part _ (by simp [fstD])
            have f2 : Good (.list (es.map sndD)) := hgd.mapL fun d hd => by
              obtain ⟨j, b, rfl, _⟩ := inv d hd
              exact (hgd.in_tuple _ hd).part _ (by simp [sndD])
            refine ⟨_, rfl, ?_⟩
            refine lcLoop.fm (fun d => some (fstD d)) (fun d hd A B h1 h2 => ?_) (by simp only [List.length_nil]; omega) ?_
            · obtain ⟨j, b, rfl, _⟩ := inv d hd
              simp only [wRet, wSet, wSeq, wNext, wDrop, wIfS, wTest, wAnd, wOr, wNot, wIf, wBin, wVar, wC, wAndV, wOrV, wNotV, wIsN, wNotN, wNeg, wChain, wNil, wCons, wTup, wLst, wBi, wCall, wIsi, wSl, wSo, wNo, wSeqI, wFor, gNm, gTp, puts, wAsg, wPar, wMul, wmD, wmO, putsI, wAug, wTryIs, wRng1, wRng2, wEnum, wEnumT, wZip, wLc, wYes, wLend, wRel, wOwn, wApp, wIns, wSetIx, wLstF, wListF, wRepF, wAddF, wSlS, wParO, wRevT, wSortedSet, wSortedSetL, wSortedSetT, wKeys, weI, wExt, allD, wMt, wRaise, wSeqO, wCallF, plainO, wCallA, wIdx0, wAnF, wSetA, wUnA, wSeqA, plainA, wFld, wFldO, wMake, wLRg, Ans.data, Ans.own.injEq, Ans.tup.injEq, Ans.dat.injEq, wTry, wTryM, wHs, wIsC, enOf, put, putUn, defEnds, lendE, lend, wipeE, hide, lenD, intD, listD, tupleD, reprD, wPen0, wPen1, wPen2, wPenS1, wPenS2, penAt, List.map_cons, List.map_nil, List.length_cons, List.length_nil, List.nil_append, List.cons_append, Nat.reduceAdd, Nat.reduceSub, Nat.reduceLeDiff, Nat.zero_add, List.replicate_zero, List.replicate_succ, List.getElem?_cons_zero, List.getElem?_cons_succ, List.set_cons_zero, List.set_cons_succ, Option.some.injEq, Slot.dat.injEq, Slot.own.injEq, PyData.bool.injEq, PyData.int.injEq, PyData.tuple.injEq, PyData.list.injEq, exists_eq_left', exists_eq_left, and_true, true_and, if_true, if_false, Bool.false_eq_true, reduceCtorEq, List.mapIdx_cons, List.mapIdx_nil]
              exact ⟨_, rfl, h2 _ rfl⟩
            rw [List.nil_append, fmap_some]
            refine ⟨hcd, f1, _, rfl, ?_⟩
            refine ⟨_, rfl, ?_⟩
            rcases Bool.eq_false_or_eq_true (inB (.int i) (es.map fstD)) with hi | hi
            · simp only [hi, Bool.not_true, Bool.false_and, if_true] at q ⊢
              exact q
            · simp only [hi, Bool.not_false, Bool.true_and, if_false, Bool.false_eq_true] at q ⊢
              rcases Bool.eq_false_or_eq_true (isN v) with hw | hw
              · simp only [hw, Bool.true_or, if_true] at q ⊢
                exact q
              · simp only [hw, Bool.false_or, if_false, Bool.false_eq_true] at q ⊢
                refine ⟨_, rfl, ?_⟩
                refine lcLoop.fm (fun d => some (sndD d)) (fun d hd A B h1 h2 => ?_) (by simp only [List.length_nil]; omega) ?_
                · obtain ⟨j, b, rfl, _⟩ := inv d hd
                  simp only [wRet, wSet, wSeq, wNext, wDrop, wIfS, wTest, wAnd, wOr, wNot, wIf, wBin, wVar, wC, wAndV, wOrV, wNotV, wIsN, wNotN, wNeg, wChain, wNil, wCons, wTup, wLst, wBi, wCall, wIsi, wSl, wSo, wNo, wSeqI, wFor, gNm, gTp, puts, wAsg, wPar, wMul, wmD, wmO, putsI, wAug, wTryIs, wRng1, wRng2, wEnum, wEnumT, wZip, wLc, wYes, wLend, wRel, wOwn, wApp, wIns, wSetIx, wLstF, wListF, wRepF, wAddF, wSlS, wParO, wRevT, wSortedSet, wSortedSetL, wSortedSetT, wKeys, weI, wExt, allD, wMt, wRaise, wSeqO, wCallF, plainO, wCallA, wIdx0, wAnF, wSetA, wUnA, wSeqA, plainA, wFld, wFldO, wMake, wLRg, Ans.data, Ans.own.injEq, Ans.tup.injEq, Ans.dat.injEq, wTry, wTryM, wHs, wIsC, enOf, put, putUn, defEnds, lendE, lend, wipeE, hide, lenD, intD, listD, tupleD, reprD, wPen0, wPen1, wPen2, wPenS1, wPenS2, penAt, List.map_cons, List.map_nil, List.length_cons, List.length_nil, List.nil_append, List.cons_append, Nat.reduceAdd, Nat.reduceSub, Nat.reduceLeDiff, Nat.zero_add, List.replicate_zero, List.replicate_succ, List.getElem?_cons_zero, List.getElem?_cons_succ, List.set_cons_zero, List.set_cons_succ, Option.some.injEq, Slot.dat.injEq, Slot.own.injEq, PyData.bool.injEq, PyData.int.injEq, PyData.tuple.injEq, PyData.list.injEq, exists_eq_left', exists_eq_left, and_true, true_and, if_true, if_false, Bool.false_eq_true, reduceCtorEq, List.mapIdx_cons, List.mapIdx_nil]
                  exact ⟨_, rfl, h2 _ rfl⟩
                rw [List.nil_append, fmap_some]
                refine ⟨Ok.none.good, f2, _, rfl, ?_⟩
                refine ⟨_, rfl, ?_⟩
                rcases Bool.eq_false_or_eq_true (inB .none (es.map sndD)) with hj | hj
                · simp only [hj, Bool.not_true, Bool.false_and, if_true] at q ⊢
                  exact q
                · simp only [hj, Bool.not_false, Bool.true_and, if_false, Bool.false_eq_true, valAt] at q ⊢
                  exact ⟨_, atI_pos h0 h1, _, _, rfl, ⟨hc _ (getD_mem h0 h1), hvd⟩, q⟩
          · simp only [hn1, Bool.not_false, Bool.false_and, if_true] at q ⊢
            exact q
        · simp only [hg1, Bool.not_false, Bool.false_and, if_true] at q ⊢
          exact q
      | _ => exact q
  | _ => exact q
end
end L2.DL.K12




namespace L2.DL.K12
open PySem PySem.Spec
      PyProof.Rows
section
variable {P : Program} {w : World} {K : PySem.W.Frag} {mg : Str → Option Value} {base : Heap} {A : Cls}
/-! ### check_columns, check_row, check_rule -/
def wChk1 (C : Addr) (pre : D → Prop) (f : D → Bool) : Wc := fun ds k Q x => ∃ a, ds = [a] ∧ pre a ∧ (f a = true → Q .none k) ∧ (f a = false → x (excD C) k)
def wChk2 (C : Addr) (pre : D → D → Prop) (f : List D → D → Bool) : Wc := fun ds k Q x => ∃ cs b, ds = [.tuple cs, b] ∧ pre (.tuple cs) b ∧ (f cs b = true → Q .none k) ∧ (f cs b = false → x (excD C) k)
theorem wChk1.mono {C : Addr} {pre : D → Prop} {f : D → Bool} : Wc.Mono (wChk1 C pre f) := fun ds k Q Q' x x' h1 h2 ⟨a, e, p, q1, q2⟩ => ⟨a, e, p, fun z => h1 _ _ (q1 z), fun z => h2 _ _ (q2 z)⟩
theorem wChk2.mono {C : Addr} {pre : D → D → Prop} {f : List D → D → Bool} : Wc.Mono (wChk2 C pre f) := fun ds k Q Q' x x' h1 h2 ⟨a, b, e, p, q1, q2⟩ => ⟨a, b, e, p, fun z => h1 _ _ (q1 z), fun z => h2 _ _ (q2 z)⟩
abbrev w_check_columns (A : Cls) : Wc := wChk1 A.InvalidColumns (fun a => Good a) colsB
abbrev m_check_columns {A : Cls} : Wc.Mono (w_check_columns A) := wChk1.mono
abbrev w_check_rule (A : Cls) : Wc := wChk2 A.InvalidRule (fun c v => colsish c ∧ Good v) rulB
abbrev m_check_rule {A : Cls} : Wc.Mono (w_check_rule A) := wChk2.mono
theorem d_check_columns (T : Txt K mg A) (d_is_columns : Def P w K mg base "is_columns" 3 ["value"] w_is_columns) (F : FunAt K mg "check_columns" s_check_columns ["columns"]) : Def P w K mg base "check_columns" 4 ["columns"] (w_check_columns A) := by
  refine defD F sc_check_columns (fun ds k Q x ⟨a, e, _⟩ => by rw [e]; rfl) fun f cdv Ar outer s H E p G hg hr => ⟨_, (dss_one (ds_if (dt_not (dt_val (de_fn d_is_columns m_is_columns hg hr (takes_of rfl rfl rfl rfl) (da_cons (de_var (pv 0)) da_nil))))
    (dss_one (ds_raise (C := A.InvalidColumns) rfl (takes_of rfl rfl rfl rfl) PySem.F.excBase_ValueError T.x_InvalidColumns T.g_InvalidColumns T.k_InvalidColumns (raises_own T.s_InvalidColumns T.t_InvalidColumns)))
    dss_nil)), ?_⟩
  rintro ds n Q x ⟨a, rfl, ha, q1, q2⟩
  simp only [wRet, wSet, wSeq, wNext, wDrop, wIfS, wTest, wAnd, wOr, wNot, wIf, wBin, wVar, wC, wAndV, wOrV, wNotV, wIsN, wNotN, wNeg, wChain, wNil, wCons, wTup, wLst, wBi, wCall, wIsi, wSl, wSo, wNo, wSeqI, wFor, gNm, gTp, puts, wAsg, wPar, wMul, wmD, wmO, putsI, wAug, wTryIs, wRng1, wRng2, wEnum, wEnumT, wZip, wLc, wYes, wLend, wRel, wOwn, wApp, wIns, wSetIx, wLstF, wListF, wRepF, wAddF, wSlS, wParO, wRevT, wSortedSet, wSortedSetL, wSortedSetT, wKeys, weI, wExt, allD, wMt, wRaise, wSeqO, wCallF, plainO, wCallA, wIdx0, wAnF, wSetA, wUnA, wSeqA, plainA, wFld, wFldO, wMake, wLRg, Ans.data, Ans.own.injEq, Ans.tup.injEq, Ans.dat.injEq, wTry, wTryM, wHs, wIsC, enOf, put, putUn, defEnds, lendE, lend, wipeE, hide, lenD, intD, listD, tupleD, reprD, wPen0, wPen1, wPen2, wPenS1, wPenS2, penAt, List.map_cons, List.map_nil, List.length_cons, List.length_nil, List.nil_append, List.cons_append, Nat.reduceAdd, Nat.reduceSub, Nat.reduceLeDiff, Nat.zero_add, List.replicate_zero, List.replicate_succ, List.getElem?_cons_zero, List.getElem?_cons_succ, List.set_cons_zero, List.set_cons_succ, Option.some.injEq, Slot.dat.injEq, Slot.own.injEq, PyData.bool.injEq, PyData.int.injEq, PyData.tuple.injEq, PyData.list.injEq, exists_eq_left', exists_eq_left, and_true, true_and, if_true, if_false, Bool.false_eq_true, reduceCtorEq, List.mapIdx_cons, List.mapIdx_nil]
  refine ⟨a, rfl, ha, _, rfl, ?_⟩
  rcases Bool.eq_false_or_eq_true (colsB a) with h | h
  · simp only [h, Bool.not_true, if_false, Bool.false_eq_true]
    exact q1 h
  · simp only [h, Bool.not_false, if_true]
    exact q2 h
theorem d_check_rule (T : Txt K mg A) (d_rule_is_right : Def P w K mg base "rule_is_right" 5 ["columns", "value"] w_rule_is_right) (F : FunAt K mg "check_rule" s_check_rule ["columns", "rule"]) : Def P w K mg base "check_rule" 6 ["columns", "rule"] (w_check_rule A) := by
  refine defD F sc_check_rule (fun ds k Q x ⟨a, b, e, _⟩ => by rw [e]; rfl) fun f cdv Ar outer s H E p G hg hr => ⟨_, (dss_one (ds_if (dt_not (dt_val (de_fn d_rule_is_right m_rule_is_right hg hr (takes_of rfl rfl rfl rfl) (da_cons (de_var (pv 0)) (da_cons (de_var (pv 1)) da_nil)))))
    (dss_one (ds_raise (C := A.InvalidRule) rfl (takes_of rfl rfl rfl rfl) PySem.F.excBase_ValueError T.x_InvalidRule T.g_InvalidRule T.k_InvalidRule (raises_own T.s_InvalidRule T.t_InvalidRule)))
    dss_nil)), ?_⟩
  rintro ds n Q x ⟨cs, b, rfl, hb, q1, q2⟩
  simp only [wRet, wSet, wSeq, wNext, wDrop, wIfS, wTest, wAnd, wOr, wNot, wIf, wBin, wVar, wC, wAndV, wOrV, wNotV, wIsN, wNotN, wNeg, wChain, wNil, wCons, wTup, wLst, wBi, wCall, wIsi, wSl, wSo, wNo, wSeqI, wFor, gNm, gTp, puts, wAsg, wPar, wMul, wmD, wmO, putsI, wAug, wTryIs, wRng1, wRng2, wEnum, wEnumT, wZip, wLc, wYes, wLend, wRel, wOwn, wApp, wIns, wSetIx, wLstF, wListF, wRepF, wAddF, wSlS, wParO, wRevT, wSortedSet, wSortedSetL, wSortedSetT, wKeys, weI, wExt, allD, wMt, wRaise, wSeqO, wCallF, plainO, wCallA, wIdx0, wAnF, wSetA, wUnA, wSeqA, plainA, wFld, wFldO, wMake, wLRg, Ans.data, Ans.own.injEq, Ans.tup.injEq, Ans.dat.injEq, wTry, wTryM, wHs, wIsC, enOf, put, putUn, defEnds, lendE, lend, wipeE, hide, lenD, intD, listD, tupleD, reprD, wPen0, wPen1, wPen2, wPenS1, wPenS2, penAt, List.map_cons, List.map_nil, List.length_cons, List.length_nil, List.nil_append, List.cons_append, Nat.reduceAdd, Nat.reduceSub, Nat.reduceLeDiff, Nat.zero_add, List.replicate_zero, List.replicate_succ, List.getElem?_cons_zero, List.getElem?_cons_succ, List.set_cons_zero, List.set_cons_succ, Option.some.injEq, Slot.dat.injEq, Slot.own.injEq, PyData.bool.injEq, PyData.int.injEq, PyData.tuple.injEq, PyData.list.injEq, exists_eq_left', exists_eq_left, and_true, true_and, if_true, if_false, Bool.false_eq_true, reduceCtorEq, List.mapIdx_cons, List.mapIdx_nil]
  refine ⟨_, _, rfl, hb, ?_⟩
  dsimp only [onCols]
  refine ⟨_, rfl, ?_⟩
  rcases Bool.eq_false_or_eq_true (rulB cs b) with h | h
  · simp only [h, Bool.not_true, if_false, Bool.false_eq_true]
    exact q1 h
  · simp only [h, Bool.not_false, if_true]
    exact q2 h
/-! ### has_given -/
def hasB (es xs : List D) : Bool := es.all fun | .tuple [.int i, b] => isN b || PyData.eqv (xs.getD i.toNat .none) b | _ => false
def entsOk (es : List D) (m : Nat) : Prop := ∀ e ∈ es, ∃ i b, e = .tuple [.int i, b] ∧ 0 ≤ i ∧ i < m ∧ Good b
abbrev w_has_given : Wc := w2 (fun g r => ∃ es xs, g = .tuple es ∧ r = .tuple xs ∧ entsOk es xs.length ∧ ∀ d ∈ xs, Good d) fun g r => .bool (match g, r with | .tuple es, .tuple xs => hasB es xs | _, _ => false)
abbrev m_has_given : Wc.Mono w_has_given := w2.mono
theorem d_has_given (T : Txt K mg A) (F : FunAt K mg "has_given" s_has_given ["given", "row"]) : Def P w K mg base "has_given" 1 ["given", "row"] w_has_given := by
  refine defD F sc_has_given (fun ds k Q x h => w2.len h) fun f cdv Ar outer s H E p G hg hr => ⟨_, (dss_cons (ds_for (passes_of rfl) rfl (di_seq (de_var (pv 0))) (dg_tp rfl (dgs_cons (i := 2) sc_has_given.nd (dgs_cons (i := 3) sc_has_given.nd dgs_nil)))
    (dss_one (ds_if (dw_and (dt_notN (de_var (pv 3))) (dw_and1 (dt_cmp (op_neA hr.units) neD.mono fitsNe (de_idx (de_var (pv 1)) (de_var (pv 2))) (de_var (pv 3))))).dt
    (dss_one (ds_ret de_bl))
    dss_nil)))
    (dss_one (ds_ret de_bl))), ?_⟩
  rintro ds n Q x ⟨g, r, rfl, ⟨es, xs, rfl, rfl, he, hx⟩, q⟩
  simp only [wRet, wSet, wSeq, wNext, wDrop, wIfS, wTest, wAnd, wOr, wNot, wIf, wBin, wVar, wC, wAndV, wOrV, wNotV, wIsN, wNotN, wNeg, wChain, wNil, wCons, wTup, wLst, wBi, wCall, wIsi, wSl, wSo, wNo, wSeqI, wFor, gNm, gTp, puts, wAsg, wPar, wMul, wmD, wmO, putsI, wAug, wTryIs, wRng1, wRng2, wEnum, wEnumT, wZip, wLc, wYes, wLend, wRel, wOwn, wApp, wIns, wSetIx, wLstF, wListF, wRepF, wAddF, wSlS, wParO, wRevT, wSortedSet, wSortedSetL, wSortedSetT, wKeys, weI, wExt, allD, wMt, wRaise, wSeqO, wCallF, plainO, wCallA, wIdx0, wAnF, wSetA, wUnA, wSeqA, plainA, wFld, wFldO, wMake, wLRg, Ans.data, Ans.own.injEq, Ans.tup.injEq, Ans.dat.injEq, wTry, wTryM, wHs, wIsC, enOf, put, putUn, defEnds, lendE, lend, wipeE, hide, lenD, intD, listD, tupleD, reprD, wPen0, wPen1, wPen2, wPenS1, wPenS2, penAt, List.map_cons, List.map_nil, List.length_cons, List.length_nil, List.nil_append, List.cons_append, Nat.reduceAdd, Nat.reduceSub, Nat.reduceLeDiff, Nat.zero_add, List.replicate_zero, List.replicate_succ, List.getElem?_cons_zero, List.getElem?_cons_succ, List.set_cons_zero, List.set_cons_succ, Option.some.injEq, Slot.dat.injEq, Slot.own.injEq, PyData.bool.injEq, PyData.int.injEq, PyData.tuple.injEq, PyData.list.injEq, exists_eq_left', exists_eq_left, and_true, true_and, if_true, if_false, Bool.false_eq_true, reduceCtorEq, List.mapIdx_cons, List.mapIdx_nil] at q ⊢
  refine ⟨es, rfl, ?_⟩
  refine wLoop.ind (fun ds e => ∃ u v, e = ⟨[.dat (.tuple es), .dat (.tuple xs), u, v], n⟩ ∧ Q (.bool (hasB ds xs)) n ∧ entsOk ds xs.length) ?_ ?_ ⟨.un, .un, rfl, q, he⟩
  · rintro e ⟨u, v, rfl, q, _⟩
    exact q
  · rintro d ds e ih ⟨u, v, rfl, q, hf⟩
    obtain ⟨i, b, rfl, h0, h1, hb⟩ := hf d List.mem_cons_self
    have hf' : entsOk ds xs.length := fun d hd => hf d (List.mem_cons_of_mem _ hd)
    simp only [wRet, wSet, wSeq, wNext, wDrop, wIfS, wTest, wAnd, wOr, wNot, wIf, wBin, wVar, wC, wAndV, wOrV, wNotV, wIsN, wNotN, wNeg, wChain, wNil, wCons, wTup, wLst, wBi, wCall, wIsi, wSl, wSo, wNo, wSeqI, wFor, gNm, gTp, puts, wAsg, wPar, wMul, wmD, wmO, putsI, wAug, wTryIs, wRng1, wRng2, wEnum, wEnumT, wZip, wLc, wYes, wLend, wRel, wOwn, wApp, wIns, wSetIx, wLstF, wListF, wRepF, wAddF, wSlS, wParO, wRevT, wSortedSet, wSortedSetL, wSortedSetT, wKeys, weI, wExt, allD, wMt, wRaise, wSeqO, wCallF, plainO, wCallA, wIdx0, wAnF, wSetA, wUnA, wSeqA, plainA, wFld, wFldO, wMake, wLRg, Ans.data, Ans.own.injEq, Ans.tup.injEq, Ans.dat.injEq, wTry, wTryM, wHs, wIsC, enOf, put, putUn, defEnds, lendE, lend, wipeE, hide, lenD, intD, listD, tupleD, reprD, wPen0, wPen1, wPen2, wPenS1, wPenS2, penAt, List.map_cons, List.map_nil, List.length_cons, List.length_nil, List.nil_append, List.cons_append, Nat.reduceAdd, Nat.reduceSub, Nat.reduceLeDiff, Nat.zero_add, List.replicate_zero, List.replicate_succ, List.getElem?_cons_zero, List.getElem?_cons_succ, List.set_cons_zero, List.set_cons_succ, Option.some.injEq, Slot.dat.injEq, Slot.own.injEq, PyData.bool.injEq, PyData.int.injEq, PyData.tuple.injEq, PyData.list.injEq, exists_eq_left', exists_eq_left, and_true, true_and, if_true, if_false, Bool.false_eq_true, reduceCtorEq, List.mapIdx_cons, List.mapIdx_nil]
    rcases Bool.eq_false_or_eq_true (isN b) with hn | hn
    · simp only [hasB, List.all_cons, hn, Bool.true_or, Bool.true_and, Bool.not_true, if_false, Bool.false_eq_true] at q ⊢
      exact ih _ ⟨_, _, rfl, q, hf'⟩
    · simp only [hasB, List.all_cons, hn, Bool.false_or, Bool.not_false, if_true] at q ⊢
      refine ⟨_, atI_pos h0 h1, .inr ⟨hx _ (getD_mem h0 h1), hb⟩, ?_⟩
      refine ⟨_, rfl, ?_⟩
      rcases Bool.eq_false_or_eq_true (PyData.eqv (xs.getD i.toNat .none) b) with hq | hq
      · simp only [hq, Bool.true_and, Bool.not_true, if_false, Bool.false_eq_true] at q ⊢
        exact ih _ ⟨_, _, rfl, q, hf'⟩
      · simp only [hq, Bool.false_and, Bool.not_false, if_true] at q ⊢
        exact q
/-! ### matches -/
theorem cols_ish {c : D} (h : Good c) (hb : colsB c = true) : colsish c := by
  cases c with
  | tuple cs =>
    simp only [colsB, Bool.and_eq_true, decide_eq_true_eq] at hb
    refine ⟨cs, rfl, fun d hd => ?_, by omega⟩
    rcases Bool.eq_false_or_eq_true (isN d) with hn | hn
    · cases d <;> first | exact .inl rfl | cases hn
    · have := List.all_eq_true.mp hb.2.1 d (List.mem_filterMap.mpr ⟨d, hd, by simp [hn]⟩)
      cases d with
      | tuple xs => exact .inr ⟨xs, rfl, h.in_tuple _ hd⟩
      | _ => cases this
  | _ => cases hb
theorem rul_inv {cs : List D} {r : D} (h : rulB cs r = true) : ∃ es c w, r = .tuple [.tuple es, c, w] ∧ givL cs (-1) es = true := by
  unfold rulB at h
  split at h
  · rw [Bool.and_eq_true] at h
    exact ⟨_, _, _, rfl, h.1⟩
  · cases h
theorem row_inv {cs : List D} {r : D} (h : rowB cs r = true) : ∃ xs, r = .tuple xs ∧ xs.length = cs.length := by
  unfold rowB at h
  split at h
  · rw [Bool.and_eq_true] at h
    exact ⟨_, rfl, of_decide_eq_true h.1⟩
  · cases h
end
end L2.DL.K12




namespace L2.DL.K12
open PySem PySem.Spec
      PyProof.Rows
section
variable {P : Program} {w : World} {K : PySem.W.Frag} {mg : Str → Option Value} {base : Heap} {A : Cls}
/-! ### the pen -/
def w_law_spread : Wc := fun ds k Q _ => ∃ c a : Int, ds = [.int c, .int a] ∧ 0 ≤ a ∧ a ≤ most ∧ ∀ r : Int, Q (.int r) k
theorem m_law_spread : Wc.Mono w_law_spread := fun ds k Q Q' x x' h1 _ ⟨c, a, e, p1, p2, q⟩ => ⟨c, a, e, p1, p2, fun r => h1 _ _ (q r)⟩
def posI : D → Bool
  | .int q => decide (0 < q) && decide (q < 2147483648)
  | _ => false
theorem pick13 {xs : List D} (hl : xs.length = 13) (hp : xs.all posI = true) (i : Int) : ∃ q : Int, atI xs (i % 13) = some (.int q) ∧ 0 < q ∧ q < 2147483648 := by
  have h0 : 0 ≤ i % 13 := Int.emod_nonneg _ (by decide)
  have h1 : i % 13 < xs.length := by have := Int.emod_lt_of_pos i (show (0 : Int) < 13 by decide); rw [hl]; exact this
  have m := List.all_eq_true.mp hp _ (getD_mem h0 h1)
  rw [atI_pos h0 h1]
  generalize xs.getD (i % 13).toNat .none = d at m
  cases d with
  | int q =>
    simp only [posI, Bool.and_eq_true, decide_eq_true_eq] at m
    exact ⟨q, rfl, m.1, m.2⟩
  | _ => cases m
theorem mulB {a b m n : Int} (a0 : 0 ≤ a) (b0 : 0 ≤ b) (ha : a ≤ m) (hb : b ≤ n) : 0 ≤ a * b ∧ a * b ≤ m * n :=
  ⟨Int.mul_nonneg a0 b0, Int.mul_le_mul ha hb b0 (Int.le_trans a0 ha)⟩
theorem d_law_spread (T : Txt K mg A) (F : FunAt K mg "_law_spread" s_law_spread ["_law_cell", "_law_at"]) : Def P w K mg base "_law_spread" 1 ["_law_cell", "_law_at"] w_law_spread := by
  refine defD F sc_law_spread (fun ds k Q x ⟨c, a, e, _⟩ => by rw [e]; rfl) fun f cdv Ar outer s H E p G hg hr => ⟨_, (dss_cons (ds_if (dt_cmp op_ge cmpD.mono fitsCmp (de_var (pv 0)) (de_bin op_pow powD.mono fitsPow de_int de_int))
    (dss_one (ds_ret (de_var (pv 0))))
    dss_nil)
    (dss_cons (ds_set (i := 2) (de_lst (da_cons de_int (da_cons de_int (da_cons de_int (da_cons de_int (da_cons de_int (da_cons de_int (da_cons de_int da_nil)))))))) sc_law_spread.nd)
    (dss_cons (ds_set (i := 2) (de_bin op_addA addD.mono fitsAdd (de_var (pv 2)) (de_lst (da_cons de_int (da_cons de_int (da_cons de_int (da_cons de_int (da_cons de_int (da_cons de_int da_nil)))))))) sc_law_spread.nd)
    (dss_cons (ds_set (i := 3) (de_bin op_addA addD.mono fitsAdd (de_bin op_addA addD.mono fitsAdd (de_bin op_mulA mulD.mono fitsMul (de_bin op_mod modD.mono fitsMod (de_bt intD.mono fitsInt call_int1 (da_cons (de_var (pv 0)) da_nil) T.z_int) de_int) (de_bin op_addA addD.mono fitsAdd (de_bin op_mulA mulD.mono fitsMul de_int (de_var (pv 1))) de_int)) (de_bin op_mulA mulD.mono fitsMul (de_var (pv 1)) de_int)) de_int) sc_law_spread.nd)
    (dss_cons (ds_set (i := 4) (de_bin op_mod modD.mono fitsMod (de_bt intD.mono fitsInt call_int1 (da_cons (de_bin op_pow powD.mono fitsPow (de_var (pv 3)) de_int) da_nil) T.z_int) (de_idx (de_var (pv 2)) (de_bin op_mod modD.mono fitsMod (de_bt intD.mono fitsInt call_int1 (da_cons (de_var (pv 1)) da_nil) T.z_int) de_int))) sc_law_spread.nd)
    (dss_cons (ds_set (i := 5) (de_bin op_addA addD.mono fitsAdd (de_bin op_mod modD.mono fitsMod (de_bt intD.mono fitsInt call_int1 (da_cons (de_var (pv 0)) da_nil) T.z_int) de_int) de_int) sc_law_spread.nd)
    (dss_cons (ds_set (i := 6) (de_bin op_mod modD.mono fitsMod (de_bt intD.mono fitsInt call_int1 (da_cons (de_bin op_pow powD.mono fitsPow (de_bin op_addA addD.mono fitsAdd (de_bin op_mulA mulD.mono fitsMul (de_var (pv 4)) (de_bin op_addA addD.mono fitsAdd (de_var (pv 1)) de_int)) (de_var (pv 5))) de_int) da_nil) T.z_int) (de_idx (de_var (pv 2)) (de_bin op_mod modD.mono fitsMod (de_bt intD.mono fitsInt call_int1 (da_cons (de_bin op_addA addD.mono fitsAdd (de_var (pv 1)) de_int) da_nil) T.z_int) de_int))) sc_law_spread.nd)
    (dss_cons (ds_set (i := 7) (de_bin op_mod modD.mono fitsMod (de_bt intD.mono fitsInt call_int1 (da_cons (de_bin op_pow powD.mono fitsPow (de_bin op_addA addD.mono fitsAdd (de_bin op_addA addD.mono fitsAdd (de_var (pv 6)) (de_bin op_mod modD.mono fitsMod (de_bt intD.mono fitsInt call_int1 (da_cons (de_var (pv 4)) da_nil) T.z_int) de_int)) (de_var (pv 1))) de_int) da_nil) T.z_int) (de_idx (de_var (pv 2)) (de_bin op_mod modD.mono fitsMod (de_bt intD.mono fitsInt call_int1 (da_cons (de_bin op_addA addD.mono fitsAdd (de_var (pv 1)) de_int) da_nil) T.z_int) de_int))) sc_law_spread.nd)
    (dss_one (ds_ret (de_bin op_addA addD.mono fitsAdd (de_bin op_mulA mulD.mono fitsMul (de_bin op_addA addD.mono fitsAdd (de_bin op_mulA mulD.mono fitsMul (de_var (pv 4)) de_int) (de_var (pv 6))) de_int) (de_var (pv 7))))))))))))), ?_⟩
  rintro ds n Q x ⟨c, a, rfl, a0, am, q⟩
  simp only [wRet, wSet, wSeq, wNext, wDrop, wIfS, wTest, wAnd, wOr, wNot, wIf, wBin, wVar, wC, wAndV, wOrV, wNotV, wIsN, wNotN, wNeg, wChain, wNil, wCons, wTup, wLst, wBi, wCall, wIsi, wSl, wSo, wNo, wSeqI, wFor, gNm, gTp, puts, wAsg, wPar, wMul, wmD, wmO, putsI, wAug, wTryIs, wRng1, wRng2, wEnum, wEnumT, wZip, wLc, wYes, wLend, wRel, wOwn, wApp, wIns, wSetIx, wLstF, wListF, wRepF, wAddF, wSlS, wParO, wRevT, wSortedSet, wSortedSetL, wSortedSetT, wKeys, weI, wExt, allD, wMt, wRaise, wSeqO, wCallF, plainO, wCallA, wIdx0, wAnF, wSetA, wUnA, wSeqA, plainA, wFld, wFldO, wMake, wLRg, Ans.data, Ans.own.injEq, Ans.tup.injEq, Ans.dat.injEq, wTry, wTryM, wHs, wIsC, enOf, put, putUn, defEnds, lendE, lend, wipeE, hide, lenD, intD, listD, tupleD, reprD, wPen0, wPen1, wPen2, wPenS1, wPenS2, penAt, List.map_cons, List.map_nil, List.length_cons, List.length_nil, List.nil_append, List.cons_append, Nat.reduceAdd, Nat.reduceSub, Nat.reduceLeDiff, Nat.zero_add, List.replicate_zero, List.replicate_succ, List.getElem?_cons_zero, List.getElem?_cons_succ, List.set_cons_zero, List.set_cons_succ, Option.some.injEq, Slot.dat.injEq, Slot.own.injEq, PyData.bool.injEq, PyData.int.injEq, PyData.tuple.injEq, PyData.list.injEq, exists_eq_left', exists_eq_left, and_true, true_and, if_true, if_false, Bool.false_eq_true, reduceCtorEq, List.mapIdx_cons, List.mapIdx_nil, cmpD, powD, modD, mulD, addD]
  refine ⟨⟨by decide, by decide, by decide⟩, ?_⟩
  by_cases hb : (10 : Int) ^ Int.toNat 18 ≤ c
  · rw [if_pos (decide_eq_true hb)]
    exact q c
  rw [if_neg (by rw [decide_eq_false hb]; decide)]
  have c0 : 0 ≤ c % 1000000007 := Int.emod_nonneg _ (by decide)
  have c1 : c % 1000000007 ≤ 1000000006 := by have := Int.emod_lt_of_pos c (show (0 : Int) < 1000000007 by decide); omega
  have am' : a ≤ 1000000 := am
  have r0 : 0 ≤ c % 65537 := Int.emod_nonneg _ (by decide)
  have r1 : c % 65537 ≤ 65536 := by have := Int.emod_lt_of_pos c (show (0 : Int) < 65537 by decide); omega
  obtain ⟨m0, m1⟩ := mulB c0 (show 0 ≤ 2 * a + 69069 by omega) c1 (show 2 * a + 69069 ≤ 2069069 by omega)
  refine ⟨by rw [sizeLine_eq]; decide, by decide, .inl ⟨by decide, by decide⟩, .inl ⟨by omega, by omega⟩, .inl ⟨by omega, by omega⟩, ⟨by decide, by decide, by omega⟩, by decide, ?_⟩
  obtain ⟨p1, e1, x0, x1⟩ := pick13 (xs := [PyData.int 2147483629, PyData.int 2147483587, PyData.int 2147483579, PyData.int 2147483563, PyData.int 2147483549, PyData.int 2147483543, PyData.int 2147483497, PyData.int 2147483489, PyData.int 2147483477, PyData.int 2147483423, PyData.int 2147483399, PyData.int 2147483353, PyData.int 2147483323]) rfl (by decide) a
  obtain ⟨p2, e2, y0, y1⟩ := pick13 (xs := [PyData.int 2147483629, PyData.int 2147483587, PyData.int 2147483579, PyData.int 2147483563, PyData.int 2147483549, PyData.int 2147483543, PyData.int 2147483497, PyData.int 2147483489, PyData.int 2147483477, PyData.int 2147483423, PyData.int 2147483399, PyData.int 2147483353, PyData.int 2147483323]) rfl (by decide) (a + 5)
  obtain ⟨p3, e3, z0, z1⟩ := pick13 (xs := [PyData.int 2147483629, PyData.int 2147483587, PyData.int 2147483579, PyData.int 2147483563, PyData.int 2147483549, PyData.int 2147483543, PyData.int 2147483497, PyData.int 2147483489, PyData.int 2147483477, PyData.int 2147483423, PyData.int 2147483399, PyData.int 2147483353, PyData.int 2147483323]) rfl (by decide) (a + 7)
  refine ⟨_, e1, x0, ?_⟩
  generalize (c % 1000000007 * (2 * a + 69069) + a * 40503 + 977) ^ Int.toNat 3 = u1
  have u0 : 0 ≤ u1 % p1 := Int.emod_nonneg _ (by omega)
  have u2 : u1 % p1 ≤ 2147483647 := by have := Int.emod_lt_of_pos u1 x0; omega
  generalize u1 % p1 = v1 at u0 u2
  obtain ⟨n0, n1⟩ := mulB u0 (show 0 ≤ a + 3 by omega) u2 (show a + 3 ≤ 1000003 by omega)
  refine ⟨by decide, .inl ⟨by omega, by omega⟩, ⟨by decide, by decide, by omega⟩, by decide, _, e2, y0, ?_⟩
  generalize (v1 * (a + 3) + (c % 65537 + 5)) ^ Int.toNat 5 = u3
  have w0 : 0 ≤ u3 % p2 := Int.emod_nonneg _ (by omega)
  have w2 : u3 % p2 ≤ 2147483647 := by have := Int.emod_lt_of_pos u3 y0; omega
  generalize u3 % p2 = v2 at w0 w2
  have t0 : 0 ≤ v1 % 1009 := Int.emod_nonneg _ (by decide)
  have t1 : v1 % 1009 ≤ 1009 := by have := Int.emod_lt_of_pos v1 (show (0 : Int) < 1009 by decide); omega
  refine ⟨by decide, ⟨by decide, by decide, by omega⟩, by decide, _, e3, z0, ?_⟩
  exact ⟨.inl ⟨by omega, by omega⟩, .inr ⟨by decide, by decide⟩, q _⟩
abbrev pen (pre : List D → Prop) (post : List D → D → Prop) (c : Nat) : Wc := fun ds k Q _ => ∃ es k', ds = penD :: es ∧ k = k' + c ∧ pre es ∧ ∀ r k'', k' ≤ k'' → post es r → Q r k''
theorem pen.mono {pre : List D → Prop} {post : List D → D → Prop} {c : Nat} : Wc.Mono (pen pre post c) := fun ds k Q Q' x x' h1 _ ⟨es, k', e, p1, p2, q⟩ => ⟨es, k', e, p1, p2, fun r k'' l z => h1 _ _ (q r k'' l z)⟩
/-- the next draw below m -/
def w_law_take : Wc := fun ds k Q _ => ∃ (m : Int) (k' : Nat), ds = [penD, .int m] ∧ k = k' + 1 ∧ 0 < m ∧ m.natAbs < 2 ^ 9000 ∧ ∀ r : Int, 0 ≤ r → r < m → ∀ k'', k' ≤ k'' → Q (.int r) k''
theorem m_law_take : Wc.Mono w_law_take := fun ds k Q Q' x x' h1 _ ⟨m, k', e, p1, p2, p3, q⟩ => ⟨m, k', e, p1, p2, p3, fun r z1 z2 k'' z3 => h1 _ _ (q r z1 z2 k'' z3)⟩
theorem d_law_take (T : Txt K mg A) (d_law_spread : Def P w K mg base "_law_spread" 1 ["_law_cell", "_law_at"] w_law_spread) (F : FunAt K mg "_law_take" s_law_take ["_law_pen", "_law_many"]) : Def P w K mg base "_law_take" 2 ["_law_pen", "_law_many"] w_law_take := by
  refine defDp F sc_law_take (fun ds k Q x ⟨c, a, e, _⟩ => by rw [e]; rfl) fun f cdv Ar outer s H E p G xs hg hr hP => ⟨_, (dss_cons (ds_if (dt_cmp op_lt cmpD.mono fitsCmp (de_pen2 (pv 0)) (de_var (pv 1)))
    (dss_cons (ds_set (i := 2) (de_pen1 (pv 0)) sc_law_take.nd)
    (dss_cons (ds_set (i := 3) de_int sc_law_take.nd)
    (dss_cons (ds_if (dt_cmp op_lt cmpD.mono fitsCmp (de_var (pv 2)) (de_bi lenD.mono fitsLen call_len_seq (da_cons (de_pen0 hP (pv 0)) da_nil) T.z_len))
    (dss_one (ds_set (i := 3) (de_idx (de_pen0 hP (pv 0)) (de_var (pv 2))) sc_law_take.nd))
    (dss_one (ds_if (dt_cmp op_gt cmpD.mono fitsCmp (de_bi lenD.mono fitsLen call_len_seq (da_cons (de_pen0 hP (pv 0)) da_nil) T.z_len) de_int)
    (dss_one (ds_set (i := 3) (de_bin op_mod modD.mono fitsMod (de_bt intD.mono fitsInt call_int1 (da_cons (de_idx (de_pen0 hP (pv 0)) (de_bin op_mod modD.mono fitsMod (de_bt intD.mono fitsInt call_int1 (da_cons (de_bin op_addA addD.mono fitsAdd (de_bin op_mulA mulD.mono fitsMul (de_var (pv 2)) de_int) de_int) da_nil) T.z_int) (de_bi lenD.mono fitsLen call_len_seq (da_cons (de_pen0 hP (pv 0)) da_nil) T.z_len))) da_nil) T.z_int) (de_bin op_addA addD.mono fitsAdd (de_bin op_pow powD.mono fitsPow de_int de_int) (de_var (pv 2)))) sc_law_take.nd))
    dss_nil)))
    (dss_cons (ds_pen1 (de_bin op_addA addD.mono fitsAdd (de_var (pv 2)) de_int) (pv 0))
    (dss_one (ds_pen2 (de_fn d_law_spread m_law_spread hg hr (takes_of rfl rfl rfl rfl) (da_cons (de_var (pv 3)) (da_cons (de_var (pv 2)) da_nil))) (pv 0)))))))
    dss_nil)
    (dss_cons (ds_set (i := 4) (de_bin op_mod modD.mono fitsMod (de_bt intD.mono fitsInt call_int1 (da_cons (de_pen2 (pv 0)) da_nil) T.z_int) (de_var (pv 1))) sc_law_take.nd)
    (dss_cons (ds_pen2 (de_bin op_fdivW divD.mono fitsDiv (de_pen2 (pv 0)) (de_var (pv 1))) (pv 0))
    (dss_one (ds_ret (de_var (pv 4))))))), ?_⟩
  rintro ds n Q x ⟨m, k', rfl, rfl, m0, m1, q⟩
  simp only [wRet, wSet, wSeq, wNext, wDrop, wIfS, wTest, wAnd, wOr, wNot, wIf, wBin, wVar, wC, wAndV, wOrV, wNotV, wIsN, wNotN, wNeg, wChain, wNil, wCons, wTup, wLst, wBi, wCall, wIsi, wSl, wSo, wNo, wSeqI, wFor, gNm, gTp, puts, wAsg, wPar, wMul, wmD, wmO, putsI, wAug, wTryIs, wRng1, wRng2, wEnum, wEnumT, wZip, wLc, wYes, wLend, wRel, wOwn, wApp, wIns, wSetIx, wLstF, wListF, wRepF, wAddF, wSlS, wParO, wRevT, wSortedSet, wSortedSetL, wSortedSetT, wKeys, weI, wExt, allD, wMt, wRaise, wSeqO, wCallF, plainO, wCallA, wIdx0, wAnF, wSetA, wUnA, wSeqA, plainA, wFld, wFldO, wMake, wLRg, Ans.data, Ans.own.injEq, Ans.tup.injEq, Ans.dat.injEq, wTry, wTryM, wHs, wIsC, enOf, put, putUn, defEnds, lendE, lend, wipeE, hide, lenD, intD, listD, tupleD, reprD, wPen0, wPen1, wPen2, wPenS1, wPenS2, penAt, List.map_cons, List.map_nil, List.length_cons, List.length_nil, List.nil_append, List.cons_append, Nat.reduceAdd, Nat.reduceSub, Nat.reduceLeDiff, Nat.zero_add, List.replicate_zero, List.replicate_succ, List.getElem?_cons_zero, List.getElem?_cons_succ, List.set_cons_zero, List.set_cons_succ, Option.some.injEq, Slot.dat.injEq, Slot.own.injEq, PyData.bool.injEq, PyData.int.injEq, PyData.tuple.injEq, PyData.list.injEq, exists_eq_left', exists_eq_left, and_true, true_and, if_true, if_false, Bool.false_eq_true, reduceCtorEq, List.mapIdx_cons, List.mapIdx_nil, cmpD, powD, modD, mulD, addD, divD]
  have fin : ∀ (s : Int) (k'' : Nat), k' ≤ k'' → Q (.int (s % m)) k'' := fun s k'' l => q _ (Int.emod_nonneg _ (by omega)) (Int.emod_lt_of_pos _ m0) k'' l
  have at_ : ∀ i : Int, 0 ≤ i → i < (xs.map PyData.int).length → ∃ v, atI (xs.map PyData.int) i = some (.int v) := fun i h0 h1 => by
    have z := getD_mem h0 h1
    obtain ⟨v, _, hv⟩ := List.mem_map.mp z
    exact ⟨v, by rw [atI_pos h0 h1, hv]⟩
  intro s
  by_cases hs : s < m
  · rw [if_pos (decide_eq_true hs)]
    intro j j0 jm
    have jm' : j + (k' + 1 : Nat) ≤ 1000000 := jm
    have go : ∀ (c : Int), ∃ (j_1 : Int) (k_1 : Nat), j + 1 = j_1 ∧ 0 ≤ j_1 ∧ j_1 + (k_1 : Int) ≤ (most : Int) ∧ w_law_spread [.int c, .int j] k_1 (fun d k_2 => ∃ j, d = PyData.int j ∧ ∀ s : Int, 0 < m ∧ ∀ (s_1 : Int), (0 < m ∧ m.natAbs < 2 ^ 9000) ∧ Q (PyData.int (s % m)) k_2) (fun y k_2 => x y k_2) := fun c =>
      ⟨_, k', rfl, by omega, by show j + 1 + (k' : Int) ≤ 1000000; omega, c, j, rfl, j0, by show j ≤ 1000000; omega, fun r => ⟨_, rfl, fun s => ⟨m0, fun s_1 => ⟨⟨m0, m1⟩, fin s k' (Nat.le_refl _)⟩⟩⟩⟩
    by_cases h1 : j < ((xs.map PyData.int).length : Int)
    · rw [if_pos (decide_eq_true h1)]
      obtain ⟨v, hv⟩ := at_ j j0 h1
      exact ⟨_, hv, go v⟩
    · rw [if_neg (by rw [decide_eq_false h1]; decide)]
      by_cases h2 : (0 : Int) < ((xs.map PyData.int).length : Int)
      · rw [if_pos (decide_eq_true h2)]
        obtain ⟨v, hv⟩ := at_ ((j * 5 + 3) % ((xs.map PyData.int).length : Int)) (Int.emod_nonneg _ (by omega)) (Int.emod_lt_of_pos _ h2)
        exact ⟨.inl ⟨by omega, by omega⟩, h2, _, hv, ⟨by decide, by decide, by decide⟩, Int.add_pos_of_pos_of_nonneg (show (0 : Int) < 10 ^ Int.toNat 17 by decide) j0, go _⟩
      · rw [if_neg (by rw [decide_eq_false h2]; decide)]
        exact go 0
  · rw [if_neg (by rw [decide_eq_false hs]; decide)]
    exact fun s => ⟨m0, fun s_1 => ⟨⟨m0, m1⟩, fin s _ (Nat.le_succ _)⟩⟩
def w_law_anew : Wc := fun ds k Q _ => ds = [penD] ∧ Q penD k
theorem m_law_anew : Wc.Mono w_law_anew := fun ds k Q Q' x x' h1 _ ⟨e, q⟩ => ⟨e, h1 _ _ q⟩
theorem d_law_anew (T : Txt K mg A) (F : FunAt K mg "_law_anew" s_law_anew ["_law_pen"]) : Def P w K mg base "_law_anew" 1 ["_law_pen"] w_law_anew := by
  refine defD F sc_law_anew (fun ds k Q x ⟨e, _⟩ => by rw [e]; rfl) fun f cdv Ar outer s H E p G hg hr => ⟨_, (dss_cons (ds_pen2 de_int (pv 0))
    (dss_one (ds_ret (de_var (pv 0))))), ?_⟩
  rintro ds n Q x ⟨rfl, q⟩
  simp only [wRet, wSet, wSeq, wNext, wDrop, wIfS, wTest, wAnd, wOr, wNot, wIf, wBin, wVar, wC, wAndV, wOrV, wNotV, wIsN, wNotN, wNeg, wChain, wNil, wCons, wTup, wLst, wBi, wCall, wIsi, wSl, wSo, wNo, wSeqI, wFor, gNm, gTp, puts, wAsg, wPar, wMul, wmD, wmO, putsI, wAug, wTryIs, wRng1, wRng2, wEnum, wEnumT, wZip, wLc, wYes, wLend, wRel, wOwn, wApp, wIns, wSetIx, wLstF, wListF, wRepF, wAddF, wSlS, wParO, wRevT, wSortedSet, wSortedSetL, wSortedSetT, wKeys, weI, wExt, allD, wMt, wRaise, wSeqO, wCallF, plainO, wCallA, wIdx0, wAnF, wSetA, wUnA, wSeqA, plainA, wFld, wFldO, wMake, wLRg, Ans.data, Ans.own.injEq, Ans.tup.injEq, Ans.dat.injEq, wTry, wTryM, wHs, wIsC, enOf, put, putUn, defEnds, lendE, lend, wipeE, hide, lenD, intD, listD, tupleD, reprD, wPen0, wPen1, wPen2, wPenS1, wPenS2, penAt, List.map_cons, List.map_nil, List.length_cons, List.length_nil, List.nil_append, List.cons_append, Nat.reduceAdd, Nat.reduceSub, Nat.reduceLeDiff, Nat.zero_add, List.replicate_zero, List.replicate_succ, List.getElem?_cons_zero, List.getElem?_cons_succ, List.set_cons_zero, List.set_cons_succ, Option.some.injEq, Slot.dat.injEq, Slot.own.injEq, PyData.bool.injEq, PyData.int.injEq, PyData.tuple.injEq, PyData.list.injEq, exists_eq_left', exists_eq_left, and_true, true_and, if_true, if_false, Bool.false_eq_true, reduceCtorEq, List.mapIdx_cons, List.mapIdx_nil]
  exact q
theorem small9 {i : Int} (h : i.natAbs ≤ 2 ^ 20) : i.natAbs < 2 ^ 9000 := Nat.lt_of_le_of_lt h (Nat.pow_lt_pow_right (by decide) (by decide))
theorem small9' {i : Int} (h : i.natAbs ≤ 2 ^ 120) : i.natAbs < 2 ^ 9000 := Nat.lt_of_le_of_lt h (Nat.pow_lt_pow_right (by decide) (by decide))
/-- any of some things -/
def w_law_one : Wc := fun ds k Q _ => ∃ (d : D) (xs : List D) (k' : Nat), ds = [penD, d] ∧ k = k' + 1 ∧ items d = some xs ∧ xs ≠ [] ∧ xs.length ≤ 1000000 ∧ ∀ r ∈ xs, ∀ k'', k' ≤ k'' → Q r k''
theorem m_law_one : Wc.Mono w_law_one := fun ds k Q Q' x x' h1 _ ⟨d, xs, k', e, p1, p2, p3, p4, q⟩ => ⟨d, xs, k', e, p1, p2, p3, p4, fun r z1 k'' z3 => h1 _ _ (q r z1 k'' z3)⟩
theorem d_law_one (T : Txt K mg A) (d_law_take : Def P w K mg base "_law_take" 2 ["_law_pen", "_law_many"] w_law_take) (F : FunAt K mg "_law_one" s_law_one ["_law_pen", "_law_some"]) : Def P w K mg base "_law_one" 3 ["_law_pen", "_law_some"] w_law_one := by
  refine defD F sc_law_one (fun ds k Q x ⟨d, xs, k', e, _⟩ => by rw [e]; rfl) fun f cdv Ar outer s H E p G hg hr => ⟨_, (dss_one (ds_ret (de_idx (de_var (pv 1)) (de_fn d_law_take m_law_take hg hr (takes_of rfl rfl rfl rfl) (da_cons (de_var (pv 0)) (da_cons (de_bi lenD.mono fitsLen call_len_seq (da_cons (de_var (pv 1)) da_nil) T.z_len) da_nil)))))), ?_⟩
  rintro ds n Q x ⟨d, xs, k', rfl, rfl, hd, hn, hl, q⟩
  simp only [wRet, wSet, wSeq, wNext, wDrop, wIfS, wTest, wAnd, wOr, wNot, wIf, wBin, wVar, wC, wAndV, wOrV, wNotV, wIsN, wNotN, wNeg, wChain, wNil, wCons, wTup, wLst, wBi, wCall, wIsi, wSl, wSo, wNo, wSeqI, wFor, gNm, gTp, puts, wAsg, wPar, wMul, wmD, wmO, putsI, wAug, wTryIs, wRng1, wRng2, wEnum, wEnumT, wZip, wLc, wYes, wLend, wRel, wOwn, wApp, wIns, wSetIx, wLstF, wListF, wRepF, wAddF, wSlS, wParO, wRevT, wSortedSet, wSortedSetL, wSortedSetT, wKeys, weI, wExt, allD, wMt, wRaise, wSeqO, wCallF, plainO, wCallA, wIdx0, wAnF, wSetA, wUnA, wSeqA, plainA, wFld, wFldO, wMake, wLRg, Ans.data, Ans.own.injEq, Ans.tup.injEq, Ans.dat.injEq, wTry, wTryM, wHs, wIsC, enOf, put, putUn, defEnds, lendE, lend, wipeE, hide, lenD, intD, listD, tupleD, reprD, wPen0, wPen1, wPen2, wPenS1, wPenS2, penAt, List.map_cons, List.map_nil, List.length_cons, List.length_nil, List.nil_append, List.cons_append, Nat.reduceAdd, Nat.reduceSub, Nat.reduceLeDiff, Nat.zero_add, List.replicate_zero, List.replicate_succ, List.getElem?_cons_zero, List.getElem?_cons_succ, List.set_cons_zero, List.set_cons_succ, Option.some.injEq, Slot.dat.injEq, Slot.own.injEq, PyData.bool.injEq, PyData.int.injEq, PyData.tuple.injEq, PyData.list.injEq, exists_eq_left', exists_eq_left, and_true, true_and, if_true, if_false, Bool.false_eq_true, reduceCtorEq, List.mapIdx_cons, List.mapIdx_nil]
  have pos : 0 < xs.length := List.length_pos_iff.mpr hn
  have fin : w_law_take [penD, .int xs.length] (k' + 1) (fun r k'' => idxD d r fun e => Q e k'') (fun y k_1 => x y k_1) :=
    ⟨xs.length, k', rfl, rfl, by omega, small9 (by omega), fun r r0 r1 k'' l => by
      have m := q _ (getD_mem r0 r1) k'' l
      cases d with
      | list ys => cases hd; exact ⟨_, atI_pos r0 r1, m⟩
      | tuple ys => cases hd; exact ⟨_, atI_pos r0 r1, m⟩
      | _ => cases hd⟩
  cases d with
  | list ys => cases hd; exact fin
  | tuple ys => cases hd; exact fin
  | _ => cases hd
end
end L2.DL.K12




namespace L2.DL.K12
open PySem PySem.Spec
      PyProof.Rows
/-! ### columns -/
def lessB : D → Bool
  | .tuple xs => xs.all fun | .int i => decide (i < 2 ^ 110) | _ => false
  | _ => false
def okCol (c : D) : Prop := c = .none ∨ ((closedB c = true ∧ lessB c = true) ∧ Ok 4 1 c)
def nonN (cs : List D) : List D := cs.filterMap fun d => if isN d = true then none else some d
def okCols (c : D) : Prop := ∃ cs, c = .tuple cs ∧ (∀ d ∈ cs, okCol d) ∧ 1 ≤ cs.length ∧ cs.length ≤ 4 ∧ (nonN cs).length ≤ 2
theorem okCol.ok {c : D} (h : okCol c) : Ok 4 1 c := by
  rcases h with rfl | ⟨_, h⟩
  · exact Ok.none.mono (by decide) (by decide)
  · exact h
theorem okCols.ok {c : D} (h : okCols c) : Ok 17 2 c := by
  obtain ⟨cs, rfl, h1, h2, h3, h4⟩ := h
  exact (Ok.tuple (fun d hd => (h1 d hd).ok) h3).mono (by decide) (by decide)
theorem okCols.b {c : D} (h : okCols c) : colsB c = true := by
  obtain ⟨cs, rfl, h1, h2, h3, h4⟩ := h
  simp only [colsB, Bool.and_eq_true, decide_eq_true_eq]
  refine ⟨⟨h2, h3⟩, List.all_eq_true.mpr fun d hd => ?_, h4⟩
  obtain ⟨e, he, hn⟩ := List.mem_filterMap.mp hd
  split at hn
  · cases hn
  · cases hn
    rcases h1 d he with rfl | ⟨h, _⟩
    · rename_i n; exact absurd rfl n
    · exact h.1
theorem nonN_cons {c : D} {cs : List D} : nonN (c :: cs) = if isN c = true then nonN cs else c :: nonN cs := by
  unfold nonN
  rw [List.filterMap_cons]
  cases isN c <;> rfl
theorem nonN_set {d : D} : ∀ {cs : List D} {j : Nat}, (nonN (cs.set j d)).length ≤ (nonN cs).length + 1
  | [], _ => by simp [nonN]
  | c :: cs, 0 => by
    rw [List.set_cons_zero, nonN_cons, nonN_cons]
    cases isN d <;> cases isN c <;> simp <;> omega
  | c :: cs, j + 1 => by
    have ih := nonN_set (d := d) (cs := cs) (j := j)
    rw [List.set_cons_succ, nonN_cons, nonN_cons]
    cases isN c <;> simp <;> omega
def okColB (d : D) : Bool := (closedB d && lessB d) && (fine d && decide (wt d ≤ 4) && decide (d.depth ≤ 1))
theorem okCol_of {d : D} (h : okColB d = true) : okCol d := by
  simp only [okColB, Bool.and_eq_true, decide_eq_true_eq] at h
  exact .inr ⟨h.1, h.2.1.1, h.2.1.2, h.2.2⟩
section
variable {P : Program} {w : World} {K : PySem.W.Frag} {mg : Str → Option Value} {base : Heap} {A : Cls}
end
end L2.DL.K12




namespace L2.DL.K12
open PySem PySem.Spec
      PyProof.Rows
/-! ### values -/
theorem ascB_inv : ∀ {xs : List D} {l : Int}, ascB l xs = true → ∀ d ∈ xs, ∃ i, d = .int i ∧ l < i
  | [], _, _, d, hd => by cases hd
  | .int i :: xs, l, h, d, hd => by
    simp only [ascB, Bool.and_eq_true, decide_eq_true_eq] at h
    rcases List.mem_cons.mp
          hd with rfl | hd
    · exact ⟨i, rfl, h.1⟩
    · obtain ⟨j, rfl, hj⟩ := ascB_inv h.2 d hd
      exact ⟨j, rfl, by omega⟩
  | .none :: _, _, h, _, _ => by simp [ascB] at h
  | .bool _ :: _, _, h, _, _ => by simp [ascB] at h
  | .str _ :: _, _, h, _, _ => by simp [ascB] at h
  | .list _ :: _, _, h, _, _ => by simp [ascB] at h
  | .tuple _ :: _, _, h, _, _ => by simp [ascB] at h
  | .dict _ :: _, _, h, _, _ => by simp [ascB] at h
theorem okCol.inv {c : D} (h : okCol c) : c = .none ∨ ∃ xs, c = .tuple xs ∧ xs ≠ [] ∧ xs.length ≤ 3 ∧ ascB (-1) xs = true ∧ ∀ d ∈ xs, ∃ i : Int, d = .int i ∧ 0 ≤ i ∧ i < 2 ^ 110 := by
  rcases h with rfl | ⟨⟨h, hl⟩, _⟩
  · exact .inl rfl
  · cases c with
    | tuple xs =>
      simp only [closedB, Bool.and_eq_true, decide_eq_true_eq] at h
      refine .inr ⟨xs, rfl, fun e => ?_, h.1.2, h.2, fun d hd => ?_⟩
      · rw [e] at h; exact absurd h.1.1 (by decide)
      · obtain ⟨i, rfl, hi⟩ := ascB_inv h.2 d hd
        have := List.all_eq_true.mp hl _ hd
        simp only [decide_eq_true_eq] at this
        exact ⟨i, rfl, by omega, this⟩
    | _ => cases h
def okVal (c v : D) : Prop := ∃ i : Int, v = .int i ∧ 0 ≤ i ∧ i < 2 ^ 110 ∧ inCol c v = true
theorem okVal.b {c v : D} (h : okVal c v) : valB c v = true := by
  obtain ⟨i, rfl, h0, _, h2⟩ := h
  simp only [valB, Bool.and_eq_true, decide_eq_true_eq]
  exact ⟨h0, h2⟩
theorem okVal.ok {c v : D} (h : okVal c v) : Ok 1 0 v := by
  obtain ⟨i, rfl, h0, h1, h2⟩ := h
  exact Ok.int (by omega)
theorem inB_mem {i : Int} {xs : List D} (h : PyData.int i ∈ xs) : inB (.int i) xs = true :=
  List.any_eq_true.mpr ⟨_, h, by simp [PyData.eqv]⟩
section
variable {P : Program} {w : World} {K : PySem.W.Frag} {mg : Str → Option Value} {base : Heap} {A : Cls}
end
end L2.DL.K12




namespace L2.DL.K12
open PySem PySem.Spec
      PyProof.Rows
/-! ### givens -/
/-- an entry, told by its column and its value -/
def entD (z : Int × D) : D := .tuple [.int z.1, z.2]
def okEnt (cs : List D) (z : Int × D) : Prop := 0 ≤ z.1 ∧ z.1 < cs.length ∧ (z.2 = .none ∨ okVal (cs.getD z.1.toNat .none) z.2)
theorem okEnt.b {cs : List D} {z : Int × D} (h : okEnt cs z) : entB cs (entD z) = true := by
  obtain ⟨h0, h1, h2⟩ := h
  simp only [entB, entD, Bool.and_eq_true, decide_eq_true_eq, Bool.or_eq_true]
  refine ⟨⟨h0, h1⟩, ?_⟩
  rcases h2 with h2 | h2
  · rw [h2]; exact .inl rfl
  · exact .inr h2.b
theorem okEnt.ok {cs : List D} {z : Int × D} (h : okEnt cs z) (hc : cs.length ≤ 4) : Ok 3 1 (entD z) := by
  obtain ⟨h0, h1, h2⟩ := h
  refine (Ok.tuple (n := 1) (m := 0) (k := 2) (fun d hd => ?_) (Nat.le_refl _)).mono (by decide) (by decide)
  rcases List.mem_cons.mp
        hd with rfl | hd
  · exact Ok.int (by omega)
  · cases List.mem_singleton.mp hd
    rcases h2 with h2 | h2
    · rw [h2]; exact Ok.none
    · exact h2.ok
theorem givL_of {cs : List D} : ∀ {zs : List (Int × D)} {l : Int}, (∀ z ∈ zs, okEnt cs z ∧ l < z.1) → (zs.map (·.1)).Pairwise (· < ·) → givL cs l (zs.map entD) = true
  | [], _, _, _ => rfl
  | z :: zs, l, h, hp => by
    rw [List.map_cons] at hp ⊢
    obtain ⟨p1, p2⟩ := List.pairwise_cons.mp hp
    simp only [givL, Bool.and_eq_true]
    refine ⟨(h z List.mem_cons_self).1.b, ?_⟩
    simp only [entD, Bool.and_eq_true, decide_eq_true_eq]
    exact ⟨(h z List.mem_cons_self).2, givL_of (fun y hy => ⟨(h y (List.mem_cons_of_mem _ hy)).1, p1 _ (List.mem_map.mpr ⟨y, hy, rfl⟩)⟩) p2⟩
/-- a given of the columns ns; with no blanks if b is false -/
def okGiv (cs : List D) (ns : List Int) (b : Bool) (g : D) : Prop := ∃ zs : List (Int × D), g = .tuple (zs.map entD) ∧ (∀ z ∈ zs, okEnt cs z ∧ (b = false → z.2 ≠ .none) ∧ z.1 ∈ ns) ∧ (zs.map (·.1)).Pairwise (· < ·) ∧ zs.length ≤ 4
section
variable {P : Program} {w : World} {K : PySem.W.Frag} {mg : Str → Option Value} {base : Heap} {A : Cls}
end
end L2.DL.K12




namespace L2.DL.K12
open PySem PySem.Spec
      PyProof.Rows
/-! ### rules -/
def okRule (cs : List D) (r : D) : Prop := rulB cs r = true ∧ Ok 40 3 r ∧ ∃ (zs : List (Int × D)) (c : Int) (w : D), r = .tuple [.tuple (zs.map entD), .int c, w] ∧ (∀ z ∈ zs, okEnt cs z) ∧ (zs.map (·.1)).Pairwise (· < ·) ∧ zs.length ≤ 4
theorem eqv_ints (a b : Int) : PyData.eqv (.int a) (.int b) = decide (a = b) := by
  rw [Bool.eq_iff_iff]
  simp [PyData.eqv]
theorem inB_not {i : Int} {ns : List Int} (h : i ∉ ns) : inB (.int i) (ns.map PyData.int) = false := by
  refine Bool.eq_false_iff.mpr fun e => ?_
  obtain ⟨z, hz, q⟩ := List.any_eq_true.mp e
  obtain ⟨j, hj, rfl⟩ := List.mem_map.mp hz
  rw [eqv_ints, decide_eq_true_eq] at q
  subst q
  exact h hj
theorem inB_non {xs : List D} (h : ∀ d ∈ xs, ∃ i, d = .int i) : inB .none xs = false := by
  refine Bool.eq_false_iff.mpr fun e => ?_
  obtain ⟨z, hz, q⟩ := List.any_eq_true.mp e
  obtain ⟨i, rfl⟩ := h z hz
  simp [PyData.eqv] at q
theorem rule_of {cs : List D} {ns : List Int} {b : Bool} {g w : D} {c : Int} (hcl : cs.length ≤ 4) (hg : okGiv cs ns b g) (hc : 0 ≤ c ∧ c < cs.length) (hn : c ∉ ns) (hw : (b = true ∧ w = .none) ∨ (b = false ∧ okVal (cs.getD c.toNat .none) w)) : okRule cs (.tuple [g, .int c, w]) := by
  obtain ⟨zs, rfl, hz, hp, hl⟩ := hg
  have e1 : (zs.map entD).map fstD = (zs.map (·.1)).map PyData.int := by rw [List.map_map, List.map_map]; rfl
  refine ⟨?_, ?_, zs, c, w, rfl, fun z h => (hz z h).1, hp, hl⟩
  · simp only [rulB, Bool.and_eq_true, Bool.or_eq_true, Bool.not_eq_true']
    refine ⟨givL_of (fun z h => ⟨(hz z h).1, by have := (hz z h).1.1; omega⟩) hp, by simp only [numB, Bool.and_eq_true, decide_eq_true_eq]; exact hc, ?_, ?_⟩
    · rw [e1]
      exact inB_not fun h => by
        obtain ⟨z, h1, h2⟩ := List.mem_map.mp h
        exact hn (by rw [← h2]; exact (hz z h1).2.2)
    · rcases hw with ⟨_, rfl⟩ | ⟨hb, hw⟩
      · exact .inl rfl
      · refine .inr ⟨inB_non fun d hd => ?_, hw.b⟩
        obtain ⟨e, he, rfl⟩ := List.mem_map.mp hd
        obtain ⟨z, h, rfl⟩ := List.mem_map.mp he
        rcases (hz z h).1.2.2 with h2 | ⟨i, h2, _⟩
        · exact absurd h2 ((hz z h).2.1 hb)
        · exact ⟨i, h2⟩
  · have g : Ok 13 2 (.tuple (zs.map entD)) := (Ok.tuple (k := 4) (fun d hd => by
      obtain ⟨z, h, rfl⟩ := List.mem_map.mp hd
      exact (hz z h).1.ok hcl) (by rw [List.length_map]; exact hl)).mono (by decide) (by decide)
    have gc : Ok 13 2 (.int c) := (Ok.int (by omega)).mono (by decide) (by decide)
    have gw : Ok 13 2 w := by
      rcases hw with ⟨_, rfl⟩ | ⟨_, hw⟩
      · exact Ok.none.mono (by decide) (by decide)
      · exact hw.ok.mono (by decide) (by decide)
    refine (Ok.tuple (n := 13) (m := 2) (k := 3) (fun d hd => ?_) (Nat.le_refl _)).mono (by decide) (by decide)
    simp only [List.mem_cons, List.not_mem_nil, or_false] at hd
    rcases hd with rfl | rfl | rfl
    · exact g
    · exact gc
    · exact gw
theorem cut_tail {c : Int} {ns : List Int} {j : Int} (j0 : 0 ≤ j) : ∃ ms : List Int, cutD ((c :: ns).map PyData.int) (some 1) (some (1 + j)) = .map PyData.int ms ∧ (∀ i ∈ ms, i ∈ ns) ∧ (ns.Nodup → ms.Nodup) ∧ ms.length ≤ ns.length := by
  have e1 : HT.sIx ((c :: ns).map PyData.int).length 0 (some 1) = 1 := by
    simp [HT.sIx]
  unfold cutD
  rw [e1]
  generalize HT.sIx ((c :: ns).map PyData.int).length ((c :: ns).map PyData.int).length (some (1 + j)) - 1 = t
  refine ⟨ns.take t, ?_, fun i hi => List.mem_of_mem_take hi, fun h => (List.take_sublist t ns).nodup h, ?_⟩
  · rw [List.map_cons, List.drop_succ_cons, List.drop_zero, ← List.map_take]
  · rw [List.length_take]; omega
section
variable {P : Program} {w : World} {K : PySem.W.Frag} {mg : Str → Option Value} {base : Heap} {A : Cls}
end
end L2.DL.K12





namespace L2.DL.K12
open PySem PySem.Spec
      PyProof.Rows
/-! ### columns whose values are drawn as a set; values of them -/
theorem ascB_of : ∀ {ms : List Int} {l : Int}, ms.Pairwise (· < ·) → (∀ m ∈ ms, l < m) → ascB l (ms.map PyData.int) = true
  | [], _, _, _ => rfl
  | m :: ms, l, p, h => by
    obtain ⟨p1, p2⟩ := List.pairwise_cons.mp p
    simp only [List.map_cons, ascB, Bool.and_eq_true, decide_eq_true_eq]
    exact ⟨h m List.mem_cons_self, ascB_of p2 p1⟩
theorem okCol_ints {ms : List Int} (h0 : ms ≠ []) (h3 : ms.length ≤ 3) (hp : ms.Pairwise (· < ·)) (hb : ∀ m ∈ ms, 0 ≤ m ∧ m < 100) : okCol (.tuple (ms.map PyData.int)) := by
  have l1 : 1 ≤ ms.length := List.length_pos_iff.mpr h0
  refine .inr ⟨⟨?_, ?_⟩, ?_⟩
  · simp only [closedB, Bool.and_eq_true, decide_eq_true_eq, List.length_map]
    exact ⟨⟨l1, h3⟩, ascB_of hp fun m hm => by have := (hb m hm).1; omega⟩
  · simp only [lessB, List.all_map, List.all_eq_true, Function.comp, decide_eq_true_eq]
    intro m hm
    have := (hb m hm).2
    omega
  · refine (Ok.tuple (n := 1) (m := 0) (k := 3) (fun d hd => ?_) (by rw [List.length_map]; exact h3)).mono (by decide) (by decide)
    obtain ⟨m, hm, rfl⟩ := List.mem_map.mp hd
    exact Ok.int (by have := hb m hm; omega)
theorem nonN_append {xs ys : List D} : nonN (xs ++ ys) = nonN xs ++ nonN ys := by
  unfold nonN
  rw [List.filterMap_append]
theorem nonN_n {fs : List D} : nonN (fs ++ [PyData.none]) = nonN fs := by
  rw [nonN_append]
  exact List.append_nil _
theorem nonN_t {fs xs : List D} : (nonN (fs ++ [PyData.tuple xs])).length = (nonN fs).length + 1 := by
  rw [nonN_append, List.length_append]
  rfl
section
variable {P : Program} {w : World} {K : PySem.W.Frag} {mg : Str → Option Value} {base : Heap} {A : Cls}
abbrev w_law_columns : Wc := pen (fun es => ∃ m : Int, es = [.int m] ∧ 1 ≤ m ∧ m ≤ 4) (fun _ r => okCols r) 30
abbrev m_law_columns : Wc.Mono w_law_columns := pen.mono
theorem d_law_columns (T : Txt K mg A) (d_law_take : Def P w K mg base "_law_take" 2 ["_law_pen", "_law_many"] w_law_take) (F : FunAt K mg "_law_columns" s_law_columns ["_law_pen", "_law_most"]) : Def P w K mg base "_law_columns" 3 ["_law_pen", "_law_most"] w_law_columns := by
  refine defD F sc_law_columns (fun ds k Q x ⟨es, k', e, _, ⟨m, p, _⟩, _⟩ => by rw [e, p]; rfl) fun f cdv Ar outer s H E p G hg hr => ⟨_, (dss_cons (ds_asg (de_tup (da_cons (de_tup da_nil) (da_cons de_int da_nil))) (dg_tp rfl (dgs_cons (i := 2) sc_law_columns.nd (dgs_cons (i := 3) sc_law_columns.nd dgs_nil))))
    (dss_cons (ds_for (passes_of rfl) rfl (di_rng1 (de_bin op_addA addD.mono fitsAdd de_int (de_fn d_law_take m_law_take hg hr (takes_of rfl rfl rfl rfl) (da_cons (de_var (pv 0)) (da_cons (de_var (pv 1)) da_nil)))) T.z_range) (dg_nm (i := 4) sc_law_columns.nd)
    (dss_cons (ds_set (i := 5) (de_sortedSetL rfl (de_lc (own := [("_law_step", 6)]) rfl sc_law_columns.nd (di_rng1 (de_bin op_addA addD.mono fitsAdd de_int (de_fn d_law_take m_law_take hg hr (takes_of rfl rfl rfl rfl) (da_cons (de_var (pv 0)) (da_cons de_int da_nil)))) T.z_range) (blkOk_by (N := ["_law_pen", "_law_most", "_law_found", "_law_closed", "_law_k", "_law_own", "_law_step"]) (sc := defScope s_law_columns) (by decide +kernel)) (fun _ _ _ _ _ _ _ => (dgc_nm (i := 6) sc_law_columns.nd (by decide))) (fun _ _ _ _ _ _ _ => dts_nil) (fun _ _ _ _ _ _ _ => (de_fn d_law_take m_law_take hg hr takes0 (da_cons (de_var (pv 0)) (da_cons de_int da_nil))))) T.z_sorted T.z_set) sc_law_columns.nd)
    (dss_one (ds_if (dw_and (dt_cmp op_lt cmpD.mono fitsCmp (de_var (pv 3)) de_int) (dw_and1 (dt_cmp (op_eqA hr.units) eqD.mono fitsEq (de_fn d_law_take m_law_take hg hr (takes_of rfl rfl rfl rfl) (da_cons (de_var (pv 0)) (da_cons de_int da_nil))) de_int))).dt
    (dss_cons (ds_set (i := 3) (de_bin op_addA addD.mono fitsAdd (de_var (pv 3)) de_int) sc_law_columns.nd)
    (dss_one (ds_set (i := 2) (de_bin op_addA addD.mono fitsAdd (de_var (pv 2)) (de_tup (da_cons (de_bt tupleD.mono fitsTuple call_tuple_of (da_cons (de_var (pv 5)) da_nil) T.z_tuple) da_nil))) sc_law_columns.nd)))
    (dss_one (ds_set (i := 2) (de_bin op_addA addD.mono fitsAdd (de_var (pv 2)) (de_tup (da_cons de_non da_nil))) sc_law_columns.nd))))))
    (dss_one (ds_ret (de_var (pv 2)))))), ?_⟩
  rintro ds n Q x ⟨es, k', rfl, rfl, ⟨m, rfl, m1, m4⟩, q⟩
  simp only [wRet, wSet, wSeq, wNext, wDrop, wIfS, wTest, wAnd, wOr, wNot, wIf, wBin, wVar, wC, wAndV, wOrV, wNotV, wIsN, wNotN, wNeg, wChain, wNil, wCons, wTup, wLst, wBi, wCall, wIsi, wSl, wSo, wNo, wSeqI, wFor, gNm, gTp, puts, wAsg, wPar, wMul, wmD, wmO, putsI, wAug, wTryIs, wRng1, wRng2, wEnum, wEnumT, wZip, wLc, wYes, wLend, wRel, wOwn, wApp, wIns, wSetIx, wLstF, wListF, wRepF, wAddF, wSlS, wParO, wRevT, wSortedSet, wSortedSetL, wSortedSetT, wKeys, weI, wExt, allD, wMt, wRaise, wSeqO, wCallF, plainO, wCallA, wIdx0, wAnF, wSetA, wUnA, wSeqA, plainA, wFld, wFldO, wMake, wLRg, Ans.data, Ans.own.injEq, Ans.tup.injEq, Ans.dat.injEq, wTry, wTryM, wHs, wIsC, enOf, put, putUn, defEnds, lendE, lend, wipeE, hide, lenD, intD, listD, tupleD, reprD, wPen0, wPen1, wPen2, wPenS1, wPenS2, penAt, List.map_cons, List.map_nil, List.length_cons, List.length_nil, List.nil_append, List.cons_append, Nat.reduceAdd, Nat.reduceSub, Nat.reduceLeDiff, Nat.zero_add, List.replicate_zero, List.replicate_succ, List.getElem?_cons_zero, List.getElem?_cons_succ, List.set_cons_zero, List.set_cons_succ, Option.some.injEq, Slot.dat.injEq, Slot.own.injEq, PyData.bool.injEq, PyData.int.injEq, PyData.tuple.injEq, PyData.list.injEq, exists_eq_left', exists_eq_left, and_true, true_and, if_true, if_false, Bool.false_eq_true, reduceCtorEq, List.mapIdx_cons, List.mapIdx_nil, addD, mulD, powD]
  refine ⟨m, k' + 29, rfl, rfl, by omega, small9 (by omega), fun r r0 rm k1 l1 => ?_⟩
  refine ⟨_, rfl, by omega, by omega, ?_⟩
  refine wLoop.ind (fun ds e => ∃ (fs : List D) (u4 u5 u6 : Slot) (k : Nat), e = ⟨[.dat penD, .dat (.int m), .dat (.tuple fs), .dat (.int (nonN fs).length), u4, u5, u6], k⟩ ∧ 1 ≤ fs.length + ds.length ∧ fs.length + ds.length ≤ 4 ∧ (∀ d ∈ fs, okCol d) ∧ (nonN fs).length ≤ 2 ∧ k' + 6 * ds.length ≤ k) ?_ ?_
    ⟨[], _, _, _, k1, rfl, by rw [rngD_length, List.length_nil]; omega, by rw [rngD_length, List.length_nil]; omega, fun d hd => (nomatch hd), by decide, by rw [rngD_length]; omega⟩
  · rintro e ⟨fs, u4, u5, u6, k, rfl, f1, f4, fc, fn, fk⟩
    refine ⟨_, rfl, q _ k (by simpa using fk) ⟨fs, rfl, fc, by simpa using f1, by simpa using f4, fn⟩⟩
  · rintro d ds e ih ⟨fs, u4, u5, u6, k, rfl, f1, f4, fc, fn, fk⟩
    rw [List.length_cons] at f1 f4 fk
    obtain ⟨k, rfl⟩ : ∃ k0, k = k0 + 6 := ⟨k - 6, by omega⟩
    simp only [wRet, wSet, wSeq, wNext, wDrop, wIfS, wTest, wAnd, wOr, wNot, wIf, wBin, wVar, wC, wAndV, wOrV, wNotV, wIsN, wNotN, wNeg, wChain, wNil, wCons, wTup, wLst, wBi, wCall, wIsi, wSl, wSo, wNo, wSeqI, wFor, gNm, gTp, puts, wAsg, wPar, wMul, wmD, wmO, putsI, wAug, wTryIs, wRng1, wRng2, wEnum, wEnumT, wZip, wLc, wYes, wLend, wRel, wOwn, wApp, wIns, wSetIx, wLstF, wListF, wRepF, wAddF, wSlS, wParO, wRevT, wSortedSet, wSortedSetL, wSortedSetT, wKeys, weI, wExt, allD, wMt, wRaise, wSeqO, wCallF, plainO, wCallA, wIdx0, wAnF, wSetA, wUnA, wSeqA, plainA, wFld, wFldO, wMake, wLRg, Ans.data, Ans.own.injEq, Ans.tup.injEq, Ans.dat.injEq, wTry, wTryM, wHs, wIsC, enOf, put, putUn, defEnds, lendE, lend, wipeE, hide, lenD, intD, listD, tupleD, reprD, wPen0, wPen1, wPen2, wPenS1, wPenS2, penAt, List.map_cons, List.map_nil, List.length_cons, List.length_nil, List.nil_append, List.cons_append, Nat.reduceAdd, Nat.reduceSub, Nat.reduceLeDiff, Nat.zero_add, List.replicate_zero, List.replicate_succ, List.getElem?_cons_zero, List.getElem?_cons_succ, List.set_cons_zero, List.set_cons_succ, Option.some.injEq, Slot.dat.injEq, Slot.own.injEq, PyData.bool.injEq, PyData.int.injEq, PyData.tuple.injEq, PyData.list.injEq, exists_eq_left', exists_eq_left, and_true, true_and, if_true, if_false, Bool.false_eq_true, reduceCtorEq, List.mapIdx_cons, List.mapIdx_nil, addD, cmpD, eqD, twoInts, true_or, true_and]
    refine ⟨3, k + 5, rfl, rfl, by decide, small9 (by decide), fun t t0 t3 k2 l2 => ?_⟩
    refine ⟨_, rfl, by omega, by omega, ?_⟩
    refine lcLoop.ind (fun acc es k3 => ∃ ns : List Int, acc = ns.map PyData.int ∧ 1 ≤ ns.length + es.length ∧ ns.length + es.length ≤ 3 ∧ (∀ v ∈ ns, 0 ≤ v ∧ v < 4) ∧ k + 2 + es.length ≤ k3) ?_ ?_ ⟨[], rfl, by rw [rngD_length, List.length_nil]; omega, by rw [rngD_length, List.length_nil]; omega, fun v hv => (nomatch hv), by rw [rngD_length]; omega⟩
    · rintro acc k3 ⟨ns, rfl, n1, n3, nb, lk⟩
      refine ⟨ns, rfl, by simp only [List.length_nil] at n3; omega, fun ms mp mm ml => ?_⟩
      have m3 : ms.length ≤ 3 := by simp only [List.length_nil] at n3; omega
      have m1 : ms ≠ [] := fun z => by
        cases ns with
        | nil => simp at n1
        | cons v ns => rw [z] at mm; exact absurd ((mm v).mpr List.mem_cons_self) (fun y => nomatch y)
      have hok : okCol (.tuple (ms.map PyData.int)) := okCol_ints m1 m3 mp fun v hv => by have := nb v ((mm v).mp hv); omega
      obtain ⟨k3, rfl⟩ : ∃ k0, k3 = k0 + 2 := ⟨k3 - 2, by simp only [List.length_nil] at lk; omega⟩
      have kk : k ≤ k3 := by simp only [List.length_nil] at lk; omega
      have fl1 : fs.length + 1 ≤ sizeLine := by rw [sizeLine_eq]; omega
      by_cases h2 : (nonN fs).length < 2
      · rw [if_pos (decide_eq_true (by omega))]
        refine ⟨3, k3 + 1, rfl, rfl, by decide, small9 (by decide), fun z z0 z3 k4 l4 => ⟨.inl rfl, ?_⟩⟩
        rw [eqv_ints]
        by_cases hz : z = 0
        · rw [if_pos (decide_eq_true hz)]
          refine ⟨fl1, ih _ ⟨fs ++ [PyData.tuple (ms.map PyData.int)], _, _, _, k4, by rw [nonN_t]; rfl, by rw [List.length_append, List.length_singleton]; omega, by rw [List.length_append, List.length_singleton]; omega, fun c hc => (List.mem_append.mp hc).elim (fc c) fun h => by cases List.mem_singleton.mp h; exact hok, by rw [nonN_t]; omega, by omega⟩⟩
        · rw [if_neg (by rw [decide_eq_false hz]; decide)]
          refine ⟨fl1, ih _ ⟨fs ++ [PyData.none], _, _, _, k4, by rw [nonN_n], by rw [List.length_append, List.length_singleton]; omega, by rw [List.length_append, List.length_singleton]; omega, fun c hc => (List.mem_append.mp hc).elim (fc c) fun h => by cases List.mem_singleton.mp h; exact .inl rfl, by rw [nonN_n]; exact fn, by omega⟩⟩
      · rw [if_neg (by rw [decide_eq_false (by omega)]; decide)]
        refine ⟨fl1, ih _ ⟨fs ++ [PyData.none], _, _, _, k3 + 2, by rw [nonN_n], by rw [List.length_append, List.length_singleton]; omega, by rw [List.length_append, List.length_singleton]; omega, fun c hc => (List.mem_append.mp hc).elim (fc c) fun h => by cases List.mem_singleton.mp h; exact .inl rfl, by rw [nonN_n]; exact fn, by omega⟩⟩
    · rintro v es acc k3 ih3 ⟨ns, rfl, n1, n3, nb, lk⟩
      rw [List.length_cons] at n1 n3 lk
      obtain ⟨k3, rfl⟩ : ∃ k0, k3 = k0 + 1 := ⟨k3 - 1, by omega⟩
      simp only [wRet, wSet, wSeq, wNext, wDrop, wIfS, wTest, wAnd, wOr, wNot, wIf, wBin, wVar, wC, wAndV, wOrV, wNotV, wIsN, wNotN, wNeg, wChain, wNil, wCons, wTup, wLst, wBi, wCall, wIsi, wSl, wSo, wNo, wSeqI, wFor, gNm, gTp, puts, wAsg, wPar, wMul, wmD, wmO, putsI, wAug, wTryIs, wRng1, wRng2, wEnum, wEnumT, wZip, wLc, wYes, wLend, wRel, wOwn, wApp, wIns, wSetIx, wLstF, wListF, wRepF, wAddF, wSlS, wParO, wRevT, wSortedSet, wSortedSetL, wSortedSetT, wKeys, weI, wExt, allD, wMt, wRaise, wSeqO, wCallF, plainO, wCallA, wIdx0, wAnF, wSetA, wUnA, wSeqA, plainA, wFld, wFldO, wMake, wLRg, Ans.data, Ans.own.injEq, Ans.tup.injEq, Ans.dat.injEq, wTry, wTryM, wHs, wIsC, enOf, put, putUn, defEnds, lendE, lend, wipeE, hide, lenD, intD, listD, tupleD, reprD, wPen0, wPen1, wPen2, wPenS1, wPenS2, penAt, List.map_cons, List.map_nil, List.length_cons, List.length_nil, List.nil_append, List.cons_append, Nat.reduceAdd, Nat.reduceSub, Nat.reduceLeDiff, Nat.zero_add, List.replicate_zero, List.replicate_succ, List.getElem?_cons_zero, List.getElem?_cons_succ, List.set_cons_zero, List.set_cons_succ, Option.some.injEq, Slot.dat.injEq, Slot.own.injEq, PyData.bool.injEq, PyData.int.injEq, PyData.tuple.injEq, PyData.list.injEq, exists_eq_left', exists_eq_left, and_true, true_and, if_true, if_false, Bool.false_eq_true, reduceCtorEq, List.mapIdx_cons, List.mapIdx_nil]
      refine ⟨_, rfl, 4, k3, rfl, rfl, by decide, small9 (by decide), fun v v0 v4 k4 l4 => ⟨by rw [List.length_map]; omega, ih3 _ _ ⟨ns ++ [v], by rw [List.map_append]; rfl, by rw [List.length_append, List.length_singleton]; omega, by rw [List.length_append, List.length_singleton]; omega, fun u hu => (List.mem_append.mp hu).elim (nb u) fun h => by cases List.mem_singleton.mp h; exact ⟨v0, v4⟩, by omega⟩⟩⟩
abbrev w_law_value : Wc := pen (fun es => ∃ c, es = [c] ∧ okCol c) (fun es v => ∀ c, es = [c] → okVal c v) 4
abbrev m_law_value : Wc.Mono w_law_value := pen.mono
theorem d_law_value (T : Txt K mg A) (d_law_one : Def P w K mg base "_law_one" 3 ["_law_pen", "_law_some"] w_law_one) (F : FunAt K mg "_law_value" s_law_value ["_law_pen", "_law_column"]) : Def P w K mg base "_law_value" 4 ["_law_pen", "_law_column"] w_law_value := by
  refine defD F sc_law_value (fun ds k Q x ⟨es, k', e, _, ⟨c, p, _⟩, _⟩ => by rw [e, p]; rfl) fun f cdv Ar outer s H E p G hg hr => ⟨_, (dss_cons (ds_if (dt_isN (de_var (pv 1)))
    (dss_one (ds_ret (de_fn d_law_one m_law_one hg hr (takes_of rfl rfl rfl rfl) (da_cons (de_var (pv 0)) (da_cons (de_lst (da_cons de_int (da_cons de_int (da_cons de_int (da_cons de_int (da_cons de_int (da_cons de_int (da_cons de_int (da_cons (de_bin op_pow powD.mono fitsPow de_int de_int) (da_cons (de_bin op_addA addD.mono fitsAdd (de_bin op_pow powD.mono fitsPow de_int de_int) de_int) da_nil)))))))))) da_nil)))))
    dss_nil)
    (dss_one (ds_ret (de_fn d_law_one m_law_one hg hr (takes_of rfl rfl rfl rfl) (da_cons (de_var (pv 0)) (da_cons (de_var (pv 1)) da_nil)))))), ?_⟩
  rintro ds n Q x ⟨es, k', rfl, rfl, ⟨c, rfl, hc⟩, q⟩
  simp only [wRet, wSet, wSeq, wNext, wDrop, wIfS, wTest, wAnd, wOr, wNot, wIf, wBin, wVar, wC, wAndV, wOrV, wNotV, wIsN, wNotN, wNeg, wChain, wNil, wCons, wTup, wLst, wBi, wCall, wIsi, wSl, wSo, wNo, wSeqI, wFor, gNm, gTp, puts, wAsg, wPar, wMul, wmD, wmO, putsI, wAug, wTryIs, wRng1, wRng2, wEnum, wEnumT, wZip, wLc, wYes, wLend, wRel, wOwn, wApp, wIns, wSetIx, wLstF, wListF, wRepF, wAddF, wSlS, wParO, wRevT, wSortedSet, wSortedSetL, wSortedSetT, wKeys, weI, wExt, allD, wMt, wRaise, wSeqO, wCallF, plainO, wCallA, wIdx0, wAnF, wSetA, wUnA, wSeqA, plainA, wFld, wFldO, wMake, wLRg, Ans.data, Ans.own.injEq, Ans.tup.injEq, Ans.dat.injEq, wTry, wTryM, wHs, wIsC, enOf, put, putUn, defEnds, lendE, lend, wipeE, hide, lenD, intD, listD, tupleD, reprD, wPen0, wPen1, wPen2, wPenS1, wPenS2, penAt, List.map_cons, List.map_nil, List.length_cons, List.length_nil, List.nil_append, List.cons_append, Nat.reduceAdd, Nat.reduceSub, Nat.reduceLeDiff, Nat.zero_add, List.replicate_zero, List.replicate_succ, List.getElem?_cons_zero, List.getElem?_cons_succ, List.set_cons_zero, List.set_cons_succ, Option.some.injEq, Slot.dat.injEq, Slot.own.injEq, PyData.bool.injEq, PyData.int.injEq, PyData.tuple.injEq, PyData.list.injEq, exists_eq_left', exists_eq_left, and_true, true_and, if_true, if_false, Bool.false_eq_true, reduceCtorEq, List.mapIdx_cons, List.mapIdx_nil, addD, mulD, powD]
  rcases hc.inv with rfl | ⟨xs, rfl, hn, hl, ha, hx⟩
  · simp only [isN, Bool.not_true, if_false, if_true, Bool.false_eq_true]
    have e29 : (10 : Int) ^ Int.toNat 29 = 100000000000000000000000000000 := rfl
    rw [e29]
    refine ⟨⟨by decide, by decide, by decide⟩, ⟨by decide, by decide, by decide⟩, _, _, k' + 3, rfl, rfl, rfl, by simp, by simp, fun r hr k'' l => q r k'' (by omega) fun c ec => ?_⟩
    cases ec
    simp only [List.mem_cons, List.not_mem_nil, or_false] at hr
    rcases hr with rfl | rfl | rfl | rfl | rfl | rfl | rfl | rfl | rfl <;> exact ⟨_, rfl, by omega, by omega, rfl⟩
  · simp only [isN, Bool.not_false, if_true, if_false, Bool.false_eq_true]
    refine ⟨_, xs, k' + 3, rfl, rfl, rfl, hn, by omega, fun r hr k'' l => q r k'' (by omega) fun c ec => ?_⟩
    cases ec
    obtain ⟨i, rfl, h0, h1⟩ := hx r hr
    exact ⟨i, rfl, h0, h1, inB_mem hr⟩
end
end L2.DL.K12




namespace L2.DL.K12
open PySem PySem.Spec
      PyProof.Rows
/-! ### rules, entry by entry -/
theorem ite_t {c : Bool} {a b : Prop} (hc : c = true) (h : a) : if c = true then a else b := by rw [if_pos hc]; exact h
theorem pw_snoc {ns : List Int} {j : Int} (h : ns.Pairwise (· < ·)) (hb : ∀ i ∈ ns, i < j) : (ns ++ [j]).Pairwise (· < ·) := by
  rw [List.pairwise_append]
  exact ⟨h, List.pairwise_singleton _ _, fun a ha b hb' => by cases List.mem_singleton.mp hb'; exact hb a ha⟩
section
variable {P : Program} {w : World} {K : PySem.W.Frag} {mg : Str → Option Value} {base : Heap} {A : Cls}
def w_law_rule : Wc := fun ds k Q _ => ∃ (cs : List D) (k' : Nat), ds = [penD, .tuple cs] ∧ k = k' + 30 ∧ (∀ d ∈ cs, okCol d) ∧ 1 ≤ cs.length ∧ cs.length ≤ 4 ∧ ∀ r k'', k' ≤ k'' → okRule cs r → Q r k''
theorem m_law_rule : Wc.Mono w_law_rule := fun ds k Q Q' x x' h1 _ ⟨cs, k', p1, p2, p3, p4, p5, q⟩ => ⟨cs, k', p1, p2, p3, p4, p5, fun g k'' l z => h1 _ _ (q g k'' l z)⟩
theorem d_law_rule (T : Txt K mg A) (d_law_take : Def P w K mg base "_law_take" 2 ["_law_pen", "_law_many"] w_law_take) (d_law_one : Def P w K mg base "_law_one" 3 ["_law_pen", "_law_some"] w_law_one) (d_law_value : Def P w K mg base "_law_value" 4 ["_law_pen", "_law_column"] w_law_value)
    (F : FunAt K mg "_law_rule" s_law_rule ["_law_pen", "_law_columns_here"]) : Def P w K mg base "_law_rule" 6 ["_law_pen", "_law_columns_here"] w_law_rule := by
  refine defD F sc_law_rule (fun ds k Q x ⟨cs, k', e, _⟩ => by rw [e]; rfl) fun f cdv Ar outer s H E p G hg hr => ⟨_, (dss_cons (ds_set (i := 2) (de_fn d_law_take m_law_take hg hr (takes_of rfl rfl rfl rfl) (da_cons (de_var (pv 0)) (da_cons (de_bi lenD.mono fitsLen call_len_seq (da_cons (de_var (pv 1)) da_nil) T.z_len) da_nil))) sc_law_rule.nd)
    (dss_cons (ds_set (i := 3) (de_fn d_law_one m_law_one hg hr (takes_of rfl rfl rfl rfl) (da_cons (de_var (pv 0)) (da_cons (de_lst (da_cons de_non (da_cons de_non (da_cons (de_fn d_law_value m_law_value hg hr (takes_of rfl rfl rfl rfl) (da_cons (de_var (pv 0)) (da_cons (de_idx (de_var (pv 1)) (de_var (pv 2))) da_nil))) da_nil)))) da_nil))) sc_law_rule.nd)
    (dss_cons (ds_set (i := 4) (de_tup da_nil) sc_law_rule.nd)
    (dss_cons (ds_for (passes_of rfl) rfl (di_rng1 (de_bi lenD.mono fitsLen call_len_seq (da_cons (de_var (pv 1)) da_nil) T.z_len) T.z_range) (dg_nm (i := 5) sc_law_rule.nd)
    (dss_cons (ds_set (i := 6) (de_fn d_law_take m_law_take hg hr (takes_of rfl rfl rfl rfl) (da_cons (de_var (pv 0)) (da_cons de_int da_nil))) sc_law_rule.nd)
    (dss_one (ds_if (dw_and (dt_cmp (op_neA hr.units) neD.mono fitsNe (de_var (pv 5)) (de_var (pv 2))) (dw_and1 (dt_cmp op_lt cmpD.mono fitsCmp (de_var (pv 6)) de_int))).dt
    (dss_one (ds_set (i := 4) (de_bin op_addA addD.mono fitsAdd (de_var (pv 4)) (de_tup (da_cons (de_tup (da_cons (de_var (pv 5)) (da_cons (de_fn d_law_value m_law_value hg hr (takes_of rfl rfl rfl rfl) (da_cons (de_var (pv 0)) (da_cons (de_idx (de_var (pv 1)) (de_var (pv 5))) da_nil))) da_nil))) da_nil))) sc_law_rule.nd))
    (dss_one (ds_if (dw_and (dt_cmp (op_neA hr.units) neD.mono fitsNe (de_var (pv 5)) (de_var (pv 2))) (dw_and (dt_cmp (op_eqA hr.units) eqD.mono fitsEq (de_var (pv 6)) de_int) (dw_and1 (dt_isN (de_var (pv 3)))))).dt
    (dss_one (ds_set (i := 4) (de_bin op_addA addD.mono fitsAdd (de_var (pv 4)) (de_tup (da_cons (de_tup (da_cons (de_var (pv 5)) (da_cons de_non da_nil))) da_nil))) sc_law_rule.nd))
    dss_nil))))))
    (dss_one (ds_ret (de_tup (da_cons (de_var (pv 4)) (da_cons (de_var (pv 2)) (da_cons (de_var (pv 3)) da_nil)))))))))), ?_⟩
  rintro ds n Q x ⟨cs, k', rfl, rfl, hcs, hc1, hcl, q⟩
  simp only [wRet, wSet, wSeq, wNext, wDrop, wIfS, wTest, wAnd, wOr, wNot, wIf, wBin, wVar, wC, wAndV, wOrV, wNotV, wIsN, wNotN, wNeg, wChain, wNil, wCons, wTup, wLst, wBi, wCall, wIsi, wSl, wSo, wNo, wSeqI, wFor, gNm, gTp, puts, wAsg, wPar, wMul, wmD, wmO, putsI, wAug, wTryIs, wRng1, wRng2, wEnum, wEnumT, wZip, wLc, wYes, wLend, wRel, wOwn, wApp, wIns, wSetIx, wLstF, wListF, wRepF, wAddF, wSlS, wParO, wRevT, wSortedSet, wSortedSetL, wSortedSetT, wKeys, weI, wExt, allD, wMt, wRaise, wSeqO, wCallF, plainO, wCallA, wIdx0, wAnF, wSetA, wUnA, wSeqA, plainA, wFld, wFldO, wMake, wLRg, Ans.data, Ans.own.injEq, Ans.tup.injEq, Ans.dat.injEq, wTry, wTryM, wHs, wIsC, enOf, put, putUn, defEnds, lendE, lend, wipeE, hide, lenD, intD, listD, tupleD, reprD, wPen0, wPen1, wPen2, wPenS1, wPenS2, penAt, List.map_cons, List.map_nil, List.length_cons, List.length_nil, List.nil_append, List.cons_append, Nat.reduceAdd, Nat.reduceSub, Nat.reduceLeDiff, Nat.zero_add, List.replicate_zero, List.replicate_succ, List.getElem?_cons_zero, List.getElem?_cons_succ, List.set_cons_zero, List.set_cons_succ, Option.some.injEq, Slot.dat.injEq, Slot.own.injEq, PyData.bool.injEq, PyData.int.injEq, PyData.tuple.injEq, PyData.list.injEq, exists_eq_left', exists_eq_left, and_true, true_and, if_true, if_false, Bool.false_eq_true, reduceCtorEq, List.mapIdx_cons, List.mapIdx_nil, addD, eqD, twoInts, true_or, true_and]
  refine ⟨cs.length, k' + 29, rfl, rfl, by omega, small9 (by omega), fun c c0 c1 k1 l1 => ?_⟩
  have hc := hcs _ (getD_mem c0 c1)
  obtain ⟨k1, rfl⟩ : ∃ k, k1 = k + 4 := ⟨k1 - 4, by omega⟩
  refine ⟨_, atI_pos c0 c1, _, k1, rfl, rfl, ⟨_, rfl, hc⟩, fun v k2 l2 hv => ?_⟩
  have hv := hv _ rfl
  obtain ⟨k2, rfl⟩ : ∃ k, k2 = k + 1 := ⟨k2 - 1, by omega⟩
  refine ⟨_, _, k2, rfl, rfl, rfl, by simp, by simp, fun u hu k3 l3 => ?_⟩
  have hu : u = .none ∨ (isN u = false ∧ okVal (cs.getD c.toNat .none) u) := by
    simp only [List.mem_cons, List.not_mem_nil, or_false] at hu
    rcases hu with rfl | rfl | rfl
    · exact .inl rfl
    · exact .inl rfl
    · refine .inr ⟨?_, hv⟩
      obtain ⟨i, rfl, _⟩ := hv
      rfl
  refine ⟨by omega,
        by omega, ?_⟩
  rw [Int.toNat_natCast]
  refine wLoop.ind (fun ds e => ∃ (j : Nat) (zs : List (Int × D)) (u5 u6 : Slot) (k : Nat), e = ⟨[.dat penD, .dat (.tuple cs), .dat (.int c), .dat u, .dat (.tuple (zs.map entD)), u5, u6], k⟩ ∧ j ≤ cs.length ∧ ds = rngD j (cs.length - j) ∧ (∀ z ∈ zs, okEnt cs z ∧ (isN u = false → z.2 ≠ .none) ∧ z.1 ≠ c ∧ z.1 < j) ∧ (zs.map (·.1)).Pairwise (· < ·) ∧ zs.length ≤ j ∧ k' + 5 * (cs.length - j) ≤ k) ?_ ?_
    ⟨0, [], _, _, k3, rfl, Nat.zero_le _, rfl, fun z hz => (nomatch hz), List.Pairwise.nil, Nat.le_refl _, by omega⟩
  · rintro e ⟨j, zs, u5, u6, k, rfl, hj, hd, hz, hp, hl, hk⟩
    have hg : okGiv cs (zs.map (·.1)) (isN u) (.tuple (zs.map entD)) := ⟨zs, rfl, fun z h => ⟨(hz z h).1, (hz z h).2.1, List.mem_map.mpr ⟨z, h, rfl⟩⟩, hp, by omega⟩
    refine ⟨_, rfl, _, rfl, _, rfl, q _ k (by omega) (rule_of hcl hg ⟨c0, c1⟩ (fun h => ?_) ?_)⟩
    · obtain ⟨z, h1, h2⟩ := List.mem_map.mp h
      exact (hz z h1).2.2.1 h2
    · rcases hu with rfl | ⟨h1, h2⟩
      · exact .inl ⟨rfl, rfl⟩
      · exact .inr ⟨h1, h2⟩
  · rintro d ds e ih ⟨j, zs, u5, u6, k, rfl, hj, hd, hz, hp, hl, hk⟩
    obtain ⟨t, ht⟩ : ∃ t, cs.length - j = t + 1 := by
      have := congrArg List.length hd
      rw [rngD_length, List.length_cons] at this
      exact ⟨ds.length, this.symm⟩
    rw [ht, rngD_succ] at hd
    injection hd with hd1 hd2
    subst hd1 hd2
    have j1 : (j : Int) < cs.length := by omega
    have hcj := hcs _ (getD_mem (Int.natCast_nonneg j) j1)
    obtain ⟨k, rfl⟩ : ∃ k0, k = k0 + 5 := ⟨k - 5, by omega⟩
    simp only [wRet, wSet, wSeq, wNext, wDrop, wIfS, wTest, wAnd, wOr, wNot, wIf, wBin, wVar, wC, wAndV, wOrV, wNotV, wIsN, wNotN, wNeg, wChain, wNil, wCons, wTup, wLst, wBi, wCall, wIsi, wSl, wSo, wNo, wSeqI, wFor, gNm, gTp, puts, wAsg, wPar, wMul, wmD, wmO, putsI, wAug, wTryIs, wRng1, wRng2, wEnum, wEnumT, wZip, wLc, wYes, wLend, wRel, wOwn, wApp, wIns, wSetIx, wLstF, wListF, wRepF, wAddF, wSlS, wParO, wRevT, wSortedSet, wSortedSetL, wSortedSetT, wKeys, weI, wExt, allD, wMt, wRaise, wSeqO, wCallF, plainO, wCallA, wIdx0, wAnF, wSetA, wUnA, wSeqA, plainA, wFld, wFldO, wMake, wLRg, Ans.data, Ans.own.injEq, Ans.tup.injEq, Ans.dat.injEq, wTry, wTryM, wHs, wIsC, enOf, put, putUn, defEnds, lendE, lend, wipeE, hide, lenD, intD, listD, tupleD, reprD, wPen0, wPen1, wPen2, wPenS1, wPenS2, penAt, List.map_cons, List.map_nil, List.length_cons, List.length_nil, List.nil_append, List.cons_append, Nat.reduceAdd, Nat.reduceSub, Nat.reduceLeDiff, Nat.zero_add, List.replicate_zero, List.replicate_succ, List.getElem?_cons_zero, List.getElem?_cons_succ, List.set_cons_zero, List.set_cons_succ, Option.some.injEq, Slot.dat.injEq, Slot.own.injEq, PyData.bool.injEq, PyData.int.injEq, PyData.tuple.injEq, PyData.list.injEq, exists_eq_left', exists_eq_left, and_true, true_and, if_true, if_false, Bool.false_eq_true, reduceCtorEq, List.mapIdx_cons, List.mapIdx_nil, addD, cmpD, eqD, neD, twoInts, true_or, true_and]
    refine ⟨5, k + 4, rfl, rfl, by decide, small9 (by decide), fun r r0 r5 k4 l4 => ?_⟩
    dsimp only
    have zl : (zs.map entD).length + 1 ≤ sizeLine := by rw [List.length_map, sizeLine_eq]; omega
    -- an entry more
    have more : ∀ (y : D) (e' : En) (k5 : Nat) (u6 : Slot), (j : Int) ≠ c → okEnt cs ((j : Int), y) → (isN u = false → y ≠ .none) → k' + 5 * (cs.length - (j + 1)) ≤ k5 → e' = ⟨[.dat penD, .dat (.tuple cs), .dat (.int c), .dat u, .dat (.tuple (zs.map entD ++ [.tuple [.int j, y]])), .dat (.int j), u6], k5⟩ → _ := fun y e' k5 u6 hjc hy hn hk5 ee => ih e' ⟨j + 1, zs ++ [((j : Int), y)], .dat (.int j), u6, k5, ee.trans (by rw [List.map_append]; rfl), by omega, by
        have : cs.length - (j + 1) = t := by omega
        rw [this]
        rfl, fun z h => by
        rcases List.mem_append.mp
              h with h | h
        · obtain ⟨h1, h2, h3, h4⟩ := hz z h
          exact ⟨h1, h2, h3, by omega⟩
        · cases List.mem_singleton.mp h
          exact ⟨hy, hn, hjc, by show (j : Int) < ((j + 1 : Nat) : Int); omega⟩, by
        rw [List.map_append]
        exact pw_snoc hp fun i hi => by
          obtain ⟨z, h1, h2⟩ := List.mem_map.mp hi
          have := (hz z h1).2.2.2
          rw [← h2]
          exact this, by rw [List.length_append, List.length_singleton]; omega, hk5⟩
    have same : ∀ (e' : En) (k5 : Nat) (u6 : Slot), k' + 5 * (cs.length - (j + 1)) ≤ k5 → e' = ⟨[.dat penD, .dat (.tuple cs), .dat (.int c), .dat u, .dat (.tuple (zs.map entD)), .dat (.int j), u6], k5⟩ → _ := fun e' k5 u6 hk5 ee => ih e' ⟨j + 1, zs, .dat (.int j), u6, k5, ee, by omega, by
        have : cs.length - (j + 1) = t := by omega
        rw [this]
        rfl, fun z h => by
        obtain ⟨h1, h2, h3, h4⟩ := hz z h
        exact ⟨h1, h2, h3, by omega⟩, hp, by omega, hk5⟩
    rw [eqv_ints, eqv_ints]
    by_cases hjc : (j : Int) = c
    · rw [if_neg (by rw [decide_eq_true hjc]; decide), if_neg (by rw [decide_eq_true hjc]; decide)]
      exact same _ k4 _ (by omega) rfl
    · rw [if_pos (by rw [decide_eq_false hjc]; decide), if_pos (by rw [decide_eq_false hjc]; decide)]
      refine ⟨_, rfl, ?_⟩
      by_cases h2 : r < 2
      · rw [if_pos (decide_eq_true h2)]
        obtain ⟨k4, rfl⟩ : ∃ k0, k4 = k0 + 4 := ⟨k4 - 4, by omega⟩
        refine ⟨_, atI_pos (Int.natCast_nonneg j) j1, _, k4, rfl, rfl, ⟨_, rfl, hcj⟩, fun y k5 l5 hy => ⟨zl, ?_⟩⟩
        have hy := hy _ rfl
        refine more y _ k5 _ hjc ⟨Int.natCast_nonneg j, j1, .inr hy⟩ (fun _ => ?_) (by omega) rfl
        obtain ⟨i, rfl, _⟩ := hy
        exact fun z => nomatch z
      · rw [if_neg (by rw [decide_eq_false h2]; decide)]
        refine ⟨.inl rfl, ?_⟩
        by_cases h3 : r = 2
        · rw [if_pos (decide_eq_true h3)]
          rcases hu with rfl | ⟨h4, _⟩
          · refine ite_t rfl ⟨zl, more .none _ k4 _ hjc ⟨Int.natCast_nonneg j, j1, .inl rfl⟩ (fun z => by cases z) (by omega) rfl⟩
          · rw [if_neg (by rw [h4]; decide)]
            exact same _ k4 _ (by omega) rfl
        · rw [if_neg (by rw [decide_eq_false h3]; decide)]
          exact same _ k4 _ (by omega) rfl
end
end L2.DL.K12




namespace L2.DL.K12
open PySem PySem.Spec
      PyProof.Rows
section
variable {P : Program} {w : World} {K : PySem.W.Frag} {mg : Str → Option Value} {base : Heap} {A : Cls}
/-! ### tables and rules -/
def tabB (cs : List D) : D → Bool
  | .tuple rs => decide (rs.length ≤ 8) && rs.all (rowB cs)
  | _ => false
def rulsB (cs : List D) : D → Bool
  | .tuple rs => decide (rs.length ≤ 8) && rs.all (rulB cs)
  | _ => false
abbrev w_table_is_right : Wc := w2 (fun c v => colsish c ∧ Good v) (onCols tabB)
abbrev m_table_is_right : Wc.Mono w_table_is_right := w2.mono
theorem d_table_is_right (T : Txt K mg A) (d_row_is_right : Def P w K mg base "row_is_right" 3 ["columns", "value"] w_row_is_right) (F : FunAt K mg "table_is_right" s_table_is_right ["columns", "value"]) : Def P w K mg base "table_is_right" 4 ["columns", "value"] w_table_is_right := by
  obtain ⟨_, cc_MOST_ROWS⟩ := T.c_MOST_ROWS
  refine defD F sc_table_is_right (fun ds k Q x h => w2.len h) fun f cdv Ar outer s H E p G hg hr => ⟨_, (dss_cons (ds_if (dw_or (dt_not (dt_val (de_isi (T := "tuple") (de_var (pv 1)) T.z_isinstance T.z_tuple (by decide +kernel)))) (dw_or1 (dt_cmp op_gt cmpD.mono fitsCmp (de_bi lenD.mono fitsLen call_len_seq (da_cons (de_var (pv 1)) da_nil) T.z_len) (de_const cc_MOST_ROWS)))).dt
    (dss_one (ds_ret de_bl))
    dss_nil)
    (dss_cons (ds_for (passes_of rfl) rfl (di_seq (de_var (pv 1))) (dg_nm (i := 2) sc_table_is_right.nd)
    (dss_one (ds_if (dt_not (dt_val (de_fn d_row_is_right m_row_is_right hg hr (takes_of rfl rfl rfl rfl) (da_cons (de_var (pv 0)) (da_cons (de_var (pv 2)) da_nil)))))
    (dss_one (ds_ret de_bl))
    dss_nil)))
    (dss_one (ds_ret de_bl)))), ?_⟩
  rintro ds n Q x ⟨a, b, rfl, ⟨⟨cs, rfl, hc, hcl⟩, hv⟩, q⟩
  simp only [wRet, wSet, wSeq, wNext, wDrop, wIfS, wTest, wAnd, wOr, wNot, wIf, wBin, wVar, wC, wAndV, wOrV, wNotV, wIsN, wNotN, wNeg, wChain, wNil, wCons, wTup, wLst, wBi, wCall, wIsi, wSl, wSo, wNo, wSeqI, wFor, gNm, gTp, puts, wAsg, wPar, wMul, wmD, wmO, putsI, wAug, wTryIs, wRng1, wRng2, wEnum, wEnumT, wZip, wLc, wYes, wLend, wRel, wOwn, wApp, wIns, wSetIx, wLstF, wListF, wRepF, wAddF, wSlS, wParO, wRevT, wSortedSet, wSortedSetL, wSortedSetT, wKeys, weI, wExt, allD, wMt, wRaise, wSeqO, wCallF, plainO, wCallA, wIdx0, wAnF, wSetA, wUnA, wSeqA, plainA, wFld, wFldO, wMake, wLRg, Ans.data, Ans.own.injEq, Ans.tup.injEq, Ans.dat.injEq, wTry, wTryM, wHs, wIsC, enOf, put, putUn, defEnds, lendE, lend, wipeE, hide, lenD, intD, listD, tupleD, reprD, wPen0, wPen1, wPen2, wPenS1, wPenS2, penAt, List.map_cons, List.map_nil, List.length_cons, List.length_nil, List.nil_append, List.cons_append, Nat.reduceAdd, Nat.reduceSub, Nat.reduceLeDiff, Nat.zero_add, List.replicate_zero, List.replicate_succ, List.getElem?_cons_zero, List.getElem?_cons_succ, List.set_cons_zero, List.set_cons_succ, Option.some.injEq, Slot.dat.injEq, Slot.own.injEq, PyData.bool.injEq, PyData.int.injEq, PyData.tuple.injEq, PyData.list.injEq, exists_eq_left', exists_eq_left, and_true, true_and, if_true, if_false, Bool.false_eq_true, reduceCtorEq, List.mapIdx_cons, List.mapIdx_nil, kit_tuple hv.f, onCols] at q ⊢
  refine ⟨fine.nd hv.f, ?_⟩
  cases b with
  | tuple xs =>
    simp only [isT, Bool.not_true, if_false, Bool.false_eq_true, cmpD, tabB] at q ⊢
    refine ⟨_, rfl, ?_⟩
    by_cases hl : xs.length ≤ 8
    · have hl' : ¬ (8 : Int) < xs.length := by omega
      simp only [hl, hl', decide_true, decide_false, Bool.true_and, if_false, Bool.false_eq_true] at q ⊢
      refine ⟨xs, rfl, ?_⟩
      refine wLoop.ind (fun ds e => ∃ u, e = ⟨[.dat (.tuple cs), .dat (.tuple xs), u], n⟩ ∧ Q (.bool (ds.all (rowB cs))) n ∧ ∀ d ∈ ds, Good d) ?_ ?_ ⟨.un, rfl, q, hv.in_tuple⟩
      · rintro e ⟨u, rfl, q, _⟩
        exact q
      · rintro d ds e ih ⟨u, rfl, q, hf⟩
        simp only [wRet, wSet, wSeq, wNext, wDrop, wIfS, wTest, wAnd, wOr, wNot, wIf, wBin, wVar, wC, wAndV, wOrV, wNotV, wIsN, wNotN, wNeg, wChain, wNil, wCons, wTup, wLst, wBi, wCall, wIsi, wSl, wSo, wNo, wSeqI, wFor, gNm, gTp, puts, wAsg, wPar, wMul, wmD, wmO, putsI, wAug, wTryIs, wRng1, wRng2, wEnum, wEnumT, wZip, wLc, wYes, wLend, wRel, wOwn, wApp, wIns, wSetIx, wLstF, wListF, wRepF, wAddF, wSlS, wParO, wRevT, wSortedSet, wSortedSetL, wSortedSetT, wKeys, weI, wExt, allD, wMt, wRaise, wSeqO, wCallF, plainO, wCallA, wIdx0, wAnF, wSetA, wUnA, wSeqA, plainA, wFld, wFldO, wMake, wLRg, Ans.data, Ans.own.injEq, Ans.tup.injEq, Ans.dat.injEq, wTry, wTryM, wHs, wIsC, enOf, put, putUn, defEnds, lendE, lend, wipeE, hide, lenD, intD, listD, tupleD, reprD, wPen0, wPen1, wPen2, wPenS1, wPenS2, penAt, List.map_cons, List.map_nil, List.length_cons, List.length_nil, List.nil_append, List.cons_append, Nat.reduceAdd, Nat.reduceSub, Nat.reduceLeDiff, Nat.zero_add, List.replicate_zero, List.replicate_succ, List.getElem?_cons_zero, List.getElem?_cons_succ, List.set_cons_zero, List.set_cons_succ, Option.some.injEq, Slot.dat.injEq, Slot.own.injEq, PyData.bool.injEq, PyData.int.injEq, PyData.tuple.injEq, PyData.list.injEq, exists_eq_left', exists_eq_left, and_true, true_and, if_true, if_false, Bool.false_eq_true, reduceCtorEq, List.mapIdx_cons, List.mapIdx_nil]
        refine ⟨_, _, rfl, ⟨cs, rfl, hc, hf d List.mem_cons_self⟩, _, rfl, ?_⟩
        rw [List.all_cons] at q
        rcases Bool.eq_false_or_eq_true (rowB cs d) with h | h
        · simp only [h, Bool.true_and, Bool.not_true, if_false, Bool.false_eq_true] at q ⊢
          exact ih _ ⟨_, rfl, q, fun d hd => hf d (List.mem_cons_of_mem _ hd)⟩
        · simp only [h, Bool.false_and, Bool.not_false, if_true] at q ⊢
          exact q
    · have hl' : (8 : Int) < xs.length := by omega
      simp only [hl, hl', decide_true, decide_false, Bool.false_and, if_true] at q ⊢
      exact q
  | _ => exact q
abbrev w_rules_are_right : Wc := w2 (fun c v => colsish c ∧ Good v) (onCols rulsB)
abbrev m_rules_are_right : Wc.Mono w_rules_are_right := w2.mono
theorem d_rules_are_right (T : Txt K mg A) (d_rule_is_right : Def P w K mg base "rule_is_right" 5 ["columns", "value"] w_rule_is_right) (F : FunAt K mg "rules_are_right" s_rules_are_right ["columns", "value"]) : Def P w K mg base "rules_are_right" 6 ["columns", "value"] w_rules_are_right := by
  obtain ⟨_, cc_MOST_RULES⟩ := T.c_MOST_RULES
  refine defD F sc_rules_are_right (fun ds k Q x h => w2.len h) fun f cdv Ar outer s H E p G hg hr => ⟨_, (dss_cons (ds_if (dw_or (dt_not (dt_val (de_isi (T := "tuple") (de_var (pv 1)) T.z_isinstance T.z_tuple (by decide +kernel)))) (dw_or1 (dt_cmp op_gt cmpD.mono fitsCmp (de_bi lenD.mono fitsLen call_len_seq (da_cons (de_var (pv 1)) da_nil) T.z_len) (de_const cc_MOST_RULES)))).dt
    (dss_one (ds_ret de_bl))
    dss_nil)
    (dss_cons (ds_for (passes_of rfl) rfl (di_seq (de_var (pv 1))) (dg_nm (i := 2) sc_rules_are_right.nd)
    (dss_one (ds_if (dt_not (dt_val (de_fn d_rule_is_right m_rule_is_right hg hr (takes_of rfl rfl rfl rfl) (da_cons (de_var (pv 0)) (da_cons (de_var (pv 2)) da_nil)))))
    (dss_one (ds_ret de_bl))
    dss_nil)))
    (dss_one (ds_ret de_bl)))), ?_⟩
  rintro ds n Q x ⟨a, b, rfl, ⟨⟨cs, rfl, hc, hcl⟩, hv⟩, q⟩
  simp only [wRet, wSet, wSeq, wNext, wDrop, wIfS, wTest, wAnd, wOr, wNot, wIf, wBin, wVar, wC, wAndV, wOrV, wNotV, wIsN, wNotN, wNeg, wChain, wNil, wCons, wTup, wLst, wBi, wCall, wIsi, wSl, wSo, wNo, wSeqI, wFor, gNm, gTp, puts, wAsg, wPar, wMul, wmD, wmO, putsI, wAug, wTryIs, wRng1, wRng2, wEnum, wEnumT, wZip, wLc, wYes, wLend, wRel, wOwn, wApp, wIns, wSetIx, wLstF, wListF, wRepF, wAddF, wSlS, wParO, wRevT, wSortedSet, wSortedSetL, wSortedSetT, wKeys, weI, wExt, allD, wMt, wRaise, wSeqO, wCallF, plainO, wCallA, wIdx0, wAnF, wSetA, wUnA, wSeqA, plainA, wFld, wFldO, wMake, wLRg, Ans.data, Ans.own.injEq, Ans.tup.injEq, Ans.dat.injEq, wTry, wTryM, wHs, wIsC, enOf, put, putUn, defEnds, lendE, lend, wipeE, hide, lenD, intD, listD, tupleD, reprD, wPen0, wPen1, wPen2, wPenS1, wPenS2, penAt, List.map_cons, List.map_nil, List.length_cons, List.length_nil, List.nil_append, List.cons_append, Nat.reduceAdd, Nat.reduceSub, Nat.reduceLeDiff, Nat.zero_add, List.replicate_zero, List.replicate_succ, List.getElem?_cons_zero, List.getElem?_cons_succ, List.set_cons_zero, List.set_cons_succ, Option.some.injEq, Slot.dat.injEq, Slot.own.injEq, PyData.bool.injEq, PyData.int.injEq, PyData.tuple.injEq, PyData.list.injEq, exists_eq_left', exists_eq_left, and_true, true_and, if_true, if_false, Bool.false_eq_true, reduceCtorEq, List.mapIdx_cons, List.mapIdx_nil, kit_tuple hv.f, onCols] at q ⊢
  refine ⟨fine.nd hv.f, ?_⟩
  cases b with
  | tuple xs =>
    simp only [isT, Bool.not_true, if_false, Bool.false_eq_true, cmpD, rulsB] at q ⊢
    refine ⟨_, rfl, ?_⟩
    by_cases hl : xs.length ≤ 8
    · have hl' : ¬ (8 : Int) < xs.length := by omega
      simp only [hl, hl', decide_true, decide_false, Bool.true_and, if_false, Bool.false_eq_true] at q ⊢
      refine ⟨xs, rfl, ?_⟩
      refine wLoop.ind (fun ds e => ∃ u, e = ⟨[.dat (.tuple cs), .dat (.tuple xs), u], n⟩ ∧ Q (.bool (ds.all (rulB cs))) n ∧ ∀ d ∈ ds, Good d) ?_ ?_ ⟨.un, rfl, q, hv.in_tuple⟩
      · rintro e ⟨u, rfl, q, _⟩
        exact q
      · rintro d ds e ih ⟨u, rfl, q, hf⟩
        simp only [wRet, wSet, wSeq, wNext, wDrop, wIfS, wTest, wAnd, wOr, wNot, wIf, wBin, wVar, wC, wAndV, wOrV, wNotV, wIsN, wNotN, wNeg, wChain, wNil, wCons, wTup, wLst, wBi, wCall, wIsi, wSl, wSo, wNo, wSeqI, wFor, gNm, gTp, puts, wAsg, wPar, wMul, wmD, wmO, putsI, wAug, wTryIs, wRng1, wRng2, wEnum, wEnumT, wZip, wLc, wYes, wLend, wRel, wOwn, wApp, wIns, wSetIx, wLstF, wListF, wRepF, wAddF, wSlS, wParO, wRevT, wSortedSet, wSortedSetL, wSortedSetT, wKeys, weI, wExt, allD, wMt, wRaise, wSeqO, wCallF, plainO, wCallA, wIdx0, wAnF, wSetA, wUnA, wSeqA, plainA, wFld, wFldO, wMake, wLRg, Ans.data, Ans.own.injEq, Ans.tup.injEq, Ans.dat.injEq, wTry, wTryM, wHs, wIsC, enOf, put, putUn, defEnds, lendE, lend, wipeE, hide, lenD, intD, listD, tupleD, reprD, wPen0, wPen1, wPen2, wPenS1, wPenS2, penAt, List.map_cons, List.map_nil, List.length_cons, List.length_nil, List.nil_append, List.cons_append, Nat.reduceAdd, Nat.reduceSub, Nat.reduceLeDiff, Nat.zero_add, List.replicate_zero, List.replicate_succ, List.getElem?_cons_zero, List.getElem?_cons_succ, List.set_cons_zero, List.set_cons_succ, Option.some.injEq, Slot.dat.injEq, Slot.own.injEq, PyData.bool.injEq, PyData.int.injEq, PyData.tuple.injEq, PyData.list.injEq, exists_eq_left', exists_eq_left, and_true, true_and, if_true, if_false, Bool.false_eq_true, reduceCtorEq, List.mapIdx_cons, List.mapIdx_nil]
        refine ⟨_, _, rfl, ⟨⟨cs, rfl, hc, hcl⟩, hf d List.mem_cons_self⟩, ?_⟩
        dsimp only [onCols]
        refine ⟨_, rfl, ?_⟩
        rw [List.all_cons] at q
        rcases Bool.eq_false_or_eq_true (rulB cs d) with h | h
        · simp only [h, Bool.true_and, Bool.not_true, if_false, Bool.false_eq_true] at q ⊢
          exact ih _ ⟨_, rfl, q, fun d hd => hf d (List.mem_cons_of_mem _ hd)⟩
        · simp only [h, Bool.false_and, Bool.not_false, if_true] at q ⊢
          exact q
    · have hl' : (8 : Int) < xs.length := by omega
      simp only [hl, hl', decide_true, decide_false, Bool.false_and, if_true] at q ⊢
      exact q
  | _ => exact q
abbrev w_check_rules (A : Cls) : Wc := wChk2 A.InvalidRules (fun c v => colsish c ∧ Good v) rulsB
abbrev m_check_rules {A : Cls} : Wc.Mono (w_check_rules A) := wChk2.mono
abbrev w_check_table (A : Cls) : Wc := wChk2 A.InvalidTable (fun c v => colsish c ∧ Good v) tabB
abbrev m_check_table {A : Cls} : Wc.Mono (w_check_table A) := wChk2.mono
theorem d_check_rules (T : Txt K mg A) (d_rules_are_right : Def P w K mg base "rules_are_right" 6 ["columns", "value"] w_rules_are_right) (F : FunAt K mg "check_rules" s_check_rules ["columns", "rules"]) : Def P w K mg base "check_rules" 7 ["columns", "rules"] (w_check_rules A) := by
  refine defD F sc_check_rules (fun ds k Q x ⟨a, b, e, _⟩ => by rw [e]; rfl) fun f cdv Ar outer s H E p G hg hr => ⟨_, (dss_one (ds_if (dt_not (dt_val (de_fn d_rules_are_right m_rules_are_right hg hr (takes_of rfl rfl rfl rfl) (da_cons (de_var (pv 0)) (da_cons (de_var (pv 1)) da_nil)))))
    (dss_one (ds_raise (C := A.InvalidRules) rfl (takes_of rfl rfl rfl rfl) PySem.F.excBase_ValueError T.x_InvalidRules T.g_InvalidRules T.k_InvalidRules (raises_own T.s_InvalidRules T.t_InvalidRules)))
    dss_nil)), ?_⟩
  rintro ds n Q x ⟨cs, b, rfl, hb, q1, q2⟩
  simp only [wRet, wSet, wSeq, wNext, wDrop, wIfS, wTest, wAnd, wOr, wNot, wIf, wBin, wVar, wC, wAndV, wOrV, wNotV, wIsN, wNotN, wNeg, wChain, wNil, wCons, wTup, wLst, wBi, wCall, wIsi, wSl, wSo, wNo, wSeqI, wFor, gNm, gTp, puts, wAsg, wPar, wMul, wmD, wmO, putsI, wAug, wTryIs, wRng1, wRng2, wEnum, wEnumT, wZip, wLc, wYes, wLend, wRel, wOwn, wApp, wIns, wSetIx, wLstF, wListF, wRepF, wAddF, wSlS, wParO, wRevT, wSortedSet, wSortedSetL, wSortedSetT, wKeys, weI, wExt, allD, wMt, wRaise, wSeqO, wCallF, plainO, wCallA, wIdx0, wAnF, wSetA, wUnA, wSeqA, plainA, wFld, wFldO, wMake, wLRg, Ans.data, Ans.own.injEq, Ans.tup.injEq, Ans.dat.injEq, wTry, wTryM, wHs, wIsC, enOf, put, putUn, defEnds, lendE, lend, wipeE, hide, lenD, intD, listD, tupleD, reprD, wPen0, wPen1, wPen2, wPenS1, wPenS2, penAt, List.map_cons, List.map_nil, List.length_cons, List.length_nil, List.nil_append, List.cons_append, Nat.reduceAdd, Nat.reduceSub, Nat.reduceLeDiff, Nat.zero_add, List.replicate_zero, List.replicate_succ, List.getElem?_cons_zero, List.getElem?_cons_succ, List.set_cons_zero, List.set_cons_succ, Option.some.injEq, Slot.dat.injEq, Slot.own.injEq, PyData.bool.injEq, PyData.int.injEq, PyData.tuple.injEq, PyData.list.injEq, exists_eq_left', exists_eq_left, and_true, true_and, if_true, if_false, Bool.false_eq_true, reduceCtorEq, List.mapIdx_cons, List.mapIdx_nil]
  refine ⟨_, _, rfl, hb, ?_⟩
  dsimp only [onCols]
  refine ⟨_, rfl, ?_⟩
  rcases Bool.eq_false_or_eq_true (rulsB cs b) with h | h
  · simp only [h, Bool.not_true, if_false, Bool.false_eq_true]
    exact q1 h
  · simp only [h, Bool.not_false, if_true]
    exact q2 h
theorem d_check_table (T : Txt K mg A) (d_table_is_right : Def P w K mg base "table_is_right" 4 ["columns", "value"] w_table_is_right) (F : FunAt K mg "check_table" s_check_table ["columns", "table"]) : Def P w K mg base "check_table" 5 ["columns", "table"] (w_check_table A) := by
  refine defD F sc_check_table (fun ds k Q x ⟨a, b, e, _⟩ => by rw [e]; rfl) fun f cdv Ar outer s H E p G hg hr => ⟨_, (dss_one (ds_if (dt_not (dt_val (de_fn d_table_is_right m_table_is_right hg hr (takes_of rfl rfl rfl rfl) (da_cons (de_var (pv 0)) (da_cons (de_var (pv 1)) da_nil)))))
    (dss_one (ds_raise (C := A.InvalidTable) rfl (takes_of rfl rfl rfl rfl) PySem.F.excBase_ValueError T.x_InvalidTable T.g_InvalidTable T.k_InvalidTable (raises_own T.s_InvalidTable T.t_InvalidTable)))
    dss_nil)), ?_⟩
  rintro ds n Q x ⟨cs, b, rfl, hb, q1, q2⟩
  simp only [wRet, wSet, wSeq, wNext, wDrop, wIfS, wTest, wAnd, wOr, wNot, wIf, wBin, wVar, wC, wAndV, wOrV, wNotV, wIsN, wNotN, wNeg, wChain, wNil, wCons, wTup, wLst, wBi, wCall, wIsi, wSl, wSo, wNo, wSeqI, wFor, gNm, gTp, puts, wAsg, wPar, wMul, wmD, wmO, putsI, wAug, wTryIs, wRng1, wRng2, wEnum, wEnumT, wZip, wLc, wYes, wLend, wRel, wOwn, wApp, wIns, wSetIx, wLstF, wListF, wRepF, wAddF, wSlS, wParO, wRevT, wSortedSet, wSortedSetL, wSortedSetT, wKeys, weI, wExt, allD, wMt, wRaise, wSeqO, wCallF, plainO, wCallA, wIdx0, wAnF, wSetA, wUnA, wSeqA, plainA, wFld, wFldO, wMake, wLRg, Ans.data, Ans.own.injEq, Ans.tup.injEq, Ans.dat.injEq, wTry, wTryM, wHs, wIsC, enOf, put, putUn, defEnds, lendE, lend, wipeE, hide, lenD, intD, listD, tupleD, reprD, wPen0, wPen1, wPen2, wPenS1, wPenS2, penAt, List.map_cons, List.map_nil, List.length_cons, List.length_nil, List.nil_append, List.cons_append, Nat.reduceAdd, Nat.reduceSub, Nat.reduceLeDiff, Nat.zero_add, List.replicate_zero, List.replicate_succ, List.getElem?_cons_zero, List.getElem?_cons_succ, List.set_cons_zero, List.set_cons_succ, Option.some.injEq, Slot.dat.injEq, Slot.own.injEq, PyData.bool.injEq, PyData.int.injEq, PyData.tuple.injEq, PyData.list.injEq, exists_eq_left', exists_eq_left, and_true, true_and, if_true, if_false, Bool.false_eq_true, reduceCtorEq, List.mapIdx_cons, List.mapIdx_nil]
  refine ⟨_, _, rfl, hb, ?_⟩
  dsimp only [onCols]
  refine ⟨_, rfl, ?_⟩
  rcases Bool.eq_false_or_eq_true (tabB cs b) with h | h
  · simp only [h, Bool.not_true, if_false, Bool.false_eq_true]
    exact q1 h
  · simp only [h, Bool.not_false, if_true]
    exact q2 h
abbrev w_is_value_rule : Wc := w1 (fun r => ∃ g c v, r = .tuple [g, c, v]) fun r => match r with | .tuple [_, _, v] => .bool (!isN v) | _ => .none
abbrev m_is_value_rule : Wc.Mono w_is_value_rule := w1.mono
theorem d_is_value_rule (T : Txt K mg A) (F : FunAt K mg "is_value_rule" s_is_value_rule ["rule"]) : Def P w K mg base "is_value_rule" 1 ["rule"] w_is_value_rule := by
  refine defD F sc_is_value_rule (fun ds k Q x h => w1.len h) fun f cdv Ar outer s H E p G hg hr => ⟨_, (dss_one (ds_ret (de_notN (de_idx (de_var (pv 0)) de_int)))), ?_⟩
  rintro ds n Q x ⟨a, rfl, ⟨g, c, v, rfl⟩, q⟩
  simp only [wRet, wSet, wSeq, wNext, wDrop, wIfS, wTest, wAnd, wOr, wNot, wIf, wBin, wVar, wC, wAndV, wOrV, wNotV, wIsN, wNotN, wNeg, wChain, wNil, wCons, wTup, wLst, wBi, wCall, wIsi, wSl, wSo, wNo, wSeqI, wFor, gNm, gTp, puts, wAsg, wPar, wMul, wmD, wmO, putsI, wAug, wTryIs, wRng1, wRng2, wEnum, wEnumT, wZip, wLc, wYes, wLend, wRel, wOwn, wApp, wIns, wSetIx, wLstF, wListF, wRepF, wAddF, wSlS, wParO, wRevT, wSortedSet, wSortedSetL, wSortedSetT, wKeys, weI, wExt, allD, wMt, wRaise, wSeqO, wCallF, plainO, wCallA, wIdx0, wAnF, wSetA, wUnA, wSeqA, plainA, wFld, wFldO, wMake, wLRg, Ans.data, Ans.own.injEq, Ans.tup.injEq, Ans.dat.injEq, wTry, wTryM, wHs, wIsC, enOf, put, putUn, defEnds, lendE, lend, wipeE, hide, lenD, intD, listD, tupleD, reprD, wPen0, wPen1, wPen2, wPenS1, wPenS2, penAt, List.map_cons, List.map_nil, List.length_cons, List.length_nil, List.nil_append, List.cons_append, Nat.reduceAdd, Nat.reduceSub, Nat.reduceLeDiff, Nat.zero_add, List.replicate_zero, List.replicate_succ, List.getElem?_cons_zero, List.getElem?_cons_succ, List.set_cons_zero, List.set_cons_succ, Option.some.injEq, Slot.dat.injEq, Slot.own.injEq, PyData.bool.injEq, PyData.int.injEq, PyData.tuple.injEq, PyData.list.injEq, exists_eq_left', exists_eq_left, and_true, true_and, if_true, if_false, Bool.false_eq_true, reduceCtorEq, List.mapIdx_cons, List.mapIdx_nil]
  exact ⟨v, rfl, q⟩
end
end L2.DL.K12




namespace L2.DL.K12
open PySem PySem.Spec
      PyProof.Rows
/-! ### breaks -/
def likeB (es xs ys : List D) : Bool := es.all fun | .tuple [.int i, _] => PyData.eqv (xs.getD i.toNat .none) (ys.getD i.toNat .none) | _ => false
def itm : D → List D
  | .tuple xs => xs
  | _ => []
/-- rows of m values -/
def rowsOk (rows : List D) (m : Nat) : Prop := ∀ d ∈ rows, ∃ xs, d = .tuple xs ∧ xs.length = m ∧ ∀ x ∈ xs, Good x
section
variable {P : Program} {w : World} {K : PySem.W.Frag} {mg : Str → Option Value} {base : Heap} {A : Cls}
def w_are_alike : Wc := fun ds k Q _ => ∃ (es xs ys : List D), ds = [.tuple es, .tuple xs, .tuple ys] ∧ entsOk es xs.length ∧ ys.length = xs.length ∧ (∀ d ∈ xs, Good d) ∧ (∀ d ∈ ys, Good d) ∧ Q (.bool (hasB es xs && likeB es xs ys)) k
theorem m_are_alike : Wc.Mono w_are_alike := fun ds k Q Q' x x' h1 _ ⟨es, xs, ys, e, p1, p2, p3, p4, q⟩ => ⟨es, xs, ys, e, p1, p2, p3, p4, h1 _ _ q⟩
theorem d_are_alike (T : Txt K mg A) (d_has_given : Def P w K mg base "has_given" 1 ["given", "row"] w_has_given) (F : FunAt K mg "are_alike" s_are_alike ["given", "one", "other"]) : Def P w K mg base "are_alike" 2 ["given", "one", "other"] w_are_alike := by
  refine defD F sc_are_alike (fun ds k Q x ⟨es, xs, ys, e, _⟩ => by rw [e]; rfl) fun f cdv Ar outer s H E p G hg hr => ⟨_, (dss_cons (ds_if (dt_not (dt_val (de_fn d_has_given m_has_given hg hr (takes_of rfl rfl rfl rfl) (da_cons (de_var (pv 0)) (da_cons (de_var (pv 1)) da_nil)))))
    (dss_one (ds_ret de_bl))
    dss_nil)
    (dss_cons (ds_for (passes_of rfl) rfl (di_seq (de_var (pv 0))) (dg_tp rfl (dgs_cons (i := 3) sc_are_alike.nd (dgs_cons (i := 4) sc_are_alike.nd dgs_nil)))
    (dss_one (ds_if (dt_cmp (op_neA hr.units) neD.mono fitsNe (de_idx (de_var (pv 1)) (de_var (pv 3))) (de_idx (de_var (pv 2)) (de_var (pv 3))))
    (dss_one (ds_ret de_bl))
    dss_nil)))
    (dss_one (ds_ret de_bl)))), ?_⟩
  rintro ds n Q x ⟨es, xs, ys, rfl, he, hl, hx, hy, q⟩
  simp only [wRet, wSet, wSeq, wNext, wDrop, wIfS, wTest, wAnd, wOr, wNot, wIf, wBin, wVar, wC, wAndV, wOrV, wNotV, wIsN, wNotN, wNeg, wChain, wNil, wCons, wTup, wLst, wBi, wCall, wIsi, wSl, wSo, wNo, wSeqI, wFor, gNm, gTp, puts, wAsg, wPar, wMul, wmD, wmO, putsI, wAug, wTryIs, wRng1, wRng2, wEnum, wEnumT, wZip, wLc, wYes, wLend, wRel, wOwn, wApp, wIns, wSetIx, wLstF, wListF, wRepF, wAddF, wSlS, wParO, wRevT, wSortedSet, wSortedSetL, wSortedSetT, wKeys, weI, wExt, allD, wMt, wRaise, wSeqO, wCallF, plainO, wCallA, wIdx0, wAnF, wSetA, wUnA, wSeqA, plainA, wFld, wFldO, wMake, wLRg, Ans.data, Ans.own.injEq, Ans.tup.injEq, Ans.dat.injEq, wTry, wTryM, wHs, wIsC, enOf, put, putUn, defEnds, lendE, lend, wipeE, hide, lenD, intD, listD, tupleD, reprD, wPen0, wPen1, wPen2, wPenS1, wPenS2, penAt, List.map_cons, List.map_nil, List.length_cons, List.length_nil, List.nil_append, List.cons_append, Nat.reduceAdd, Nat.reduceSub, Nat.reduceLeDiff, Nat.zero_add, List.replicate_zero, List.replicate_succ, List.getElem?_cons_zero, List.getElem?_cons_succ, List.set_cons_zero, List.set_cons_succ, Option.some.injEq, Slot.dat.injEq, Slot.own.injEq, PyData.bool.injEq, PyData.int.injEq, PyData.tuple.injEq, PyData.list.injEq, exists_eq_left', exists_eq_left, and_true, true_and, if_true, if_false, Bool.false_eq_true, reduceCtorEq, List.mapIdx_cons, List.mapIdx_nil]
  refine ⟨_, _, rfl, ⟨es, xs, rfl, rfl, he, hx⟩, ?_⟩
  refine ⟨_, rfl, ?_⟩
  rcases Bool.eq_false_or_eq_true (hasB es xs) with h | h
  · simp only [h, Bool.true_and, Bool.not_true, if_false, Bool.false_eq_true] at q ⊢
    refine ⟨es, rfl, ?_⟩
    refine wLoop.ind (fun ds e => ∃ u v, e = ⟨[.dat (.tuple es), .dat (.tuple xs), .dat (.tuple ys), u, v], n⟩ ∧ Q (.bool (likeB ds xs ys)) n ∧ entsOk ds xs.length) ?_ ?_ ⟨.un, .un, rfl, q, he⟩
    · rintro e ⟨u, v, rfl, q, _⟩
      exact q
    · rintro d ds e ih ⟨u, v, rfl, q, hf⟩
      obtain ⟨i, b, rfl, h0, h1, hb⟩ := hf d List.mem_cons_self
      have hf' : entsOk ds xs.length := fun d hd => hf d (List.mem_cons_of_mem _ hd)
      simp only [wRet, wSet, wSeq, wNext, wDrop, wIfS, wTest, wAnd, wOr, wNot, wIf, wBin, wVar, wC, wAndV, wOrV, wNotV, wIsN, wNotN, wNeg, wChain, wNil, wCons, wTup, wLst, wBi, wCall, wIsi, wSl, wSo, wNo, wSeqI, wFor, gNm, gTp, puts, wAsg, wPar, wMul, wmD, wmO, putsI, wAug, wTryIs, wRng1, wRng2, wEnum, wEnumT, wZip, wLc, wYes, wLend, wRel, wOwn, wApp, wIns, wSetIx, wLstF, wListF, wRepF, wAddF, wSlS, wParO, wRevT, wSortedSet, wSortedSetL, wSortedSetT, wKeys, weI, wExt, allD, wMt, wRaise, wSeqO, wCallF, plainO, wCallA, wIdx0, wAnF, wSetA, wUnA, wSeqA, plainA, wFld, wFldO, wMake, wLRg, Ans.data, Ans.own.injEq, Ans.tup.injEq, Ans.dat.injEq, wTry, wTryM, wHs, wIsC, enOf, put, putUn, defEnds, lendE, lend, wipeE, hide, lenD, intD, listD, tupleD, reprD, wPen0, wPen1, wPen2, wPenS1, wPenS2, penAt, List.map_cons, List.map_nil, List.length_cons, List.length_nil, List.nil_append, List.cons_append, Nat.reduceAdd, Nat.reduceSub, Nat.reduceLeDiff, Nat.zero_add, List.replicate_zero, List.replicate_succ, List.getElem?_cons_zero, List.getElem?_cons_succ, List.set_cons_zero, List.set_cons_succ, Option.some.injEq, Slot.dat.injEq, Slot.own.injEq, PyData.bool.injEq, PyData.int.injEq, PyData.tuple.injEq, PyData.list.injEq, exists_eq_left', exists_eq_left, and_true, true_and, if_true, if_false, Bool.false_eq_true, reduceCtorEq, List.mapIdx_cons, List.mapIdx_nil]
      simp only [likeB, List.all_cons] at q
      refine ⟨_, atI_pos h0 h1, _, atI_pos h0 (by rw [hl]; exact h1), .inr ⟨hx _ (getD_mem h0 h1), hy _ (getD_mem h0 (by rw [hl]; exact h1))⟩, ?_⟩
      refine ⟨_, rfl, ?_⟩
      rcases Bool.eq_false_or_eq_true (PyData.eqv (xs.getD i.toNat .none) (ys.getD i.toNat .none)) with hq | hq
      · simp only [hq, Bool.true_and, Bool.not_true, if_false, Bool.false_eq_true] at q ⊢
        exact ih _ ⟨_, _, rfl, q, hf'⟩
      · simp only [hq, Bool.false_and, Bool.not_false, if_true] at q ⊢
        exact q
  · simp only [h, Bool.false_and, Bool.not_false, if_true] at q ⊢
    exact q
/-! #### value rules -/
def single (es : List D) (c : Int) (v : D) (rows : List D) (i : Nat) : Option D :=
  if (hasB es (itm (rows.getD i .none)) && !PyData.eqv ((itm (rows.getD i .none)).getD c.toNat .none) v) = true then some (.tuple [.int i]) else none
def w_broken_singles : Wc := fun ds k Q _ => ∃ (es rows : List D) (c : Int) (v : D) (m : Nat), ds = [.tuple [.tuple es, .int c, v], .tuple rows] ∧ entsOk es m ∧ rowsOk rows m ∧ rows.length ≤ 100 ∧ 0 ≤ c ∧ c < m ∧ Good v ∧ Q (.list ((List.range rows.length).filterMap (single es c v rows))) k
theorem m_broken_singles : Wc.Mono w_broken_singles := fun ds k Q Q' x x' h1 _ ⟨es, rows, c, v, m, e, p1, p2, p3, p4, p5, p6, q⟩ => ⟨es, rows, c, v, m, e, p1, p2, p3, p4, p5, p6, h1 _ _ q⟩
theorem d_broken_singles (T : Txt K mg A) (d_has_given : Def P w K mg base "has_given" 1 ["given", "row"] w_has_given) (F : FunAt K mg "broken_singles" s_broken_singles ["rule", "table"]) : Def P w K mg base "broken_singles" 2 ["rule", "table"] w_broken_singles := by
  refine defD F sc_broken_singles (fun ds k Q x ⟨es, rows, c, v, m, e, _⟩ => by rw [e]; rfl) fun f cdv Ar outer s H E p G hg hr => ⟨_, (dss_cons (ds_asg (de_var (pv 0)) (dg_tp rfl (dgs_cons (i := 2) sc_broken_singles.nd (dgs_cons (i := 3) sc_broken_singles.nd (dgs_cons (i := 4) sc_broken_singles.nd dgs_nil)))))
    (dss_cons (ds_own (i := 5) (df_lst da_nil) sc_broken_singles.nd)
    (dss_cons (ds_for (passes_of rfl) rfl (di_rng1 (de_bi lenD.mono fitsLen call_len_seq (da_cons (de_var (pv 1)) da_nil) T.z_len) T.z_range) (dg_nm (i := 6) sc_broken_singles.nd)
    (dss_one (ds_if (dw_and (dt_val (de_fn d_has_given m_has_given hg hr (takes_of rfl rfl rfl rfl) (da_cons (de_var (pv 2)) (da_cons (de_idx (de_var (pv 1)) (de_var (pv 6))) da_nil)))) (dw_and1 (dt_cmp (op_neA hr.units) neD.mono fitsNe (de_idx (de_idx (de_var (pv 1)) (de_var (pv 6))) (de_var (pv 3))) (de_var (pv 4))))).dt
    (dss_one (ds_append (i := 5) (de_tup (da_cons (de_var (pv 6)) da_nil)) (pv 5)))
    dss_nil)))
    (dss_rel (dss_one (ds_ret (de_var (pv 5)))))))), ?_⟩
  rintro ds n Q x ⟨es, rows, c, v, m, rfl, he, hrows, hl, c0, c1, gv, q⟩
  simp only [wRet, wSet, wSeq, wNext, wDrop, wIfS, wTest, wAnd, wOr, wNot, wIf, wBin, wVar, wC, wAndV, wOrV, wNotV, wIsN, wNotN, wNeg, wChain, wNil, wCons, wTup, wLst, wBi, wCall, wIsi, wSl, wSo, wNo, wSeqI, wFor, gNm, gTp, puts, wAsg, wPar, wMul, wmD, wmO, putsI, wAug, wTryIs, wRng1, wRng2, wEnum, wEnumT, wZip, wLc, wYes, wLend, wRel, wOwn, wApp, wIns, wSetIx, wLstF, wListF, wRepF, wAddF, wSlS, wParO, wRevT, wSortedSet, wSortedSetL, wSortedSetT, wKeys, weI, wExt, allD, wMt, wRaise, wSeqO, wCallF, plainO, wCallA, wIdx0, wAnF, wSetA, wUnA, wSeqA, plainA, wFld, wFldO, wMake, wLRg, Ans.data, Ans.own.injEq, Ans.tup.injEq, Ans.dat.injEq, wTry, wTryM, wHs, wIsC, enOf, put, putUn, defEnds, lendE, lend, wipeE, hide, lenD, intD, listD, tupleD, reprD, wPen0, wPen1, wPen2, wPenS1, wPenS2, penAt, List.map_cons, List.map_nil, List.length_cons, List.length_nil, List.nil_append, List.cons_append, Nat.reduceAdd, Nat.reduceSub, Nat.reduceLeDiff, Nat.zero_add, List.replicate_zero, List.replicate_succ, List.getElem?_cons_zero, List.getElem?_cons_succ, List.set_cons_zero, List.set_cons_succ, Option.some.injEq, Slot.dat.injEq, Slot.own.injEq, PyData.bool.injEq, PyData.int.injEq, PyData.tuple.injEq, PyData.list.injEq, exists_eq_left', exists_eq_left, and_true, true_and, if_true, if_false, Bool.false_eq_true, reduceCtorEq, List.mapIdx_cons, List.mapIdx_nil]
  refine ⟨by omega,
        by omega, ?_⟩
  rw [Int.toNat_natCast]
  have fl : ∀ j, j ≤ rows.length → ((List.range j).filterMap (single es c v rows)).length ≤ 100 := fun j hj => Nat.le_trans (List.length_filterMap_le _ _) (by rw [List.length_range]; omega)
  refine wLoop.ind (fun ds e => ∃ (j : Nat) (u : Slot), e = ⟨[.dat (.tuple [.tuple es, .int c, v]), .dat (.tuple rows), .dat (.tuple es), .dat (.int c), .dat v, .own ((List.range j).filterMap (single es c v rows)), u], n⟩ ∧ j ≤ rows.length ∧ ds = rngD j (rows.length - j)) ?_ ?_ ⟨0, .un, rfl, Nat.zero_le _, rfl⟩
  · rintro e ⟨j, u, rfl, hj, hd⟩
    have ej : j = rows.length := by
      have := congrArg List.length hd
      rw [rngD_length, List.length_nil] at this
      omega
    subst ej
    exact ⟨_, rfl, q⟩
  · rintro d ds e ih ⟨j, u, rfl, hj, hd⟩
    obtain ⟨t, ht⟩ : ∃ t, rows.length - j = t + 1 := by
      have := congrArg List.length hd
      rw [rngD_length, List.length_cons] at this
      exact ⟨ds.length, this.symm⟩
    rw [ht, rngD_succ] at hd
    injection hd with hd1 hd2
    subst hd1 hd2
    have j1 : (j : Int) < rows.length := by omega
    have hm := getD_mem (Int.natCast_nonneg j) j1
    rw [Int.toNat_natCast] at hm
    obtain ⟨xs, ex, hxl, hxg⟩ := hrows _ hm
    have at1 : atI rows (j : Int) = some (.tuple xs) := by
      rw [atI_pos (Int.natCast_nonneg j) j1, Int.toNat_natCast, ex]
    have tl : rngD ((j : Int) + 1) t = rngD ((j + 1 : Nat) : Int) (rows.length - (j + 1)) := by
      rw [show rows.length - (j + 1) = t by omega]
      rfl
    have next : ∀ (u : Slot) (acc : List D), acc = (List.range (j + 1)).filterMap (single es c v rows) → wLoop _ _ _ _ (⟨[.dat (.tuple [.tuple es, .int c, v]), .dat (.tuple rows), .dat (.tuple es), .dat (.int c), .dat v, .own acc, u], n⟩ : En) := fun u acc ea => ih _ ⟨j + 1, u, by rw [ea], by omega, tl⟩
    rw [List.range_succ, List.filterMap_append] at next
    simp only [wRet, wSet, wSeq, wNext, wDrop, wIfS, wTest, wAnd, wOr, wNot, wIf, wBin, wVar, wC, wAndV, wOrV, wNotV, wIsN, wNotN, wNeg, wChain, wNil, wCons, wTup, wLst, wBi, wCall, wIsi, wSl, wSo, wNo, wSeqI, wFor, gNm, gTp, puts, wAsg, wPar, wMul, wmD, wmO, putsI, wAug, wTryIs, wRng1, wRng2, wEnum, wEnumT, wZip, wLc, wYes, wLend, wRel, wOwn, wApp, wIns, wSetIx, wLstF, wListF, wRepF, wAddF, wSlS, wParO, wRevT, wSortedSet, wSortedSetL, wSortedSetT, wKeys, weI, wExt, allD, wMt, wRaise, wSeqO, wCallF, plainO, wCallA, wIdx0, wAnF, wSetA, wUnA, wSeqA, plainA, wFld, wFldO, wMake, wLRg, Ans.data, Ans.own.injEq, Ans.tup.injEq, Ans.dat.injEq, wTry, wTryM, wHs, wIsC, enOf, put, putUn, defEnds, lendE, lend, wipeE, hide, lenD, intD, listD, tupleD, reprD, wPen0, wPen1, wPen2, wPenS1, wPenS2, penAt, List.map_cons, List.map_nil, List.length_cons, List.length_nil, List.nil_append, List.cons_append, Nat.reduceAdd, Nat.reduceSub, Nat.reduceLeDiff, Nat.zero_add, List.replicate_zero, List.replicate_succ, List.getElem?_cons_zero, List.getElem?_cons_succ, List.set_cons_zero, List.set_cons_succ, Option.some.injEq, Slot.dat.injEq, Slot.own.injEq, PyData.bool.injEq, PyData.int.injEq, PyData.tuple.injEq, PyData.list.injEq, exists_eq_left', exists_eq_left, and_true, true_and, if_true, if_false, Bool.false_eq_true, reduceCtorEq, List.mapIdx_cons, List.mapIdx_nil]
    refine ⟨_, at1, _, _, rfl, ⟨es, xs, rfl, rfl, by rw [hxl]; exact he, hxg⟩, ?_⟩
    refine ⟨_, rfl, ?_⟩
    have es1 : single es c v rows j = if (hasB es xs && !PyData.eqv (xs.getD c.toNat .none) v) = true then some (.tuple [.int j]) else none := by
      simp only [single, ex, itm]
    rcases Bool.eq_false_or_eq_true (hasB es xs) with h | h
    · simp only [h, if_true]
      refine ⟨_, at1, _, atI_pos c0 (by rw [hxl]; exact c1), .inr ⟨hxg _ (getD_mem c0 (by rw [hxl]; exact c1)), gv⟩, ?_⟩
      refine ⟨_, rfl, ?_⟩
      rcases Bool.eq_false_or_eq_true (PyData.eqv (xs.getD c.toNat .none) v) with hq | hq
      · simp only [hq, Bool.not_true, if_false, Bool.false_eq_true]
        refine next _ _ ?_
        rw [List.filterMap_cons_none (by rw [es1, h, hq]; rfl), List.filterMap_nil, List.append_nil]
      · simp only [hq, Bool.not_false, if_true]
        refine ⟨⟨_, rfl⟩, by have := fl j hj; omega, next _ _ ?_⟩
        rw [List.filterMap_cons_some (b := .tuple [.int j]) (by rw [es1, h, hq]; rfl), List.filterMap_nil]
    · simp only [h, if_false, Bool.false_eq_true]
      refine next _ _ ?_
      rw [List.filterMap_cons_none (by rw [es1, h]; rfl), List.filterMap_nil, List.append_nil]
end
end L2.DL.K12




namespace L2.DL.K12
open PySem PySem.Spec
      PyProof.Rows
/-! ### rows -/
def okRow (cs xs : List D) : Prop := xs.length = cs.length ∧ ∀ (i : Nat) (c : D), cs[i]? = some c → ∃ v, xs[i]? = some v ∧ okVal c v
theorem okRow.b {cs xs : List D} (h : okRow cs xs) : rowB cs (.tuple xs) = true := by
  simp only [rowB, Bool.and_eq_true, decide_eq_true_eq]
  refine ⟨h.1, List.all_eq_true.mpr fun d hd => ?_⟩
  obtain ⟨i, hi⟩ := List.mem_iff_getElem?.mp hd
  obtain ⟨c, v, h1, h2, rfl⟩ := pairs_at hi
  obtain ⟨v', h3, h4⟩ := h.2 i c h1
  rw [h2] at h3
  cases h3
  exact h4.b
theorem okRow.val {cs xs : List D} (h : okRow cs xs) : ∀ d ∈ xs, ∃ i : Int, d = .int i ∧ 0 ≤ i ∧ i < 2 ^ 110 := fun d hd => by
  obtain ⟨i, hi⟩ := List.mem_iff_getElem?.mp hd
  have hl := (List.getElem?_eq_some_iff.mp hi).1
  rw [h.1] at hl
  obtain ⟨v, h3, j, rfl, j0, j1, _⟩ := h.2 i _ (List.getElem?_eq_getElem hl)
  rw [hi] at h3
  cases h3
  exact ⟨j, rfl, j0, j1⟩
theorem okRow.ok {cs xs : List D} (h : okRow cs xs) (hc : cs.length ≤ 4) : Ok 5 1 (.tuple xs) :=
  (Ok.tuple (n := 1) (m := 0) (k := 4) (fun d hd => by obtain ⟨i, rfl, i0, i1⟩ := h.val d hd; exact Ok.int (by omega)) (by rw [h.1]; exact hc)).mono (by decide) (by decide)
section
variable {P : Program} {w : World} {K : PySem.W.Frag} {mg : Str → Option Value} {base : Heap} {A : Cls}
def w_law_row : Wc := fun ds k Q _ => ∃ (cs : List D) (k' : Nat), ds = [penD, .tuple cs] ∧ k = k' + 16 ∧ (∀ d ∈ cs, okCol d) ∧ cs.length ≤ 4 ∧ ∀ xs k'', k' ≤ k'' → okRow cs xs → Q (.tuple xs) k''
theorem m_law_row : Wc.Mono w_law_row := fun ds k Q Q' x x' h1 _ ⟨cs, k', p1, p2, p3, p4, q⟩ => ⟨cs, k', p1, p2, p3, p4, fun g k'' l z => h1 _ _ (q g k'' l z)⟩
theorem d_law_row (T : Txt K mg A) (d_law_value : Def P w K mg base "_law_value" 4 ["_law_pen", "_law_column"] w_law_value) (F : FunAt K mg "_law_row" s_law_row ["_law_pen", "_law_columns_here"]) : Def P w K mg base "_law_row" 5 ["_law_pen", "_law_columns_here"] w_law_row := by
  refine defD F sc_law_row (fun ds k Q x ⟨cs, k', e, _⟩ => by rw [e]; rfl) fun f cdv Ar outer s H E p G hg hr => ⟨_, (dss_one (ds_ret (de_bt tupleD.mono fitsTuple call_tuple_of (da_cons (de_lc (own := [("_law_column", 2)]) rfl sc_law_row.nd (di_seq (de_var (pv 1))) (blkOk_by (N := ["_law_pen", "_law_columns_here", "_law_column"]) (sc := defScope s_law_row) (by decide +kernel)) (fun _ _ _ _ _ _ _ => (dgc_nm (i := 2) sc_law_row.nd (by decide))) (fun _ _ _ _ _ _ _ => dts_nil) (fun _ _ _ _ _ _ _ => (de_fn d_law_value m_law_value hg hr takes0 (da_cons (de_var (pv 0)) (da_cons (de_var (pv 2)) da_nil))))) da_nil) T.z_tuple))), ?_⟩
  rintro ds n Q x ⟨cs, k', rfl, rfl, hcs, hcl, q⟩
  simp only [wRet, wSet, wSeq, wNext, wDrop, wIfS, wTest, wAnd, wOr, wNot, wIf, wBin, wVar, wC, wAndV, wOrV, wNotV, wIsN, wNotN, wNeg, wChain, wNil, wCons, wTup, wLst, wBi, wCall, wIsi, wSl, wSo, wNo, wSeqI, wFor, gNm, gTp, puts, wAsg, wPar, wMul, wmD, wmO, putsI, wAug, wTryIs, wRng1, wRng2, wEnum, wEnumT, wZip, wLc, wYes, wLend, wRel, wOwn, wApp, wIns, wSetIx, wLstF, wListF, wRepF, wAddF, wSlS, wParO, wRevT, wSortedSet, wSortedSetL, wSortedSetT, wKeys, weI, wExt, allD, wMt, wRaise, wSeqO, wCallF, plainO, wCallA, wIdx0, wAnF, wSetA, wUnA, wSeqA, plainA, wFld, wFldO, wMake, wLRg, Ans.data, Ans.own.injEq, Ans.tup.injEq, Ans.dat.injEq, wTry, wTryM, wHs, wIsC, enOf, put, putUn, defEnds, lendE, lend, wipeE, hide, lenD, intD, listD, tupleD, reprD, wPen0, wPen1, wPen2, wPenS1, wPenS2, penAt, List.map_cons, List.map_nil, List.length_cons, List.length_nil, List.nil_append, List.cons_append, Nat.reduceAdd, Nat.reduceSub, Nat.reduceLeDiff, Nat.zero_add, List.replicate_zero, List.replicate_succ, List.getElem?_cons_zero, List.getElem?_cons_succ, List.set_cons_zero, List.set_cons_succ, Option.some.injEq, Slot.dat.injEq, Slot.own.injEq, PyData.bool.injEq, PyData.int.injEq, PyData.tuple.injEq, PyData.list.injEq, exists_eq_left', exists_eq_left, and_true, true_and, if_true, if_false, Bool.false_eq_true, reduceCtorEq, List.mapIdx_cons, List.mapIdx_nil]
  refine ⟨cs, rfl, ?_⟩
  refine lcLoop.ind (fun acc ds k => ∃ cs1, cs1 ++ ds = cs ∧ okRow cs1 acc ∧ k' + 4 * ds.length ≤ k) ?_ ?_ ⟨[], rfl, ⟨rfl, fun i c h => by cases h⟩, by omega⟩
  · rintro acc k ⟨cs1, e1, h1, hk⟩
    rw [List.append_nil] at e1
    subst e1
    exact q acc k (by simpa using hk) h1
  · rintro d ds acc k ih ⟨cs1, e1, h1, hk⟩
    rw [List.length_cons] at hk
    simp only [wRet, wSet, wSeq, wNext, wDrop, wIfS, wTest, wAnd, wOr, wNot, wIf, wBin, wVar, wC, wAndV, wOrV, wNotV, wIsN, wNotN, wNeg, wChain, wNil, wCons, wTup, wLst, wBi, wCall, wIsi, wSl, wSo, wNo, wSeqI, wFor, gNm, gTp, puts, wAsg, wPar, wMul, wmD, wmO, putsI, wAug, wTryIs, wRng1, wRng2, wEnum, wEnumT, wZip, wLc, wYes, wLend, wRel, wOwn, wApp, wIns, wSetIx, wLstF, wListF, wRepF, wAddF, wSlS, wParO, wRevT, wSortedSet, wSortedSetL, wSortedSetT, wKeys, weI, wExt, allD, wMt, wRaise, wSeqO, wCallF, plainO, wCallA, wIdx0, wAnF, wSetA, wUnA, wSeqA, plainA, wFld, wFldO, wMake, wLRg, Ans.data, Ans.own.injEq, Ans.tup.injEq, Ans.dat.injEq, wTry, wTryM, wHs, wIsC, enOf, put, putUn, defEnds, lendE, lend, wipeE, hide, lenD, intD, listD, tupleD, reprD, wPen0, wPen1, wPen2, wPenS1, wPenS2, penAt, List.map_cons, List.map_nil, List.length_cons, List.length_nil, List.nil_append, List.cons_append, Nat.reduceAdd, Nat.reduceSub, Nat.reduceLeDiff, Nat.zero_add, List.replicate_zero, List.replicate_succ, List.getElem?_cons_zero, List.getElem?_cons_succ, List.set_cons_zero, List.set_cons_succ, Option.some.injEq, Slot.dat.injEq, Slot.own.injEq, PyData.bool.injEq, PyData.int.injEq, PyData.tuple.injEq, PyData.list.injEq, exists_eq_left', exists_eq_left, and_true, true_and, if_true, if_false, Bool.false_eq_true, reduceCtorEq, List.mapIdx_cons, List.mapIdx_nil]
    have hd : okCol d := hcs d (by rw [← e1]; simp)
    obtain ⟨k0, rfl⟩ : ∃ k0, k = k0 + 4 := ⟨k - 4, by omega⟩
    have hl : acc.length ≤ 4 := by
      have := congrArg List.length e1
      rw [List.length_append] at this
      rw [h1.1]; omega
    refine ⟨_, rfl, _, k0, rfl, rfl, ⟨d, rfl, hd⟩, fun v k1 l1 hv => ⟨by omega, ih _ _ ⟨cs1 ++ [d], by rw [List.append_assoc]; exact e1, ⟨by rw [List.length_append, List.length_append, h1.1]; rfl, fun i c hc => ?_⟩, by omega⟩⟩⟩
    have hv := hv _ rfl
    by_cases hi : i < cs1.length
    · rw [List.getElem?_append_left hi] at hc
      obtain ⟨v', a, b⟩ := h1.2 i c hc
      exact ⟨v', by rw [List.getElem?_append_left (by rw [h1.1]; exact hi)]; exact a, b⟩
    · rw [List.getElem?_append_right (by omega)] at hc
      have : i - cs1.length = 0 := by
        have := (List.getElem?_eq_some_iff.mp hc).1
        simp only [List.length_singleton] at this
        omega
      rw [this] at hc
      cases hc
      exact ⟨v, by rw [List.getElem?_append_right (by rw [h1.1]; omega), h1.1, this]; rfl, hv⟩
end
theorem wtAll_fmap {f : D → Option D} : ∀ {xs : List D}, (∀ d ∈ xs, ∀ y, f d = some y → y = d) → wtAll (xs.filterMap f) ≤ wtAll xs
  | [], _ => Nat.le_refl _
  | d :: xs, h => by
    have h2 := wtAll_fmap fun d hd => h d (List.mem_cons_of_mem _ hd)
    cases e : f d with
    | none => rw [List.filterMap_cons_none e]; simp only [wtAll]; omega
    | some y => rw [List.filterMap_cons_some e, h d List.mem_cons_self y e]; simp only [wtAll]; omega
theorem _root_.L2.DL.Ok.fmapL {n m : Nat} {f : D → Option D} {xs : List D} (h : Ok n m (.tuple xs)) (hf : ∀ d ∈ xs, ∀ y, f d = some y → y = d) : Ok n m (.list (xs.filterMap f)) := by
  have mem : ∀ d ∈ xs.filterMap f, d ∈ xs := fun d hd => by
    obtain ⟨e, he, hn⟩ := List.mem_filterMap.mp hd
    rw [hf e he d hn]; exact he
  refine ⟨?_, ?_, ?_⟩
  · simp only [fine]
    exact fineAll_of fun d hd => (h.in_tuple d (mem d hd)).f
  · have w := h.w
    simp only [wt] at w ⊢
    have := wtAll_fmap hf
    omega
  · have d := h.d
    simp only [PyData.depth] at d ⊢
    have : PyData.depthAll (xs.filterMap f) ≤ PyData.depthAll xs := depthAll_le fun d hd => depthAll_mem d (mem d hd)
    omega
section
variable {P : Program} {w : World} {K : PySem.W.Frag} {mg : Str → Option Value} {base : Heap} {A : Cls}
/-! ### the law's own word for a match -/
def bad (xs : List D) : D → Option D
  | .tuple [.int i, b] => if isN b = true then none else if PyData.eqv (xs.getD i.toNat .none) b = true then none else some (.tuple [.int i, b])
  | _ => none
theorem bad_nil {xs : List D} {m : Nat} : ∀ {es : List D}, entsOk es m → PyData.eqv (.list (es.filterMap (bad xs))) (.list []) = hasB es xs
  | [], _ => rfl
  | e :: es, h => by
    obtain ⟨i, b, rfl, h0, h1, hb⟩ := h e List.mem_cons_self
    have ih := bad_nil (xs := xs) (es := es) fun d hd => h d (List.mem_cons_of_mem _ hd)
    simp only [hasB, List.all_cons] at ih ⊢
    rcases Bool.eq_false_or_eq_true (isN b) with hn | hn
    · rw [List.filterMap_cons_none (by simp only [bad, hn, if_true]), ih, hn, Bool.true_or, Bool.true_and]
    · rcases Bool.eq_false_or_eq_true (PyData.eqv (xs.getD i.toNat .none) b) with hq | hq
      · rw [List.filterMap_cons_none (by simp only [bad, hn, hq, if_true, if_false, Bool.false_eq_true]), ih, hn, hq, Bool.false_or, Bool.true_and]
      · rw [List.filterMap_cons_some (b := .tuple [.int i, b]) (by simp only [bad, hn, hq, if_false, Bool.false_eq_true]), hn, hq, Bool.false_or, Bool.false_and]
        simp [PyData.eqv, PyData.eqvAll]
end
end L2.DL.K12




namespace L2.DL.K12
open PySem PySem.Spec
      PyProof.Rows
/-! ### pair rules, all rules -/
/-- rows of m ints -/
def intRows (rows : List D) (m : Nat) : Prop := ∀ d ∈ rows, ∃ xs, d = .tuple xs ∧ xs.length = m ∧ ∀ x ∈ xs, ∃ i : Int, x = .int i ∧ i.natAbs < 2 ^ 120
theorem intRows.ok {rows : List D} {m : Nat} (h : intRows rows m) : rowsOk rows m := fun d hd => by
  obtain ⟨xs, e, hl, hx⟩ := h d hd
  refine ⟨xs, e, hl, fun x h => ?_⟩
  obtain ⟨i, rfl, hi⟩ := hx x h
  exact (Ok.int hi).good
def rowI (rows : List D) (i : Nat) : List D := itm (rows.getD i .none)
def pairB (es : List D) (c : Int) (rows : List D) (i j : Nat) : Bool := hasB es (rowI rows i) && likeB es (rowI rows i) (rowI rows j) && !PyData.eqv ((rowI rows i).getD c.toNat .none) ((rowI rows j).getD c.toNat .none)
def pairsOf (es : List D) (c : Int) (rows : List D) (i t : Nat) : List D := (List.range t).filterMap fun u => if pairB es c rows i (i + 1 + u) = true then some (.tuple [.int i, .int ((i + 1 + u : Nat) : Int)]) else none
def pairsTo (es : List D) (c : Int) (rows : List D) (j : Nat) : List D := (List.range j).flatMap fun i => pairsOf es c rows i (rows.length - (i + 1))
theorem pairsOf_succ {es : List D} {c : Int} {rows : List D} {i t : Nat} : pairsOf es c rows i (t + 1) = pairsOf es c rows i t ++ (if pairB es c rows i (i + 1 + t) = true then [.tuple [.int i, .int ((i + 1 + t : Nat) : Int)]] else []) := by
  unfold pairsOf
  rw [List.range_succ, List.filterMap_append]
  congr 1
  rw [List.filterMap_cons, List.filterMap_nil]
  split <;> simp_all
theorem pairsTo_succ {es : List D} {c : Int} {rows : List D} {j : Nat} : pairsTo es c rows (j + 1) = pairsTo es c rows j ++ pairsOf es c rows j (rows.length - (j + 1)) := by
  unfold pairsTo
  rw [List.range_succ, List.flatMap_append]
  simp
theorem pairsOf_len {es : List D} {c : Int} {rows : List D} {i t : Nat} : (pairsOf es c rows i t).length ≤ t := by
  unfold pairsOf
  exact Nat.le_trans (List.length_filterMap_le _ _) (by rw [List.length_range]; omega)
theorem pairsTo_len {es : List D} {c : Int} {rows : List D} : ∀ {j : Nat}, (pairsTo es c rows j).length ≤ j * rows.length
  | 0 => by simp [pairsTo]
  | j + 1 => by
    rw [pairsTo_succ, List.length_append]
    have := pairsTo_len (es := es) (c := c) (rows := rows) (j := j)
    have := pairsOf_len (es := es) (c := c) (rows := rows) (i := j) (t := rows.length - (j + 1))
    rw [Nat.succ_mul]
    omega
theorem rowI_at {rows : List D} {m i : Nat} (h : intRows rows m) (hi : i < rows.length) : atI rows (i : Int) = some (.tuple (rowI rows i)) ∧ (rowI rows i).length = m ∧ ∀ x ∈ rowI rows i, ∃ i : Int, x = .int i ∧ i.natAbs < 2 ^ 120 := by
  have e := atI_pos (xs := rows) (i := (i : Int)) (Int.natCast_nonneg i) (by omega)
  rw [Int.toNat_natCast] at e
  obtain ⟨xs, ex, hl, hx⟩ := h _ (getD_mem (xs := rows) (i := (i : Int)) (Int.natCast_nonneg i) (by omega))
  rw [Int.toNat_natCast] at ex
  have er : rowI rows i = xs := by unfold rowI; rw [ex]; rfl
  rw [er]
  exact ⟨by rw [e, ex], hl, hx⟩
section
variable {P : Program} {w : World} {K : PySem.W.Frag} {mg : Str → Option Value} {base : Heap} {A : Cls}
def w_broken_pairs : Wc := fun ds k Q _ => ∃ (es rows : List D) (c : Int) (v : D) (m : Nat), ds = [.tuple [.tuple es, .int c, v], .tuple rows] ∧ entsOk es m ∧ intRows rows m ∧ rows.length ≤ 8 ∧ 0 ≤ c ∧ c < m ∧ Q (.list (pairsTo es c rows rows.length)) k
theorem m_broken_pairs : Wc.Mono w_broken_pairs := fun ds k Q Q' x x' h1 _ ⟨es, rows, c, v, m, e, p1, p2, p3, p4, p5, q⟩ => ⟨es, rows, c, v, m, e, p1, p2, p3, p4, p5, h1 _ _ q⟩
theorem d_broken_pairs (T : Txt K mg A) (d_are_alike : Def P w K mg base "are_alike" 2 ["given", "one", "other"] w_are_alike) (F : FunAt K mg "broken_pairs" s_broken_pairs ["rule", "table"]) : Def P w K mg base "broken_pairs" 3 ["rule", "table"] w_broken_pairs := by
  refine defD F sc_broken_pairs (fun ds k Q x ⟨es, rows, c, v, m, e, _⟩ => by rw [e]; rfl) fun f cdv Ar outer s H E p G hg hr => ⟨_, (dss_cons (ds_asg (de_var (pv 0)) (dg_tp rfl (dgs_cons (i := 2) sc_broken_pairs.nd (dgs_cons (i := 3) sc_broken_pairs.nd (dgs_cons (i := 4) sc_broken_pairs.nd dgs_nil)))))
    (dss_cons (ds_own (i := 5) (df_lst da_nil) sc_broken_pairs.nd)
    (dss_cons (ds_for (passes_of rfl) rfl (di_rng1 (de_bi lenD.mono fitsLen call_len_seq (da_cons (de_var (pv 1)) da_nil) T.z_len) T.z_range) (dg_nm (i := 6) sc_broken_pairs.nd)
    (dss_one (ds_for (passes_of rfl) rfl (di_rng2 (de_bin op_addA addD.mono fitsAdd (de_var (pv 6)) de_int) (de_bi lenD.mono fitsLen call_len_seq (da_cons (de_var (pv 1)) da_nil) T.z_len) T.z_range) (dg_nm (i := 7) sc_broken_pairs.nd)
    (dss_one (ds_if (dw_and (dt_val (de_fn d_are_alike m_are_alike hg hr (takes_of rfl rfl rfl rfl) (da_cons (de_var (pv 2)) (da_cons (de_idx (de_var (pv 1)) (de_var (pv 6))) (da_cons (de_idx (de_var (pv 1)) (de_var (pv 7))) da_nil))))) (dw_and1 (dt_cmp (op_neA hr.units) neD.mono fitsNe (de_idx (de_idx (de_var (pv 1)) (de_var (pv 6))) (de_var (pv 3))) (de_idx (de_idx (de_var (pv 1)) (de_var (pv 7))) (de_var (pv 3)))))).dt
    (dss_one (ds_append (i := 5) (de_tup (da_cons (de_var (pv 6)) (da_cons (de_var (pv 7)) da_nil))) (pv 5)))
    dss_nil)))))
    (dss_rel (dss_one (ds_ret (de_var (pv 5)))))))), ?_⟩
  rintro ds n Q x ⟨es, rows, c, v, m, rfl, he, hrows, hl, c0, c1, q⟩
  simp only [wRet, wSet, wSeq, wNext, wDrop, wIfS, wTest, wAnd, wOr, wNot, wIf, wBin, wVar, wC, wAndV, wOrV, wNotV, wIsN, wNotN, wNeg, wChain, wNil, wCons, wTup, wLst, wBi, wCall, wIsi, wSl, wSo, wNo, wSeqI, wFor, gNm, gTp, puts, wAsg, wPar, wMul, wmD, wmO, putsI, wAug, wTryIs, wRng1, wRng2, wEnum, wEnumT, wZip, wLc, wYes, wLend, wRel, wOwn, wApp, wIns, wSetIx, wLstF, wListF, wRepF, wAddF, wSlS, wParO, wRevT, wSortedSet, wSortedSetL, wSortedSetT, wKeys, weI, wExt, allD, wMt, wRaise, wSeqO, wCallF, plainO, wCallA, wIdx0, wAnF, wSetA, wUnA, wSeqA, plainA, wFld, wFldO, wMake, wLRg, Ans.data, Ans.own.injEq, Ans.tup.injEq, Ans.dat.injEq, wTry, wTryM, wHs, wIsC, enOf, put, putUn, defEnds, lendE, lend, wipeE, hide, lenD, intD, listD, tupleD, reprD, wPen0, wPen1, wPen2, wPenS1, wPenS2, penAt, List.map_cons, List.map_nil, List.length_cons, List.length_nil, List.nil_append, List.cons_append, Nat.reduceAdd, Nat.reduceSub, Nat.reduceLeDiff, Nat.zero_add, List.replicate_zero, List.replicate_succ, List.getElem?_cons_zero, List.getElem?_cons_succ, List.set_cons_zero, List.set_cons_succ, Option.some.injEq, Slot.dat.injEq, Slot.own.injEq, PyData.bool.injEq, PyData.int.injEq, PyData.tuple.injEq, PyData.list.injEq, exists_eq_left', exists_eq_left, and_true, true_and, if_true, if_false, Bool.false_eq_true, reduceCtorEq, List.mapIdx_cons, List.mapIdx_nil]
  refine ⟨by omega,
        by omega, ?_⟩
  rw [Int.toNat_natCast]
  refine wLoop.ind (fun ds e => ∃ (j : Nat) (u v1 : Slot), e = ⟨[.dat (.tuple [.tuple es, .int c, v]), .dat (.tuple rows), .dat (.tuple es), .dat (.int c), .dat v, .own (pairsTo es c rows j), u, v1], n⟩ ∧ j ≤ rows.length ∧ ds = rngD j (rows.length - j)) ?_ ?_ ⟨0, _, _, rfl, Nat.zero_le _, rfl⟩
  · rintro e ⟨j, u, v1, rfl, hj, hd⟩
    have ej : j = rows.length := by
      have := congrArg List.length hd
      rw [rngD_length, List.length_nil] at this
      omega
    subst ej
    exact ⟨_, rfl, q⟩
  · rintro d ds e ih ⟨j, u, v1, rfl, hj, hd⟩
    obtain ⟨t, ht⟩ : ∃ t, rows.length - j = t + 1 := by
      have := congrArg List.length hd
      rw [rngD_length, List.length_cons] at this
      exact ⟨ds.length, this.symm⟩
    rw [ht, rngD_succ] at hd
    injection hd with hd1 hd2
    subst hd1 hd2
    have gd := hrows.ok
    obtain ⟨a1, l1, i1⟩ := rowI_at hrows (i := j) (by omega)
    have fl : (pairsTo es c rows j).length ≤ 64 := Nat.le_trans pairsTo_len (by
      have : j * rows.length ≤ 8 * 8 := Nat.mul_le_mul (by omega) hl
      omega)
    simp only [wRet, wSet, wSeq, wNext, wDrop, wIfS, wTest, wAnd, wOr, wNot, wIf, wBin, wVar, wC, wAndV, wOrV, wNotV, wIsN, wNotN, wNeg, wChain, wNil, wCons, wTup, wLst, wBi, wCall, wIsi, wSl, wSo, wNo, wSeqI, wFor, gNm, gTp, puts, wAsg, wPar, wMul, wmD, wmO, putsI, wAug, wTryIs, wRng1, wRng2, wEnum, wEnumT, wZip, wLc, wYes, wLend, wRel, wOwn, wApp, wIns, wSetIx, wLstF, wListF, wRepF, wAddF, wSlS, wParO, wRevT, wSortedSet, wSortedSetL, wSortedSetT, wKeys, weI, wExt, allD, wMt, wRaise, wSeqO, wCallF, plainO, wCallA, wIdx0, wAnF, wSetA, wUnA, wSeqA, plainA, wFld, wFldO, wMake, wLRg, Ans.data, Ans.own.injEq, Ans.tup.injEq, Ans.dat.injEq, wTry, wTryM, wHs, wIsC, enOf, put, putUn, defEnds, lendE, lend, wipeE, hide, lenD, intD, listD, tupleD, reprD, wPen0, wPen1, wPen2, wPenS1, wPenS2, penAt, List.map_cons, List.map_nil, List.length_cons, List.length_nil, List.nil_append, List.cons_append, Nat.reduceAdd, Nat.reduceSub, Nat.reduceLeDiff, Nat.zero_add, List.replicate_zero, List.replicate_succ, List.getElem?_cons_zero, List.getElem?_cons_succ, List.set_cons_zero, List.set_cons_succ, Option.some.injEq, Slot.dat.injEq, Slot.own.injEq, PyData.bool.injEq, PyData.int.injEq, PyData.tuple.injEq, PyData.list.injEq, exists_eq_left', exists_eq_left, and_true, true_and, if_true, if_false, Bool.false_eq_true, reduceCtorEq, List.mapIdx_cons, List.mapIdx_nil, addD]
    refine ⟨_, _, rfl, rfl, ⟨by omega, by omega, by omega, by omega⟩, ?_⟩
    have e1 : ((rows.length : Int) - ((j : Int) + 1)).toNat = rows.length - (j + 1) := by omega
    rw [e1]
    refine wLoop.ind (fun ds e => ∃ (b : Nat) (v1 : Slot), e = ⟨[.dat (.tuple [.tuple es, .int c, v]), .dat (.tuple rows), .dat (.tuple es), .dat (.int c), .dat v, .own (pairsTo es c rows j ++ pairsOf es c rows j b), .dat (.int j), v1], n⟩ ∧ b ≤ rows.length - (j + 1) ∧ ds = rngD ((j + 1 + b : Nat) : Int) (rows.length - (j + 1) - b)) ?_ ?_ ⟨0, _, by rw [show pairsOf es c rows j 0 = [] from rfl, List.append_nil], Nat.zero_le _, rfl⟩
    · rintro e ⟨b, v2, rfl, hb, hd⟩
      have eb : b = rows.length - (j + 1) := by
        have := congrArg List.length hd
        rw [rngD_length, List.length_nil] at this
        omega
      subst eb
      refine ih _ ⟨j + 1, _, _, by rw [pairsTo_succ], by omega, ?_⟩
      rw [show rows.length - (j + 1) = t by omega]
      rfl
    · rintro d ds e ih2 ⟨b, v2, rfl, hb, hd⟩
      obtain ⟨t2, ht2⟩ : ∃ t, rows.length - (j + 1) - b = t + 1 := by
        have := congrArg List.length hd
        rw [rngD_length, List.length_cons] at this
        exact ⟨ds.length, this.symm⟩
      rw [ht2, rngD_succ] at hd
      injection hd with hd1 hd2
      subst hd1 hd2
      obtain ⟨a2, l2, i2⟩ := rowI_at hrows (i := j + 1 + b) (by omega)
      have pl : (pairsOf es c rows j b).length ≤ 8 := Nat.le_trans pairsOf_len (by omega)
      have good : ∀ {xs : List D}, (∀ x ∈ xs, ∃ i : Int, x = .int i ∧ i.natAbs < 2 ^ 120) → ∀ x ∈ xs, Good x := fun h x hx => by
        obtain ⟨i, rfl, hi⟩ := h x hx
        exact (Ok.int hi).good
      have next : ∀ (acc : List D) (v3 : Slot), acc = pairsTo es c rows j ++ pairsOf es c rows j (b + 1) → wLoop _ _ _ _ (⟨[.dat (.tuple [.tuple es, .int c, v]), .dat (.tuple rows), .dat (.tuple es), .dat (.int c), .dat v, .own acc, .dat (.int j), v3], n⟩ : En) := fun acc v3 ea => ih2 _ ⟨b + 1, v3, by rw [ea], by omega, by
        rw [show rows.length - (j + 1) - (b + 1) = t2 by omega]
        rfl⟩
      rw [pairsOf_succ] at next
      simp only [wRet, wSet, wSeq, wNext, wDrop, wIfS, wTest, wAnd, wOr, wNot, wIf, wBin, wVar, wC, wAndV, wOrV, wNotV, wIsN, wNotN, wNeg, wChain, wNil, wCons, wTup, wLst, wBi, wCall, wIsi, wSl, wSo, wNo, wSeqI, wFor, gNm, gTp, puts, wAsg, wPar, wMul, wmD, wmO, putsI, wAug, wTryIs, wRng1, wRng2, wEnum, wEnumT, wZip, wLc, wYes, wLend, wRel, wOwn, wApp, wIns, wSetIx, wLstF, wListF, wRepF, wAddF, wSlS, wParO, wRevT, wSortedSet, wSortedSetL, wSortedSetT, wKeys, weI, wExt, allD, wMt, wRaise, wSeqO, wCallF, plainO, wCallA, wIdx0, wAnF, wSetA, wUnA, wSeqA, plainA, wFld, wFldO, wMake, wLRg, Ans.data, Ans.own.injEq, Ans.tup.injEq, Ans.dat.injEq, wTry, wTryM, wHs, wIsC, enOf, put, putUn, defEnds, lendE, lend, wipeE, hide, lenD, intD, listD, tupleD, reprD, wPen0, wPen1, wPen2, wPenS1, wPenS2, penAt, List.map_cons, List.map_nil, List.length_cons, List.length_nil, List.nil_append, List.cons_append, Nat.reduceAdd, Nat.reduceSub, Nat.reduceLeDiff, Nat.zero_add, List.replicate_zero, List.replicate_succ, List.getElem?_cons_zero, List.getElem?_cons_succ, List.set_cons_zero, List.set_cons_succ, Option.some.injEq, Slot.dat.injEq, Slot.own.injEq, PyData.bool.injEq, PyData.int.injEq, PyData.tuple.injEq, PyData.list.injEq, exists_eq_left', exists_eq_left, and_true, true_and, if_true, if_false, Bool.false_eq_true, reduceCtorEq, List.mapIdx_cons, List.mapIdx_nil]
      refine ⟨_, a1, _, a2, _, _, _, rfl, by rw [l1]; exact he, by rw [l1, l2], good i1, good i2, ?_⟩
      refine ⟨_, rfl, ?_⟩
      rcases Bool.eq_false_or_eq_true (hasB es (rowI rows j) && likeB es (rowI rows j) (rowI rows (j + 1 + b))) with h | h
      · rw [if_pos h]
        refine ⟨_, a1, _, atI_pos c0 (by rw [l1]; exact c1), _, a2, _, atI_pos c0 (by rw [l2]; exact c1), .inr ⟨good i1 _ (getD_mem c0 (by rw [l1]; exact c1)), good i2 _ (getD_mem c0 (by rw [l2]; exact c1))⟩, ?_⟩
        refine ⟨_, rfl, ?_⟩
        have e2 : pairB es c rows j (j + 1 + b) = !PyData.eqv ((rowI rows j).getD c.toNat .none) ((rowI rows (j + 1 + b)).getD c.toNat .none) := by
          unfold pairB
          rw [h, Bool.true_and]
        rcases Bool.eq_false_or_eq_true (PyData.eqv ((rowI rows j).getD c.toNat .none) ((rowI rows (j + 1 + b)).getD c.toNat .none)) with hq | hq
        · rw [if_neg (by rw [hq]; decide)]
          refine next _ _ ?_
          rw [if_neg (by rw [e2, hq]; decide), List.append_nil]
        · rw [if_pos (by rw [hq]; rfl)]
          refine ⟨⟨_, rfl⟩, by rw [List.length_append]; omega, next _ _ ?_⟩
          rw [if_pos (by rw [e2, hq]; rfl), List.append_assoc]
      · rw [if_neg (by rw [h]; decide)]
        refine next _ _ ?_
        rw [if_neg (by unfold pairB; rw [h, Bool.false_and]; decide), List.append_nil]
end
end L2.DL.K12




namespace L2.DL.K12
open PySem PySem.Spec
      PyProof.Rows
/-! ### the breaks of rules in a table -/
def okTab (cs ts : List D) : Prop := ts.length ≤ 8 ∧ ∀ d ∈ ts, ∃ xs, d = .tuple xs ∧ okRow cs xs
theorem okTab.int {cs ts : List D} (h : okTab cs ts) : intRows ts cs.length := fun d hd => by
  obtain ⟨xs, e, hx⟩ := h.2 d hd
  refine ⟨xs, e, hx.1, fun x hx' => ?_⟩
  obtain ⟨i, rfl, h0, h1⟩ := hx.val x hx'
  exact ⟨i, rfl, by omega⟩
theorem okTab.b {cs ts : List D} (h : okTab cs ts) : tabB cs (.tuple ts) = true := by
  simp only [tabB, Bool.and_eq_true, decide_eq_true_eq]
  refine ⟨h.1, List.all_eq_true.mpr fun d hd => ?_⟩
  obtain ⟨xs, rfl, hx⟩ := h.2 d hd
  exact hx.b
theorem okTab.good {cs ts : List D} (h : okTab cs ts) (hc : cs.length ≤ 4) : Ok 41 2 (.tuple ts) := (Ok.tuple (n := 5) (m := 1) (k := 8) (fun d hd => by
  obtain ⟨xs, rfl, hx⟩ := h.2 d hd
  exact hx.ok hc) h.1).mono (by decide) (by decide)
def okRuls (cs rs : List D) : Prop := rs.length ≤ 8 ∧ ∀ r ∈ rs, okRule cs r
theorem okRuls.b {cs rs : List D} (h : okRuls cs rs) : rulsB cs (.tuple rs) = true := by
  simp only [rulsB, Bool.and_eq_true, decide_eq_true_eq]
  exact ⟨h.1, List.all_eq_true.mpr fun d hd => (h.2 d hd).1⟩
theorem okRuls.good {cs rs : List D} (h : okRuls cs rs) : Ok 321 4 (.tuple rs) := (Ok.tuple (n := 40) (m := 3) (k := 8) (fun d hd => (h.2 d hd).2.1) h.1).mono (by decide) (by decide)
/-- the breaks of a rule -/
def brkR (rows : List D) : D → List D
  | .tuple [.tuple es, .int c, w] => if isN w = true then pairsTo es c rows rows.length else (List.range rows.length).filterMap (single es c w rows)
  | _ => []
theorem brkR_eq {rows es : List D} {c : Int} {w : D} : brkR rows (.tuple [.tuple es, .int c, w]) = if isN w = true then pairsTo es c rows rows.length else (List.range rows.length).filterMap (single es c w rows) := rfl
theorem brkR_len {rows : List D} {r : D} (h : rows.length ≤ 8) : (brkR rows r).length ≤ 64 := by
  unfold brkR
  split
  · split
    · exact Nat.le_trans pairsTo_len (Nat.mul_le_mul h h)
    · exact Nat.le_trans (List.length_filterMap_le _ _) (by rw [List.length_range]; omega)
  · simp
theorem brkR_in {rows : List D} {r : D} (h : rows.length ≤ 8) : ∀ b ∈ brkR rows r, ∃ xs, b = .tuple xs ∧ xs.length ≤ 2 ∧ ∀ x ∈ xs, ∃ i : Int, x = .int i ∧ 0 ≤ i ∧ i < 100 := by
  intro b hb
  unfold brkR at hb
  split at hb
  · split at hb
    · obtain ⟨i, hi, hb⟩ := List.mem_flatMap.mp hb
      obtain ⟨u, hu, hb⟩ := List.mem_filterMap.mp hb
      rw [List.mem_range] at hi hu
      split at hb
      · cases hb
        refine ⟨_, rfl, Nat.le_refl _, fun x hx => ?_⟩
        simp only [List.mem_cons,
              List.not_mem_nil, or_false] at hx
        rcases hx with rfl | rfl
        · exact ⟨_, rfl, by omega, by omega⟩
        · exact ⟨_, rfl, by omega, by omega⟩
      · cases hb
    · obtain ⟨i, hi, hb⟩ := List.mem_filterMap.mp hb
      rw [List.mem_range] at hi
      unfold single at hb
      split at hb
      · cases hb
        refine ⟨_, rfl, by simp, fun x hx => ?_⟩
        cases List.mem_singleton.mp hx
        exact ⟨_, rfl, by omega, by omega⟩
      · cases hb
  · cases hb
def tag (k : Nat) (b : D) : D := .tuple (.int k :: itm b)
def allTo (rs rows : List D) (j : Nat) : List D := (List.range j).flatMap fun k => (brkR rows (rs.getD k .none)).map (tag k)
theorem allTo_succ {rs rows : List D} {j : Nat} : allTo rs rows (j + 1) = allTo rs rows j ++ (brkR rows (rs.getD j .none)).map (tag j) := by
  unfold allTo
  rw [List.range_succ, List.flatMap_append]
  simp
theorem allTo_len {rs rows : List D} (h : rows.length ≤ 8) : ∀ {j : Nat}, (allTo rs rows j).length ≤ 64 * j
  | 0 => by simp [allTo]
  | j + 1 => by
    rw [allTo_succ, List.length_append, List.length_map]
    have := allTo_len (rs := rs) (rows := rows) h (j := j)
    have := brkR_len (rows := rows) (r := rs.getD j .none) h
    omega
theorem allTo_ok {rs rows : List D} (h : rows.length ≤ 8) {j : Nat} (hj : j ≤ 8) : ∀ b ∈ allTo rs rows j, Ok 4 1 b := by
  intro b hb
  obtain ⟨k, hk, hb⟩ := List.mem_flatMap.mp hb
  obtain ⟨b', hb', rfl⟩ := List.mem_map.mp hb
  rw [List.mem_range] at hk
  obtain ⟨xs, rfl, hl, hx⟩ := brkR_in h b' hb'
  refine (Ok.tuple (n := 1) (m := 0) (k := 3) (fun d hd => ?_) (by simp only [itm, List.length_cons]; omega)).mono (by decide) (by decide)
  rcases List.mem_cons.mp
        hd with rfl | hd
  · exact Ok.int (by omega)
  · obtain ⟨i, rfl, h0, h1⟩ := hx d hd
    exact Ok.int (by omega)
theorem allTo_good {rs rows : List D} (h : rows.length ≤ 8) {j : Nat} (hj : j ≤ 8) : Good (.list (allTo rs rows j)) :=
  (Ok.list (n := 4) (m := 1) (k := 512) (allTo_ok h hj) (Nat.le_trans (allTo_len h) (by omega))).good
theorem okRule.parts {cs : List D} {r : D} (h : okRule cs r) : ∃ es c w, r = .tuple [.tuple es, .int c, w] ∧ entsOk es cs.length ∧ 0 ≤ c ∧ c < cs.length ∧ Good w ∧ es.length ≤ 4 ∧ Good (.tuple es) := by
  obtain ⟨hb, ok, zs, c, w, rfl, hz, hp, hl⟩ := h
  have hn : numB (.int c) (.int cs.length) = true := by
    simp only [rulB, Bool.and_eq_true] at hb
    exact hb.2.1
  simp only [numB, Bool.and_eq_true, decide_eq_true_eq] at hn
  refine ⟨_, c, w, rfl, fun d hd => ?_, hn.1, hn.2, (ok.in_tuple w (by simp)).good, by rw [List.length_map]; exact hl, (ok.in_tuple _ List.mem_cons_self).good⟩
  obtain ⟨z, h1, rfl⟩ := List.mem_map.mp hd
  obtain ⟨z0, z1, z2⟩ := hz z h1
  refine ⟨z.1, z.2, rfl, z0, z1, ?_⟩
  rcases z2 with h | h
  · rw [h]
    exact Ok.none.good
  · exact h.ok.good
section
variable {P : Program} {w : World} {K : PySem.W.Frag} {mg : Str → Option Value} {base : Heap} {A : Cls}
def w_broken_rows : Wc := fun ds k Q _ => ∃ (cs ts : List D) (r : D), ds = [r, .tuple ts] ∧ okRule cs r ∧ okTab cs ts ∧ Q (.list (brkR ts r)) k
theorem m_broken_rows : Wc.Mono w_broken_rows := fun ds k Q Q' x x' h1 _ ⟨cs, ts, r, e, p1, p2, q⟩ => ⟨cs, ts, r, e, p1, p2, h1 _ _ q⟩
theorem d_broken_rows (T : Txt K mg A) (d_is_value_rule : Def P w K mg base "is_value_rule" 1 ["rule"] w_is_value_rule) (d_broken_singles : Def P w K mg base "broken_singles" 2 ["rule", "table"] w_broken_singles) (d_broken_pairs : Def P w K mg base "broken_pairs" 3 ["rule", "table"] w_broken_pairs)
    (F : FunAt K mg "broken_rows" s_broken_rows ["rule", "table"]) : Def P w K mg base "broken_rows" 4 ["rule", "table"] w_broken_rows := by
  refine defD F sc_broken_rows (fun ds k Q x ⟨cs, ts, r, e, _⟩ => by rw [e]; rfl) fun f cdv Ar outer s H E p G hg hr => ⟨_, (dss_cons (ds_if (dt_val (de_fn d_is_value_rule m_is_value_rule hg hr (takes_of rfl rfl rfl rfl) (da_cons (de_var (pv 0)) da_nil)))
    (dss_one (ds_ret (de_fn d_broken_singles m_broken_singles hg hr (takes_of rfl rfl rfl rfl) (da_cons (de_var (pv 0)) (da_cons (de_var (pv 1)) da_nil)))))
    dss_nil)
    (dss_one (ds_ret (de_fn d_broken_pairs m_broken_pairs hg hr (takes_of rfl rfl rfl rfl) (da_cons (de_var (pv 0)) (da_cons (de_var (pv 1)) da_nil)))))), ?_⟩
  rintro ds n Q x ⟨cs, ts, r, rfl, hr', ht, q⟩
  obtain ⟨es, c, v, rfl, he, c0, c1, gv, _, _⟩ := hr'.parts
  simp only [wRet, wSet, wSeq, wNext, wDrop, wIfS, wTest, wAnd, wOr, wNot, wIf, wBin, wVar, wC, wAndV, wOrV, wNotV, wIsN, wNotN, wNeg, wChain, wNil, wCons, wTup, wLst, wBi, wCall, wIsi, wSl, wSo, wNo, wSeqI, wFor, gNm, gTp, puts, wAsg, wPar, wMul, wmD, wmO, putsI, wAug, wTryIs, wRng1, wRng2, wEnum, wEnumT, wZip, wLc, wYes, wLend, wRel, wOwn, wApp, wIns, wSetIx, wLstF, wListF, wRepF, wAddF, wSlS, wParO, wRevT, wSortedSet, wSortedSetL, wSortedSetT, wKeys, weI, wExt, allD, wMt, wRaise, wSeqO, wCallF, plainO, wCallA, wIdx0, wAnF, wSetA, wUnA, wSeqA, plainA, wFld, wFldO, wMake, wLRg, Ans.data, Ans.own.injEq, Ans.tup.injEq, Ans.dat.injEq, wTry, wTryM, wHs, wIsC, enOf, put, putUn, defEnds, lendE, lend, wipeE, hide, lenD, intD, listD, tupleD, reprD, wPen0, wPen1, wPen2, wPenS1, wPenS2, penAt, List.map_cons, List.map_nil, List.length_cons, List.length_nil, List.nil_append, List.cons_append, Nat.reduceAdd, Nat.reduceSub, Nat.reduceLeDiff, Nat.zero_add, List.replicate_zero, List.replicate_succ, List.getElem?_cons_zero, List.getElem?_cons_succ, List.set_cons_zero, List.set_cons_succ, Option.some.injEq, Slot.dat.injEq, Slot.own.injEq, PyData.bool.injEq, PyData.int.injEq, PyData.tuple.injEq, PyData.list.injEq, exists_eq_left', exists_eq_left, and_true, true_and, if_true, if_false, Bool.false_eq_true, reduceCtorEq, List.mapIdx_cons, List.mapIdx_nil]
  refine ⟨_, rfl, ⟨_, _, _, rfl⟩, ?_⟩
  dsimp only
  refine ⟨_, rfl, ?_⟩
  rw [brkR_eq] at q
  rcases Bool.eq_false_or_eq_true (isN v) with h | h
  · rw [if_neg (by rw [h]; decide)]
    rw [if_pos h] at q
    exact ⟨es, ts, c, v, cs.length, rfl, he, ht.int, ht.1, c0, c1, q⟩
  · rw [if_pos (by rw [h]; rfl)]
    rw [if_neg (by rw [h]; decide)] at q
    exact ⟨es, ts, c, v, cs.length, rfl, he, ht.int.ok, by have := ht.1; omega, c0, c1, gv, q⟩
def x_list_breaks : Wo := fun ds k Q _ => ∃ (cs rs ts : List D), ds = [.tuple rs, .tuple ts] ∧ okRuls cs rs ∧ okTab cs ts ∧ Q (allTo rs ts rs.length) k
theorem n_list_breaks : Wo.Mono x_list_breaks := fun ds k Q Q' x x' h1 _ ⟨cs, rs, ts, e, p1, p2, q⟩ => ⟨cs, rs, ts, e, p1, p2, h1 _ _ q⟩
theorem o_list_breaks (T : Txt K mg A) (d_broken_rows : Def P w K mg base "broken_rows" 4 ["rule", "table"] w_broken_rows) (F : FunAt K mg "list_breaks" s_list_breaks ["rules", "table"]) : DefO P w K mg base "list_breaks" 5 ["rules", "table"] x_list_breaks := by
  refine defO F sc_list_breaks (fun ds k Q x ⟨cs, rs, ts, e, _⟩ => by rw [e]; rfl) fun f cdv Ar outer s H E p G hg hr => ⟨_, (dso_cons (ds_own (i := 2) (df_lst da_nil) sc_list_breaks.nd)
    (dso_cons (ds_for (passes_of rfl) rfl (di_rng1 (de_bi lenD.mono fitsLen call_len_seq (da_cons (de_var (pv 0)) da_nil) T.z_len) T.z_range) (dg_nm (i := 3) sc_list_breaks.nd)
    (dss_one (ds_for (passes_of rfl) rfl (di_seq (de_fn d_broken_rows m_broken_rows hg hr (takes_of rfl rfl rfl rfl) (da_cons (de_idx (de_var (pv 0)) (de_var (pv 3))) (da_cons (de_var (pv 1)) da_nil)))) (dg_nm (i := 4) sc_list_breaks.nd)
    (dss_one (ds_append (i := 2) (de_bin op_addA addD.mono fitsAdd (de_tup (da_cons (de_var (pv 3)) da_nil)) (de_var (pv 4))) (pv 2))))))
    (dso_own (pv 2)))), ?_⟩
  rintro ds n Q x ⟨cs, rs, ts, rfl, hrs, ht, q⟩
  simp only [wRet, wSet, wSeq, wNext, wDrop, wIfS, wTest, wAnd, wOr, wNot, wIf, wBin, wVar, wC, wAndV, wOrV, wNotV, wIsN, wNotN, wNeg, wChain, wNil, wCons, wTup, wLst, wBi, wCall, wIsi, wSl, wSo, wNo, wSeqI, wFor, gNm, gTp, puts, wAsg, wPar, wMul, wmD, wmO, putsI, wAug, wTryIs, wRng1, wRng2, wEnum, wEnumT, wZip, wLc, wYes, wLend, wRel, wOwn, wApp, wIns, wSetIx, wLstF, wListF, wRepF, wAddF, wSlS, wParO, wRevT, wSortedSet, wSortedSetL, wSortedSetT, wKeys, weI, wExt, allD, wMt, wRaise, wSeqO, wCallF, plainO, wCallA, wIdx0, wAnF, wSetA, wUnA, wSeqA, plainA, wFld, wFldO, wMake, wLRg, Ans.data, Ans.own.injEq, Ans.tup.injEq, Ans.dat.injEq, wTry, wTryM, wHs, wIsC, enOf, put, putUn, defEnds, lendE, lend, wipeE, hide, lenD, intD, listD, tupleD, reprD, wPen0, wPen1, wPen2, wPenS1, wPenS2, penAt, List.map_cons, List.map_nil, List.length_cons, List.length_nil, List.nil_append, List.cons_append, Nat.reduceAdd, Nat.reduceSub, Nat.reduceLeDiff, Nat.zero_add, List.replicate_zero, List.replicate_succ, List.getElem?_cons_zero, List.getElem?_cons_succ, List.set_cons_zero, List.set_cons_succ, Option.some.injEq, Slot.dat.injEq, Slot.own.injEq, PyData.bool.injEq, PyData.int.injEq, PyData.tuple.injEq, PyData.list.injEq, exists_eq_left', exists_eq_left, and_true, true_and, if_true, if_false, Bool.false_eq_true, reduceCtorEq, List.mapIdx_cons, List.mapIdx_nil]
  have hl8 := hrs.1
  refine ⟨by omega,
        by omega, ?_⟩
  rw [Int.toNat_natCast]
  refine wLoop.ind (fun ds e => ∃ (j : Nat) (u3 u4 : Slot), e = ⟨[.dat (.tuple rs), .dat (.tuple ts), .own (allTo rs ts j), u3, u4], n⟩ ∧ j ≤ rs.length ∧ ds = rngD j (rs.length - j)) ?_ ?_ ⟨0, _, _, rfl, Nat.zero_le _, rfl⟩
  · rintro e ⟨j, u3, u4, rfl, hj, hd⟩
    have ej : j = rs.length := by
      have := congrArg List.length hd
      rw [rngD_length, List.length_nil] at this
      omega
    subst ej
    exact ⟨_, rfl, q⟩
  · rintro d ds e ih ⟨j, u3, u4, rfl, hj, hd⟩
    obtain ⟨t, ht'⟩ : ∃ t, rs.length - j = t + 1 := by
      have := congrArg List.length hd
      rw [rngD_length, List.length_cons] at this
      exact ⟨ds.length, this.symm⟩
    rw [ht', rngD_succ] at hd
    injection hd with hd1 hd2
    subst hd1 hd2
    have j1 : (j : Int) < rs.length := by omega
    have hm := getD_mem (Int.natCast_nonneg j) j1
    have at1 := atI_pos (Int.natCast_nonneg j) j1
    rw [Int.toNat_natCast] at hm at1
    have fl := allTo_len (rs := rs) (rows := ts) ht.1 (j := j)
    have bl := brkR_len (rows := ts) (r := rs.getD j .none) ht.1
    have bi := brkR_in (rows := ts) (r := rs.getD j .none) ht.1
    simp only [wRet, wSet, wSeq, wNext, wDrop, wIfS, wTest, wAnd, wOr, wNot, wIf, wBin, wVar, wC, wAndV, wOrV, wNotV, wIsN, wNotN, wNeg, wChain, wNil, wCons, wTup, wLst, wBi, wCall, wIsi, wSl, wSo, wNo, wSeqI, wFor, gNm, gTp, puts, wAsg, wPar, wMul, wmD, wmO, putsI, wAug, wTryIs, wRng1, wRng2, wEnum, wEnumT, wZip, wLc, wYes, wLend, wRel, wOwn, wApp, wIns, wSetIx, wLstF, wListF, wRepF, wAddF, wSlS, wParO, wRevT, wSortedSet, wSortedSetL, wSortedSetT, wKeys, weI, wExt, allD, wMt, wRaise, wSeqO, wCallF, plainO, wCallA, wIdx0, wAnF, wSetA, wUnA, wSeqA, plainA, wFld, wFldO, wMake, wLRg, Ans.data, Ans.own.injEq, Ans.tup.injEq, Ans.dat.injEq, wTry, wTryM, wHs, wIsC, enOf, put, putUn, defEnds, lendE, lend, wipeE, hide, lenD, intD, listD, tupleD, reprD, wPen0, wPen1, wPen2, wPenS1, wPenS2, penAt, List.map_cons, List.map_nil, List.length_cons, List.length_nil, List.nil_append, List.cons_append, Nat.reduceAdd, Nat.reduceSub, Nat.reduceLeDiff, Nat.zero_add, List.replicate_zero, List.replicate_succ, List.getElem?_cons_zero, List.getElem?_cons_succ, List.set_cons_zero, List.set_cons_succ, Option.some.injEq, Slot.dat.injEq, Slot.own.injEq, PyData.bool.injEq, PyData.int.injEq, PyData.tuple.injEq, PyData.list.injEq, exists_eq_left', exists_eq_left, and_true, true_and, if_true, if_false, Bool.false_eq_true, reduceCtorEq, List.mapIdx_cons, List.mapIdx_nil, addD]
    refine ⟨_, at1, cs, ts, _, rfl, hrs.2 _ hm, ht, _, rfl, ?_⟩
    have next : ∀ (acc : List D) (u4 : Slot), acc = allTo rs ts j ++ (brkR ts (rs.getD j .none)).map (tag j) → wLoop _ _ _ _ (⟨[.dat (.tuple rs), .dat (.tuple ts), .own acc, .dat (.int j), u4], n⟩ : En) := fun acc u4 ea => ih _ ⟨j + 1, .dat (.int j), u4, by rw [ea, allTo_succ], by omega, by
      rw [show rs.length - (j + 1) = t by omega]
      rfl⟩
    generalize brkR ts (rs.getD j .none) = bs at next bl bi
    refine wLoop.ind (fun es e => ∃ (ys : List D) (u4 : Slot), e = ⟨[.dat (.tuple rs), .dat (.tuple ts), .own (allTo rs ts j ++ ys.map (tag j)), .dat (.int j), u4], n⟩ ∧ ys ++ es = bs) ?_ ?_ ⟨[], _, by rw [List.map_nil, List.append_nil], rfl⟩
    · rintro e ⟨ys, u4, rfl, hy⟩
      rw [List.append_nil] at hy
      subst hy
      exact next _ _ rfl
    · rintro b es e ih2 ⟨ys, u4, rfl, hy⟩
      obtain ⟨xs, rfl, xl, _⟩ := bi b (by rw [← hy]; simp)
      have yl : ys.length ≤ 64 := by
        have := congrArg List.length hy
        rw [List.length_append] at this
        omega
      simp only [wRet, wSet, wSeq, wNext, wDrop, wIfS, wTest, wAnd, wOr, wNot, wIf, wBin, wVar, wC, wAndV, wOrV, wNotV, wIsN, wNotN, wNeg, wChain, wNil, wCons, wTup, wLst, wBi, wCall, wIsi, wSl, wSo, wNo, wSeqI, wFor, gNm, gTp, puts, wAsg, wPar, wMul, wmD, wmO, putsI, wAug, wTryIs, wRng1, wRng2, wEnum, wEnumT, wZip, wLc, wYes, wLend, wRel, wOwn, wApp, wIns, wSetIx, wLstF, wListF, wRepF, wAddF, wSlS, wParO, wRevT, wSortedSet, wSortedSetL, wSortedSetT, wKeys, weI, wExt, allD, wMt, wRaise, wSeqO, wCallF, plainO, wCallA, wIdx0, wAnF, wSetA, wUnA, wSeqA, plainA, wFld, wFldO, wMake, wLRg, Ans.data, Ans.own.injEq, Ans.tup.injEq, Ans.dat.injEq, wTry, wTryM, wHs, wIsC, enOf, put, putUn, defEnds, lendE, lend, wipeE, hide, lenD, intD, listD, tupleD, reprD, wPen0, wPen1, wPen2, wPenS1, wPenS2, penAt, List.map_cons, List.map_nil, List.length_cons, List.length_nil, List.nil_append, List.cons_append, Nat.reduceAdd, Nat.reduceSub, Nat.reduceLeDiff, Nat.zero_add, List.replicate_zero, List.replicate_succ, List.getElem?_cons_zero, List.getElem?_cons_succ, List.set_cons_zero, List.set_cons_succ, Option.some.injEq, Slot.dat.injEq, Slot.own.injEq, PyData.bool.injEq, PyData.int.injEq, PyData.tuple.injEq, PyData.list.injEq, exists_eq_left', exists_eq_left, and_true, true_and, if_true, if_false, Bool.false_eq_true, reduceCtorEq, List.mapIdx_cons, List.mapIdx_nil, addD]
      refine ⟨⟨_, rfl⟩, by rw [sizeLine_eq]; omega, by rw [List.length_append, List.length_map]; omega, ih2 _ ⟨ys ++ [.tuple xs], _, by rw [List.map_append, ← List.append_assoc]; rfl, by rw [List.append_assoc]; exact hy⟩⟩
theorem m_list_breaks : Wc.Mono (plainO x_list_breaks) := plainO.mono n_list_breaks
/-- the breaks of right rules in a right table -/
def x_breaks : Wo := fun ds k Q _ => ∃ (cs rs ts : List D), ds = [.tuple cs, .tuple rs, .tuple ts] ∧ okCols (.tuple cs) ∧ okRuls cs rs ∧ okTab cs ts ∧ Q (allTo rs ts rs.length) k
theorem n_breaks : Wo.Mono x_breaks := fun ds k Q Q' x x' h1 _ ⟨cs, rs, ts, e, p0, p1, p2, q⟩ => ⟨cs, rs, ts, e, p0, p1, p2, h1 _ _ q⟩
theorem o_breaks (T : Txt K mg A) (d_check_columns : Def P w K mg base "check_columns" 4 ["columns"] (w_check_columns A)) (d_check_rules : Def P w K mg base "check_rules" 7 ["columns", "rules"] (w_check_rules A)) (d_check_table : Def P w K mg base "check_table" 5 ["columns", "table"] (w_check_table A))
    (o_list_breaks : DefO P w K mg base "list_breaks" 5 ["rules", "table"] x_list_breaks) (F : FunAt K mg "breaks" s_breaks ["columns", "rules", "table"]) : DefO P w K mg base "breaks" 8 ["columns", "rules", "table"] x_breaks := by
  have m_check_rules := @m_check_rules A
  have m_check_table := @m_check_table A
  refine defO F sc_breaks (fun ds k Q x ⟨cs, rs, ts, e, _⟩ => by rw [e]; rfl) fun f cdv Ar outer s H E p G hg hr => ⟨_, (dso_cons (ds_drop (de_fn d_check_columns m_check_columns hg hr (takes_of rfl rfl rfl rfl) (da_cons (de_var (pv 0)) da_nil)))
    (dso_cons (ds_drop (de_fn d_check_rules m_check_rules hg hr (takes_of rfl rfl rfl rfl) (da_cons (de_var (pv 0)) (da_cons (de_var (pv 1)) da_nil))))
    (dso_cons (ds_drop (de_fn d_check_table m_check_table hg hr (takes_of rfl rfl rfl rfl) (da_cons (de_var (pv 0)) (da_cons (de_var (pv 2)) da_nil))))
    (dso_ret (df_fn o_list_breaks n_list_breaks hg hr (takes_of rfl rfl rfl rfl) (da_cons (de_var (pv 1)) (da_cons (de_var (pv 2)) da_nil))))))), ?_⟩
  rintro ds n Q x ⟨cs, rs, ts, rfl, hc, hrs, ht, q⟩
  obtain ⟨cs', ec, _, c1, c4, _⟩ := id hc
  cases ec
  have ci := cols_ish hc.ok.good hc.b
  simp only [wRet, wSet, wSeq, wNext, wDrop, wIfS, wTest, wAnd, wOr, wNot, wIf, wBin, wVar, wC, wAndV, wOrV, wNotV, wIsN, wNotN, wNeg, wChain, wNil, wCons, wTup, wLst, wBi, wCall, wIsi, wSl, wSo, wNo, wSeqI, wFor, gNm, gTp, puts, wAsg, wPar, wMul, wmD, wmO, putsI, wAug, wTryIs, wRng1, wRng2, wEnum, wEnumT, wZip, wLc, wYes, wLend, wRel, wOwn, wApp, wIns, wSetIx, wLstF, wListF, wRepF, wAddF, wSlS, wParO, wRevT, wSortedSet, wSortedSetL, wSortedSetT, wKeys, weI, wExt, allD, wMt, wRaise, wSeqO, wCallF, plainO, wCallA, wIdx0, wAnF, wSetA, wUnA, wSeqA, plainA, wFld, wFldO, wMake, wLRg, Ans.data, Ans.own.injEq, Ans.tup.injEq, Ans.dat.injEq, wTry, wTryM, wHs, wIsC, enOf, put, putUn, defEnds, lendE, lend, wipeE, hide, lenD, intD, listD, tupleD, reprD, wPen0, wPen1, wPen2, wPenS1, wPenS2, penAt, List.map_cons, List.map_nil, List.length_cons, List.length_nil, List.nil_append, List.cons_append, Nat.reduceAdd, Nat.reduceSub, Nat.reduceLeDiff, Nat.zero_add, List.replicate_zero, List.replicate_succ, List.getElem?_cons_zero, List.getElem?_cons_succ, List.set_cons_zero, List.set_cons_succ, Option.some.injEq, Slot.dat.injEq, Slot.own.injEq, PyData.bool.injEq, PyData.int.injEq, PyData.tuple.injEq, PyData.list.injEq, exists_eq_left', exists_eq_left, and_true, true_and, if_true, if_false, Bool.false_eq_true, reduceCtorEq, List.mapIdx_cons, List.mapIdx_nil]
  refine ⟨_, rfl, hc.ok.good, fun _ => ?_, fun z => by (rw [hc.b] at z; cases z)⟩
  refine ⟨cs, _, rfl, ⟨ci, hrs.good.good⟩, fun _ => ?_, fun z => by (rw [hrs.b] at z; cases z)⟩
  refine ⟨cs, _, rfl, ⟨ci, (ht.good c4).good⟩, fun _ => ?_, fun z => by (rw [ht.b] at z; cases z)⟩
  exact ⟨cs, rs, ts, rfl, hrs, ht, q⟩
def w_holds : Wc := fun ds k Q _ => ∃ (cs ts : List D) (r : D), ds = [.tuple cs, r, .tuple ts] ∧ okCols (.tuple cs) ∧ okRule cs r ∧ okTab cs ts ∧ Q (.bool (decide (brkR ts r = []))) k
theorem m_holds : Wc.Mono w_holds := fun ds k Q Q' x x' h1 _ ⟨cs, ts, r, e, p0, p1, p2, q⟩ => ⟨cs, ts, r, e, p0, p1, p2, h1 _ _ q⟩
theorem d_holds (T : Txt K mg A) (d_check_columns : Def P w K mg base "check_columns" 4 ["columns"] (w_check_columns A)) (d_check_rule : Def P w K mg base "check_rule" 6 ["columns", "rule"] (w_check_rule A)) (d_check_table : Def P w K mg base "check_table" 5 ["columns", "table"] (w_check_table A))
    (d_broken_rows : Def P w K mg base "broken_rows" 4 ["rule", "table"] w_broken_rows) (F : FunAt K mg "holds" s_holds ["columns", "rule", "table"]) : Def P w K mg base "holds" 8 ["columns", "rule", "table"] w_holds := by
  have m_check_rule := @m_check_rule A
  have m_check_table := @m_check_table A
  refine defD F sc_holds (fun ds k Q x ⟨cs, rs, ts, e, _⟩ => by rw [e]; rfl) fun f cdv Ar outer s H E p G hg hr => ⟨_, (dss_cons (ds_drop (de_fn d_check_columns m_check_columns hg hr (takes_of rfl rfl rfl rfl) (da_cons (de_var (pv 0)) da_nil)))
    (dss_cons (ds_drop (de_fn d_check_rule m_check_rule hg hr (takes_of rfl rfl rfl rfl) (da_cons (de_var (pv 0)) (da_cons (de_var (pv 1)) da_nil))))
    (dss_cons (ds_drop (de_fn d_check_table m_check_table hg hr (takes_of rfl rfl rfl rfl) (da_cons (de_var (pv 0)) (da_cons (de_var (pv 2)) da_nil))))
    (dss_one (ds_ret (de_cmp (op_eqA hr.units) eqD.mono fitsEq (de_bi lenD.mono fitsLen call_len_seq (da_cons (de_fn d_broken_rows m_broken_rows hg hr (takes_of rfl rfl rfl rfl) (da_cons (de_var (pv 1)) (da_cons (de_var (pv 2)) da_nil))) da_nil) T.z_len) de_int)))))), ?_⟩
  rintro ds n Q x ⟨cs, ts, r, rfl, hc, hr', ht, q⟩
  obtain ⟨cs', ec, _, c1, c4, _⟩ := id hc
  cases ec
  have ci := cols_ish hc.ok.good hc.b
  simp only [wRet, wSet, wSeq, wNext, wDrop, wIfS, wTest, wAnd, wOr, wNot, wIf, wBin, wVar, wC, wAndV, wOrV, wNotV, wIsN, wNotN, wNeg, wChain, wNil, wCons, wTup, wLst, wBi, wCall, wIsi, wSl, wSo, wNo, wSeqI, wFor, gNm, gTp, puts, wAsg, wPar, wMul, wmD, wmO, putsI, wAug, wTryIs, wRng1, wRng2, wEnum, wEnumT, wZip, wLc, wYes, wLend, wRel, wOwn, wApp, wIns, wSetIx, wLstF, wListF, wRepF, wAddF, wSlS, wParO, wRevT, wSortedSet, wSortedSetL, wSortedSetT, wKeys, weI, wExt, allD, wMt, wRaise, wSeqO, wCallF, plainO, wCallA, wIdx0, wAnF, wSetA, wUnA, wSeqA, plainA, wFld, wFldO, wMake, wLRg, Ans.data, Ans.own.injEq, Ans.tup.injEq, Ans.dat.injEq, wTry, wTryM, wHs, wIsC, enOf, put, putUn, defEnds, lendE, lend, wipeE, hide, lenD, intD, listD, tupleD, reprD, wPen0, wPen1, wPen2, wPenS1, wPenS2, penAt, List.map_cons, List.map_nil, List.length_cons, List.length_nil, List.nil_append, List.cons_append, Nat.reduceAdd, Nat.reduceSub, Nat.reduceLeDiff, Nat.zero_add, List.replicate_zero, List.replicate_succ, List.getElem?_cons_zero, List.getElem?_cons_succ, List.set_cons_zero, List.set_cons_succ, Option.some.injEq, Slot.dat.injEq, Slot.own.injEq, PyData.bool.injEq, PyData.int.injEq, PyData.tuple.injEq, PyData.list.injEq, exists_eq_left', exists_eq_left, and_true, true_and, if_true, if_false, Bool.false_eq_true, reduceCtorEq, List.mapIdx_cons, List.mapIdx_nil]
  refine ⟨_, rfl, hc.ok.good, fun _ => ?_, fun z => by (rw [hc.b] at z; cases z)⟩
  refine ⟨cs, _, rfl, ⟨ci, hr'.2.1.good⟩, fun _ => ?_, fun z => by (rw [hr'.1] at z; cases z)⟩
  refine ⟨cs, _, rfl, ⟨ci, (ht.good c4).good⟩, fun _ => ?_, fun z => by (rw [ht.b] at z; cases z)⟩
  refine ⟨cs, ts, r, rfl, hr', ht, .inl rfl, ?_⟩
  have e : PyData.eqv (.int ((brkR ts r).length : Int)) (.int 0) = decide (brkR ts r = []) := by
    rw [eqv_ints, decide_eq_decide]
    constructor
    · intro h
      exact List.length_eq_zero_iff.mp
            (by omega)
    · intro h
      rw [h]
      rfl
  rw [e]
  exact q
end
end L2.DL.K12




namespace L2.DL.K12
open PySem PySem.Spec
      PyProof.Rows
/-! ### the law's own: rules, tables, breaks -/
theorem ite_f {c : Bool} {a b : Prop} (hc : c = false) (h : b) : if c = true then a else b := by rw [if_neg (by rw [hc]; decide)]; exact h
theorem cut_to {xs : List D} {i : Nat} (h : i ≤ xs.length) : cutD xs none (some (i : Int)) = xs.take i := by
  unfold cutD
  rw [show HT.sIx xs.length 0 none = 0 from rfl, HT.sIx_nat, Nat.min_eq_left h, List.drop_zero, Nat.sub_zero]
theorem cut_from {xs : List D} {i : Nat} (h : i ≤ xs.length) : cutD xs (some (i : Int)) none = xs.drop i := by
  unfold cutD
  rw [show HT.sIx xs.length xs.length none = xs.length from rfl, HT.sIx_nat, Nat.min_eq_left h]
  exact List.take_of_length_le
        (by rw [List.length_drop]; omega)
theorem cut_one {xs : List D} {i : Nat} (h : i < xs.length) : cutD xs (some (i : Int)) (some ((i : Int) + 1)) = [xs.getD i .none] := by
  unfold cutD
  rw [show ((i : Int) + 1) = ((i + 1 : Nat) : Int) from rfl, HT.sIx_nat, HT.sIx_nat, Nat.min_eq_left (show i ≤ xs.length by omega), Nat.min_eq_left (show i + 1 ≤ xs.length by omega), show i + 1 - i = 1 by omega, List.drop_eq_getElem_cons h, List.getD_eq_getElem?_getD, List.getElem?_eq_getElem h]
  rfl
theorem mix {os rs : List D} {i : Nat} (h : i < os.length) (h' : i < rs.length) : cutD os none (some (i : Int)) ++ cutD rs (some (i : Int)) (some ((i : Int) + 1)) ++ cutD os (some ((i : Int) + 1)) none = os.set i (rs.getD i .none) := by
  rw [cut_to (by omega), cut_one h', show ((i : Int) + 1) = ((i + 1 : Nat) : Int) from rfl, cut_from (by omega), List.set_eq_take_append_cons_drop, if_pos h, List.append_assoc]
  rfl
theorem okRow.at {cs ys : List D} {i : Nat} (h : okRow cs ys) (i1 : i < cs.length) : okVal (cs.getD i .none) (ys.getD i .none) := by
  obtain ⟨v, h1, h2⟩ := h.2 i _ (List.getElem?_eq_getElem i1)
  rw [List.getD_eq_getElem?_getD, List.getD_eq_getElem?_getD, h1, List.getElem?_eq_getElem i1]
  exact h2
theorem okRow.put {cs ys : List D} {i : Nat} {v : D} (h : okRow cs ys) (i1 : i < cs.length) (hv : okVal (cs.getD i .none) v) : okRow cs (ys.set i v) := by
  refine ⟨by rw [List.length_set]; exact h.1, fun j c hc => ?_⟩
  by_cases e : i = j
  · subst e
    rw [List.getD_eq_getElem?_getD, hc] at hv
    exact ⟨v, List.getElem?_set_self (by rw [h.1]; omega), hv⟩
  · rw [List.getElem?_set_ne e]
    exact h.2 j c hc
section
variable {P : Program} {w : World} {K : PySem.W.Frag} {mg : Str → Option Value} {base : Heap} {A : Cls}
def w_law_rules : Wc := fun ds k Q _ => ∃ (cs : List D) (m k' : Nat), ds = [penD, .tuple cs, .int m] ∧ m ≤ 8 ∧ k = k' + 300 ∧ (∀ d ∈ cs, okCol d) ∧ 1 ≤ cs.length ∧ cs.length ≤ 4 ∧ ∀ rs k'', k' ≤ k'' → okRuls cs rs → Q (.tuple rs) k''
theorem m_law_rules : Wc.Mono w_law_rules := fun ds k Q Q' x x' h1 _ ⟨cs, m, k', p0, p1, p2, p3, p4, p5, q⟩ => ⟨cs, m, k', p0, p1, p2, p3, p4, p5, fun g k'' l z => h1 _ _ (q g k'' l z)⟩
theorem d_law_rules (T : Txt K mg A) (d_law_take : Def P w K mg base "_law_take" 2 ["_law_pen", "_law_many"] w_law_take) (d_law_rule : Def P w K mg base "_law_rule" 6 ["_law_pen", "_law_columns_here"] w_law_rule) (F : FunAt K mg "_law_rules" s_law_rules ["_law_pen", "_law_columns_here", "_law_many"]) : Def P w K mg base "_law_rules" 7 ["_law_pen", "_law_columns_here", "_law_many"] w_law_rules := by
  refine defD F sc_law_rules (fun ds k Q x ⟨cs, m, k', e, _⟩ => by rw [e]; rfl) fun f cdv Ar outer s H E p G hg hr => ⟨_, (dss_one (ds_ret (de_bt tupleD.mono fitsTuple call_tuple_of (da_cons (de_lc (own := [("_law_k", 3)]) rfl sc_law_rules.nd (di_rng1 (de_fn d_law_take m_law_take hg hr (takes_of rfl rfl rfl rfl) (da_cons (de_var (pv 0)) (da_cons (de_bin op_addA addD.mono fitsAdd (de_var (pv 2)) de_int) da_nil))) T.z_range) (blkOk_by (N := ["_law_pen", "_law_columns_here", "_law_many", "_law_k"]) (sc := defScope s_law_rules) (by decide +kernel)) (fun _ _ _ _ _ _ _ => (dgc_nm (i := 3) sc_law_rules.nd (by decide))) (fun _ _ _ _ _ _ _ => dts_nil) (fun _ _ _ _ _ _ _ => (de_fn d_law_rule m_law_rule hg hr takes0 (da_cons (de_var (pv 0)) (da_cons (de_var (pv 1)) da_nil))))) da_nil) T.z_tuple))), ?_⟩
  rintro ds n Q x ⟨cs, m, k', rfl, hm, rfl, hcs, hc1, hcl, q⟩
  simp only [wRet, wSet, wSeq, wNext, wDrop, wIfS, wTest, wAnd, wOr, wNot, wIf, wBin, wVar, wC, wAndV, wOrV, wNotV, wIsN, wNotN, wNeg, wChain, wNil, wCons, wTup, wLst, wBi, wCall, wIsi, wSl, wSo, wNo, wSeqI, wFor, gNm, gTp, puts, wAsg, wPar, wMul, wmD, wmO, putsI, wAug, wTryIs, wRng1, wRng2, wEnum, wEnumT, wZip, wLc, wYes, wLend, wRel, wOwn, wApp, wIns, wSetIx, wLstF, wListF, wRepF, wAddF, wSlS, wParO, wRevT, wSortedSet, wSortedSetL, wSortedSetT, wKeys, weI, wExt, allD, wMt, wRaise, wSeqO, wCallF, plainO, wCallA, wIdx0, wAnF, wSetA, wUnA, wSeqA, plainA, wFld, wFldO, wMake, wLRg, Ans.data, Ans.own.injEq, Ans.tup.injEq, Ans.dat.injEq, wTry, wTryM, wHs, wIsC, enOf, put, putUn, defEnds, lendE, lend, wipeE, hide, lenD, intD, listD, tupleD, reprD, wPen0, wPen1, wPen2, wPenS1, wPenS2, penAt, List.map_cons, List.map_nil, List.length_cons, List.length_nil, List.nil_append, List.cons_append, Nat.reduceAdd, Nat.reduceSub, Nat.reduceLeDiff, Nat.zero_add, List.replicate_zero, List.replicate_succ, List.getElem?_cons_zero, List.getElem?_cons_succ, List.set_cons_zero, List.set_cons_succ, Option.some.injEq, Slot.dat.injEq, Slot.own.injEq, PyData.bool.injEq, PyData.int.injEq, PyData.tuple.injEq, PyData.list.injEq, exists_eq_left', exists_eq_left, and_true, true_and, if_true, if_false, Bool.false_eq_true, reduceCtorEq, List.mapIdx_cons, List.mapIdx_nil, addD]
  refine ⟨(m : Int) + 1, k' + 299, rfl, rfl, by omega, small9 (by omega), fun t t0 t1 k1 l1 => ⟨_, rfl, by omega, by omega, ?_⟩⟩
  refine lcLoop.ind (fun acc es k3 => acc.length + es.length ≤ 8 ∧ (∀ o ∈ acc, okRule cs o) ∧ k' + 30 * es.length ≤ k3) ?_ ?_ ⟨by rw [rngD_length, List.length_nil]; omega, fun v hv => (nomatch hv), by rw [rngD_length]; omega⟩
  · rintro acc k3 ⟨al, ao, ak⟩
    exact q acc k3 (by simpa using ak) ⟨by simpa using al, ao⟩
  · rintro v es acc k3 ih3 ⟨al, ao, ak⟩
    rw [List.length_cons] at al ak
    obtain ⟨k3, rfl⟩ : ∃ k0, k3 = k0 + 30 := ⟨k3 - 30, by omega⟩
    simp only [wRet, wSet, wSeq, wNext, wDrop, wIfS, wTest, wAnd, wOr, wNot, wIf, wBin, wVar, wC, wAndV, wOrV, wNotV, wIsN, wNotN, wNeg, wChain, wNil, wCons, wTup, wLst, wBi, wCall, wIsi, wSl, wSo, wNo, wSeqI, wFor, gNm, gTp, puts, wAsg, wPar, wMul, wmD, wmO, putsI, wAug, wTryIs, wRng1, wRng2, wEnum, wEnumT, wZip, wLc, wYes, wLend, wRel, wOwn, wApp, wIns, wSetIx, wLstF, wListF, wRepF, wAddF, wSlS, wParO, wRevT, wSortedSet, wSortedSetL, wSortedSetT, wKeys, weI, wExt, allD, wMt, wRaise, wSeqO, wCallF, plainO, wCallA, wIdx0, wAnF, wSetA, wUnA, wSeqA, plainA, wFld, wFldO, wMake, wLRg, Ans.data, Ans.own.injEq, Ans.tup.injEq, Ans.dat.injEq, wTry, wTryM, wHs, wIsC, enOf, put, putUn, defEnds, lendE, lend, wipeE, hide, lenD, intD, listD, tupleD, reprD, wPen0, wPen1, wPen2, wPenS1, wPenS2, penAt, List.map_cons, List.map_nil, List.length_cons, List.length_nil, List.nil_append, List.cons_append, Nat.reduceAdd, Nat.reduceSub, Nat.reduceLeDiff, Nat.zero_add, List.replicate_zero, List.replicate_succ, List.getElem?_cons_zero, List.getElem?_cons_succ, List.set_cons_zero, List.set_cons_succ, Option.some.injEq, Slot.dat.injEq, Slot.own.injEq, PyData.bool.injEq, PyData.int.injEq, PyData.tuple.injEq, PyData.list.injEq, exists_eq_left', exists_eq_left, and_true, true_and, if_true, if_false, Bool.false_eq_true, reduceCtorEq, List.mapIdx_cons, List.mapIdx_nil]
    refine ⟨_, rfl, _, rfl, cs, k3, rfl, rfl, hcs, hc1, hcl, fun o k4 l4 hoo => ⟨by omega, ih3 _ _ ⟨by rw [List.length_append, List.length_singleton]; omega, fun u hu => (List.mem_append.mp hu).elim (ao u) fun h => by cases List.mem_singleton.mp h; exact hoo, by omega⟩⟩⟩
def w_law_table : Wc := fun ds k Q _ => ∃ (cs : List D) (m : Int) (k' : Nat), ds = [penD, .tuple cs, .int m] ∧ 0 ≤ m ∧ m ≤ 8 ∧ k = k' + 200 ∧ (∀ d ∈ cs, okCol d) ∧ 1 ≤ cs.length ∧ cs.length ≤ 4 ∧ ∀ ts k'', k' ≤ k'' → okTab cs ts → Q (.tuple ts) k''
theorem m_law_table : Wc.Mono w_law_table := fun ds k Q Q' x x' h1 _ ⟨cs, m, k', p0, p1, p2, p3, p4, p5, p6, q⟩ => ⟨cs, m, k', p0, p1, p2, p3, p4, p5, p6, fun g k'' l z => h1 _ _ (q g k'' l z)⟩
theorem d_law_table (T : Txt K mg A) (d_law_take : Def P w K mg base "_law_take" 2 ["_law_pen", "_law_many"] w_law_take) (d_law_one : Def P w K mg base "_law_one" 3 ["_law_pen", "_law_some"] w_law_one) (d_law_row : Def P w K mg base "_law_row" 5 ["_law_pen", "_law_columns_here"] w_law_row) (F : FunAt K mg "_law_table" s_law_table ["_law_pen", "_law_columns_here", "_law_many"]) : Def P w K mg base "_law_table" 6 ["_law_pen", "_law_columns_here", "_law_many"] w_law_table := by
  refine defD F sc_law_table (fun ds k Q x ⟨cs, m, k', e, _⟩ => by rw [e]; rfl) fun f cdv Ar outer s H E p G hg hr => ⟨_, (dss_cons (ds_set (i := 3) (de_tup da_nil) sc_law_table.nd)
    (dss_cons (ds_for (passes_of rfl) rfl (di_rng1 (de_var (pv 2)) T.z_range) (dg_nm (i := 4) sc_law_table.nd)
    (dss_cons (ds_set (i := 5) (de_fn d_law_row m_law_row hg hr (takes_of rfl rfl rfl rfl) (da_cons (de_var (pv 0)) (da_cons (de_var (pv 1)) da_nil))) sc_law_table.nd)
    (dss_cons (ds_if (dw_and (dt_cmp op_gt cmpD.mono fitsCmp (de_var (pv 4)) de_int) (dw_and1 (dt_cmp (op_eqA hr.units) eqD.mono fitsEq (de_fn d_law_take m_law_take hg hr (takes_of rfl rfl rfl rfl) (da_cons (de_var (pv 0)) (da_cons de_int da_nil))) de_int))).dt
    (dss_cons (ds_set (i := 6) (de_fn d_law_take m_law_take hg hr (takes_of rfl rfl rfl rfl) (da_cons (de_var (pv 0)) (da_cons (de_bi lenD.mono fitsLen call_len_seq (da_cons (de_var (pv 1)) da_nil) T.z_len) da_nil))) sc_law_table.nd)
    (dss_cons (ds_set (i := 7) (de_fn d_law_one m_law_one hg hr (takes_of rfl rfl rfl rfl) (da_cons (de_var (pv 0)) (da_cons (de_var (pv 3)) da_nil))) sc_law_table.nd)
    (dss_one (ds_set (i := 5) (de_bin op_addA addD.mono fitsAdd (de_bin op_addA addD.mono fitsAdd (de_sl (de_var (pv 7)) do_none (do_some (de_var (pv 6)))) (de_sl (de_var (pv 5)) (do_some (de_var (pv 6))) (do_some (de_bin op_addA addD.mono fitsAdd (de_var (pv 6)) de_int)))) (de_sl (de_var (pv 7)) (do_some (de_bin op_addA addD.mono fitsAdd (de_var (pv 6)) de_int)) do_none)) sc_law_table.nd))))
    dss_nil)
    (dss_one (ds_set (i := 3) (de_bin op_addA addD.mono fitsAdd (de_var (pv 3)) (de_tup (da_cons (de_var (pv 5)) da_nil))) sc_law_table.nd)))))
    (dss_one (ds_ret (de_var (pv 3)))))), ?_⟩
  rintro ds n Q x ⟨cs, m, k', rfl, m0, m8, rfl, hcs, hc1, hcl, q⟩
  simp only [wRet, wSet, wSeq, wNext, wDrop, wIfS, wTest, wAnd, wOr, wNot, wIf, wBin, wVar, wC, wAndV, wOrV, wNotV, wIsN, wNotN, wNeg, wChain, wNil, wCons, wTup, wLst, wBi, wCall, wIsi, wSl, wSo, wNo, wSeqI, wFor, gNm, gTp, puts, wAsg, wPar, wMul, wmD, wmO, putsI, wAug, wTryIs, wRng1, wRng2, wEnum, wEnumT, wZip, wLc, wYes, wLend, wRel, wOwn, wApp, wIns, wSetIx, wLstF, wListF, wRepF, wAddF, wSlS, wParO, wRevT, wSortedSet, wSortedSetL, wSortedSetT, wKeys, weI, wExt, allD, wMt, wRaise, wSeqO, wCallF, plainO, wCallA, wIdx0, wAnF, wSetA, wUnA, wSeqA, plainA, wFld, wFldO, wMake, wLRg, Ans.data, Ans.own.injEq, Ans.tup.injEq, Ans.dat.injEq, wTry, wTryM, wHs, wIsC, enOf, put, putUn, defEnds, lendE, lend, wipeE, hide, lenD, intD, listD, tupleD, reprD, wPen0, wPen1, wPen2, wPenS1, wPenS2, penAt, List.map_cons, List.map_nil, List.length_cons, List.length_nil, List.nil_append, List.cons_append, Nat.reduceAdd, Nat.reduceSub, Nat.reduceLeDiff, Nat.zero_add, List.replicate_zero, List.replicate_succ, List.getElem?_cons_zero, List.getElem?_cons_succ, List.set_cons_zero, List.set_cons_succ, Option.some.injEq, Slot.dat.injEq, Slot.own.injEq, PyData.bool.injEq, PyData.int.injEq, PyData.tuple.injEq, PyData.list.injEq, exists_eq_left', exists_eq_left, and_true, true_and, if_true, if_false, Bool.false_eq_true, reduceCtorEq, List.mapIdx_cons, List.mapIdx_nil]
  refine ⟨by omega,
        by omega, ?_⟩
  refine wLoop.ind (fun ds e => ∃ (ts : List D) (u4 u5 u6 u7 : Slot) (k : Nat), e = ⟨[.dat penD, .dat (.tuple cs), .dat (.int m), .dat (.tuple ts), u4, u5, u6, u7], k⟩ ∧ ds = rngD ts.length (m.toNat - ts.length) ∧ ts.length ≤ m.toNat ∧ (∀ d ∈ ts, ∃ xs, d = .tuple xs ∧ okRow cs xs) ∧ k' + 20 * (m.toNat - ts.length) ≤ k) ?_ ?_
    ⟨[], _, _, _, _, _, rfl, rfl, Nat.zero_le _, fun d hd => (nomatch hd), by rw [List.length_nil]; omega⟩
  · rintro e ⟨ts, u4, u5, u6, u7, k, rfl, hd, hl, ht, hk⟩
    refine ⟨_, rfl, q ts k (by omega) ⟨by omega, ht⟩⟩
  · rintro d ds e ih ⟨ts, u4, u5, u6, u7, k, rfl, hd, hl, ht, hk⟩
    obtain ⟨t, ht'⟩ : ∃ t, m.toNat - ts.length = t + 1 := by
      have := congrArg List.length hd
      rw [rngD_length, List.length_cons] at this
      exact ⟨ds.length, this.symm⟩
    rw [ht', rngD_succ] at hd
    injection hd with hd1 hd2
    subst hd1 hd2
    obtain ⟨k, rfl⟩ : ∃ k0, k = k0 + 20 := ⟨k - 20, by omega⟩
    simp only [wRet, wSet, wSeq, wNext, wDrop, wIfS, wTest, wAnd, wOr, wNot, wIf, wBin, wVar, wC, wAndV, wOrV, wNotV, wIsN, wNotN, wNeg, wChain, wNil, wCons, wTup, wLst, wBi, wCall, wIsi, wSl, wSo, wNo, wSeqI, wFor, gNm, gTp, puts, wAsg, wPar, wMul, wmD, wmO, putsI, wAug, wTryIs, wRng1, wRng2, wEnum, wEnumT, wZip, wLc, wYes, wLend, wRel, wOwn, wApp, wIns, wSetIx, wLstF, wListF, wRepF, wAddF, wSlS, wParO, wRevT, wSortedSet, wSortedSetL, wSortedSetT, wKeys, weI, wExt, allD, wMt, wRaise, wSeqO, wCallF, plainO, wCallA, wIdx0, wAnF, wSetA, wUnA, wSeqA, plainA, wFld, wFldO, wMake, wLRg, Ans.data, Ans.own.injEq, Ans.tup.injEq, Ans.dat.injEq, wTry, wTryM, wHs, wIsC, enOf, put, putUn, defEnds, lendE, lend, wipeE, hide, lenD, intD, listD, tupleD, reprD, wPen0, wPen1, wPen2, wPenS1, wPenS2, penAt, List.map_cons, List.map_nil, List.length_cons, List.length_nil, List.nil_append, List.cons_append, Nat.reduceAdd, Nat.reduceSub, Nat.reduceLeDiff, Nat.zero_add, List.replicate_zero, List.replicate_succ, List.getElem?_cons_zero, List.getElem?_cons_succ, List.set_cons_zero, List.set_cons_succ, Option.some.injEq, Slot.dat.injEq, Slot.own.injEq, PyData.bool.injEq, PyData.int.injEq, PyData.tuple.injEq, PyData.list.injEq, exists_eq_left', exists_eq_left, and_true, true_and, if_true, if_false, Bool.false_eq_true, reduceCtorEq, List.mapIdx_cons, List.mapIdx_nil]
    refine ⟨cs, k + 4, rfl, rfl, hcs, hcl, fun xs k2 l2 hx => ?_⟩
    dsimp only
    have more : ∀ (ys : List D) (e' : En) (k5 : Nat) (v6 v7 : Slot), okRow cs ys → k + 0 ≤ k5 + 0 → e' = ⟨[.dat penD, .dat (.tuple cs), .dat (.int m), .dat (.tuple (ts ++ [.tuple ys])), .dat (.int ts.length), .dat (.tuple ys), v6, v7], k5⟩ → _ := fun ys e' k5 v6 v7 hy hk5 ee => ih e' ⟨ts ++ [.tuple ys], _, _, _, _, k5, ee, by
      rw [List.length_append, List.length_singleton, show m.toNat - (ts.length + 1) = t by omega]
      rfl, by rw [List.length_append, List.length_singleton]; omega, fun d hd => (List.mem_append.mp hd).elim (ht d) fun h => by cases List.mem_singleton.mp h; exact ⟨ys, rfl, hy⟩, by rw [List.length_append, List.length_singleton]; omega⟩
    have tl1 : ts.length + 1 ≤ sizeLine := by rw [sizeLine_eq]; omega
    refine ⟨_, rfl, ?_⟩
    by_cases h0 : (0 : Int) < ts.length
    · refine ite_t (decide_eq_true h0) ?_
      obtain ⟨k2, rfl⟩ : ∃ k0, k2 = k0 + 3 := ⟨k2 - 3, by omega⟩
      refine ⟨2, k2 + 2, rfl, rfl, by decide, small9 (by decide), fun r r0 r2 k3 l3 => ⟨.inl rfl, _, rfl, ?_⟩⟩
      rw [eqv_ints]
      by_cases hr0 : r = 0
      · rw [if_pos (decide_eq_true hr0)]
        obtain ⟨k3, rfl⟩ : ∃ k0, k3 = k0 + 2 := ⟨k3 - 2, by omega⟩
        refine ⟨cs.length, k3 + 1, rfl, rfl, by omega, small9 (by omega), fun at_ a0 a1 k4 l4 => ?_⟩
        obtain ⟨k4, rfl⟩ : ∃ k0, k4 = k0 + 1 := ⟨k4 - 1, by omega⟩
        refine ⟨_, ts, k4, rfl, rfl, rfl, (fun z => by rw [z] at h0; exact absurd h0 (by decide)), by omega, fun o ho k5 l5 => ?_⟩
        obtain ⟨os, rfl, hos⟩ := ht o ho
        obtain ⟨i, rfl⟩ : ∃ i : Nat, at_ = i := ⟨at_.toNat, by omega⟩
        have il : i < cs.length := by omega
        have em := mix (os := os) (rs := xs) (i := i) (by rw [hos.1]; exact il) (by rw [hx.1]; exact il)
        have cl : ∀ {ys : List D} {lo hi : Option Int}, (cutD ys lo hi).length ≤ ys.length := fun {ys lo hi} => by
          unfold cutD
          rw [List.length_take,
                List.length_drop]
          omega
        have c1 := cl (ys := os) (lo := none) (hi := some (i : Int))
        have c2 := cl (ys := xs) (lo := some (i : Int)) (hi := some ((i : Int) + 1))
        have c3 := cl (ys := os) (lo := some ((i : Int) + 1)) (hi := none)
        have o1 := hos.1
        have x1 := hx.1
        refine ⟨_, rfl, _, rfl, _, rfl, by rw [sizeLine_eq]; omega, _, rfl, by rw [sizeLine_eq, List.length_append]; omega, ?_⟩
        rw [em]
        exact ⟨tl1, more _ _ k5 _ _ (hos.put il (hx.at il)) (by omega) rfl⟩
      · rw [if_neg (by rw [decide_eq_false hr0] <;> decide)]
        exact ⟨tl1, more _ _ k3 _ _ hx (by omega) rfl⟩
    · refine ite_f (decide_eq_false h0) ?_
      exact ⟨tl1, more _ _ k2 _ _ hx (by omega) rfl⟩
end
end L2.DL.K12




namespace L2.DL.K12
open PySem PySem.Spec
      PyProof.Rows
/-! ### the fewest rows -/
def rowsOf : D → List D
  | .tuple (_ :: ys) => ys
  | _ => []
def hit (os : List D) (d : D) : Bool := (rowsOf d).any fun y => inB y os
/-- a break: a rule's number, one or two rows of so many -/
def isBrk (many : Nat) (d : D) : Prop := ∃ (k : Int) (ns : List Nat), d = .tuple (.int k :: ns.map fun (n : Nat) => PyData.int (n : Int)) ∧ ns ≠ [] ∧ ns.length ≤ 2 ∧ (∀ n ∈ ns, n < many) ∧ 0 ≤ k ∧ k < 100
def natT (ns : List Nat) : D := .tuple (ns.map fun (n : Nat) => PyData.int (n : Int))
theorem natT_good {ns : List Nat} {m : Nat} (h : ∀ n ∈ ns, n < m) (hm : m ≤ 100) (hl : ns.length ≤ 100) : Good (natT ns) :=
  (Ok.tuple (n := 1) (m := 0) (k := 100) (fun d hd => by
    obtain ⟨n, hn, rfl⟩ := List.mem_map.mp hd
    have := h n hn
    exact Ok.int (by omega)) (by rw [List.length_map]; exact hl)).good
section
variable {P : Program} {w : World} {K : PySem.W.Frag} {mg : Str → Option Value} {base : Heap} {A : Cls}
def x_breaks_left : Wo := fun ds k Q _ => ∃ (many : Nat) (found os : List D), ds = [.list found, .tuple os] ∧ many ≤ 100 ∧ found.length ≤ 600 ∧ (∀ d ∈ found, isBrk many d) ∧ Good (.tuple os) ∧ Q (found.filter fun d => !hit os d) k
theorem n_breaks_left : Wo.Mono x_breaks_left := fun ds k Q Q' x x' h1 _ ⟨m, f, os, e, p1, p2, p3, p4, q⟩ => ⟨m, f, os, e, p1, p2, p3, p4, h1 _ _ q⟩
theorem o_breaks_left (T : Txt K mg A) (F : FunAt K mg "breaks_left" s_breaks_left ["found", "out"]) : DefO P w K mg base "breaks_left" 1 ["found", "out"] x_breaks_left := by
  refine defO F sc_breaks_left (fun ds k Q x ⟨_, f, os, e, _⟩ => by rw [e]; rfl) fun f cdv Ar outer s H E p G hg hr => ⟨_, (dso_cons (ds_own (i := 2) (df_lst da_nil) sc_breaks_left.nd)
    (dso_cons (ds_for (passes_of rfl) rfl (di_seq (de_var (pv 0))) (dg_nm (i := 3) sc_breaks_left.nd)
    (dss_one (ds_if (dt_not (dt_val (de_bi anyD.mono fitsAny (cr_any rfl) (da_cons (de_lc (own := [("row", 4)]) rfl sc_breaks_left.nd (di_seq (de_sl (de_var (pv 3)) (do_some de_int) do_none)) (blkOk_by (N := ["found", "out", "left", "told", "row"]) (sc := defScope s_breaks_left) (by decide +kernel)) (fun _ _ _ _ _ _ _ => (dgc_nm (i := 4) sc_breaks_left.nd (by decide))) (fun _ _ _ _ _ _ _ => dts_nil) (fun _ _ _ _ _ _ _ => (de_cmp (op_inA (hr65 hr)) inD.mono fitsIn (de_var (pv 4)) (de_var (pv 1))))) da_nil) T.z_any)))
    (dss_one (ds_append (i := 2) (de_var (pv 3)) (pv 2)))
    dss_nil)))
    (dso_own (pv 2)))), ?_⟩
  rintro ds n Q x ⟨many, found, os, rfl, hm, hl, hf, gos, q⟩
  simp only [wRet, wSet, wSeq, wNext, wDrop, wIfS, wTest, wAnd, wOr, wNot, wIf, wBin, wVar, wC, wAndV, wOrV, wNotV, wIsN, wNotN, wNeg, wChain, wNil, wCons, wTup, wLst, wBi, wCall, wIsi, wSl, wSo, wNo, wSeqI, wFor, gNm, gTp, puts, wAsg, wPar, wMul, wmD, wmO, putsI, wAug, wTryIs, wRng1, wRng2, wEnum, wEnumT, wZip, wLc, wYes, wLend, wRel, wOwn, wApp, wIns, wSetIx, wLstF, wListF, wRepF, wAddF, wSlS, wParO, wRevT, wSortedSet, wSortedSetL, wSortedSetT, wKeys, weI, wExt, allD, wMt, wRaise, wSeqO, wCallF, plainO, wCallA, wIdx0, wAnF, wSetA, wUnA, wSeqA, plainA, wFld, wFldO, wMake, wLRg, Ans.data, Ans.own.injEq, Ans.tup.injEq, Ans.dat.injEq, wTry, wTryM, wHs, wIsC, enOf, put, putUn, defEnds, lendE, lend, wipeE, hide, lenD, intD, listD, tupleD, reprD, wPen0, wPen1, wPen2, wPenS1, wPenS2, penAt, List.map_cons, List.map_nil, List.length_cons, List.length_nil, List.nil_append, List.cons_append, Nat.reduceAdd, Nat.reduceSub, Nat.reduceLeDiff, Nat.zero_add, List.replicate_zero, List.replicate_succ, List.getElem?_cons_zero, List.getElem?_cons_succ, List.set_cons_zero, List.set_cons_succ, Option.some.injEq, Slot.dat.injEq, Slot.own.injEq, PyData.bool.injEq, PyData.int.injEq, PyData.tuple.injEq, PyData.list.injEq, exists_eq_left', exists_eq_left, and_true, true_and, if_true, if_false, Bool.false_eq_true, reduceCtorEq, List.mapIdx_cons, List.mapIdx_nil]
  refine ⟨found, rfl, ?_⟩
  refine wLoop.ind (fun ds e => ∃ (acc : List D) (u3 u4 : Slot), e = ⟨[.dat (.list found), .dat (.tuple os), .own acc, u3, u4], n⟩ ∧ (∀ d ∈ ds, isBrk many d) ∧ acc.length + ds.length ≤ 600 ∧ acc ++ ds.filter (fun d => !hit os d) = found.filter fun d => !hit os d) ?_ ?_ ⟨[], _, _, rfl, hf, by simpa using hl, rfl⟩
  · rintro e ⟨acc, u3, u4, rfl, _, _, ea⟩
    rw [List.filter_nil, List.append_nil] at ea
    subst ea
    exact ⟨_, rfl, q⟩
  · rintro d ds e ih ⟨acc, u3, u4, rfl, hd, hl2, ea⟩
    obtain ⟨kk, ns, rfl, hne, hl1, hns, _, _⟩ := hd d List.mem_cons_self
    rw [List.length_cons] at hl2
    simp only [wRet, wSet, wSeq, wNext, wDrop, wIfS, wTest, wAnd, wOr, wNot, wIf, wBin, wVar, wC, wAndV, wOrV, wNotV, wIsN, wNotN, wNeg, wChain, wNil, wCons, wTup, wLst, wBi, wCall, wIsi, wSl, wSo, wNo, wSeqI, wFor, gNm, gTp, puts, wAsg, wPar, wMul, wmD, wmO, putsI, wAug, wTryIs, wRng1, wRng2, wEnum, wEnumT, wZip, wLc, wYes, wLend, wRel, wOwn, wApp, wIns, wSetIx, wLstF, wListF, wRepF, wAddF, wSlS, wParO, wRevT, wSortedSet, wSortedSetL, wSortedSetT, wKeys, weI, wExt, allD, wMt, wRaise, wSeqO, wCallF, plainO, wCallA, wIdx0, wAnF, wSetA, wUnA, wSeqA, plainA, wFld, wFldO, wMake, wLRg, Ans.data, Ans.own.injEq, Ans.tup.injEq, Ans.dat.injEq, wTry, wTryM, wHs, wIsC, enOf, put, putUn, defEnds, lendE, lend, wipeE, hide, lenD, intD, listD, tupleD, reprD, wPen0, wPen1, wPen2, wPenS1, wPenS2, penAt, List.map_cons, List.map_nil, List.length_cons, List.length_nil, List.nil_append, List.cons_append, Nat.reduceAdd, Nat.reduceSub, Nat.reduceLeDiff, Nat.zero_add, List.replicate_zero, List.replicate_succ, List.getElem?_cons_zero, List.getElem?_cons_succ, List.set_cons_zero, List.set_cons_succ, Option.some.injEq, Slot.dat.injEq, Slot.own.injEq, PyData.bool.injEq, PyData.int.injEq, PyData.tuple.injEq, PyData.list.injEq, exists_eq_left', exists_eq_left, and_true, true_and, if_true, if_false, Bool.false_eq_true, reduceCtorEq, List.mapIdx_cons, List.mapIdx_nil, slD]
    rw [show cutD (PyData.int kk :: ns.map fun (n : Nat) => PyData.int (n : Int)) (some 1) none = ns.map fun (n : Nat) => PyData.int (n : Int) from by
      unfold cutD
      have e1 : HT.sIx (PyData.int kk :: ns.map fun (n : Nat) => PyData.int (n : Int)).length 0 (some 1) = 1 := by
        rw [show (some 1 : Option Int) = some ((1 : Nat) : Int) from rfl, HT.sIx_nat]
        simp
      have e2 : HT.sIx (PyData.int kk :: ns.map fun (n : Nat) => PyData.int (n : Int)).length (PyData.int kk :: ns.map fun (n : Nat) => PyData.int (n : Int)).length none = (PyData.int kk :: ns.map fun (n : Nat) => PyData.int (n : Int)).length := rfl
      rw [e1, e2, List.drop_succ_cons, List.drop_zero]
      exact List.take_of_length_le (by simp)]
    refine ⟨_, rfl, ?_⟩
    refine lcLoop.fm (fun y => some (.bool (inB y os))) (fun y hy A B h1 h2 => ?_) (by simp only [List.length_nil, List.length_map]; omega) ?_
    · obtain ⟨j, hj, rfl⟩ := List.mem_map.mp hy
      simp only [wRet, wSet, wSeq, wNext, wDrop, wIfS, wTest, wAnd, wOr, wNot, wIf, wBin, wVar, wC, wAndV, wOrV, wNotV, wIsN, wNotN, wNeg, wChain, wNil, wCons, wTup, wLst, wBi, wCall, wIsi, wSl, wSo, wNo, wSeqI, wFor, gNm, gTp, puts, wAsg, wPar, wMul, wmD, wmO, putsI, wAug, wTryIs, wRng1, wRng2, wEnum, wEnumT, wZip, wLc, wYes, wLend, wRel, wOwn, wApp, wIns, wSetIx, wLstF, wListF, wRepF, wAddF, wSlS, wParO, wRevT, wSortedSet, wSortedSetL, wSortedSetT, wKeys, weI, wExt, allD, wMt, wRaise, wSeqO, wCallF, plainO, wCallA, wIdx0, wAnF, wSetA, wUnA, wSeqA, plainA, wFld, wFldO, wMake, wLRg, Ans.data, Ans.own.injEq, Ans.tup.injEq, Ans.dat.injEq, wTry, wTryM, wHs, wIsC, enOf, put, putUn, defEnds, lendE, lend, wipeE, hide, lenD, intD, listD, tupleD, reprD, wPen0, wPen1, wPen2, wPenS1, wPenS2, penAt, List.map_cons, List.map_nil, List.length_cons, List.length_nil, List.nil_append, List.cons_append, Nat.reduceAdd, Nat.reduceSub, Nat.reduceLeDiff, Nat.zero_add, List.replicate_zero, List.replicate_succ, List.getElem?_cons_zero, List.getElem?_cons_succ, List.set_cons_zero, List.set_cons_succ, Option.some.injEq, Slot.dat.injEq, Slot.own.injEq, PyData.bool.injEq, PyData.int.injEq, PyData.tuple.injEq, PyData.list.injEq, exists_eq_left', exists_eq_left, and_true, true_and, if_true, if_false, Bool.false_eq_true, reduceCtorEq, List.mapIdx_cons, List.mapIdx_nil, inD]
      have := hns j hj
      exact ⟨_, rfl, (Ok.int (i := (j : Int)) (by omega)).good, gos, os, rfl, h2 _ rfl⟩
    · rw [List.nil_append, fmap_some]
      simp only [anyD]
      refine ⟨(ns.map fun (n : Nat) => PyData.int (n : Int)).map fun y => inB y os, by rw [List.map_map, List.map_map, List.map_map]; rfl, _, rfl, ?_⟩
      have eh : ((ns.map fun (n : Nat) => PyData.int (n : Int)).map fun y => inB y os).any id = hit os (.tuple (.int kk :: ns.map fun (n : Nat) => PyData.int (n : Int))) := by
        unfold hit rowsOf
        rw [List.any_map]
        rfl
      rw [eh]
      rw [List.filter_cons] at ea
      cases hh : hit os (.tuple (.int kk :: ns.map fun (n : Nat) => PyData.int (n : Int))) with
      | true =>
        rw [hh] at ea
        simp only [Bool.not_true, if_false, Bool.false_eq_true] at ea ⊢
        exact ih _ ⟨acc, _, _, rfl, fun d h => hd d (List.mem_cons_of_mem _ h), by omega, ea⟩
      | false =>
        rw [hh] at ea
        simp only [Bool.not_false, if_true] at ea ⊢
        exact ⟨⟨_, rfl⟩, by omega, ih _ ⟨_, _, _, rfl, fun d h => hd d (List.mem_cons_of_mem _ h), by rw [List.length_append, List.length_singleton]; omega, by rw [List.append_assoc]; exact ea⟩⟩
def w_fewest_rows : Wc := fun ds k Q _ => ∃ (many : Nat) (found : List D), ds = [.list found, .int (many : Int)] ∧ many ≤ 8 ∧ found.length ≤ 600 ∧ (∀ d ∈ found, isBrk many d) ∧
  ∀ os : List Nat, (∀ n ∈ os, n < many) → os.length ≤ 8 → (∀ d ∈ found, hit (os.map fun (n : Nat) => PyData.int (n : Int)) d = true) → (os = [] ↔ found = []) → Q (natT os) k
theorem m_fewest_rows : Wc.Mono w_fewest_rows := fun ds k Q Q' x x' h1 _ ⟨m, f, e, p1, p2, p3, q⟩ => ⟨m, f, e, p1, p2, p3, fun os z1 z2 z3 z4 => h1 _ _ (q os z1 z2 z3 z4)⟩
theorem d_fewest_rows (T : Txt K mg A) (o_breaks_left : DefO P w K mg base "breaks_left" 1 ["found", "out"] x_breaks_left) (F : FunAt K mg "fewest_rows" s_fewest_rows ["found", "many"]) : Def P w K mg base "fewest_rows" 2 ["found", "many"] w_fewest_rows := by
  have d_breaks_left := o_breaks_left.plain n_breaks_left
  have m_breaks_left : Wc.Mono (plainO x_breaks_left) := plainO.mono n_breaks_left
  refine defD F sc_fewest_rows (fun ds k Q x ⟨_, f, e, _⟩ => by rw [e]; rfl) fun f cdv Ar outer s H E p G hg hr => ⟨_, (dss_cons (ds_for (passes_of rfl) rfl (di_rng1 (de_var (pv 1)) T.z_range) (dg_nm (i := 2) sc_fewest_rows.nd)
    (dss_one (ds_for (passes_of rfl) rfl (di_cmb rfl (de_var (pv 1)) (de_var (pv 2)) T.z_combinations T.z_range) (dg_nm (i := 3) sc_fewest_rows.nd)
    (dss_one (ds_if (dt_cmp (op_eqA hr.units) eqD.mono fitsEq (de_bi lenD.mono fitsLen call_len_seq (da_cons (de_fn d_breaks_left m_breaks_left hg hr (takes_of rfl rfl rfl rfl) (da_cons (de_var (pv 0)) (da_cons (de_var (pv 3)) da_nil))) da_nil) T.z_len) de_int)
    (dss_one (ds_ret (de_var (pv 3))))
    dss_nil)))))
    (dss_one (ds_ret (de_trg (de_var (pv 1)) rfl T.z_tuple T.z_range)))), ?_⟩
  rintro ds n Q x ⟨many, found, rfl, hm, hl, hf, q⟩
  simp only [wRet, wSet, wSeq, wNext, wDrop, wIfS, wTest, wAnd, wOr, wNot, wIf, wBin, wVar, wC, wAndV, wOrV, wNotV, wIsN, wNotN, wNeg, wChain, wNil, wCons, wTup, wLst, wBi, wCall, wIsi, wSl, wSo, wNo, wSeqI, wFor, gNm, gTp, puts, wAsg, wPar, wMul, wmD, wmO, putsI, wAug, wTryIs, wRng1, wRng2, wEnum, wEnumT, wZip, wLc, wYes, wLend, wRel, wOwn, wApp, wIns, wSetIx, wLstF, wListF, wRepF, wAddF, wSlS, wParO, wRevT, wSortedSet, wSortedSetL, wSortedSetT, wKeys, weI, wExt, allD, wMt, wRaise, wSeqO, wCallF, plainO, wCallA, wIdx0, wAnF, wSetA, wUnA, wSeqA, plainA, wFld, wFldO, wMake, wLRg, Ans.data, Ans.own.injEq, Ans.tup.injEq, Ans.dat.injEq, wTry, wTryM, wHs, wIsC, enOf, put, putUn, defEnds, lendE, lend, wipeE, hide, lenD, intD, listD, tupleD, reprD, wPen0, wPen1, wPen2, wPenS1, wPenS2, penAt, List.map_cons, List.map_nil, List.length_cons, List.length_nil, List.nil_append, List.cons_append, Nat.reduceAdd, Nat.reduceSub, Nat.reduceLeDiff, Nat.zero_add, List.replicate_zero, List.replicate_succ, List.getElem?_cons_zero, List.getElem?_cons_succ, List.set_cons_zero, List.set_cons_succ, Option.some.injEq, Slot.dat.injEq, Slot.own.injEq, PyData.bool.injEq, PyData.int.injEq, PyData.tuple.injEq, PyData.list.injEq, exists_eq_left', exists_eq_left, and_true, true_and, if_true, if_false, Bool.false_eq_true, reduceCtorEq, List.mapIdx_cons, List.mapIdx_nil, wCmb, wTRg]
  refine ⟨by omega,
        by omega, ?_⟩
  rw [Int.toNat_natCast]
  have none_hit : ∀ d : D, hit [] d = false := fun d => by
    unfold hit
    exact List.any_eq_false.mpr fun y _ => by simp [inB]
  refine wLoop.rng many (fun t e => ∃ (u2 u3 : Slot), e = ⟨[.dat (.list found), .dat (.int (many : Int)), u2, u3], n⟩ ∧ (0 < t → found ≠ [])) ?_ ?_ ⟨_, _, rfl, fun h => absurd h (Nat.lt_irrefl 0)⟩
  · rintro t e tm ⟨u2, u3, rfl, hne⟩ N nx
    simp only [wRet, wSet, wSeq, wNext, wDrop, wIfS, wTest, wAnd, wOr, wNot, wIf, wBin, wVar, wC, wAndV, wOrV, wNotV, wIsN, wNotN, wNeg, wChain, wNil, wCons, wTup, wLst, wBi, wCall, wIsi, wSl, wSo, wNo, wSeqI, wFor, gNm, gTp, puts, wAsg, wPar, wMul, wmD, wmO, putsI, wAug, wTryIs, wRng1, wRng2, wEnum, wEnumT, wZip, wLc, wYes, wLend, wRel, wOwn, wApp, wIns, wSetIx, wLstF, wListF, wRepF, wAddF, wSlS, wParO, wRevT, wSortedSet, wSortedSetL, wSortedSetT, wKeys, weI, wExt, allD, wMt, wRaise, wSeqO, wCallF, plainO, wCallA, wIdx0, wAnF, wSetA, wUnA, wSeqA, plainA, wFld, wFldO, wMake, wLRg, Ans.data, Ans.own.injEq, Ans.tup.injEq, Ans.dat.injEq, wTry, wTryM, wHs, wIsC, enOf, put, putUn, defEnds, lendE, lend, wipeE, hide, lenD, intD, listD, tupleD, reprD, wPen0, wPen1, wPen2, wPenS1, wPenS2, penAt, List.map_cons, List.map_nil, List.length_cons, List.length_nil, List.nil_append, List.cons_append, Nat.reduceAdd, Nat.reduceSub, Nat.reduceLeDiff, Nat.zero_add, List.replicate_zero, List.replicate_succ, List.getElem?_cons_zero, List.getElem?_cons_succ, List.set_cons_zero, List.set_cons_succ, Option.some.injEq, Slot.dat.injEq, Slot.own.injEq, PyData.bool.injEq, PyData.int.injEq, PyData.tuple.injEq, PyData.list.injEq, exists_eq_left', exists_eq_left, and_true, true_and, if_true, if_false, Bool.false_eq_true, reduceCtorEq, List.mapIdx_cons, List.mapIdx_nil, wCmb]
    refine ⟨many, rfl, hm, t, rfl, by omega, ?_⟩
    refine wLoop.ind (fun ds e => ∃ (u3 : Slot), e = ⟨[.dat (.list found), .dat (.int (many : Int)), .dat (.int (t : Int)), u3], n⟩ ∧ (∀ d ∈ ds, ∃ ix ∈ cmbs many t, d = cmD ix) ∧ (t = 0 → ds = [] → found ≠ [])) ?_ ?_ ⟨_, rfl, fun d hd => ?_, fun ht hds => ?_⟩
    · rintro e ⟨u3, rfl, _, h0⟩
      refine nx _ ⟨_, _, rfl, fun _ => ?_⟩
      rcases Nat.eq_zero_or_pos t with ht | ht
      · exact h0 ht rfl
      · exact hne ht
    · rintro d ds e ih ⟨u3, rfl, hd, h0⟩
      obtain ⟨ix, hix, rfl⟩ := hd d List.mem_cons_self
      obtain ⟨hlt, hlen⟩ := mem_cmbs hm (by omega) hix
      simp only [wRet, wSet, wSeq, wNext, wDrop, wIfS, wTest, wAnd, wOr, wNot, wIf, wBin, wVar, wC, wAndV, wOrV, wNotV, wIsN, wNotN, wNeg, wChain, wNil, wCons, wTup, wLst, wBi, wCall, wIsi, wSl, wSo, wNo, wSeqI, wFor, gNm, gTp, puts, wAsg, wPar, wMul, wmD, wmO, putsI, wAug, wTryIs, wRng1, wRng2, wEnum, wEnumT, wZip, wLc, wYes, wLend, wRel, wOwn, wApp, wIns, wSetIx, wLstF, wListF, wRepF, wAddF, wSlS, wParO, wRevT, wSortedSet, wSortedSetL, wSortedSetT, wKeys, weI, wExt, allD, wMt, wRaise, wSeqO, wCallF, plainO, wCallA, wIdx0, wAnF, wSetA, wUnA, wSeqA, plainA, wFld, wFldO, wMake, wLRg, Ans.data, Ans.own.injEq, Ans.tup.injEq, Ans.dat.injEq, wTry, wTryM, wHs, wIsC, enOf, put, putUn, defEnds, lendE, lend, wipeE, hide, lenD, intD, listD, tupleD, reprD, wPen0, wPen1, wPen2, wPenS1, wPenS2, penAt, List.map_cons, List.map_nil, List.length_cons, List.length_nil, List.nil_append, List.cons_append, Nat.reduceAdd, Nat.reduceSub, Nat.reduceLeDiff, Nat.zero_add, List.replicate_zero, List.replicate_succ, List.getElem?_cons_zero, List.getElem?_cons_succ, List.set_cons_zero, List.set_cons_succ, Option.some.injEq, Slot.dat.injEq, Slot.own.injEq, PyData.bool.injEq, PyData.int.injEq, PyData.tuple.injEq, PyData.list.injEq, exists_eq_left', exists_eq_left, and_true, true_and, if_true, if_false, Bool.false_eq_true, reduceCtorEq, List.mapIdx_cons, List.mapIdx_nil]
      refine ⟨many, found, ix.map fun (n : Nat) => PyData.int (n : Int), rfl, by omega, hl, hf, natT_good hlt (by omega) (by omega), ?_⟩
      simp only [eqD]
      refine ⟨.inl rfl, _, rfl, ?_⟩
      rw [eqv_ints]
      by_cases hz : ((found.filter fun d => !hit (ix.map fun (n : Nat) => PyData.int (n : Int)) d).length : Int) = 0
      · rw [if_pos (decide_eq_true hz)]
        have he : found.filter (fun d => !hit (ix.map fun (n : Nat) => PyData.int (n : Int)) d) = [] := List.eq_nil_of_length_eq_zero (by omega)
        have hall : ∀ d ∈ found, hit (ix.map fun (n : Nat) => PyData.int (n : Int)) d = true := fun d hd => by
          have := List.filter_eq_nil_iff.mp he d hd
          simpa using this
        refine q ix hlt (by omega) hall ⟨fun e => ?_, fun e => ?_⟩
        · subst e
          cases hfo : found with
          | nil => rfl
          | cons d fs =>
            have := hall d (by rw [hfo]; exact List.mem_cons_self)
            rw [List.map_nil, none_hit] at this
            cases this
        · rcases Nat.eq_zero_or_pos t with ht | ht
          · exact List.eq_nil_of_length_eq_zero (by omega)
          · exact absurd e (hne ht)
      · rw [if_neg (by rw [decide_eq_false hz]; decide)]
        refine ih _ ⟨_, rfl, fun d h => hd d (List.mem_cons_of_mem _ h), fun ht _ e => hz ?_⟩
        rw [e]
        rfl
    · obtain ⟨ix, hix, rfl⟩ := List.mem_map.mp hd
      exact ⟨ix, hix, rfl⟩
    · subst ht
      rw [cmbs_zero] at hds
      cases hds
  · rintro e ⟨u2, u3, rfl, hne⟩
    simp only [wRet, wSet, wSeq, wNext, wDrop, wIfS, wTest, wAnd, wOr, wNot, wIf, wBin, wVar, wC, wAndV, wOrV, wNotV, wIsN, wNotN, wNeg, wChain, wNil, wCons, wTup, wLst, wBi, wCall, wIsi, wSl, wSo, wNo, wSeqI, wFor, gNm, gTp, puts, wAsg, wPar, wMul, wmD, wmO, putsI, wAug, wTryIs, wRng1, wRng2, wEnum, wEnumT, wZip, wLc, wYes, wLend, wRel, wOwn, wApp, wIns, wSetIx, wLstF, wListF, wRepF, wAddF, wSlS, wParO, wRevT, wSortedSet, wSortedSetL, wSortedSetT, wKeys, weI, wExt, allD, wMt, wRaise, wSeqO, wCallF, plainO, wCallA, wIdx0, wAnF, wSetA, wUnA, wSeqA, plainA, wFld, wFldO, wMake, wLRg, Ans.data, Ans.own.injEq, Ans.tup.injEq, Ans.dat.injEq, wTry, wTryM, wHs, wIsC, enOf, put, putUn, defEnds, lendE, lend, wipeE, hide, lenD, intD, listD, tupleD, reprD, wPen0, wPen1, wPen2, wPenS1, wPenS2, penAt, List.map_cons, List.map_nil, List.length_cons, List.length_nil, List.nil_append, List.cons_append, Nat.reduceAdd, Nat.reduceSub, Nat.reduceLeDiff, Nat.zero_add, List.replicate_zero, List.replicate_succ, List.getElem?_cons_zero, List.getElem?_cons_succ, List.set_cons_zero, List.set_cons_succ, Option.some.injEq, Slot.dat.injEq, Slot.own.injEq, PyData.bool.injEq, PyData.int.injEq, PyData.tuple.injEq, PyData.list.injEq, exists_eq_left', exists_eq_left, and_true, true_and, if_true, if_false, Bool.false_eq_true, reduceCtorEq, List.mapIdx_cons, List.mapIdx_nil, wTRg]
    refine ⟨many, rfl, by omega, ?_⟩
    have er : PyData.tuple (rngD 0 many) = natT (List.range many) := by
      unfold rngD natT
      congr 1
      exact List.map_congr_left fun i _ => by rw [Int.zero_add]
    rw [er]
    refine q (List.range many) (fun n h => List.mem_range.mp h) (by rw [List.length_range]; exact hm) (fun d hd => ?_) ⟨fun e => ?_, fun e => ?_⟩
    · obtain ⟨kk, ns, rfl, hns, _, hlt, _⟩ := hf d hd
      cases ns with
      | nil => exact absurd rfl hns
      | cons a as =>
        unfold hit rowsOf
        exact List.any_eq_true.mpr ⟨_, List.mem_cons_self, inB_mem (List.mem_map.mpr ⟨a, List.mem_range.mpr (hlt a List.mem_cons_self), rfl⟩)⟩
    · cases hfo : found with
      | nil => rfl
      | cons d fs =>
        obtain ⟨kk, ns, rfl, hns, _, hlt, _⟩ := hf d (by rw [hfo]; exact List.mem_cons_self)
        cases ns with
        | nil => exact absurd rfl hns
        | cons a as =>
          have := hlt a List.mem_cons_self
          rw [List.range_eq_nil] at e
          omega
    · rcases Nat.eq_zero_or_pos many with h | h
      · rw [h]; rfl
      · exact absurd e (hne h)
theorem brkR_nat {rows : List D} {r : D} : ∀ b ∈ brkR rows r, ∃ ns : List Nat, b = natT ns ∧ ns ≠ [] ∧ ns.length ≤ 2 ∧ ∀ n ∈ ns, n < rows.length := by
  intro b hb
  unfold brkR at hb
  split at hb
  · split at hb
    · obtain ⟨i, hi, hb⟩ := List.mem_flatMap.mp hb
      obtain ⟨u, hu, hb⟩ := List.mem_filterMap.mp hb
      rw [List.mem_range] at hi hu
      split at hb
      · cases hb
        refine ⟨[i, i + 1 + u], rfl, by simp, Nat.le_refl _, fun n hn => ?_⟩
        simp only [List.mem_cons, List.not_mem_nil, or_false] at hn
        omega
      · cases hb
    · obtain ⟨i, hi, hb⟩ := List.mem_filterMap.mp hb
      rw [List.mem_range] at hi
      unfold single at hb
      split at hb
      · cases hb
        refine ⟨[i], rfl, by simp, by simp, fun n hn => ?_⟩
        rw [List.mem_singleton.mp hn]
        exact hi
      · cases hb
  · cases hb
theorem allTo_brk {rs rows : List D} {j : Nat} (hj : j ≤ 8) : ∀ d ∈ allTo rs rows j, isBrk rows.length d := fun d hd => by
  obtain ⟨k, hk, hd⟩ := List.mem_flatMap.mp hd
  obtain ⟨b, hb, rfl⟩ :=
        List.mem_map.mp hd
  rw [List.mem_range] at hk
  obtain ⟨ns, rfl, h1, h2, h3⟩ := brkR_nat b hb
  exact ⟨(k : Int), ns, rfl, h1, h2, h3, by omega, by omega⟩
def w_fewest_out : Wc := fun ds k Q _ => ∃ (cs rs ts : List D), ds = [.tuple cs, .tuple rs, .tuple ts] ∧ okCols (.tuple cs) ∧ okRuls cs rs ∧ okTab cs ts ∧
  ∀ os : List Nat, (∀ n ∈ os, n < ts.length) → os.length ≤ 8 → (∀ d ∈ allTo rs ts rs.length, hit (os.map fun (n : Nat) => PyData.int (n : Int)) d = true) → (os = [] ↔ allTo rs ts rs.length = []) → Q (natT os) k
theorem m_fewest_out : Wc.Mono w_fewest_out := fun ds k Q Q' x x' h1 _ ⟨cs, rs, ts, e, p1, p2, p3, q⟩ => ⟨cs, rs, ts, e, p1, p2, p3, fun os z1 z2 z3 z4 => h1 _ _ (q os z1 z2 z3 z4)⟩
theorem d_fewest_out (T : Txt K mg A) (o_breaks : DefO P w K mg base "breaks" 8 ["columns", "rules", "table"] x_breaks) (d_fewest_rows : Def P w K mg base "fewest_rows" 2 ["found", "many"] w_fewest_rows) (F : FunAt K mg "fewest_out" s_fewest_out ["columns", "rules", "table"]) : Def P w K mg base "fewest_out" 9 ["columns", "rules", "table"] w_fewest_out := by
  have d_breaks := o_breaks.plain n_breaks
  have m_breaks : Wc.Mono (plainO x_breaks) := plainO.mono n_breaks
  refine defD F sc_fewest_out (fun ds k Q x ⟨_, _, _, e, _⟩ => by rw [e]; rfl) fun f cdv Ar outer s H E p G hg hr => ⟨_, (dss_one (ds_ret (de_fn d_fewest_rows m_fewest_rows hg hr (takes_of rfl rfl rfl rfl) (da_cons (de_fn d_breaks m_breaks hg hr (takes_of rfl rfl rfl rfl) (da_cons (de_var (pv 0)) (da_cons (de_var (pv 1)) (da_cons (de_var (pv 2)) da_nil)))) (da_cons (de_bi lenD.mono fitsLen call_len_seq (da_cons (de_var (pv 2)) da_nil) T.z_len) da_nil))))), ?_⟩
  rintro ds n Q x ⟨cs, rs, ts, rfl, hc, hrs, ht, q⟩
  simp only [wRet, wSet, wSeq, wNext, wDrop, wIfS, wTest, wAnd, wOr, wNot, wIf, wBin, wVar, wC, wAndV, wOrV, wNotV, wIsN, wNotN, wNeg, wChain, wNil, wCons, wTup, wLst, wBi, wCall, wIsi, wSl, wSo, wNo, wSeqI, wFor, gNm, gTp, puts, wAsg, wPar, wMul, wmD, wmO, putsI, wAug, wTryIs, wRng1, wRng2, wEnum, wEnumT, wZip, wLc, wYes, wLend, wRel, wOwn, wApp, wIns, wSetIx, wLstF, wListF, wRepF, wAddF, wSlS, wParO, wRevT, wSortedSet, wSortedSetL, wSortedSetT, wKeys, weI, wExt, allD, wMt, wRaise, wSeqO, wCallF, plainO, wCallA, wIdx0, wAnF, wSetA, wUnA, wSeqA, plainA, wFld, wFldO, wMake, wLRg, Ans.data, Ans.own.injEq, Ans.tup.injEq, Ans.dat.injEq, wTry, wTryM, wHs, wIsC, enOf, put, putUn, defEnds, lendE, lend, wipeE, hide, lenD, intD, listD, tupleD, reprD, wPen0, wPen1, wPen2, wPenS1, wPenS2, penAt, List.map_cons, List.map_nil, List.length_cons, List.length_nil, List.nil_append, List.cons_append, Nat.reduceAdd, Nat.reduceSub, Nat.reduceLeDiff, Nat.zero_add, List.replicate_zero, List.replicate_succ, List.getElem?_cons_zero, List.getElem?_cons_succ, List.set_cons_zero, List.set_cons_succ, Option.some.injEq, Slot.dat.injEq, Slot.own.injEq, PyData.bool.injEq, PyData.int.injEq, PyData.tuple.injEq, PyData.list.injEq, exists_eq_left', exists_eq_left, and_true, true_and, if_true, if_false, Bool.false_eq_true, reduceCtorEq, List.mapIdx_cons, List.mapIdx_nil]
  have hl := allTo_len (rs := rs) (rows := ts) ht.1 (j := rs.length)
  have h8 := hrs.1
  exact ⟨cs, rs, ts, rfl, hc, hrs, ht, ts.length, _, rfl, ht.1, by omega, allTo_brk hrs.1, q⟩
end
end L2.DL.K12




namespace L2.DL.K12
open PySem PySem.Spec
      PyProof.Rows
/-! ### the breaks of one rule among all -/
def firstIs (k : Nat) : D → Bool
  | .tuple (.int i :: _) => decide (i = (k : Int))
  | _ => false
theorem firstIs_tag {k j : Nat} {b : D} : firstIs k (tag j b) = decide (j = k) := by
  unfold firstIs tag
  simp only [decide_eq_decide]
  omega
theorem filter_tags {k j : Nat} {bs : List D} : (bs.map (tag j)).filter (firstIs k) = if j = k then bs.map (tag j) else [] := by
  split
  · rename_i h
    refine List.filter_eq_self.mpr fun d hd => ?_
    obtain ⟨b, _, rfl⟩ :=
          List.mem_map.mp hd
    rw [firstIs_tag]
    exact decide_eq_true h
  · rename_i h
    refine List.filter_eq_nil_iff.mpr fun d hd => ?_
    obtain ⟨b, _, rfl⟩ :=
          List.mem_map.mp hd
    rw [firstIs_tag, decide_eq_false h]
    decide
theorem allTo_own {rs rows : List D} {k : Nat} : ∀ {n : Nat}, (allTo rs rows n).filter (firstIs k) = if k < n then (brkR rows (rs.getD k .none)).map (tag k) else []
  | 0 => by simp [allTo]
  | n + 1 => by
    rw [allTo_succ, List.filter_append, allTo_own, filter_tags]
    by_cases h1 : k < n
    · rw [if_pos h1, if_neg (by omega), if_pos (by omega), List.append_nil]
    · rw [if_neg h1]
      by_cases h2 : n = k
      · subst h2
        rw [if_pos rfl, if_pos (by omega), List.nil_append]
      · rw [if_neg h2, if_neg (by omega)]
        rfl
/-- what is left when the rows of os go breaks nothing -/
theorem rest_pairs {es : List D} {c : Int} {rows rest : List D} {f : Nat → Nat} (hf : ∀ i j, i < j → j < rest.length → f i < f j) (hl : ∀ i, i < rest.length → f i < rows.length) (hr : ∀ i, i < rest.length → rest.getD i .none = rows.getD (f i) .none)
    (h : ∀ i j, i < j → j < rows.length → pairB es c rows i j = true → ¬ ((∃ a, a < rest.length ∧ f a = i) ∧ ∃ b, b < rest.length ∧ f b = j)) : pairsTo es c rest rest.length = [] := by
  refine List.flatMap_eq_nil_iff.mpr fun i hi => ?_
  rw [List.mem_range] at hi
  unfold pairsOf
  refine List.filterMap_eq_nil_iff.mpr fun u hu => ?_
  rw [List.mem_range] at hu
  have hj : i + 1 + u < rest.length := by omega
  have e : pairB es c rest i (i + 1 + u) = pairB es c rows (f i) (f (i + 1 + u)) := by
    unfold pairB rowI
    rw [hr i hi, hr _ hj]
  rw [if_neg]
  intro z
  rw [e] at z
  exact h _ _ (hf i _ (by omega) hj) (hl _ hj) z ⟨⟨i, hi, rfl⟩, _, hj, rfl⟩
end L2.DL.K12




namespace L2.DL.K12
open PySem PySem.Spec
      PyProof.Rows
/-! ### the breaks among the first rows -/
theorem fm_congr {F G : Nat → Option D} : ∀ {l : List Nat}, (∀ u ∈ l, F u = G u) → l.filterMap F = l.filterMap G
  | [], _ => rfl
  | u :: l, h => by
    rw [List.filterMap_cons, List.filterMap_cons, h u List.mem_cons_self, fm_congr fun x hx => h x (List.mem_cons_of_mem _ hx)]
theorem range_cut {F F' : Nat → Option D} {q : D → Bool} {t' : Nat} (h1 : ∀ u, u < t' → F' u = F u) (h2 : ∀ u, u < t' → ∀ d, F u = some d → q d = true) : ∀ {t : Nat}, t' ≤ t → (∀ u, t' ≤ u → u < t → ∀ d, F u = some d → q d = false) → ((List.range t).filterMap F).filter q = (List.range t').filterMap F' := by
  intro t ht h3
  induction t with
  | zero =>
    have : t' = 0 := by omega
    rw [this]
    rfl
  | succ t ih =>
    by_cases e : t' = t + 1
    · subst e
      rw [fm_congr (F := F') (G := F) fun u hu => h1 u (List.mem_range.mp hu)]
      refine List.filter_eq_self.mpr fun d hd => ?_
      obtain ⟨u, hu, e⟩ := List.mem_filterMap.mp hd
      exact h2 u (List.mem_range.mp hu) d e
    · rw [List.range_succ, List.filterMap_append, List.filter_append, ih (by omega) fun u a b => h3 u a (by omega)]
      have : ([t].filterMap F).filter q = [] := by
        refine List.filter_eq_nil_iff.mpr fun d hd => ?_
        obtain ⟨u, hu, e2⟩ := List.mem_filterMap.mp hd
        rw [List.mem_singleton.mp hu] at e2
        rw [h3 t (by omega) (Nat.lt_succ_self t) d e2]
        decide
      rw [this, List.append_nil]
def belowB (p : Nat) : D → Bool
  | .tuple xs => xs.all fun x => match x with
    | .int i => decide (i < (p : Int))
    | _ => false
  | _ => false
theorem getD_take {rows : List D} {p i : Nat} (h : i < p) : (rows.take p).getD i .none = rows.getD i .none := by
  rw [List.getD_eq_getElem?_getD, List.getD_eq_getElem?_getD, List.getElem?_take, if_pos h]
theorem singles_take {es : List D} {c : Int} {v : D} {rows : List D} {p : Nat} (hp : p ≤ rows.length) : (List.range p).filterMap (single es c v (rows.take p)) = ((List.range rows.length).filterMap (single es c v rows)).filter (belowB p) := by
  refine (range_cut (fun u hu => ?_) (fun u hu d e => ?_) hp fun u h1 h2 d e => ?_).symm
  · unfold single
    rw [getD_take hu]
  · unfold single at e
    split at e
    · cases e
      simp only [belowB, List.all_cons, List.all_nil, Bool.and_true, decide_eq_true_eq]
      omega
    · cases e
  · unfold single at e
    split at e
    · cases e
      simp only [belowB, List.all_cons, List.all_nil, Bool.and_true, decide_eq_false_iff_not]
      omega
    · cases e
theorem pairsOf_take {es : List D} {c : Int} {rows : List D} {p i : Nat} (hp : p ≤ rows.length) (hi : i < p) : pairsOf es c (rows.take p) i (p - (i + 1)) = (pairsOf es c rows i (rows.length - (i + 1))).filter (belowB p) := by
  unfold pairsOf
  refine (range_cut (fun u hu => ?_) (fun u hu d e => ?_) (by omega) fun u h1 h2 d e => ?_).symm
  · have e : pairB es c (rows.take p) i (i + 1 + u) = pairB es c rows i (i + 1 + u) := by
      unfold pairB rowI
      rw [getD_take hi, getD_take (by omega)]
    rw [e]
  · split at e
    · cases e
      simp only [belowB, List.all_cons, List.all_nil, Bool.and_true, Bool.and_eq_true, decide_eq_true_eq]
      omega
    · cases e
  · split at e
    · cases e
      simp only [belowB, List.all_cons, List.all_nil, Bool.and_true, Bool.and_eq_false_iff, decide_eq_false_iff_not]
      omega
    · cases e
theorem pairsOf_late {es : List D} {c : Int} {rows : List D} {p i t : Nat} (hi : p ≤ i) : (pairsOf es c rows i t).filter (belowB p) = [] := by
  refine List.filter_eq_nil_iff.mpr fun d hd => ?_
  obtain ⟨u, _, e⟩ := List.mem_filterMap.mp hd
  split at e
  · cases e
    simp only [belowB, List.all_cons, List.all_nil, Bool.and_true, Bool.and_eq_true, decide_eq_true_eq]
    omega
  · cases e
theorem pairsTo_take {es : List D} {c : Int} {rows : List D} {p : Nat} (hp : p ≤ rows.length) : pairsTo es c (rows.take p) p = (pairsTo es c rows rows.length).filter (belowB p) := by
  have len : (rows.take p).length = p := by rw [List.length_take]; omega
  have gen : ∀ n : Nat, ((List.range n).flatMap fun i => pairsOf es c rows i (rows.length - (i + 1))).filter (belowB p) = (List.range (min n p)).flatMap fun i => pairsOf es c (rows.take p) i (p - (i + 1)) := by
    intro n
    induction n with
    | zero => simp
    | succ n ih =>
      rw [List.range_succ, List.flatMap_append, List.filter_append, ih]
      by_cases h : n < p
      · rw [show min (n + 1) p = n + 1 by omega, show min n p = n by omega, List.range_succ, List.flatMap_append]
        congr 1
        simp only [List.flatMap_cons, List.flatMap_nil, List.append_nil]
        exact (pairsOf_take hp h).symm
      · rw [show min (n + 1) p = min n p by omega]
        simp only [List.flatMap_cons, List.flatMap_nil, List.append_nil]
        rw [pairsOf_late (by omega), List.append_nil]
  unfold pairsTo
  rw [len, gen, show min rows.length p = p by omega]
theorem brkR_take {rows : List D} {p : Nat} (hp : p ≤ rows.length) {r : D} : brkR (rows.take p) r = (brkR rows r).filter (belowB p) := by
  have len : (rows.take p).length = p := by rw [List.length_take]; omega
  unfold brkR
  split
  · split
    · rw [len]; exact pairsTo_take hp
    · rw [len]; exact singles_take hp
  · rfl
end L2.DL.K12




namespace L2.DL.K12
open PySem PySem.Spec
      PyProof.Rows
/-! ### the table turned round -/
def intsOf (m : Nat) (xs : List D) : Prop := xs.length = m ∧ ∀ x ∈ xs, ∃ i : Int, x = .int i ∧ i.natAbs < 2 ^ 120
theorem alike_turned {es xs ys : List D} {m : Nat} (he : entsOk es m) (hx : intsOf m xs) (hy : intsOf m ys) (hl : likeB es xs ys = true) : likeB es ys xs = true ∧ hasB es ys = hasB es xs := by
  induction es with
  | nil => exact ⟨rfl, rfl⟩
  | cons e es ih =>
    obtain ⟨i, b, rfl, h0, h1, hb⟩ := he e List.mem_cons_self
    simp only [likeB, List.all_cons, Bool.and_eq_true] at hl
    obtain ⟨q1, q2⟩ := ih (fun e h => he e (List.mem_cons_of_mem _ h)) hl.2
    obtain ⟨a, ea, _⟩ := hx.2 _ (getD_mem (xs := xs) h0 (by rw [hx.1]; exact h1))
    obtain ⟨c, ec, _⟩ := hy.2 _ (getD_mem (xs := ys) h0 (by rw [hy.1]; exact h1))
    have l1 := hl.1
    rw [ea, ec, eqv_ints, decide_eq_true_eq] at l1
    refine ⟨?_, ?_⟩
    · simp only [likeB, List.all_cons, Bool.and_eq_true]
      exact ⟨by rw [ea, ec, l1, eqv_ints]; exact decide_eq_true rfl, q1⟩
    · simp only [hasB, List.all_cons] at q2 ⊢
      rw [q2, ea, ec, l1]
theorem pair_turned {es : List D} {c : Int} {rows : List D} {m i j : Nat} (he : entsOk es m) (c0 : 0 ≤ c) (cm : c < m) (hi : intsOf m (rowI rows i)) (hj : intsOf m (rowI rows j)) (h : pairB es c rows i j = true) : pairB es c rows j i = true := by
  unfold pairB at h ⊢
  simp only [Bool.and_eq_true, Bool.not_eq_true'] at h ⊢
  obtain ⟨⟨h1, h2⟩, h3⟩ := h
  obtain ⟨q1, q2⟩ := alike_turned he hi hj h2
  obtain ⟨a, ea, _⟩ := hi.2 _ (getD_mem (xs := rowI rows i) c0 (by rw [hi.1]; exact cm))
  obtain ⟨b, eb, _⟩ := hj.2 _ (getD_mem (xs := rowI rows j) c0 (by rw [hj.1]; exact cm))
  rw [ea, eb, eqv_ints, decide_eq_false_iff_not] at h3
  exact ⟨⟨by rw [q2]; exact h1, q1⟩, by rw [ea, eb, eqv_ints, decide_eq_false_iff_not]; exact fun z => h3 z.symm⟩
theorem getD_turned {rows : List D} {i : Nat} (h : i < rows.length) : rows.reverse.getD i .none = rows.getD (rows.length - 1 - i) .none := by
  rw [List.getD_eq_getElem?_getD, List.getD_eq_getElem?_getD, List.getElem?_reverse h]
theorem rowI_ints {rows : List D} {m i : Nat} (h : intRows rows m) (hi : i < rows.length) : intsOf m (rowI rows i) := by
  have hm : rows.getD i .none ∈ rows := by
    rw [List.getD_eq_getElem?_getD,
          List.getElem?_eq_getElem hi]
    exact List.getElem_mem hi
  obtain ⟨xs, e, h1, h2⟩ := h _ hm
  unfold rowI
  rw [e]
  exact ⟨h1, h2⟩
/-- of two rows of the turned table, told by their places in the table -/
theorem pairB_rev {es : List D} {c : Int} {rows : List D} {m i j : Nat} (he : entsOk es m) (c0 : 0 ≤ c) (cm : c < m) (hr : intRows rows m) (hi : i < rows.length) (hj : j < rows.length) :
    pairB es c rows.reverse i j = pairB es c rows (rows.length - 1 - j) (rows.length - 1 - i) := by
  have e : pairB es c rows.reverse i j = pairB es c rows (rows.length - 1 - i) (rows.length - 1 - j) := by
    unfold pairB rowI
    rw [getD_turned hi, getD_turned hj]
  have ti : intsOf m (rowI rows (rows.length - 1 - i)) := rowI_ints hr (by omega)
  have tj : intsOf m (rowI rows (rows.length - 1 - j)) := rowI_ints hr (by omega)
  rw [e]
  cases h : pairB es c rows (rows.length - 1 - i) (rows.length - 1 - j) with
  | true => exact (pair_turned he c0 cm ti tj h).symm
  | false =>
    cases h2 : pairB es c rows (rows.length - 1 - j) (rows.length - 1 - i) with
    | false => rfl
    | true =>
      rw [pair_turned he c0 cm tj ti h2] at h
      cases h
theorem pairsTo_mem {es : List D} {c : Int} {rows : List D} {d : D} : d ∈ pairsTo es c rows rows.length ↔ ∃ i j, i < j ∧ j < rows.length ∧ pairB es c rows i j = true ∧ d = natT [i, j] := by
  unfold pairsTo
  rw [List.mem_flatMap]
  refine ⟨fun ⟨i, hi, h⟩ => ?_, fun ⟨i, j, h1, h2, h3, e⟩ => ⟨i, List.mem_range.mpr (by omega), List.mem_filterMap.mpr ⟨j - (i + 1), List.mem_range.mpr (by omega), ?_⟩⟩⟩
  · rw [List.mem_range] at hi
    obtain ⟨u, hu, e⟩ := List.mem_filterMap.mp h
    rw [List.mem_range] at hu
    split at e
    · rename_i hb
      cases e
      exact ⟨i, i + 1 + u, by omega, by omega, hb, rfl⟩
    · cases e
  · rw [show i + 1 + (j - (i + 1)) = j by omega, if_pos h3, e]
    rfl
end L2.DL.K12




namespace L2.DL.K12
open PySem PySem.Spec
      PyProof.Rows
/-! ### breaks as rows of numbers, in their order -/
def toN : D → Nat
  | .int i => i.toNat
  | _ => 0
def unT (d : D) : List Nat := (itm d).map toN
theorem unT_natT (ns : List Nat) : unT (natT ns) = ns := by
  unfold unT natT itm
  rw [List.map_map]
  exact (List.map_congr_left fun n _ => rfl).trans (List.map_id' ns)
theorem natT_inj {a b : List Nat} (h : natT a = natT b) : a = b := by rw [← unT_natT a, h, unT_natT]
theorem tag_natT {k : Nat} {ns : List Nat} : tag k (natT ns) = natT (k :: ns) := rfl
theorem unT_tag {k : Nat} {b : D} : unT (tag k b) = k :: unT b := by
  unfold unT tag itm
  rw [List.map_cons]
  rfl
abbrev ltU (a b : D) : Prop := unT a < unT b
theorem cast_lt : ∀ a b : List Nat, (a.map fun n : Nat => (n : Int)) < (b.map fun n : Nat => (n : Int)) ↔ a < b
  | [], [] => by simp
  | [], y :: ys => by simp
  | x :: xs, [] => by simp
  | x :: xs, y :: ys => by
    rw [List.map_cons, List.map_cons, List.cons_lt_cons_iff, List.cons_lt_cons_iff, cast_lt xs ys, Int.ofNat_lt, Int.ofNat_inj]
theorem dataLe_nat (a b : List Nat) : PySem.W.dataLe false id (natT a) (natT b) = decide (a ≤ b) := by
  show (!PySem.W.dataLt (natT b) (natT a)) = _
  have e : ∀ x : List Nat, natT x = PyData.tuple ((x.map fun n : Nat => (n : Int)).map PyData.int) := fun x => by
    unfold natT
    rw [List.map_map]
    rfl
  rw [e a, e b, PySem.W.dataLt_tuple]
  have := PySem.W.dataLt_ints (b.map fun n : Nat => (n : Int)) (a.map fun n : Nat => (n : Int))
  unfold PySem.W.rowLt at this
  rw [this, ← decide_not, decide_eq_decide]
  rw [cast_lt]
  exact Iff.rfl
/-- what is in order, put in order -/
theorem srt_eq {as bs : List (List Nat)} (h : as.Pairwise (· < ·)) (p : bs.Perm as) : srtD (bs.map natT) = as.map natT := by
  have e := PySem.W.sort_maps (r := fun a b : List Nat => decide (a ≤ b)) (s := PySem.W.dataLe false id) (l := bs) natT fun a _ b _ => (dataLe_nat a b).symm
  rw [show srtD (bs.map natT) = (bs.map natT).mergeSort (PySem.W.dataLe false id) from rfl, ← e]
  congr 1
  refine List.Perm.eq_of_pairwise (le := fun a b : List Nat => a ≤ b) (fun a b _ _ h1 h2 => List.le_antisymm h1 h2) ?_ (h.imp fun {a b} h => List.le_of_lt h) ((List.mergeSort_perm _ _).trans p)
  have := List.pairwise_mergeSort (le := fun a b : List Nat => decide (a ≤ b)) (fun a b c h1 h2 => by
    rw [decide_eq_true_eq] at h1 h2 ⊢
    exact List.le_trans h1 h2) (fun a b => by
    rcases List.le_total a b with h | h
    · rw [decide_eq_true h, Bool.true_or]
    · rw [decide_eq_true h, Bool.or_true]) bs
  exact this.imp fun {a b} h => of_decide_eq_true h
theorem pairsOf_pw {es : List D} {c : Int} {rows : List D} {i t : Nat} : (pairsOf es c rows i t).Pairwise ltU := by
  unfold pairsOf
  rw [List.pairwise_filterMap]
  refine List.pairwise_lt_range.imp fun {a b} h d e d' e' => ?_
  split at e
  · split at e'
    · cases e
      cases e'
      show unT (natT [i, i + 1 + a]) < unT (natT [i, i + 1 + b])
      rw [unT_natT, unT_natT, List.cons_lt_cons_iff, List.cons_lt_cons_iff]
      exact .inr ⟨rfl, .inl (by omega)⟩
    · cases e'
  · cases e
theorem mem_pairsOf {es : List D} {c : Int} {rows : List D} {i t : Nat} {d : D} (h : d ∈ pairsOf es c rows i t) : ∃ u, u < t ∧ d = natT [i, i + 1 + u] := by
  obtain ⟨u, hu, e⟩ := List.mem_filterMap.mp h
  rw [List.mem_range] at hu
  split at e
  · cases e
    exact ⟨u, hu, rfl⟩
  · cases e
theorem pairsTo_pw {es : List D} {c : Int} {rows : List D} {n : Nat} : (pairsTo es c rows n).Pairwise ltU := by
  unfold pairsTo
  rw [List.pairwise_flatMap]
  refine ⟨fun i _ => pairsOf_pw, List.pairwise_lt_range.imp fun {a b} h x hx y hy => ?_⟩
  obtain ⟨u, _, rfl⟩ := mem_pairsOf hx
  obtain ⟨v, _, rfl⟩ := mem_pairsOf hy
  show unT _ < unT _
  rw [unT_natT, unT_natT, List.cons_lt_cons_iff]
  exact .inl h
theorem mem_singles {es : List D} {c : Int} {v : D} {rows : List D} {n : Nat} {d : D} (h : d ∈ (List.range n).filterMap (single es c v rows)) : ∃ i, i < n ∧ single es c v rows i = some d ∧ d = natT [i] := by
  obtain ⟨i, hi, e⟩ := List.mem_filterMap.mp h
  rw [List.mem_range] at hi
  refine ⟨i, hi, e, ?_⟩
  unfold single at e
  split at e
  · cases e
    rfl
  · cases e
theorem singles_pw {es : List D} {c : Int} {v : D} {rows : List D} {n : Nat} : ((List.range n).filterMap (single es c v rows)).Pairwise ltU := by
  rw [List.pairwise_filterMap]
  refine List.pairwise_lt_range.imp fun {a b} h d e d' e' => ?_
  unfold single at e e'
  split at e
  · split at e'
    · cases e
      cases e'
      show unT (natT [a]) < unT (natT [b])
      rw [unT_natT, unT_natT, List.cons_lt_cons_iff]
      exact .inl h
    · cases e'
  · cases e
theorem brkR_pw {rows : List D} {r : D} : (brkR rows r).Pairwise ltU := by
  unfold brkR
  split
  · split
    · exact pairsTo_pw
    · exact singles_pw
  · exact .nil
theorem allTo_pw {rs rows : List D} {n : Nat} : (allTo rs rows n).Pairwise ltU := by
  unfold allTo
  rw [List.pairwise_flatMap]
  refine ⟨fun k _ => ?_, List.pairwise_lt_range.imp fun {a b} h x hx y hy => ?_⟩
  · rw [List.pairwise_map]
    refine brkR_pw.imp fun {a b} h => ?_
    show unT _ < unT _
    rw [unT_tag, unT_tag, List.cons_lt_cons_iff]
    exact .inr ⟨rfl, h⟩
  · obtain ⟨x', _, rfl⟩ := List.mem_map.mp hx
    obtain ⟨y', _, rfl⟩ := List.mem_map.mp hy
    show unT _ < unT _
    rw [unT_tag, unT_tag, List.cons_lt_cons_iff]
    exact .inl h
/-- a break's rows -/
def okNs (m : Nat) (ns : List Nat) : Prop := (∃ i, ns = [i] ∧ i < m) ∨ ∃ i j, ns = [i, j] ∧ i < j ∧ j < m
theorem brkR_ns {rows : List D} {r : D} : ∀ b ∈ brkR rows r, ∃ ns, b = natT ns ∧ okNs rows.length ns := by
  intro b hb
  unfold brkR at hb
  split at hb
  · split at hb
    · obtain ⟨i, j, h1, h2, _, rfl⟩ := pairsTo_mem.mp hb
      exact ⟨_, rfl, .inr ⟨i, j, rfl, h1, h2⟩⟩
    · obtain ⟨i, hi, _, rfl⟩ := mem_singles hb
      exact ⟨_, rfl, .inl ⟨i, rfl, hi⟩⟩
  · cases hb
theorem allTo_mem {rs rows : List D} {n : Nat} {d : D} : d ∈ allTo rs rows n ↔ ∃ k, k < n ∧ ∃ ns, natT ns ∈ brkR rows (rs.getD k .none) ∧ okNs rows.length ns ∧ d = natT (k :: ns) := by
  unfold allTo
  rw [List.mem_flatMap]
  refine ⟨fun ⟨k, hk, h⟩ => ?_, fun ⟨k, hk, ns, h1, _, e⟩ => ⟨k, List.mem_range.mpr hk, List.mem_map.mpr ⟨_, h1, by rw [e, tag_natT]⟩⟩⟩
  obtain ⟨b, hb, rfl⟩ := List.mem_map.mp h
  obtain ⟨ns, rfl, hn⟩ := brkR_ns b hb
  exact ⟨k, List.mem_range.mp hk, ns, hb, hn, tag_natT⟩
def turnN (m : Nat) (ns : List Nat) : List Nat := (ns.map fun i => m - 1 - i).reverse
theorem okNs.turn {m : Nat} {ns : List Nat} (h : okNs m ns) : okNs m (turnN m ns) ∧ turnN m (turnN m ns) = ns := by
  rcases h with ⟨i, rfl, hi⟩ | ⟨i, j, rfl, hij, hj⟩
  · refine ⟨.inl ⟨m - 1 - i, rfl, by omega⟩, ?_⟩
    show [m - 1 - (m - 1 - i)] = [i]
    rw [show m - 1 - (m - 1 - i) = i by omega]
  · refine ⟨.inr ⟨m - 1 - j, m - 1 - i, rfl, by omega, by omega⟩, ?_⟩
    show [m - 1 - (m - 1 - i), m - 1 - (m - 1 - j)] = [i, j]
    rw [show m - 1 - (m - 1 - i) = i by omega, show m - 1 - (m - 1 - j) = j by omega]
theorem single_rev {es : List D} {c : Int} {v : D} {rows : List D} {i : Nat} (h : i < rows.length) : single es c v rows.reverse i = some (natT [i]) ↔ single es c v rows (rows.length - 1 - i) = some (natT [rows.length - 1 - i]) := by
  unfold single
  rw [getD_turned h]
  split
  · exact ⟨fun _ => rfl, fun _ => rfl⟩
  · exact ⟨(fun z => nomatch z), fun z => nomatch z⟩
theorem brkR_rev1 {cs rows : List D} {r : D} (hr : okRule cs r) (ht : okTab cs rows) {ns : List Nat} (h : natT ns ∈ brkR rows.reverse r) : natT (turnN rows.length ns) ∈ brkR rows r := by
  obtain ⟨es, c, w, rfl, he, c0, cm, _⟩ := hr.parts
  rw [brkR_eq] at h ⊢
  split
  · rename_i hw
    rw [if_pos hw] at h
    obtain ⟨i, j, h1, h2, h3, e⟩ := pairsTo_mem.mp h
    rw [List.length_reverse] at h2
    rw [pairB_rev he c0 cm ht.int (by omega) h2] at h3
    have := natT_inj e
    subst this
    exact pairsTo_mem.mpr ⟨rows.length - 1 - j, rows.length - 1 - i, by omega, by omega, h3, rfl⟩
  · rename_i hw
    rw [if_neg hw] at h
    obtain ⟨i, hi, h3, e⟩ := mem_singles h
    rw [List.length_reverse] at hi
    have := natT_inj e
    subst this
    exact List.mem_filterMap.mpr ⟨rows.length - 1 - i, List.mem_range.mpr (by omega), (single_rev hi).mp h3⟩
theorem okTab.rev {cs rows : List D} (h : okTab cs rows) : okTab cs rows.reverse := ⟨by rw [List.length_reverse]; exact h.1, fun d hd => h.2 d (List.mem_reverse.mp hd)⟩
theorem brkR_rev {cs rows : List D} {r : D} (hr : okRule cs r) (ht : okTab cs rows) {ns : List Nat} (hn : okNs rows.length ns) : natT ns ∈ brkR rows.reverse r ↔ natT (turnN rows.length ns) ∈ brkR rows r := by
  refine ⟨brkR_rev1 hr ht, fun h => ?_⟩
  have := brkR_rev1 hr (okTab.rev ht) (ns := turnN rows.length ns) (by rw [List.reverse_reverse]; exact h)
  rw [List.length_reverse, hn.turn.2] at this
  exact this
/-- a break's rows counted from behind -/
def turnC (m : Nat) : List Nat → List Nat
  | [] => []
  | k :: ns => k :: turnN m ns
theorem codes_eq {rs rows : List D} {n : Nat} : allTo rs rows n = ((allTo rs rows n).map unT).map natT := by
  rw [List.map_map]
  refine (List.map_id' _).symm.trans (List.map_congr_left fun d hd => ?_)
  obtain ⟨k, _, ns, _, _, rfl⟩ := allTo_mem.mp hd
  show natT (k :: ns) = natT (unT (natT (k :: ns)))
  rw [unT_natT]
theorem codes_pw {rs rows : List D} {n : Nat} : ((allTo rs rows n).map unT).Pairwise (· < ·) := by
  rw [List.pairwise_map]
  exact allTo_pw
theorem codes_mem {rs rows : List D} {n : Nat} {x : List Nat} : x ∈ (allTo rs rows n).map unT ↔ ∃ k, k < n ∧ ∃ ns, natT ns ∈ brkR rows (rs.getD k .none) ∧ okNs rows.length ns ∧ x = k :: ns := by
  rw [List.mem_map]
  refine ⟨fun ⟨d, hd, e⟩ => ?_, fun ⟨k, hk, ns, h1, h2, e⟩ => ⟨natT (k :: ns), allTo_mem.mpr ⟨k, hk, ns, h1, h2, rfl⟩, by rw [unT_natT, e]⟩⟩
  obtain ⟨k, hk, ns, h1, h2, rfl⟩ := allTo_mem.mp hd
  exact ⟨k, hk, ns, h1, h2, by rw [← e, unT_natT]⟩
theorem lt_nodup {l : List (List Nat)} (h : l.Pairwise (· < ·)) : l.Nodup := by
  unfold List.Nodup
  refine h.imp ?_
  intro a b h e
  rw [e] at h
  exact List.lt_irrefl _ h
/-- the breaks of the turned table are the breaks turned, in order -/
theorem allTo_rev {cs rs rows : List D} (hrs : okRuls cs rs) (ht : okTab cs rows) : srtD (((allTo rs rows rs.length).map unT).map fun x => natT (turnC rows.length x)) = allTo rs rows.reverse rs.length := by
  have e : (((allTo rs rows rs.length).map unT).map fun x => natT (turnC rows.length x)) = (((allTo rs rows rs.length).map unT).map (turnC rows.length)).map natT := by
    simp only [List.map_map]
    rfl
  rw [e, codes_eq (rows := rows.reverse)]
  refine srt_eq codes_pw ((List.perm_ext_iff_of_nodup ?_ (lt_nodup codes_pw)).mpr fun x => ?_)
  · show List.Pairwise _ _
    rw [List.pairwise_map]
    refine (codes_pw (rs := rs) (rows := rows) (n := rs.length)).imp_of_mem fun {a b} ha hb h e => ?_
    obtain ⟨k, _, ns, _, h2, rfl⟩ := codes_mem.mp ha
    obtain ⟨k', _, ns', _, h2', rfl⟩ := codes_mem.mp hb
    simp only [turnC, List.cons.injEq] at e
    have : ns = ns' := by rw [← h2.turn.2, e.2, h2'.turn.2]
    rw [e.1, this] at h
    exact List.lt_irrefl _ h
  · rw [codes_mem]
    refine ⟨fun h => ?_, fun ⟨k, hk, ns, h1, h2, e⟩ => ?_⟩
    · obtain ⟨y, hy, rfl⟩ :=
          List.mem_map.mp h
      obtain ⟨k, hk, ns, h1, h2, rfl⟩ := codes_mem.mp hy
      have hr := hrs.2 _ (getD_mem (xs := rs) (Int.natCast_nonneg k) (by omega))
      rw [Int.toNat_natCast] at hr
      refine ⟨k, hk, turnN rows.length ns, (brkR_rev hr ht h2.turn.1).mpr (by rw [h2.turn.2]; exact h1), by rw [List.length_reverse]; exact h2.turn.1, rfl⟩
    · subst e
      rw [List.length_reverse] at h2
      have hr := hrs.2 _ (getD_mem (xs := rs) (Int.natCast_nonneg k) (by omega))
      rw [Int.toNat_natCast] at hr
      refine List.mem_map.mpr ⟨k :: turnN rows.length ns, codes_mem.mpr ⟨k, hk, _, (brkR_rev hr ht h2).mp h1, h2.turn.1, rfl⟩, ?_⟩
      simp only [turnC, h2.turn.2]
end L2.DL.K12




-- simp: mostD, sortData
namespace L2.DL.K12
open PySem PySem.Spec
      PyProof.Rows
/-! ### the law's own word for breaks that are turned -/
def turnD (m : Nat) (d : D) : D := natT (turnC m (unT d))
theorem natT_ok {k : Nat} {ns : List Nat} {m : Nat} (hn : okNs m ns) (hm : m ≤ 8) (hk : k < 100) : Ok 4 1 (natT (k :: ns)) := by
  have hl : ns.length ≤ 2 := by
    rcases hn with ⟨i, rfl, _⟩ | ⟨i, j, rfl, _⟩ <;> simp
  have hlt : ∀ x ∈ k :: ns, x < 100 := fun x hx => by
    rcases List.mem_cons.mp
          hx with rfl | hx
    · exact hk
    · rcases hn with ⟨i, rfl, _⟩ | ⟨i, j, rfl, _⟩ <;> simp at hx <;> omega
  exact (Ok.tuple (n := 1) (m := 0) (k := 3) (fun d hd => by
    obtain ⟨x, hx, rfl⟩ := List.mem_map.mp hd
    have := hlt x hx
    exact Ok.int (by omega)) (by rw [List.length_map, List.length_cons]; omega)).mono (by decide) (by decide)
theorem alikeAll_nats : ∀ a b : List Nat, PySem.W.alikeAll (a.map fun n : Nat => PyData.int (n : Int)) (b.map fun n : Nat => PyData.int (n : Int)) = true
  | [], _ => by simp [PySem.W.alikeAll]
  | _ :: _, [] => by simp [PySem.W.alikeAll]
  | x :: xs, y :: ys => by
    rw [List.map_cons, List.map_cons, PySem.W.alikeAll, alikeAll_nats xs ys]
    simp [PySem.W.alike]
theorem brks_sort {m : Nat} {ds : List D} (hm : m ≤ 8) (hl : ds.length ≤ 600) (h : ∀ d ∈ ds, ∃ (k : Nat) (ns : List Nat), d = natT (k :: ns) ∧ okNs m ns ∧ k < 100) : Good (.list ds) ∧ PySem.W.AllAlike ds ∧ PySem.W.Sortable ds := by
  refine ⟨((Ok.list (n := 4) (m := 1) (k := 600) (fun d hd => ?_) hl).mono (by decide) (by decide)), fun d hd d' hd' => ?_, .inl fun d hd => ?_⟩
  · obtain ⟨k, ns, rfl, hn, hk⟩ := h d hd
    exact natT_ok hn hm hk
  · obtain ⟨k, ns, rfl, _⟩ := h d hd
    obtain ⟨k', ns', rfl, _⟩ := h d' hd'
    unfold natT
    rw [PySem.W.alike]
    exact alikeAll_nats _ _
  · obtain ⟨k, ns, rfl, _⟩ := h d hd
    exact ⟨_, _, rfl⟩
section
variable {P : Program} {w : World} {K : PySem.W.Frag} {mg : Str → Option Value} {base : Heap} {A : Cls}
def w_law_turned : Wc := fun ds k Q _ => ∃ (many : Nat) (found : List D), ds = [.list found, .int (many : Int)] ∧ many ≤ 8 ∧ found.length ≤ 600 ∧ (∀ d ∈ found, ∃ (k : Nat) (ns : List Nat), d = natT (k :: ns) ∧ okNs many ns ∧ k < 100) ∧ Q (.list (srtD (found.map (turnD many)))) k
theorem m_law_turned : Wc.Mono w_law_turned := fun ds k Q Q' x x' h1 _ ⟨m, f, e, p1, p2, p3, q⟩ => ⟨m, f, e, p1, p2, p3, h1 _ _ q⟩
theorem d_law_turned (T : Txt K mg A) (F : FunAt K mg "_law_turned" s_law_turned ["_law_found", "_law_many"]) : Def P w K mg base "_law_turned" 1 ["_law_found", "_law_many"] w_law_turned := by
  refine defD F sc_law_turned (fun ds k Q x ⟨_, f, e, _⟩ => by rw [e]; rfl) fun f cdv Ar outer s H E p G hg hr => ⟨_, (dss_cons (ds_own (i := 2) (df_lst da_nil) sc_law_turned.nd)
    (dss_cons (ds_for (passes_of rfl) rfl (di_seq (de_var (pv 0))) (dg_nm (i := 3) sc_law_turned.nd)
    (dss_one (ds_append (i := 2) (de_bin op_addA addD.mono fitsAdd (de_sl (de_var (pv 3)) do_none (do_some de_int)) (de_bt tupleD.mono fitsTuple call_tuple_of (da_cons (de_bi sortedD.mono fitsSorted cr_sortedI (da_cons (de_lc (own := [("_law_k", 4)]) rfl sc_law_turned.nd (di_seq (de_sl (de_var (pv 3)) (do_some de_int) do_none)) (blkOk_by (N := ["_law_found", "_law_many", "_law_other", "_law_row_here", "_law_k"]) (sc := defScope s_law_turned) (by decide +kernel)) (fun _ _ _ _ _ _ _ => (dgc_nm (i := 4) sc_law_turned.nd (by decide))) (fun _ _ _ _ _ _ _ => dts_nil) (fun _ _ _ _ _ _ _ => (de_bin op_sub subD.mono fitsSub (de_bin op_sub subD.mono fitsSub (de_var (pv 1)) de_int) (de_var (pv 4))))) da_nil) T.z_sorted) da_nil) T.z_tuple)) (pv 2))))
    (dss_rel (dss_one (ds_ret (de_bi sortData.mono fitsSortData (cr_sortData hr.units) (da_cons (de_var (pv 2)) da_nil) T.z_sorted)))))), ?_⟩
  rintro ds n Q x ⟨many, found, rfl, hm, hl, hf, q⟩
  simp only [wRet, wSet, wSeq, wNext, wDrop, wIfS, wTest, wAnd, wOr, wNot, wIf, wBin, wVar, wC, wAndV, wOrV, wNotV, wIsN, wNotN, wNeg, wChain, wNil, wCons, wTup, wLst, wBi, wCall, wIsi, wSl, wSo, wNo, wSeqI, wFor, gNm, gTp, puts, wAsg, wPar, wMul, wmD, wmO, putsI, wAug, wTryIs, wRng1, wRng2, wEnum, wEnumT, wZip, wLc, wYes, wLend, wRel, wOwn, wApp, wIns, wSetIx, wLstF, wListF, wRepF, wAddF, wSlS, wParO, wRevT, wSortedSet, wSortedSetL, wSortedSetT, wKeys, weI, wExt, allD, wMt, wRaise, wSeqO, wCallF, plainO, wCallA, wIdx0, wAnF, wSetA, wUnA, wSeqA, plainA, wFld, wFldO, wMake, wLRg, Ans.data, Ans.own.injEq, Ans.tup.injEq, Ans.dat.injEq, wTry, wTryM, wHs, wIsC, enOf, put, putUn, defEnds, lendE, lend, wipeE, hide, lenD, intD, listD, tupleD, reprD, wPen0, wPen1, wPen2, wPenS1, wPenS2, penAt, List.map_cons, List.map_nil, List.length_cons, List.length_nil, List.nil_append, List.cons_append, Nat.reduceAdd, Nat.reduceSub, Nat.reduceLeDiff, Nat.zero_add, List.replicate_zero, List.replicate_succ, List.getElem?_cons_zero, List.getElem?_cons_succ, List.set_cons_zero, List.set_cons_succ, Option.some.injEq, Slot.dat.injEq, Slot.own.injEq, PyData.bool.injEq, PyData.int.injEq, PyData.tuple.injEq, PyData.list.injEq, exists_eq_left', exists_eq_left, and_true, true_and, if_true, if_false, Bool.false_eq_true, reduceCtorEq, List.mapIdx_cons, List.mapIdx_nil, mostD, sortData]
  refine ⟨found, rfl, ?_⟩
  refine wLoop.ind (fun ds e => ∃ (acc : List D) (u3 u4 : Slot), e = ⟨[.dat (.list found), .dat (.int (many : Int)), .own acc, u3, u4], n⟩ ∧ (∀ d ∈ ds, ∃ (k : Nat) (ns : List Nat), d = natT (k :: ns) ∧ okNs many ns ∧ k < 100) ∧ acc.length + ds.length ≤ 600 ∧ (∀ d ∈ acc, ∃ (k : Nat) (ns : List Nat), d = natT (k :: ns) ∧ okNs many ns ∧ k < 100) ∧ acc ++ ds.map (turnD many) = found.map (turnD many)) ?_ ?_ ⟨[], _, _, rfl, hf, by simpa using hl, fun d hd => (nomatch hd), rfl⟩
  · rintro e ⟨acc, u3, u4, rfl, _, hl2, ha, ea⟩
    rw [List.map_nil, List.append_nil] at ea
    subst ea
    refine ⟨_, rfl, ?_⟩
    obtain ⟨g, s1, s2⟩ := brks_sort hm (by rw [List.length_nil] at hl2; omega) ha
    exact ⟨g, s1, s2, q⟩
  · rintro d ds e ih ⟨acc, u3, u4, rfl, hd, hl2, ha, ea⟩
    obtain ⟨kk, ns, rfl, hn, hk⟩ := hd d List.mem_cons_self
    rw [List.length_cons] at hl2
    rw [show natT (kk :: ns) = PyData.tuple (.int (kk : Int) :: ns.map fun (n : Nat) => PyData.int (n : Int)) from rfl]
    simp only [wRet, wSet, wSeq, wNext, wDrop, wIfS, wTest, wAnd, wOr, wNot, wIf, wBin, wVar, wC, wAndV, wOrV, wNotV, wIsN, wNotN, wNeg, wChain, wNil, wCons, wTup, wLst, wBi, wCall, wIsi, wSl, wSo, wNo, wSeqI, wFor, gNm, gTp, puts, wAsg, wPar, wMul, wmD, wmO, putsI, wAug, wTryIs, wRng1, wRng2, wEnum, wEnumT, wZip, wLc, wYes, wLend, wRel, wOwn, wApp, wIns, wSetIx, wLstF, wListF, wRepF, wAddF, wSlS, wParO, wRevT, wSortedSet, wSortedSetL, wSortedSetT, wKeys, weI, wExt, allD, wMt, wRaise, wSeqO, wCallF, plainO, wCallA, wIdx0, wAnF, wSetA, wUnA, wSeqA, plainA, wFld, wFldO, wMake, wLRg, Ans.data, Ans.own.injEq, Ans.tup.injEq, Ans.dat.injEq, wTry, wTryM, wHs, wIsC, enOf, put, putUn, defEnds, lendE, lend, wipeE, hide, lenD, intD, listD, tupleD, reprD, wPen0, wPen1, wPen2, wPenS1, wPenS2, penAt, List.map_cons, List.map_nil, List.length_cons, List.length_nil, List.nil_append, List.cons_append, Nat.reduceAdd, Nat.reduceSub, Nat.reduceLeDiff, Nat.zero_add, List.replicate_zero, List.replicate_succ, List.getElem?_cons_zero, List.getElem?_cons_succ, List.set_cons_zero, List.set_cons_succ, Option.some.injEq, Slot.dat.injEq, Slot.own.injEq, PyData.bool.injEq, PyData.int.injEq, PyData.tuple.injEq, PyData.list.injEq, exists_eq_left', exists_eq_left, and_true, true_and, if_true, if_false, Bool.false_eq_true, reduceCtorEq, List.mapIdx_cons, List.mapIdx_nil, mostD, sortData, slD]
    have c1 := cut_to (xs := .int (kk : Int) :: ns.map fun (n : Nat) => PyData.int (n : Int)) (i := 1) (by simp)
    have c2 := cut_from (xs := .int (kk : Int) :: ns.map fun (n : Nat) => PyData.int (n : Int)) (i := 1) (by simp)
    rw [show (((1 : Nat) : Int)) = 1 from rfl] at c1 c2
    rw [c1, c2]
    simp only [List.take_succ_cons, List.take_zero, List.drop_succ_cons, List.drop_zero]
    have nl : ns.length ≤ 2 := by
      rcases hn with ⟨i, rfl, _⟩ | ⟨i, j, rfl, _⟩ <;> simp
    have nm : ∀ x ∈ ns, x < many := fun x hx => by
      rcases hn with ⟨i, rfl, _⟩ | ⟨i, j, rfl, _⟩ <;> simp at hx <;> omega
    refine ⟨⟨_, rfl⟩, _, rfl, ?_⟩
    refine lcLoop.fm (fun y => some (match y with | .int i => .int ((many : Int) - 1 - i) | _ => .none)) (fun y hy A B h1 h2 => ?_) (by simp only [List.length_nil, List.length_map]; omega) ?_
    · obtain ⟨j, hj, rfl⟩ := List.mem_map.mp hy
      simp only [wRet, wSet, wSeq, wNext, wDrop, wIfS, wTest, wAnd, wOr, wNot, wIf, wBin, wVar, wC, wAndV, wOrV, wNotV, wIsN, wNotN, wNeg, wChain, wNil, wCons, wTup, wLst, wBi, wCall, wIsi, wSl, wSo, wNo, wSeqI, wFor, gNm, gTp, puts, wAsg, wPar, wMul, wmD, wmO, putsI, wAug, wTryIs, wRng1, wRng2, wEnum, wEnumT, wZip, wLc, wYes, wLend, wRel, wOwn, wApp, wIns, wSetIx, wLstF, wListF, wRepF, wAddF, wSlS, wParO, wRevT, wSortedSet, wSortedSetL, wSortedSetT, wKeys, weI, wExt, allD, wMt, wRaise, wSeqO, wCallF, plainO, wCallA, wIdx0, wAnF, wSetA, wUnA, wSeqA, plainA, wFld, wFldO, wMake, wLRg, Ans.data, Ans.own.injEq, Ans.tup.injEq, Ans.dat.injEq, wTry, wTryM, wHs, wIsC, enOf, put, putUn, defEnds, lendE, lend, wipeE, hide, lenD, intD, listD, tupleD, reprD, wPen0, wPen1, wPen2, wPenS1, wPenS2, penAt, List.map_cons, List.map_nil, List.length_cons, List.length_nil, List.nil_append, List.cons_append, Nat.reduceAdd, Nat.reduceSub, Nat.reduceLeDiff, Nat.zero_add, List.replicate_zero, List.replicate_succ, List.getElem?_cons_zero, List.getElem?_cons_succ, List.set_cons_zero, List.set_cons_succ, Option.some.injEq, Slot.dat.injEq, Slot.own.injEq, PyData.bool.injEq, PyData.int.injEq, PyData.tuple.injEq, PyData.list.injEq, exists_eq_left', exists_eq_left, and_true, true_and, if_true, if_false, Bool.false_eq_true, reduceCtorEq, List.mapIdx_cons, List.mapIdx_nil, mostD, sortData]
      exact ⟨_, rfl, h2 _ rfl⟩
    · rw [List.nil_append, fmap_some, List.map_map]
      simp only [sortedD]
      have e1 : ns.map ((fun y => match y with | PyData.int i => PyData.int ((many : Int) - 1 - i) | _ => PyData.none) ∘ fun (n : Nat) => PyData.int (n : Int)) = (ns.map fun (n : Nat) => (many : Int) - 1 - (n : Int)).map PyData.int := by
        rw [List.map_map]
        rfl
      refine ⟨ns.map fun (n : Nat) => (many : Int) - 1 - (n : Int), e1, fun ys p1 p2 => ?_⟩
      have e2 : ys = (turnN many ns).map fun (n : Nat) => (n : Int) := by
        refine List.Perm.eq_of_pairwise (le := fun a b : Int => a ≤ b) (fun a b _ _ h1 h2 => by omega) p2 ?_ (p1.trans ?_)
        · rcases hn with ⟨i, rfl, _⟩ | ⟨i, j, rfl, h1, h2⟩
          · simp [turnN]
          · simp [turnN]
            omega
        · have e3 : ns.map (fun (n : Nat) => (many : Int) - 1 - (n : Int)) = (ns.map fun i => many - 1 - i).map fun (n : Nat) => (n : Int) := by
            rw [List.map_map]
            refine List.map_congr_left fun x hx => ?_
            have := nm x hx
            show (many : Int) - 1 - (x : Int) = ((many - 1 - x : Nat) : Int)
            omega
          rw [e3]
          unfold turnN
          exact ((List.reverse_perm _).symm).map _
      subst e2
      simp only [wRet, wSet, wSeq, wNext, wDrop, wIfS, wTest, wAnd, wOr, wNot, wIf, wBin, wVar, wC, wAndV, wOrV, wNotV, wIsN, wNotN, wNeg, wChain, wNil, wCons, wTup, wLst, wBi, wCall, wIsi, wSl, wSo, wNo, wSeqI, wFor, gNm, gTp, puts, wAsg, wPar, wMul, wmD, wmO, putsI, wAug, wTryIs, wRng1, wRng2, wEnum, wEnumT, wZip, wLc, wYes, wLend, wRel, wOwn, wApp, wIns, wSetIx, wLstF, wListF, wRepF, wAddF, wSlS, wParO, wRevT, wSortedSet, wSortedSetL, wSortedSetT, wKeys, weI, wExt, allD, wMt, wRaise, wSeqO, wCallF, plainO, wCallA, wIdx0, wAnF, wSetA, wUnA, wSeqA, plainA, wFld, wFldO, wMake, wLRg, Ans.data, Ans.own.injEq, Ans.tup.injEq, Ans.dat.injEq, wTry, wTryM, wHs, wIsC, enOf, put, putUn, defEnds, lendE, lend, wipeE, hide, lenD, intD, listD, tupleD, reprD, wPen0, wPen1, wPen2, wPenS1, wPenS2, penAt, List.map_cons, List.map_nil, List.length_cons, List.length_nil, List.nil_append, List.cons_append, Nat.reduceAdd, Nat.reduceSub, Nat.reduceLeDiff, Nat.zero_add, List.replicate_zero, List.replicate_succ, List.getElem?_cons_zero, List.getElem?_cons_succ, List.set_cons_zero, List.set_cons_succ, Option.some.injEq, Slot.dat.injEq, Slot.own.injEq, PyData.bool.injEq, PyData.int.injEq, PyData.tuple.injEq, PyData.list.injEq, exists_eq_left', exists_eq_left, and_true, true_and, if_true, if_false, Bool.false_eq_true, reduceCtorEq, List.mapIdx_cons, List.mapIdx_nil, mostD, sortData, addD]
      have tl : (turnN many ns).length ≤ 2 := by
        unfold turnN
        rw [List.length_reverse, List.length_map]
        exact nl
      refine ⟨by rw [sizeLine_eq, List.length_map, List.length_map]; omega, by omega, ?_⟩
      have et : PyData.tuple (PyData.int (kk : Int) :: ((turnN many ns).map fun (n : Nat) => (n : Int)).map PyData.int) = natT (kk :: turnN many ns) := by
        unfold natT
        rw [List.map_cons, List.map_map]
        rfl
      rw [et]
      refine ih _ ⟨_, _, _, rfl, fun d h => hd d (List.mem_cons_of_mem _ h), by rw [List.length_append, List.length_singleton]; omega, fun d h => (List.mem_append.mp h).elim (ha d) fun h => ⟨kk, turnN many ns, List.mem_singleton.mp h, hn.turn.1, hk⟩, ?_⟩
      rw [List.append_assoc, ← ea, List.map_cons]
      have ed : turnD many (natT (kk :: ns)) = natT (kk :: turnN many ns) := by
        unfold turnD
        rw [unT_natT]
        rfl
      rw [ed]
      rfl
end
end L2.DL.K12




namespace L2.DL.K12
open PySem PySem.Spec
      PyProof.Rows
/-! ### what is left without the fewest rows -/
def restI (m : Nat) (os : List Nat) : List Nat := (List.range m).filter fun k => !os.contains k
def restR (ts : List D) (os : List Nat) : List D := (restI ts.length os).map fun k => ts.getD k .none
theorem restI_mem {m : Nat} {os : List Nat} {k : Nat} : k ∈ restI m os ↔ k < m ∧ k ∉ os := by
  unfold restI
  rw [List.mem_filter, List.mem_range]
  simp
theorem restI_lt {m : Nat} {os : List Nat} {i j : Nat} (h : i < j) (hj : j < (restI m os).length) : (restI m os).getD i 0 < (restI m os).getD j 0 := by
  have pw : (restI m os).Pairwise (· < ·) := List.pairwise_lt_range.filter _
  have := List.pairwise_iff_getElem.mp pw i j (by omega) hj h
  rw [List.getD_eq_getElem?_getD, List.getD_eq_getElem?_getD, List.getElem?_eq_getElem (by omega), List.getElem?_eq_getElem hj]
  exact this
theorem restI_in {m : Nat} {os : List Nat} {i : Nat} (h : i < (restI m os).length) : (restI m os).getD i 0 ∈ restI m os := by
  rw [List.getD_eq_getElem?_getD, List.getElem?_eq_getElem h]
  exact List.getElem_mem h
theorem restR_at {ts : List D} {os : List Nat} {i : Nat} (h : i < (restI ts.length os).length) : (restR ts os).getD i .none = ts.getD ((restI ts.length os).getD i 0) .none := by
  unfold restR
  rw [List.getD_eq_getElem?_getD, List.getElem?_map, List.getD_eq_getElem?_getD (l := restI ts.length os), List.getElem?_eq_getElem h]
  rfl
theorem restR_len {ts : List D} {os : List Nat} : (restR ts os).length = (restI ts.length os).length := by
  unfold restR
  rw [List.length_map]
theorem restR_ok {cs ts : List D} {os : List Nat} (h : okTab cs ts) : okTab cs (restR ts os) := by
  refine ⟨?_, fun d hd => ?_⟩
  · rw [restR_len]
    unfold restI
    exact Nat.le_trans (List.length_filter_le _ _) (by rw [List.length_range]; exact h.1)
  · obtain ⟨k, hk, rfl⟩ := List.mem_map.mp hd
    have := (restI_mem.mp hk).1
    have hm := getD_mem (xs := ts) (Int.natCast_nonneg k) (by omega)
    rw [Int.toNat_natCast] at hm
    exact h.2 _ hm
theorem restR_none {cs ts : List D} {r : D} {os : List Nat} (hr : okRule cs r) (ht : okTab cs ts) (h : ∀ ns, natT ns ∈ brkR ts r → ∃ n ∈ ns, n ∈ os) : brkR (restR ts os) r = [] := by
  obtain ⟨es, c, w, rfl, he, c0, cm, _⟩ := hr.parts
  rw [brkR_eq] at h ⊢
  split
  · rename_i hw
    rw [if_pos hw] at h
    refine rest_pairs (rows := ts) (f := fun i => (restI ts.length os).getD i 0) (fun i j hij hj => restI_lt hij (by rw [restR_len] at hj; exact hj)) (fun i hi => (restI_mem.mp (restI_in (by rw [restR_len] at hi; exact hi))).1) (fun i hi => restR_at (by rw [restR_len] at hi; exact hi)) fun i j hij hj hb ⟨⟨a, ha, ea⟩, b, hb', eb⟩ => ?_
    obtain ⟨n, hn, ho⟩ := h [i, j] (pairsTo_mem.mpr ⟨i, j, hij, hj, hb, rfl⟩)
    rw [restR_len] at ha hb'
    have ia := (restI_mem.mp (restI_in ha)).2
    have ib := (restI_mem.mp (restI_in hb')).2
    simp only [List.mem_cons, List.not_mem_nil, or_false] at hn
    rcases hn with rfl | rfl
    · exact ia (by rw [ea]; exact ho)
    · exact ib (by rw [eb]; exact ho)
  · rename_i hw
    rw [if_neg hw] at h
    refine List.filterMap_eq_nil_iff.mpr fun i hi => ?_
    rw [List.mem_range, restR_len] at hi
    have hm := restI_mem.mp (restI_in hi)
    unfold single
    rw [restR_at hi]
    split
    · rename_i hc
      obtain ⟨n, hn, ho⟩ := h [(restI ts.length os).getD i 0] (List.mem_filterMap.mpr ⟨_, List.mem_range.mpr hm.1, by
        unfold single
        rw [if_pos hc]
        rfl⟩)
      rw [List.mem_singleton.mp hn] at ho
      exact absurd ho hm.2
    · rfl
theorem inB_nat {n : Nat} {os : List Nat} (h : inB (.int (n : Int)) (os.map fun (n : Nat) => PyData.int (n : Int)) = true) : n ∈ os := by
  unfold inB at h
  obtain ⟨y, hy, e⟩ := List.any_eq_true.mp h
  obtain ⟨m, hm, rfl⟩ := List.mem_map.mp hy
  rw [eqv_ints, decide_eq_true_eq] at e
  have : m = n := by omega
  rw [← this]
  exact hm
theorem inB_nat_iff {n : Nat} {os : List Nat} : inB (.int (n : Int)) (os.map fun (n : Nat) => PyData.int (n : Int)) = os.contains n := by
  cases h : os.contains n with
  | true => exact inB_mem (List.mem_map.mpr ⟨n, by simpa using h, rfl⟩)
  | false =>
    cases h2 : inB (.int (n : Int)) (os.map fun (n : Nat) => PyData.int (n : Int)) with
    | false => rfl
    | true =>
      have := inB_nat h2
      rw [List.contains_iff_mem.mpr this] at h
      cases h
theorem rest_breaks {cs rs ts : List D} {os : List Nat} (hrs : okRuls cs rs) (ht : okTab cs ts) (h : ∀ d ∈ allTo rs ts rs.length, hit (os.map fun (n : Nat) => PyData.int (n : Int)) d = true) : allTo rs (restR ts os) rs.length = [] := by
  unfold allTo
  refine List.flatMap_eq_nil_iff.mpr fun k hk => ?_
  rw [List.mem_range] at hk
  have hm := getD_mem (xs := rs) (Int.natCast_nonneg k) (by omega)
  rw [Int.toNat_natCast] at hm
  rw [restR_none (hrs.2 _ hm) ht fun ns hns => ?_]
  · rfl
  · obtain ⟨ns', e, hn⟩ := brkR_ns _ hns
    have := natT_inj e
    subst this
    have := h _ (allTo_mem.mpr ⟨k, hk, ns, hns, hn, rfl⟩)
    unfold hit rowsOf natT at this
    obtain ⟨y, hy, hi⟩ := List.any_eq_true.mp this
    obtain ⟨n, hn, rfl⟩ := List.mem_map.mp hy
    exact ⟨n, hn, inB_nat hi⟩
/-! ### breaks among the first rows -/
def maxB (p : Nat) (d : D) : Bool := (rowsOf d).all fun x => match x with
  | .int i => decide (i < (p : Int))
  | _ => false
theorem allTo_take {rs ts : List D} {p n : Nat} (hp : p ≤ ts.length) : allTo rs (ts.take p) n = (allTo rs ts n).filter (maxB p) := by
  unfold allTo
  rw [List.filter_flatMap]
  congr 1
  funext k
  rw [brkR_take hp, List.filter_map]
  congr 1
  refine List.filter_congr fun d hd => ?_
  obtain ⟨ns, rfl, _⟩ := brkR_ns d hd
  rfl
theorem eqv_self {n m : Nat} {d : D} (h : Ok n m d) : PyData.eqv d d = true := SeqAt.eqv_refl d (fine.lay d h.f)
theorem max_lt {n p : Int} : ∀ {ns : List Int}, ns.foldl max n < p ↔ n < p ∧ ∀ x ∈ ns, x < p := by
  intro ns
  induction ns
        generalizing n with
  | nil => simp
  | cons x ns ih =>
    rw [List.foldl_cons, ih]
    simp only [List.mem_cons, forall_eq_or_imp]
    exact ⟨fun ⟨h1, h2⟩ => ⟨by omega, by omega, h2⟩, fun ⟨h1, h2, h3⟩ => ⟨by omega, h3⟩⟩
end L2.DL.K12




-- simp: mostD, sortData
namespace L2.DL.K12
open PySem PySem.Spec
      PyProof.Rows
/-! ### the law's own word for what is right -/
theorem fm_filter {p : D → Bool} : ∀ ds : List D, ds.filterMap (fun d => if p d = true then some d else none) = ds.filter p
  | [] => rfl
  | d :: ds => by
    rw [List.filter_cons]
    cases h : p d with
    | true => rw [List.filterMap_cons_some (b := d) (by rw [if_pos h]), fm_filter ds, if_pos rfl]
    | false => rw [List.filterMap_cons_none (by rw [if_neg (by rw [h]; decide)]), fm_filter ds, if_neg (by decide)]
theorem eqv_nil (xs : List D) : PyData.eqv (.list xs) (.list []) = decide (xs = []) := by
  cases xs with
  | nil => rfl
  | cons x xs => simp [PyData.eqv, PyData.eqvAll]
theorem cut_tl1 {x : D} {xs : List D} : cutD (x :: xs) (some 1) none = xs := by
  have := cut_from (xs := x :: xs) (i := 1) (by simp)
  rw [show (((1 : Nat) : Int)) = 1 from rfl] at this
  rw [this, List.drop_succ_cons, List.drop_zero]
def restF (ts : List D) (os : List Nat) : D → Option D
  | .int i => if os.contains i.toNat = true then none else some (ts.getD i.toNat .none)
  | _ => none
theorem rngD_eq (m : Nat) : rngD 0 m = (List.range m).map fun (i : Nat) => PyData.int (i : Int) := by
  unfold rngD
  exact List.map_congr_left fun i _ => by rw [Int.zero_add]
theorem rngD_nat {m : Nat} {d : D} (h : d ∈ rngD 0 m) : ∃ i : Nat, i < m ∧ d = .int (i : Int) := by
  rw [rngD_eq] at h
  obtain ⟨i, hi, rfl⟩ :=
        List.mem_map.mp h
  exact ⟨i, List.mem_range.mp hi, rfl⟩
theorem restF_all {ts : List D} {os : List Nat} : (rngD 0 ts.length).filterMap (restF ts os) = restR ts os := by
  rw [rngD_eq, List.filterMap_map]
  unfold restR restI
  generalize List.range ts.length = l
  induction l with
  | nil => rfl
  | cons i l ih =>
    rw [List.filter_cons]
    cases h : os.contains i with
    | true => rw [List.filterMap_cons_none (by show (if os.contains i = true then none else _) = none; rw [if_pos h]), ih, if_neg (by decide)]
    | false => rw [List.filterMap_cons_some (b := ts.getD i .none) (by show (if os.contains i = true then none else some (ts.getD i .none)) = _; rw [if_neg (by rw [h]; decide)]), ih, if_pos (by decide), List.map_cons]
/-- the row of a break, with the first rule's number -/
def tag0 (d : D) : D := .tuple (.int 0 :: rowsOf d)
section
variable {P : Program} {w : World} {K : PySem.W.Frag} {mg : Str → Option Value} {base : Heap} {A : Cls}
def w_law_right : Wc := fun ds k Q _ => ∃ (cs rs ts : List D) (k' : Nat), ds = [penD, .tuple cs, .tuple rs, .tuple ts] ∧ okCols (.tuple cs) ∧ okRuls cs rs ∧ okTab cs ts ∧ k = k' + 1 ∧ ∀ k'', k' ≤ k'' → Q (.bool true) k''
theorem m_law_right : Wc.Mono w_law_right := fun ds k Q Q' x x' h1 _ ⟨cs, rs, ts, k', e, p1, p2, p3, p4, q⟩ => ⟨cs, rs, ts, k', e, p1, p2, p3, p4, fun k'' l => h1 _ _ (q k'' l)⟩
theorem d_law_right (T : Txt K mg A) (d_law_take : Def P w K mg base "_law_take" 2 ["_law_pen", "_law_many"] w_law_take) (o_breaks : DefO P w K mg base "breaks" 8 ["columns", "rules", "table"] x_breaks) (d_holds : Def P w K mg base "holds" 8 ["columns", "rule", "table"] w_holds) (d_law_turned : Def P w K mg base "_law_turned" 1 ["_law_found", "_law_many"] w_law_turned)
    (d_fewest_out : Def P w K mg base "fewest_out" 9 ["columns", "rules", "table"] w_fewest_out) (F : FunAt K mg "_law_right" s_law_right ["_law_pen", "_law_columns_here", "_law_rules_here", "_law_table_here"]) : Def P w K mg base "_law_right" 10 ["_law_pen", "_law_columns_here", "_law_rules_here", "_law_table_here"] w_law_right := by
  have d_breaks := o_breaks.plain n_breaks
  have m_breaks : Wc.Mono (plainO x_breaks) := plainO.mono n_breaks
  refine defD F sc_law_right (fun ds k Q x ⟨_, _, _, _, e, _⟩ => by rw [e]; rfl) fun f cdv Ar outer s H E p G hg hr => ⟨_, (dss_cons (ds_par (i := 4) (j := 5) rfl sc_law_right.nd (de_fn d_breaks m_breaks hg hr (takes_of rfl rfl rfl rfl) (da_cons (de_var (pv 1)) (da_cons (de_var (pv 2)) (da_cons (de_var (pv 3)) da_nil)))) (de_bi lenD.mono fitsLen call_len_seq (da_cons (de_var (pv 3)) da_nil) T.z_len) (by decide) (by rfl))
    (dss_cons (ds_if (dt_cmp (op_neA hr.units) neD.mono fitsNe (de_fn d_breaks m_breaks hg hr (takes_of rfl rfl rfl rfl) (da_cons (de_var (pv 1)) (da_cons (de_var (pv 2)) (da_cons (de_rev (de_var (pv 3))) da_nil)))) (de_fn d_law_turned m_law_turned hg hr (takes_of rfl rfl rfl rfl) (da_cons (de_var (pv 4)) (da_cons (de_var (pv 5)) da_nil))))
    (dss_one (ds_ret de_bl))
    dss_nil)
    (dss_cons (ds_for (passes_of rfl) rfl (di_rng1 (de_bi lenD.mono fitsLen call_len_seq (da_cons (de_var (pv 2)) da_nil) T.z_len) T.z_range) (dg_nm (i := 6) sc_law_right.nd)
    (dss_cons (ds_setLc (i := 7) (own := [("_law_row_here", 8)]) rfl sc_law_right.nd (di_seq (de_var (pv 4))) (blkOk_by (N := ["_law_pen", "_law_columns_here", "_law_rules_here", "_law_table_here", "_law_found", "_law_many", "_law_k", "_law_own", "_law_row_here", "_law_due", "_law_part", "_law_out", "_law_rest"]) (sc := defScope s_law_right) (by decide +kernel)) (fun _ _ _ _ _ _ _ => (dgc_nm (i := 8) sc_law_right.nd (by decide))) (fun _ _ _ _ _ _ _ => (dts_one (dt_cmp (op_eqA hr.units) eqD.mono fitsEq (de_idx (de_var (pv 8)) de_int) (de_var (pv 6))))) (fun _ _ _ _ _ _ _ => (de_var (pv 8))) (sw_true rfl rfl rfl (by decide +kernel)))
    (dss_cons (ds_setLc (i := 9) (own := [("_law_row_here", 8)]) rfl sc_law_right.nd (di_seq (de_var (pv 7))) (blkOk_by (N := ["_law_pen", "_law_columns_here", "_law_rules_here", "_law_table_here", "_law_found", "_law_many", "_law_k", "_law_own", "_law_row_here", "_law_due", "_law_part", "_law_out", "_law_rest"]) (sc := defScope s_law_right) (by decide +kernel)) (fun _ _ _ _ _ _ _ => (dgc_nm (i := 8) sc_law_right.nd (by decide))) (fun _ _ _ _ _ _ _ => dts_nil) (fun _ _ _ _ _ _ _ => (de_bin op_addA addD.mono fitsAdd (de_tup (da_cons de_int da_nil)) (de_sl (de_var (pv 8)) (do_some de_int) do_none))) (sw_true rfl rfl rfl (by decide +kernel)))
    (dss_cons (ds_if (dt_cmp (op_neA hr.units) neD.mono fitsNe (de_fn d_breaks m_breaks hg hr (takes_of rfl rfl rfl rfl) (da_cons (de_var (pv 1)) (da_cons (de_sl (de_var (pv 2)) (do_some (de_var (pv 6))) (do_some (de_bin op_addA addD.mono fitsAdd (de_var (pv 6)) de_int))) (da_cons (de_var (pv 3)) da_nil)))) (de_var (pv 9)))
    (dss_one (ds_ret de_bl))
    dss_nil)
    (dss_one (ds_if (dt_cmp (op_neA hr.units) neD.mono fitsNe (de_fn d_holds m_holds hg hr (takes_of rfl rfl rfl rfl) (da_cons (de_var (pv 1)) (da_cons (de_idx (de_var (pv 2)) (de_var (pv 6))) (da_cons (de_var (pv 3)) da_nil)))) (de_cmp (op_eqA hr.units) eqD.mono fitsEq (de_var (pv 7)) (de_lst da_nil)))
    (dss_one (ds_ret de_bl))
    dss_nil))))))
    (dss_cons (ds_set (i := 10) (de_fn d_law_take m_law_take hg hr (takes_of rfl rfl rfl rfl) (da_cons (de_var (pv 0)) (da_cons (de_bin op_addA addD.mono fitsAdd (de_var (pv 5)) de_int) da_nil))) sc_law_right.nd)
    (dss_cons (ds_setLc (i := 9) (own := [("_law_row_here", 8)]) rfl sc_law_right.nd (di_seq (de_var (pv 4))) (blkOk_by (N := ["_law_pen", "_law_columns_here", "_law_rules_here", "_law_table_here", "_law_found", "_law_many", "_law_k", "_law_own", "_law_row_here", "_law_due", "_law_part", "_law_out", "_law_rest"]) (sc := defScope s_law_right) (by decide +kernel)) (fun _ _ _ _ _ _ _ => (dgc_nm (i := 8) sc_law_right.nd (by decide))) (fun _ _ _ _ _ _ _ => (dts_one (dt_cmp op_lt cmpD.mono fitsCmp (de_bi mostD.mono fitsMost (cr_max rfl hr.units) (da_cons (de_sl (de_var (pv 8)) (do_some de_int) do_none) da_nil) T.z_max) (de_var (pv 10))))) (fun _ _ _ _ _ _ _ => (de_var (pv 8))) (sw_true rfl rfl rfl (by decide +kernel)))
    (dss_cons (ds_if (dt_cmp (op_neA hr.units) neD.mono fitsNe (de_fn d_breaks m_breaks hg hr (takes_of rfl rfl rfl rfl) (da_cons (de_var (pv 1)) (da_cons (de_var (pv 2)) (da_cons (de_sl (de_var (pv 3)) do_none (do_some (de_var (pv 10)))) da_nil)))) (de_var (pv 9)))
    (dss_one (ds_ret de_bl))
    dss_nil)
    (dss_cons (ds_set (i := 11) (de_fn d_fewest_out m_fewest_out hg hr (takes_of rfl rfl rfl rfl) (da_cons (de_var (pv 1)) (da_cons (de_var (pv 2)) (da_cons (de_var (pv 3)) da_nil)))) sc_law_right.nd)
    (dss_cons (ds_set (i := 12) (de_bt tupleD.mono fitsTuple call_tuple_of (da_cons (de_lc (own := [("_law_k", 6)]) rfl sc_law_right.nd (di_rng1 (de_var (pv 5)) T.z_range) (blkOk_by (N := ["_law_pen", "_law_columns_here", "_law_rules_here", "_law_table_here", "_law_found", "_law_many", "_law_k", "_law_own", "_law_row_here", "_law_due", "_law_part", "_law_out", "_law_rest"]) (sc := defScope s_law_right) (by decide +kernel)) (fun _ _ _ _ _ _ _ => (dgc_nm (i := 6) sc_law_right.nd (by decide))) (fun _ _ _ _ _ _ _ => (dts_one (dt_cmp (op_notInA (hr65 hr)) notInD.mono fitsNotIn (de_var (pv 6)) (de_var (pv 11))))) (fun _ _ _ _ _ _ _ => (de_idx (de_var (pv 3)) (de_var (pv 6))))) da_nil) T.z_tuple) sc_law_right.nd)
    (dss_one (ds_ret (de_and (de_cmp (op_eqA hr.units) eqD.mono fitsEq (de_fn d_breaks m_breaks hg hr (takes_of rfl rfl rfl rfl) (da_cons (de_var (pv 1)) (da_cons (de_var (pv 2)) (da_cons (de_var (pv 12)) da_nil)))) (de_lst da_nil)) (de_one (de_cmp (op_eqA hr.units) eqD.mono fitsEq (de_cmp (op_eqA hr.units) eqD.mono fitsEq (de_bi lenD.mono fitsLen call_len_seq (da_cons (de_var (pv 11)) da_nil) T.z_len) de_int) (de_cmp (op_eqA hr.units) eqD.mono fitsEq (de_var (pv 4)) (de_lst da_nil))))))))))))))), ?_⟩
  rintro ds n Q x ⟨cs, rs, ts, k', rfl, hc, hrs, ht, rfl, q⟩
  have h8 := ht.1
  have r8 := hrs.1
  have al := allTo_len (rs := rs) (rows := ts) h8 (j := rs.length)
  simp only [wRet, wSet, wSeq, wNext, wDrop, wIfS, wTest, wAnd, wOr, wNot, wIf, wBin, wVar, wC, wAndV, wOrV, wNotV, wIsN, wNotN, wNeg, wChain, wNil, wCons, wTup, wLst, wBi, wCall, wIsi, wSl, wSo, wNo, wSeqI, wFor, gNm, gTp, puts, wAsg, wPar, wMul, wmD, wmO, putsI, wAug, wTryIs, wRng1, wRng2, wEnum, wEnumT, wZip, wLc, wYes, wLend, wRel, wOwn, wApp, wIns, wSetIx, wLstF, wListF, wRepF, wAddF, wSlS, wParO, wRevT, wSortedSet, wSortedSetL, wSortedSetT, wKeys, weI, wExt, allD, wMt, wRaise, wSeqO, wCallF, plainO, wCallA, wIdx0, wAnF, wSetA, wUnA, wSeqA, plainA, wFld, wFldO, wMake, wLRg, Ans.data, Ans.own.injEq, Ans.tup.injEq, Ans.dat.injEq, wTry, wTryM, wHs, wIsC, enOf, put, putUn, defEnds, lendE, lend, wipeE, hide, lenD, intD, listD, tupleD, reprD, wPen0, wPen1, wPen2, wPenS1, wPenS2, penAt, List.map_cons, List.map_nil, List.length_cons, List.length_nil, List.nil_append, List.cons_append, Nat.reduceAdd, Nat.reduceSub, Nat.reduceLeDiff, Nat.zero_add, List.replicate_zero, List.replicate_succ, List.getElem?_cons_zero, List.getElem?_cons_succ, List.set_cons_zero, List.set_cons_succ, Option.some.injEq, Slot.dat.injEq, Slot.own.injEq, PyData.bool.injEq, PyData.int.injEq, PyData.tuple.injEq, PyData.list.injEq, exists_eq_left', exists_eq_left, and_true, true_and, if_true, if_false, Bool.false_eq_true, reduceCtorEq, List.mapIdx_cons, List.mapIdx_nil, mostD, sortData]
  have fb : ∀ d ∈ allTo rs ts rs.length, ∃ (k : Nat) (ns : List Nat), d = natT (k :: ns) ∧ okNs ts.length ns ∧ k < 100 := fun d hd => by
    obtain ⟨k, hk, ns, _, h2, e⟩ := allTo_mem.mp hd
    exact ⟨k, ns, e, h2, by omega⟩
  have ga : Good (.list (allTo rs ts rs.length)) := allTo_good h8 r8
  have gn : Good (.list []) := (by exact ⟨by decide +kernel, by decide +kernel, by decide +kernel⟩ : Ok 1 1 (.list [])).good
  refine ⟨cs, rs, ts, rfl, hc, hrs, ht, cs, rs, ts.reverse, rfl, hc, hrs, okTab.rev ht, ts.length, _, rfl, h8, by omega, fb, ?_⟩
  have et : srtD ((allTo rs ts rs.length).map (turnD ts.length)) = allTo rs ts.reverse rs.length := by
    rw [← allTo_rev hrs ht, List.map_map]
    rfl
  rw [et]
  have gr : Good (.list (allTo rs ts.reverse rs.length)) := allTo_good (okTab.rev ht).1 r8
  refine ⟨.inr ⟨gr, gr⟩, _, rfl, ?_⟩
  rw [if_neg (by rw [eqv_self gr]; decide)]
  refine ⟨by omega,
        by omega, ?_⟩
  rw [Int.toNat_natCast]
  generalize hfo : allTo rs ts rs.length = found at al fb ga q
  refine wLoop.rng rs.length (fun t e => ∃ (u6 u7 u8 u9 u10 u11 u12 : Slot), e = ⟨[.dat penD, .dat (.tuple cs), .dat (.tuple rs), .dat (.tuple ts), .dat (.list found), .dat (.int (ts.length : Int)), u6, u7, u8, u9, u10, u11, u12], k' + 1⟩) ?_ ?_ ⟨_, _, _, _, _, _, _, rfl⟩
  · rintro t e tm ⟨u6, u7, u8, u9, u10, u11, u12, rfl⟩ N nx
    have hm := getD_mem (xs := rs) (Int.natCast_nonneg t) (by omega)
    have at1 := atI_pos (xs := rs) (Int.natCast_nonneg t) (by omega)
    rw [Int.toNat_natCast] at hm at1
    have hr' := hrs.2 _ hm
    have own : found.filter (firstIs t) = (brkR ts (rs.getD t .none)).map (tag t) := by
      rw [← hfo, allTo_own, if_pos tm]
    have bl := brkR_len (rows := ts) (r := rs.getD t .none) h8
    simp only [wRet, wSet, wSeq, wNext, wDrop, wIfS, wTest, wAnd, wOr, wNot, wIf, wBin, wVar, wC, wAndV, wOrV, wNotV, wIsN, wNotN, wNeg, wChain, wNil, wCons, wTup, wLst, wBi, wCall, wIsi, wSl, wSo, wNo, wSeqI, wFor, gNm, gTp, puts, wAsg, wPar, wMul, wmD, wmO, putsI, wAug, wTryIs, wRng1, wRng2, wEnum, wEnumT, wZip, wLc, wYes, wLend, wRel, wOwn, wApp, wIns, wSetIx, wLstF, wListF, wRepF, wAddF, wSlS, wParO, wRevT, wSortedSet, wSortedSetL, wSortedSetT, wKeys, weI, wExt, allD, wMt, wRaise, wSeqO, wCallF, plainO, wCallA, wIdx0, wAnF, wSetA, wUnA, wSeqA, plainA, wFld, wFldO, wMake, wLRg, Ans.data, Ans.own.injEq, Ans.tup.injEq, Ans.dat.injEq, wTry, wTryM, wHs, wIsC, enOf, put, putUn, defEnds, lendE, lend, wipeE, hide, lenD, intD, listD, tupleD, reprD, wPen0, wPen1, wPen2, wPenS1, wPenS2, penAt, List.map_cons, List.map_nil, List.length_cons, List.length_nil, List.nil_append, List.cons_append, Nat.reduceAdd, Nat.reduceSub, Nat.reduceLeDiff, Nat.zero_add, List.replicate_zero, List.replicate_succ, List.getElem?_cons_zero, List.getElem?_cons_succ, List.set_cons_zero, List.set_cons_succ, Option.some.injEq, Slot.dat.injEq, Slot.own.injEq, PyData.bool.injEq, PyData.int.injEq, PyData.tuple.injEq, PyData.list.injEq, exists_eq_left', exists_eq_left, and_true, true_and, if_true, if_false, Bool.false_eq_true, reduceCtorEq, List.mapIdx_cons, List.mapIdx_nil, mostD, sortData]
    refine ⟨found, rfl, ?_⟩
    refine lcLoop.fm (fun d => if firstIs t d = true then some d else none) (fun d hd A B h1 h2 => ?_) (by rw [List.length_nil]; omega) ?_
    · obtain ⟨k, ns, rfl, _⟩ := fb d hd
      have ef : firstIs t (natT (k :: ns)) = decide (k = t) := by
        rw [← tag_natT, firstIs_tag]
      rw [show natT (k :: ns) = PyData.tuple (.int (k : Int) :: ns.map fun (n : Nat) => PyData.int (n : Int)) from rfl] at ef ⊢
      simp only [wRet, wSet, wSeq, wNext, wDrop, wIfS, wTest, wAnd, wOr, wNot, wIf, wBin, wVar, wC, wAndV, wOrV, wNotV, wIsN, wNotN, wNeg, wChain, wNil, wCons, wTup, wLst, wBi, wCall, wIsi, wSl, wSo, wNo, wSeqI, wFor, gNm, gTp, puts, wAsg, wPar, wMul, wmD, wmO, putsI, wAug, wTryIs, wRng1, wRng2, wEnum, wEnumT, wZip, wLc, wYes, wLend, wRel, wOwn, wApp, wIns, wSetIx, wLstF, wListF, wRepF, wAddF, wSlS, wParO, wRevT, wSortedSet, wSortedSetL, wSortedSetT, wKeys, weI, wExt, allD, wMt, wRaise, wSeqO, wCallF, plainO, wCallA, wIdx0, wAnF, wSetA, wUnA, wSeqA, plainA, wFld, wFldO, wMake, wLRg, Ans.data, Ans.own.injEq, Ans.tup.injEq, Ans.dat.injEq, wTry, wTryM, wHs, wIsC, enOf, put, putUn, defEnds, lendE, lend, wipeE, hide, lenD, intD, listD, tupleD, reprD, wPen0, wPen1, wPen2, wPenS1, wPenS2, penAt, List.map_cons, List.map_nil, List.length_cons, List.length_nil, List.nil_append, List.cons_append, Nat.reduceAdd, Nat.reduceSub, Nat.reduceLeDiff, Nat.zero_add, List.replicate_zero, List.replicate_succ, List.getElem?_cons_zero, List.getElem?_cons_succ, List.set_cons_zero, List.set_cons_succ, Option.some.injEq, Slot.dat.injEq, Slot.own.injEq, PyData.bool.injEq, PyData.int.injEq, PyData.tuple.injEq, PyData.list.injEq, exists_eq_left', exists_eq_left, and_true, true_and, if_true, if_false, Bool.false_eq_true, reduceCtorEq, List.mapIdx_cons, List.mapIdx_nil, mostD, sortData, idxD, eqD]
      refine ⟨.int (k : Int), by rw [atI_pos (by decide) (by simp)]; rfl, .int (t : Int), rfl, .inl rfl, ?_⟩
      rw [eqv_ints]
      by_cases e : k = t
      · rw [if_pos (decide_eq_true (by omega))]
        exact h2 _ (if_pos (by rw [← decide_eq_true e]; exact ef))
      · rw [if_neg (by rw [decide_eq_false (by omega)]; decide)]
        exact h1 (if_neg (fun z => by rw [show firstIs t (natT (k :: ns)) = decide (k = t) from ef, decide_eq_false e] at z; cases z))
    · rw [List.nil_append, fm_filter, own]
      generalize hb : brkR ts (rs.getD t .none) = bs at bl
      have hbn : ∀ b ∈ bs, ∃ ns, b = natT ns ∧ okNs ts.length ns := fun b h => brkR_ns b (by rw [hb]; exact h)
      refine ⟨_, rfl, ?_⟩
      refine lcLoop.fm (fun d => some (tag0 d)) (fun d hd A B h1 h2 => ?_) (by rw [List.length_nil, List.length_map]; omega) ?_
      · obtain ⟨b, hb', rfl⟩ := List.mem_map.mp hd
        obtain ⟨ns, rfl, hn⟩ := hbn b hb'
        rw [tag_natT]
        rw [show natT (t :: ns) = PyData.tuple (.int (t : Int) :: ns.map fun (n : Nat) => PyData.int (n : Int)) from rfl]
        simp only [wRet, wSet, wSeq, wNext, wDrop, wIfS, wTest, wAnd, wOr, wNot, wIf, wBin, wVar, wC, wAndV, wOrV, wNotV, wIsN, wNotN, wNeg, wChain, wNil, wCons, wTup, wLst, wBi, wCall, wIsi, wSl, wSo, wNo, wSeqI, wFor, gNm, gTp, puts, wAsg, wPar, wMul, wmD, wmO, putsI, wAug, wTryIs, wRng1, wRng2, wEnum, wEnumT, wZip, wLc, wYes, wLend, wRel, wOwn, wApp, wIns, wSetIx, wLstF, wListF, wRepF, wAddF, wSlS, wParO, wRevT, wSortedSet, wSortedSetL, wSortedSetT, wKeys, weI, wExt, allD, wMt, wRaise, wSeqO, wCallF, plainO, wCallA, wIdx0, wAnF, wSetA, wUnA, wSeqA, plainA, wFld, wFldO, wMake, wLRg, Ans.data, Ans.own.injEq, Ans.tup.injEq, Ans.dat.injEq, wTry, wTryM, wHs, wIsC, enOf, put, putUn, defEnds, lendE, lend, wipeE, hide, lenD, intD, listD, tupleD, reprD, wPen0, wPen1, wPen2, wPenS1, wPenS2, penAt, List.map_cons, List.map_nil, List.length_cons, List.length_nil, List.nil_append, List.cons_append, Nat.reduceAdd, Nat.reduceSub, Nat.reduceLeDiff, Nat.zero_add, List.replicate_zero, List.replicate_succ, List.getElem?_cons_zero, List.getElem?_cons_succ, List.set_cons_zero, List.set_cons_succ, Option.some.injEq, Slot.dat.injEq, Slot.own.injEq, PyData.bool.injEq, PyData.int.injEq, PyData.tuple.injEq, PyData.list.injEq, exists_eq_left', exists_eq_left, and_true, true_and, if_true, if_false, Bool.false_eq_true, reduceCtorEq, List.mapIdx_cons, List.mapIdx_nil, mostD, sortData, slD, cut_tl1, addD]
        have nl : ns.length ≤ 2 := by
          rcases hn with ⟨i, rfl, _⟩ | ⟨i, j, rfl, _⟩ <;> simp
        exact ⟨by rw [sizeLine_eq, List.length_map]; omega, h2 _ rfl⟩
      · rw [List.nil_append, fmap_some, List.map_map]
        have e0 : bs.map (tag0 ∘ tag t) = bs.map (tag 0) := List.map_congr_left fun b _ => rfl
        rw [e0]
        have hr1 : okRuls cs [rs.getD t .none] := ⟨by simp, fun r h => by rw [List.mem_singleton.mp h]; exact hr'⟩
        have ea1 : allTo [rs.getD t .none] ts 1 = bs.map (tag 0) := by
          rw [show (1 : Nat) = 0 + 1 from rfl, allTo_succ]
          rw [show allTo [rs.getD t .none] ts 0 = [] from rfl, List.nil_append]
          show (brkR ts (rs.getD t .none)).map (tag 0) = _
          rw [hb]
        have g1 : Good (.list (bs.map (tag 0))) := by
          rw [← ea1]
          exact allTo_good h8 (j := 1) (by decide)
        simp only [wRet, wSet, wSeq, wNext, wDrop, wIfS, wTest, wAnd, wOr, wNot, wIf, wBin, wVar, wC, wAndV, wOrV, wNotV, wIsN, wNotN, wNeg, wChain, wNil, wCons, wTup, wLst, wBi, wCall, wIsi, wSl, wSo, wNo, wSeqI, wFor, gNm, gTp, puts, wAsg, wPar, wMul, wmD, wmO, putsI, wAug, wTryIs, wRng1, wRng2, wEnum, wEnumT, wZip, wLc, wYes, wLend, wRel, wOwn, wApp, wIns, wSetIx, wLstF, wListF, wRepF, wAddF, wSlS, wParO, wRevT, wSortedSet, wSortedSetL, wSortedSetT, wKeys, weI, wExt, allD, wMt, wRaise, wSeqO, wCallF, plainO, wCallA, wIdx0, wAnF, wSetA, wUnA, wSeqA, plainA, wFld, wFldO, wMake, wLRg, Ans.data, Ans.own.injEq, Ans.tup.injEq, Ans.dat.injEq, wTry, wTryM, wHs, wIsC, enOf, put, putUn, defEnds, lendE, lend, wipeE, hide, lenD, intD, listD, tupleD, reprD, wPen0, wPen1, wPen2, wPenS1, wPenS2, penAt, List.map_cons, List.map_nil, List.length_cons, List.length_nil, List.nil_append, List.cons_append, Nat.reduceAdd, Nat.reduceSub, Nat.reduceLeDiff, Nat.zero_add, List.replicate_zero, List.replicate_succ, List.getElem?_cons_zero, List.getElem?_cons_succ, List.set_cons_zero, List.set_cons_succ, Option.some.injEq, Slot.dat.injEq, Slot.own.injEq, PyData.bool.injEq, PyData.int.injEq, PyData.tuple.injEq, PyData.list.injEq, exists_eq_left', exists_eq_left, and_true, true_and, if_true, if_false, Bool.false_eq_true, reduceCtorEq, List.mapIdx_cons, List.mapIdx_nil, mostD, sortData, slD, addD, cut_one tm]
        refine ⟨cs, [rs.getD t .none], ts, rfl, hc, hr1, ht, ?_⟩
        rw [show ([rs.getD t .none] : List D).length = 1 from rfl, ea1]
        simp only [neD, eqD]
        refine ⟨.inr ⟨g1, g1⟩, _, rfl, ?_⟩
        rw [if_neg (by rw [eqv_self g1]; decide)]
        simp only [idxD]
        have got : Good (.list (bs.map (tag t))) := by
          rw [← hb, ← own, ← hfo]
          exact ((Ok.list (n := 4) (m := 1) (k := 512) (fun d hd => allTo_ok h8 r8 d (List.mem_filter.mp hd).1) (Nat.le_trans (List.length_filter_le _ _) (by rw [hfo]; omega)))).good
        refine ⟨_, at1, cs, ts, _, rfl, hc, hr', ht, .inr ⟨got, gn⟩, .inr ⟨Ok.bool.good, Ok.bool.good⟩, _, rfl, ?_⟩
        rw [hb, eqv_nil]
        have ed : decide (bs = []) = decide (bs.map (tag t) = []) := by
          rw [decide_eq_decide, List.map_eq_nil_iff]
        rw [ed, if_neg (by rw [eqv_self (n := 1) (m := 0) Ok.bool]; decide)]
        exact nx _ ⟨_, _, _, _, _, _, _, rfl⟩
  · rintro e ⟨u6, u7, u8, u9, u10, u11, u12, rfl⟩
    simp only [wRet, wSet, wSeq, wNext, wDrop, wIfS, wTest, wAnd, wOr, wNot, wIf, wBin, wVar, wC, wAndV, wOrV, wNotV, wIsN, wNotN, wNeg, wChain, wNil, wCons, wTup, wLst, wBi, wCall, wIsi, wSl, wSo, wNo, wSeqI, wFor, gNm, gTp, puts, wAsg, wPar, wMul, wmD, wmO, putsI, wAug, wTryIs, wRng1, wRng2, wEnum, wEnumT, wZip, wLc, wYes, wLend, wRel, wOwn, wApp, wIns, wSetIx, wLstF, wListF, wRepF, wAddF, wSlS, wParO, wRevT, wSortedSet, wSortedSetL, wSortedSetT, wKeys, weI, wExt, allD, wMt, wRaise, wSeqO, wCallF, plainO, wCallA, wIdx0, wAnF, wSetA, wUnA, wSeqA, plainA, wFld, wFldO, wMake, wLRg, Ans.data, Ans.own.injEq, Ans.tup.injEq, Ans.dat.injEq, wTry, wTryM, wHs, wIsC, enOf, put, putUn, defEnds, lendE, lend, wipeE, hide, lenD, intD, listD, tupleD, reprD, wPen0, wPen1, wPen2, wPenS1, wPenS2, penAt, List.map_cons, List.map_nil, List.length_cons, List.length_nil, List.nil_append, List.cons_append, Nat.reduceAdd, Nat.reduceSub, Nat.reduceLeDiff, Nat.zero_add, List.replicate_zero, List.replicate_succ, List.getElem?_cons_zero, List.getElem?_cons_succ, List.set_cons_zero, List.set_cons_succ, Option.some.injEq, Slot.dat.injEq, Slot.own.injEq, PyData.bool.injEq, PyData.int.injEq, PyData.tuple.injEq, PyData.list.injEq, exists_eq_left', exists_eq_left, and_true, true_and, if_true, if_false, Bool.false_eq_true, reduceCtorEq, List.mapIdx_cons, List.mapIdx_nil, mostD, sortData, addD]
    refine ⟨_, k', rfl, rfl, by omega, small9 (by omega), fun p p0 p1 k'' l => ⟨found, rfl, ?_⟩⟩
    obtain ⟨p, rfl⟩ : ∃ p' : Nat, p = (p' : Int) := ⟨p.toNat, by omega⟩
    have pl : p ≤ ts.length := by omega
    refine lcLoop.fm (fun d => if maxB p d = true then some d else none) (fun d hd A B h1 h2 => ?_) (by rw [List.length_nil]; omega) ?_
    · obtain ⟨k, ns, rfl, hn, _⟩ := fb d hd
      obtain ⟨a, as, rfl⟩ : ∃ a as, ns = a :: as := by
        rcases hn with ⟨i, rfl, _⟩ | ⟨i, j, rfl, _⟩
        · exact ⟨_, _, rfl⟩
        · exact ⟨_, _, rfl⟩
      have em : maxB p (natT (k :: a :: as)) = decide ((as.map fun (n : Nat) => (n : Int)).foldl max (a : Int) < (p : Int)) := by
        rw [Bool.eq_iff_iff, decide_eq_true_eq, max_lt]
        show ((a :: as).map fun (n : Nat) => PyData.int (n : Int)).all _ = true ↔ _
        rw [List.map_cons, List.all_cons, Bool.and_eq_true, decide_eq_true_eq, List.all_eq_true]
        refine ⟨fun ⟨h1, h2⟩ => ⟨h1, fun x hx => ?_⟩, fun ⟨h1, h2⟩ => ⟨h1, fun x hx => ?_⟩⟩
        · obtain ⟨m, hm, rfl⟩ := List.mem_map.mp hx
          exact of_decide_eq_true (h2 _ (List.mem_map.mpr ⟨m, hm, rfl⟩))
        · obtain ⟨m, hm, rfl⟩ := List.mem_map.mp hx
          exact decide_eq_true (h2 _ (List.mem_map.mpr ⟨m, hm, rfl⟩))
      rw [show natT (k :: a :: as) = PyData.tuple (.int (k : Int) :: (a :: as).map fun (n : Nat) => PyData.int (n : Int)) from rfl]
      simp only [wRet, wSet, wSeq, wNext, wDrop, wIfS, wTest, wAnd, wOr, wNot, wIf, wBin, wVar, wC, wAndV, wOrV, wNotV, wIsN, wNotN, wNeg, wChain, wNil, wCons, wTup, wLst, wBi, wCall, wIsi, wSl, wSo, wNo, wSeqI, wFor, gNm, gTp, puts, wAsg, wPar, wMul, wmD, wmO, putsI, wAug, wTryIs, wRng1, wRng2, wEnum, wEnumT, wZip, wLc, wYes, wLend, wRel, wOwn, wApp, wIns, wSetIx, wLstF, wListF, wRepF, wAddF, wSlS, wParO, wRevT, wSortedSet, wSortedSetL, wSortedSetT, wKeys, weI, wExt, allD, wMt, wRaise, wSeqO, wCallF, plainO, wCallA, wIdx0, wAnF, wSetA, wUnA, wSeqA, plainA, wFld, wFldO, wMake, wLRg, Ans.data, Ans.own.injEq, Ans.tup.injEq, Ans.dat.injEq, wTry, wTryM, wHs, wIsC, enOf, put, putUn, defEnds, lendE, lend, wipeE, hide, lenD, intD, listD, tupleD, reprD, wPen0, wPen1, wPen2, wPenS1, wPenS2, penAt, List.map_cons, List.map_nil, List.length_cons, List.length_nil, List.nil_append, List.cons_append, Nat.reduceAdd, Nat.reduceSub, Nat.reduceLeDiff, Nat.zero_add, List.replicate_zero, List.replicate_succ, List.getElem?_cons_zero, List.getElem?_cons_succ, List.set_cons_zero, List.set_cons_succ, Option.some.injEq, Slot.dat.injEq, Slot.own.injEq, PyData.bool.injEq, PyData.int.injEq, PyData.tuple.injEq, PyData.list.injEq, exists_eq_left', exists_eq_left, and_true, true_and, if_true, if_false, Bool.false_eq_true, reduceCtorEq, List.mapIdx_cons, List.mapIdx_nil, mostD, sortData, slD, cut_tl1, cmpD]
      refine ⟨(a : Int), as.map fun (n : Nat) => (n : Int), by rw [List.map_map] <;> rfl, _, rfl, ?_⟩
      dsimp only
      refine ⟨_, rfl, ?_⟩
      by_cases e : (as.map fun (n : Nat) => (n : Int)).foldl max (a : Int) < (p : Int)
      · rw [if_pos
            (decide_eq_true e)]
        exact h2 _ (if_pos (by rw [em]; exact decide_eq_true e))
      · rw [if_neg (by rw [decide_eq_false e]; decide)]
        exact h1 (if_neg (by rw [em, decide_eq_false e]; decide))
    · rw [List.nil_append, fm_filter]
      have ep : allTo rs (ts.take p) rs.length = found.filter (maxB p) := by rw [allTo_take pl, hfo]
      have htp : okTab cs (ts.take p) := ⟨by rw [List.length_take]; omega, fun d hd => ht.2 d (List.mem_of_mem_take hd)⟩
      have gp : Good (.list (found.filter (maxB p))) := by
        rw [← ep]
        exact allTo_good htp.1 r8
      simp only [wRet, wSet, wSeq, wNext, wDrop, wIfS, wTest, wAnd, wOr, wNot, wIf, wBin, wVar, wC, wAndV, wOrV, wNotV, wIsN, wNotN, wNeg, wChain, wNil, wCons, wTup, wLst, wBi, wCall, wIsi, wSl, wSo, wNo, wSeqI, wFor, gNm, gTp, puts, wAsg, wPar, wMul, wmD, wmO, putsI, wAug, wTryIs, wRng1, wRng2, wEnum, wEnumT, wZip, wLc, wYes, wLend, wRel, wOwn, wApp, wIns, wSetIx, wLstF, wListF, wRepF, wAddF, wSlS, wParO, wRevT, wSortedSet, wSortedSetL, wSortedSetT, wKeys, weI, wExt, allD, wMt, wRaise, wSeqO, wCallF, plainO, wCallA, wIdx0, wAnF, wSetA, wUnA, wSeqA, plainA, wFld, wFldO, wMake, wLRg, Ans.data, Ans.own.injEq, Ans.tup.injEq, Ans.dat.injEq, wTry, wTryM, wHs, wIsC, enOf, put, putUn, defEnds, lendE, lend, wipeE, hide, lenD, intD, listD, tupleD, reprD, wPen0, wPen1, wPen2, wPenS1, wPenS2, penAt, List.map_cons, List.map_nil, List.length_cons, List.length_nil, List.nil_append, List.cons_append, Nat.reduceAdd, Nat.reduceSub, Nat.reduceLeDiff, Nat.zero_add, List.replicate_zero, List.replicate_succ, List.getElem?_cons_zero, List.getElem?_cons_succ, List.set_cons_zero, List.set_cons_succ, Option.some.injEq, Slot.dat.injEq, Slot.own.injEq, PyData.bool.injEq, PyData.int.injEq, PyData.tuple.injEq, PyData.list.injEq, exists_eq_left', exists_eq_left, and_true, true_and, if_true, if_false, Bool.false_eq_true, reduceCtorEq, List.mapIdx_cons, List.mapIdx_nil, mostD, sortData, slD, cut_to pl, neD, eqD]
      refine ⟨cs, rs, ts.take p, rfl, hc, hrs, htp, ?_⟩
      rw [ep]
      refine ⟨.inr ⟨gp, gp⟩, ?_⟩
      rw [if_neg (by rw [eqv_self gp]; decide)]
      refine ⟨cs, rs, ts, rfl, hc, hrs, ht, fun os o1 o2 o3 o4 => ?_⟩
      refine ⟨by omega,
            by omega, ?_⟩
      rw [Int.toNat_natCast]
      have go : Good (natT os) := natT_good o1 (by omega) (by omega)
      refine lcLoop.fm (restF ts os) (fun d hd A B h1 h2 => ?_) (by rw [List.length_nil, rngD_length]; omega) ?_
      · obtain ⟨i, hi, rfl⟩ := rngD_nat hd
        simp only [wRet, wSet, wSeq, wNext, wDrop, wIfS, wTest, wAnd, wOr, wNot, wIf, wBin, wVar, wC, wAndV, wOrV, wNotV, wIsN, wNotN, wNeg, wChain, wNil, wCons, wTup, wLst, wBi, wCall, wIsi, wSl, wSo, wNo, wSeqI, wFor, gNm, gTp, puts, wAsg, wPar, wMul, wmD, wmO, putsI, wAug, wTryIs, wRng1, wRng2, wEnum, wEnumT, wZip, wLc, wYes, wLend, wRel, wOwn, wApp, wIns, wSetIx, wLstF, wListF, wRepF, wAddF, wSlS, wParO, wRevT, wSortedSet, wSortedSetL, wSortedSetT, wKeys, weI, wExt, allD, wMt, wRaise, wSeqO, wCallF, plainO, wCallA, wIdx0, wAnF, wSetA, wUnA, wSeqA, plainA, wFld, wFldO, wMake, wLRg, Ans.data, Ans.own.injEq, Ans.tup.injEq, Ans.dat.injEq, wTry, wTryM, wHs, wIsC, enOf, put, putUn, defEnds, lendE, lend, wipeE, hide, lenD, intD, listD, tupleD, reprD, wPen0, wPen1, wPen2, wPenS1, wPenS2, penAt, List.map_cons, List.map_nil, List.length_cons, List.length_nil, List.nil_append, List.cons_append, Nat.reduceAdd, Nat.reduceSub, Nat.reduceLeDiff, Nat.zero_add, List.replicate_zero, List.replicate_succ, List.getElem?_cons_zero, List.getElem?_cons_succ, List.set_cons_zero, List.set_cons_succ, Option.some.injEq, Slot.dat.injEq, Slot.own.injEq, PyData.bool.injEq, PyData.int.injEq, PyData.tuple.injEq, PyData.list.injEq, exists_eq_left', exists_eq_left, and_true, true_and, if_true, if_false, Bool.false_eq_true, reduceCtorEq, List.mapIdx_cons, List.mapIdx_nil, mostD, sortData, notInD, idxD]
        have gi : Good (.int (i : Int)) := (Ok.int (i := (i : Int)) (by omega)).good
        refine ⟨_, rfl, gi, go, _, rfl, ?_⟩
        rw [inB_nat_iff]
        cases hco : os.contains i with
        | true =>
          exact h1 (by show (if os.contains i = true then none else _) = none; rw [if_pos hco])
        | false =>
          refine ⟨_, rfl, _, ?_, h2 _ (by show (if os.contains i = true then none else some (ts.getD i .none)) = _; rw [if_neg (by rw [hco]; decide)])⟩
          rw [atI_pos (Int.natCast_nonneg i) (by omega), Int.toNat_natCast]
      · rw [List.nil_append, restF_all]
        have er : allTo rs (restR ts os) rs.length = [] := rest_breaks hrs ht (by rw [hfo]; rw [hfo] at o3; exact o3)
        refine ⟨cs, rs, restR ts os, rfl, hc, hrs, restR_ok ht, ?_⟩
        rw [er]
        refine ⟨.inr ⟨gn, gn⟩, ?_⟩
        rw [if_pos (by rw [eqv_nil]; rfl)]
        rw [hfo] at o4
        refine ⟨.inl rfl, .inr ⟨ga, gn⟩, .inr ⟨Ok.bool.good, Ok.bool.good⟩, ?_⟩
        have eb : PyData.eqv (.int ((os.map fun (n : Nat) => PyData.int (n : Int)).length : Int)) (.int 0) = PyData.eqv (.list found) (.list []) := by
          rw [eqv_nil, eqv_ints, decide_eq_decide, ← o4, List.length_map]
          exact ⟨fun h => List.eq_nil_of_length_eq_zero (by omega), fun h => by rw [h]; rfl⟩
        rw [eb, eqv_self (n := 1) (m := 0) Ok.bool]
        exact q _ l
end
end L2.DL.K12




namespace L2.DL.K12
open PySem PySem.Spec
      PyProof.Rows
/-! ### the pen is made -/
theorem s12 (n d : Nat) : HT.sIx n d (some 12) = min 12 n := HT.sIx_nat n d 12
theorem cut12 (ns : List Int) : ∃ xs : List Int, cutD (ns.map PyData.int) none (some 12) = xs.map PyData.int ∧ xs.length ≤ 12 ∧ (12 ≤ ns.length → xs.length = 12) := by
  refine ⟨ns.take (HT.sIx (ns.map PyData.int).length (ns.map PyData.int).length (some 12)), ?_, ?_, ?_⟩
  · unfold cutD
    rw [show HT.sIx (ns.map PyData.int).length 0 none = 0 from rfl, List.drop_zero, Nat.sub_zero, List.map_take]
  · rw [List.length_take, s12]
    omega
  · intro h
    rw [List.length_take, s12, List.length_map]
    omega
theorem cut63 (ns : List Int) : ∃ xs : List Int, cutD (ns.map PyData.int) (some 12) (some 63) = xs.map PyData.int ∧ (xs ≠ [] → 12 ≤ ns.length) := by
  refine ⟨(ns.drop (HT.sIx (ns.map PyData.int).length 0 (some 12))).take (HT.sIx (ns.map PyData.int).length (ns.map PyData.int).length (some 63) - HT.sIx (ns.map PyData.int).length 0 (some 12)), ?_, fun h => ?_⟩
  · unfold cutD
    rw [List.map_take,
          List.map_drop]
  · have : (ns.drop (HT.sIx (ns.map PyData.int).length 0 (some 12))) ≠ [] := fun z => h (by rw [z]; simp)
    rw [s12, List.length_map, ne_eq, List.drop_eq_nil_iff] at this
    omega
def spOpen (K : PySem.W.Frag) : Sp := fun vs H Q _ => ∃ (a : Addr) (ns : List Int), vs = [.ref a] ∧ SqL K H a (ns.map V.int) ∧ ∀ q G' H', Wd K (some q) 500000 G' H' → Q (.ref q) H'
section
variable {P : Program} {w : World} {K : PySem.W.Frag} {mg : Str → Option Value} {base : Heap} {A : Cls}
theorem ok_law_open (T : Txt K mg A) (F : FunAt K mg "_law_open" s_law_open ["_law_script"]) : ∃ f fd, FnG P w K mg base 1 f fd ["_law_script"] (spOpen K) ∧ mg "_law_open" = some (.ref f) ∧ PySem.W.keepIn K (.ref f) = true ∧ Binds K fd ["_law_script"] [] := by
  obtain ⟨f, fd, h1, h2, h3⟩ := F
  refine ⟨f, fd, ?_, h2, h1.kp, h3⟩
  refine fnG_of h1 sc_law_open (fun vs H Q E ⟨a, ns, e, _⟩ => by rw [e]; rfl) fun cdv Ar outer s H vs Q E hg hr h => ?_
  obtain ⟨a, ns, rfl, hS, q⟩ := h
  refine ⟨_, pss_cons (DS.run (F := ⟨none, H, H, fun _ _ _ _ => False⟩) (ds_own (i := 1) (df_list (de_slS (de_var (pv 0)) do_none (do_some de_int)) T.z_list) sc_law_open.nd)) (pss_cons (DS.run (F := ⟨none, H, H, fun _ _ _ _ => False⟩) (ds_for (passes_of rfl) rfl (di_enum (de_slS (de_var (pv 0)) (do_some de_int) (do_some de_int)) T.z_enumerate) (dg_tp rfl (dgs_cons (i := 2) sc_law_open.nd (dgs_cons (i := 3) sc_law_open.nd dgs_nil)))
    (dss_one (ds_setix (i := 1) (de_bin op_mod modD.mono fitsMod (de_bt intD.mono fitsInt call_int1 (da_cons (de_var (pv 2)) da_nil) T.z_int) de_int) (de_lend fun _ _ => (de_bin op_addA addD.mono fitsAdd (de_idx (de_var (pv 1)) (de_bin op_mod modD.mono fitsMod (de_bt intD.mono fitsInt call_int1 (da_cons (de_var (pv 2)) da_nil) T.z_int) de_int)) (de_var (pv 3)))) (pv 1))))) (pss_one (ps_ret (DF.run (F := ⟨none, H, H, fun _ _ _ _ => False⟩) (df_lst (da_cons (de_var (pv 1)) (da_cons de_int (da_cons de_int da_nil)))))))), ?_⟩
  refine ⟨_, H, Rl.start (k := 0) ⟨Same.refl H, fun _ z => nomatch z⟩ (.cons (.scr hS rfl) .nil), ?_⟩
  simp only [wRet, wSet, wSeq, wNext, wDrop, wIfS, wTest, wAnd, wOr, wNot, wIf, wBin, wVar, wC, wAndV, wOrV, wNotV, wIsN, wNotN, wNeg, wChain, wNil, wCons, wTup, wLst, wBi, wCall, wIsi, wSl, wSo, wNo, wSeqI, wFor, gNm, gTp, puts, wAsg, wPar, wMul, wmD, wmO, putsI, wAug, wTryIs, wRng1, wRng2, wEnum, wEnumT, wZip, wLc, wYes, wLend, wRel, wOwn, wApp, wIns, wSetIx, wLstF, wListF, wRepF, wAddF, wSlS, wParO, wRevT, wSortedSet, wSortedSetL, wSortedSetT, wKeys, weI, wExt, allD, wMt, wRaise, wSeqO, wCallF, plainO, wCallA, wIdx0, wAnF, wSetA, wUnA, wSeqA, plainA, wFld, wFldO, wMake, wLRg, Ans.data, Ans.own.injEq, Ans.tup.injEq, Ans.dat.injEq, wTry, wTryM, wHs, wIsC, enOf, put, putUn, defEnds, lendE, lend, wipeE, hide, lenD, intD, listD, tupleD, reprD, wPen0, wPen1, wPen2, wPenS1, wPenS2, penAt, List.map_cons, List.map_nil, List.length_cons, List.length_nil, List.nil_append, List.cons_append, Nat.reduceAdd, Nat.reduceSub, Nat.reduceLeDiff, Nat.zero_add, List.replicate_zero, List.replicate_succ, List.getElem?_cons_zero, List.getElem?_cons_succ, List.set_cons_zero, List.set_cons_succ, Option.some.injEq, Slot.dat.injEq, Slot.own.injEq, PyData.bool.injEq, PyData.int.injEq, PyData.tuple.injEq, PyData.list.injEq, exists_eq_left', exists_eq_left, and_true, true_and, if_true, if_false, Bool.false_eq_true, reduceCtorEq, List.mapIdx_cons, List.mapIdx_nil, endsOf]
  obtain ⟨xs, e1, l1, l2⟩ := cut12 ns
  obtain ⟨ys, e2, l3⟩ := cut63 ns
  refine ⟨ns, rfl, _, rfl, ?_⟩
  rw [e1]
  intro σ1 G1 H1 s1 r1
  refine ⟨_, G1, r1, ?_⟩
  simp only [wRet, wSet, wSeq, wNext, wDrop, wIfS, wTest, wAnd, wOr, wNot, wIf, wBin, wVar, wC, wAndV, wOrV, wNotV, wIsN, wNotN, wNeg, wChain, wNil, wCons, wTup, wLst, wBi, wCall, wIsi, wSl, wSo, wNo, wSeqI, wFor, gNm, gTp, puts, wAsg, wPar, wMul, wmD, wmO, putsI, wAug, wTryIs, wRng1, wRng2, wEnum, wEnumT, wZip, wLc, wYes, wLend, wRel, wOwn, wApp, wIns, wSetIx, wLstF, wListF, wRepF, wAddF, wSlS, wParO, wRevT, wSortedSet, wSortedSetL, wSortedSetT, wKeys, weI, wExt, allD, wMt, wRaise, wSeqO, wCallF, plainO, wCallA, wIdx0, wAnF, wSetA, wUnA, wSeqA, plainA, wFld, wFldO, wMake, wLRg, Ans.data, Ans.own.injEq, Ans.tup.injEq, Ans.dat.injEq, wTry, wTryM, wHs, wIsC, enOf, put, putUn, defEnds, lendE, lend, wipeE, hide, lenD, intD, listD, tupleD, reprD, wPen0, wPen1, wPen2, wPenS1, wPenS2, penAt, List.map_cons, List.map_nil, List.length_cons, List.length_nil, List.nil_append, List.cons_append, Nat.reduceAdd, Nat.reduceSub, Nat.reduceLeDiff, Nat.zero_add, List.replicate_zero, List.replicate_succ, List.getElem?_cons_zero, List.getElem?_cons_succ, List.set_cons_zero, List.set_cons_succ, Option.some.injEq, Slot.dat.injEq, Slot.own.injEq, PyData.bool.injEq, PyData.int.injEq, PyData.tuple.injEq, PyData.list.injEq, exists_eq_left', exists_eq_left, and_true, true_and, if_true, if_false, Bool.false_eq_true, reduceCtorEq, List.mapIdx_cons, List.mapIdx_nil, endsOf]
  refine ⟨ns, rfl, ?_⟩
  rw [e2]
  have hp : ∀ d ∈ pairs (rngD 0 (ys.map PyData.int).length) (ys.map PyData.int), ∃ i j : Int, d = .tuple [.int i, .int j] := fun d hd => by
    obtain ⟨i, hi⟩ := List.mem_iff_getElem?.mp hd
    obtain ⟨c, v, h1, h2, h3⟩ := pairs_at hi
    obtain ⟨_, rfl⟩ := rngD_at h1
    obtain ⟨j, _, rfl⟩ := List.mem_map.mp (List.mem_of_getElem? h2)
    exact ⟨_, j, h3⟩
  refine wLoop.ind (fun ds e => ∃ (xs : List Int) (u v : Slot), e = ⟨[.dat (scrD ns), .own (xs.map PyData.int), u, v], 0⟩ ∧ xs.length ≤ 12 ∧ (ds ≠ [] → xs.length = 12) ∧ ∀ d ∈ ds, ∃ i j : Int, d = .tuple [.int i, .int j]) ?_ ?_
    ⟨xs, .un, .un, rfl, l1, fun h => l2 (l3 fun z => h (by rw [z]; rfl)), hp⟩
  · rintro e ⟨zs, u, v, rfl, h1, _, _⟩
    intro σ2 G2 H2 s2 r2
    obtain ⟨G3, s3, r3⟩ := Rl.lent (F := ⟨none, H, H, fun _ _ _ _ => False⟩) r2
    refine ⟨_, G3, r3, ?_⟩
    simp only [wRet, wSet, wSeq, wNext, wDrop, wIfS, wTest, wAnd, wOr, wNot, wIf, wBin, wVar, wC, wAndV, wOrV, wNotV, wIsN, wNotN, wNeg, wChain, wNil, wCons, wTup, wLst, wBi, wCall, wIsi, wSl, wSo, wNo, wSeqI, wFor, gNm, gTp, puts, wAsg, wPar, wMul, wmD, wmO, putsI, wAug, wTryIs, wRng1, wRng2, wEnum, wEnumT, wZip, wLc, wYes, wLend, wRel, wOwn, wApp, wIns, wSetIx, wLstF, wListF, wRepF, wAddF, wSlS, wParO, wRevT, wSortedSet, wSortedSetL, wSortedSetT, wKeys, weI, wExt, allD, wMt, wRaise, wSeqO, wCallF, plainO, wCallA, wIdx0, wAnF, wSetA, wUnA, wSeqA, plainA, wFld, wFldO, wMake, wLRg, Ans.data, Ans.own.injEq, Ans.tup.injEq, Ans.dat.injEq, wTry, wTryM, wHs, wIsC, enOf, put, putUn, defEnds, lendE, lend, wipeE, hide, lenD, intD, listD, tupleD, reprD, wPen0, wPen1, wPen2, wPenS1, wPenS2, penAt, List.map_cons, List.map_nil, List.length_cons, List.length_nil, List.nil_append, List.cons_append, Nat.reduceAdd, Nat.reduceSub, Nat.reduceLeDiff, Nat.zero_add, List.replicate_zero, List.replicate_succ, List.getElem?_cons_zero, List.getElem?_cons_succ, List.set_cons_zero, List.set_cons_succ, Option.some.injEq, Slot.dat.injEq, Slot.own.injEq, PyData.bool.injEq, PyData.int.injEq, PyData.tuple.injEq, PyData.list.injEq, exists_eq_left', exists_eq_left, and_true, true_and, if_true, if_false, Bool.false_eq_true, reduceCtorEq, List.mapIdx_cons, List.mapIdx_nil]
    intro b vs G4 H4 s4 r4 hb ra
    cases ra with
    | cons ra1 ra =>
      cases ra with
      | cons ra2 ra =>
        cases ra with
        | cons ra3 ra =>
          cases ra
          obtain ⟨c, cs, rfl, hc, hcs⟩ := ra1.lst_inv
          cases ra2.int_inv
          cases ra3.int_inv
          have ec := hcs.ofInts
          subst ec
          have gb : G4 b = none := r4.same.free hb
          refine q b G4 _ ⟨fun d o z => by rw [upd_ne (ne_of_none z gb)]; exact r4.same _ _ z, fun d ed => ?_⟩
          cases ed
          exact ⟨gb, c, zs, 0, 0, upd_same, hc, h1, by decide, by decide⟩
  · rintro d ds e ih ⟨zs, u, v, rfl, h1, h2, h3⟩
    obtain ⟨i, j, rfl⟩ := h3 d List.mem_cons_self
    have h4 := h2 (by simp)
    simp only [wRet, wSet, wSeq, wNext, wDrop, wIfS, wTest, wAnd, wOr, wNot, wIf, wBin, wVar, wC, wAndV, wOrV, wNotV, wIsN, wNotN, wNeg, wChain, wNil, wCons, wTup, wLst, wBi, wCall, wIsi, wSl, wSo, wNo, wSeqI, wFor, gNm, gTp, puts, wAsg, wPar, wMul, wmD, wmO, putsI, wAug, wTryIs, wRng1, wRng2, wEnum, wEnumT, wZip, wLc, wYes, wLend, wRel, wOwn, wApp, wIns, wSetIx, wLstF, wListF, wRepF, wAddF, wSlS, wParO, wRevT, wSortedSet, wSortedSetL, wSortedSetT, wKeys, weI, wExt, allD, wMt, wRaise, wSeqO, wCallF, plainO, wCallA, wIdx0, wAnF, wSetA, wUnA, wSeqA, plainA, wFld, wFldO, wMake, wLRg, Ans.data, Ans.own.injEq, Ans.tup.injEq, Ans.dat.injEq, wTry, wTryM, wHs, wIsC, enOf, put, putUn, defEnds, lendE, lend, wipeE, hide, lenD, intD, listD, tupleD, reprD, wPen0, wPen1, wPen2, wPenS1, wPenS2, penAt, List.map_cons, List.map_nil, List.length_cons, List.length_nil, List.nil_append, List.cons_append, Nat.reduceAdd, Nat.reduceSub, Nat.reduceLeDiff, Nat.zero_add, List.replicate_zero, List.replicate_succ, List.getElem?_cons_zero, List.getElem?_cons_succ, List.set_cons_zero, List.set_cons_succ, Option.some.injEq, Slot.dat.injEq, Slot.own.injEq, PyData.bool.injEq, PyData.int.injEq, PyData.tuple.injEq, PyData.list.injEq, exists_eq_left', exists_eq_left, and_true, true_and, if_true, if_false, Bool.false_eq_true, reduceCtorEq, List.mapIdx_cons, List.mapIdx_nil, modD, addD]
    have i0 : 0 ≤ i % 12 := Int.emod_nonneg _ (by decide)
    have i1 : i % 12 < (zs.map PyData.int).length := by
      have := Int.emod_lt_of_pos i (show (0 : Int) < 12 by decide)
      rw [List.length_map, h4]
      exact this
    have mm := getD_mem i0 i1
    obtain ⟨v, _, hv⟩ := List.mem_map.mp mm
    refine ⟨by decide, .int v, by rw [atI_pos i0 i1, hv], rfl, ⟨_, rfl⟩, by decide, _, _, (i % 12).toNat, rfl, rfl, ixN_pos i0 i1, ih _ ⟨zs.set (i % 12).toNat (v + j), _, _, by rw [List.map_set], by simpa using h1, fun _ => by simpa using h4, fun d hd => h3 d (List.mem_cons_of_mem _ hd)⟩⟩
end
end L2.DL.K12




namespace L2.DL.K12
open PySem PySem.Spec
      PyProof.Rows
/-! ### the law -/
theorem pairs_same {es : List D} {c : Int} {ts : List D} {cs : List D} {x : D} {i j : Nat} (c0 : 0 ≤ c) (cm : c < cs.length) (ht : okTab cs ts) (hx : ∀ d ∈ ts, d = x) (hi : i < ts.length) (hj : j < ts.length) : pairB es c ts i j = false := by
  have e : ∀ k, k < ts.length → ts.getD k .none = x := fun k hk => by
    have := getD_mem (xs := ts) (Int.natCast_nonneg k) (by omega)
    rw [Int.toNat_natCast] at this
    exact hx _ this
  obtain ⟨_, l1, i1⟩ := rowI_at ht.int hi
  obtain ⟨v, ev, _⟩ := i1 _ (getD_mem (xs := rowI ts i) c0 (by rw [l1]; exact cm))
  have ej : rowI ts j = rowI ts i := by
    unfold rowI
    rw [e _ hi, e _ hj]
  unfold pairB
  rw [ej, ev, eqv_ints, decide_eq_true rfl]
  simp
theorem same_none {cs rs ts : List D} {x : D} (hrs : okRuls cs rs) (ht : okTab cs ts) (hx : ∀ d ∈ ts, d = x) (hp : ∀ r ∈ rs, ∃ g c, r = .tuple [g, c, .none]) : allTo rs ts rs.length = [] := by
  unfold allTo
  refine List.flatMap_eq_nil_iff.mpr fun k hk => ?_
  rw [List.mem_range] at hk
  have hm := getD_mem (xs := rs) (Int.natCast_nonneg k) (by omega)
  rw [Int.toNat_natCast] at hm
  obtain ⟨es, c, w, er, he, c0, cm, _⟩ := (hrs.2 _ hm).parts
  obtain ⟨g, c', e'⟩ := hp _ hm
  rw [er] at e'
  injection e' with e'
  injection e' with _ e'
  injection e' with _ e'
  injection e' with ew _
  rw [er, brkR_eq, ew, if_pos (show isN PyData.none = true from rfl)]
  rw [show pairsTo es c ts ts.length = [] from ?_]
  · rfl
  · refine List.flatMap_eq_nil_iff.mpr fun i hi => ?_
    rw [List.mem_range] at hi
    unfold pairsOf
    refine List.filterMap_eq_nil_iff.mpr fun u hu => ?_
    rw [List.mem_range] at hu
    rw [pairs_same c0 cm ht hx hi (by omega), if_neg (by decide)]
theorem cut_one_mem {ts : List D} {m : Nat} : ∃ x, ∀ d ∈ (List.replicate m (cutD ts none (some 1))).flatten, d = x ∧ d ∈ ts := by
  have e : cutD ts none (some 1) = ts.take 1 := by
    cases ts with
    | nil => rfl
    | cons t ts => exact cut_to (xs := t :: ts) (i := 1) (by simp)
  rw [e]
  cases ts with
  | nil =>
    refine ⟨.none, fun d hd => ?_⟩
    obtain ⟨l, h1, h2⟩ := List.mem_flatten.mp hd
    rw [(List.mem_replicate.mp h1).2] at h2
    cases h2
  | cons t ts =>
    refine ⟨t, fun d hd => ?_⟩
    obtain ⟨l, h1, h2⟩ := List.mem_flatten.mp hd
    rw [(List.mem_replicate.mp h1).2] at h2
    have : d = t := by simpa using h2
    exact ⟨this, by rw [this]; exact List.mem_cons_self⟩
def isPairR : D → Bool
  | .tuple [_, _, v] => isN v
  | _ => false
section
variable {P : Program} {w : World} {K : PySem.W.Frag} {mg : Str → Option Value} {base : Heap} {A : Cls}
theorem ok_law (T : Txt K mg A) (L : ∃ f fd, FnG P w K mg base 1 f fd ["_law_script"] (spOpen K) ∧ mg "_law_open" = some (.ref f) ∧ PySem.W.keepIn K (.ref f) = true ∧ Binds K fd ["_law_script"] [])
    (d_law_anew : Def P w K mg base "_law_anew" 1 ["_law_pen"] w_law_anew) (d_law_take : Def P w K mg base "_law_take" 2 ["_law_pen", "_law_many"] w_law_take) (d_law_columns : Def P w K mg base "_law_columns" 3 ["_law_pen", "_law_most"] w_law_columns) (d_law_rules : Def P w K mg base "_law_rules" 7 ["_law_pen", "_law_columns_here", "_law_many"] w_law_rules)
    (d_law_table : Def P w K mg base "_law_table" 6 ["_law_pen", "_law_columns_here", "_law_many"] w_law_table) (d_law_right : Def P w K mg base "_law_right" 10 ["_law_pen", "_law_columns_here", "_law_rules_here", "_law_table_here"] w_law_right) (o_breaks : DefO P w K mg base "breaks" 8 ["columns", "rules", "table"] x_breaks)
    {f : Addr} {fd : FuncData} (F : Fun K "law" "law" s_law f fd) : FnG P w K mg base 11 f fd ["_law_script"] (spTrue K) := by
  have d_breaks := o_breaks.plain n_breaks
  have m_breaks : Wc.Mono (plainO x_breaks) := plainO.mono n_breaks
  refine fnG_of F sc_law (fun vs H Q E ⟨a, ns, e, _⟩ => by rw [e]; rfl) fun cdv Ar outer s H vs Q E hg hr h => ?_
  obtain ⟨a, ns, rfl, hS, hl, q⟩ := h
  obtain ⟨fo, fdo, o1, o2, o3, o4⟩ := L
  refine ⟨_, pss_cons (ps_set (i := 1) sc_law.nd rfl (by first | exact .inl rfl | exact .inr rfl) (pe_callG (W := fun cls d _ H' => E cls d H') o1 hg (hr.mono (by decide)) rfl o2 o3 o4 (takes_of rfl rfl rfl rfl) (pa_cons (pv 0) pa_nil rfl) (by decide) rfl rfl) rfl (by first | exact .inl rfl | exact .inr rfl))
    (pss_law (W := fun cls d _ H' => E cls d H') fun q0 G0 H0 => (dss_cons (ds_for (passes_of rfl) rfl (di_rng1 de_int T.z_range) (dg_nm (i := 2) sc_law.nd)
    (dss_cons (ds_set (i := 3) (de_fn d_law_columns m_law_columns hg hr (takes_of rfl rfl rfl rfl) (da_cons (de_fn d_law_anew m_law_anew hg hr (takes_of rfl rfl rfl rfl) (da_cons (de_var (pv 1)) da_nil)) (da_cons de_int da_nil))) sc_law.nd)
    (dss_cons (ds_set (i := 4) (de_fn d_law_rules m_law_rules hg hr (takes_of rfl rfl rfl rfl) (da_cons (de_var (pv 1)) (da_cons (de_var (pv 3)) (da_cons de_int da_nil)))) sc_law.nd)
    (dss_cons (ds_set (i := 5) (de_fn d_law_table m_law_table hg hr (takes_of rfl rfl rfl rfl) (da_cons (de_var (pv 1)) (da_cons (de_var (pv 3)) (da_cons (de_fn d_law_take m_law_take hg hr (takes_of rfl rfl rfl rfl) (da_cons (de_var (pv 1)) (da_cons de_int da_nil))) da_nil)))) sc_law.nd)
    (dss_cons (ds_if (dt_not (dt_val (de_fn d_law_right m_law_right hg hr (takes_of rfl rfl rfl rfl) (da_cons (de_var (pv 1)) (da_cons (de_var (pv 3)) (da_cons (de_var (pv 4)) (da_cons (de_var (pv 5)) da_nil)))))))
    (dss_one (ds_ret de_bl))
    dss_nil)
    (dss_cons (ds_set (i := 6) (de_bt tupleD.mono fitsTuple call_tuple_of (da_cons (de_lc (own := [("_law_rule_here", 7)]) rfl sc_law.nd (di_seq (de_var (pv 4))) (blkOk_by (N := ["_law_script", "_law_pen", "_law_turn", "_law_columns_here", "_law_rules_here", "_law_table_here", "_law_pairs", "_law_rule_here"]) (sc := defScope s_law) (by decide +kernel)) (fun _ _ _ _ _ _ _ => (dgc_nm (i := 7) sc_law.nd (by decide))) (fun _ _ _ _ _ _ _ => (dts_one (dt_isN (de_idx (de_var (pv 7)) de_int)))) (fun _ _ _ _ _ _ _ => (de_var (pv 7)))) da_nil) T.z_tuple) sc_law.nd)
    (dss_one (ds_if (dt_cmp (op_neA hr.units) neD.mono fitsNe (de_fn d_breaks m_breaks hg hr (takes_of rfl rfl rfl rfl) (da_cons (de_var (pv 3)) (da_cons (de_var (pv 6)) (da_cons (de_bin op_mulE mulE.mono fitsMulE (de_sl (de_var (pv 5)) do_none (do_some de_int)) de_int) da_nil)))) (de_lst da_nil))
    (dss_one (ds_ret de_bl))
    dss_nil))))))))
    (dss_one (ds_ret de_bl)))), ?_⟩
  refine ⟨.ref a, rfl, a, ns, rfl, hS, fun q0 G0 H0 wd => ⟨q0, G0, H0, _, rl_pen (n := 6) wd rfl rfl, fun H1 => q H1, ?_⟩⟩
  simp only [wRet, wSet, wSeq, wNext, wDrop, wIfS, wTest, wAnd, wOr, wNot, wIf, wBin, wVar, wC, wAndV, wOrV, wNotV, wIsN, wNotN, wNeg, wChain, wNil, wCons, wTup, wLst, wBi, wCall, wIsi, wSl, wSo, wNo, wSeqI, wFor, gNm, gTp, puts, wAsg, wPar, wMul, wmD, wmO, putsI, wAug, wTryIs, wRng1, wRng2, wEnum, wEnumT, wZip, wLc, wYes, wLend, wRel, wOwn, wApp, wIns, wSetIx, wLstF, wListF, wRepF, wAddF, wSlS, wParO, wRevT, wSortedSet, wSortedSetL, wSortedSetT, wKeys, weI, wExt, allD, wMt, wRaise, wSeqO, wCallF, plainO, wCallA, wIdx0, wAnF, wSetA, wUnA, wSeqA, plainA, wFld, wFldO, wMake, wLRg, Ans.data, Ans.own.injEq, Ans.tup.injEq, Ans.dat.injEq, wTry, wTryM, wHs, wIsC, enOf, put, putUn, defEnds, lendE, lend, wipeE, hide, lenD, intD, listD, tupleD, reprD, wPen0, wPen1, wPen2, wPenS1, wPenS2, penAt, List.map_cons, List.map_nil, List.length_cons, List.length_nil, List.nil_append, List.cons_append, Nat.reduceAdd, Nat.reduceSub, Nat.reduceLeDiff, Nat.zero_add, List.replicate_zero, List.replicate_succ, List.getElem?_cons_zero, List.getElem?_cons_succ, List.set_cons_zero, List.set_cons_succ, Option.some.injEq, Slot.dat.injEq, Slot.own.injEq, PyData.bool.injEq, PyData.int.injEq, PyData.tuple.injEq, PyData.list.injEq, exists_eq_left', exists_eq_left, and_true, true_and, if_true, if_false, Bool.false_eq_true, reduceCtorEq, List.mapIdx_cons, List.mapIdx_nil]
  refine ⟨by decide, by decide, ?_⟩
  refine wLoop.ind (fun ds e => ∃ (u2 u3 u4 u5 u6 u7 : Slot) (k : Nat), e = ⟨[.un, .dat penD, u2, u3, u4, u5, u6, u7], k⟩ ∧ (∀ d ∈ ds, ∃ i : Int, d = .int i) ∧ 600 * ds.length ≤ k) ?_ ?_
    ⟨_, _, _, _, _, _, 500000, rfl, fun d hd => ?_, by rw [rngD_length]; decide⟩
  · rintro e ⟨u2, u3, u4, u5, u6, u7, k, rfl, _, hk⟩
    exact trivial
  · rintro d ds e ih ⟨u2, u3, u4, u5, u6, u7, k, rfl, hi, hk⟩
    obtain ⟨i, rfl⟩ := hi d List.mem_cons_self
    rw [List.length_cons] at hk
    obtain ⟨k, rfl⟩ : ∃ k', k = k' + 600 := ⟨k - 600, by omega⟩
    simp only [wRet, wSet, wSeq, wNext, wDrop, wIfS, wTest, wAnd, wOr, wNot, wIf, wBin, wVar, wC, wAndV, wOrV, wNotV, wIsN, wNotN, wNeg, wChain, wNil, wCons, wTup, wLst, wBi, wCall, wIsi, wSl, wSo, wNo, wSeqI, wFor, gNm, gTp, puts, wAsg, wPar, wMul, wmD, wmO, putsI, wAug, wTryIs, wRng1, wRng2, wEnum, wEnumT, wZip, wLc, wYes, wLend, wRel, wOwn, wApp, wIns, wSetIx, wLstF, wListF, wRepF, wAddF, wSlS, wParO, wRevT, wSortedSet, wSortedSetL, wSortedSetT, wKeys, weI, wExt, allD, wMt, wRaise, wSeqO, wCallF, plainO, wCallA, wIdx0, wAnF, wSetA, wUnA, wSeqA, plainA, wFld, wFldO, wMake, wLRg, Ans.data, Ans.own.injEq, Ans.tup.injEq, Ans.dat.injEq, wTry, wTryM, wHs, wIsC, enOf, put, putUn, defEnds, lendE, lend, wipeE, hide, lenD, intD, listD, tupleD, reprD, wPen0, wPen1, wPen2, wPenS1, wPenS2, penAt, List.map_cons, List.map_nil, List.length_cons, List.length_nil, List.nil_append, List.cons_append, Nat.reduceAdd, Nat.reduceSub, Nat.reduceLeDiff, Nat.zero_add, List.replicate_zero, List.replicate_succ, List.getElem?_cons_zero, List.getElem?_cons_succ, List.set_cons_zero, List.set_cons_succ, Option.some.injEq, Slot.dat.injEq, Slot.own.injEq, PyData.bool.injEq, PyData.int.injEq, PyData.tuple.injEq, PyData.list.injEq, exists_eq_left', exists_eq_left, and_true, true_and, if_true, if_false, Bool.false_eq_true, reduceCtorEq, List.mapIdx_cons, List.mapIdx_nil]
    refine ⟨rfl, _, k + 570, rfl, rfl, ⟨4, rfl, by decide, by decide⟩, fun c k1 l1 hc => ?_⟩
    obtain ⟨cs, rfl, hcs, c1, c4, cn⟩ := id hc
    obtain ⟨k1, rfl⟩ : ∃ k', k1 = k' + 300 := ⟨k1 - 300, by omega⟩
    refine ⟨cs, 8, k1, rfl, by decide, rfl, hcs, c1, c4, fun rs k2 l2 hrs => ?_⟩
    obtain ⟨k2, rfl⟩ : ∃ k', k2 = k' + 1 := ⟨k2 - 1, by omega⟩
    refine ⟨9, k2, rfl, rfl, by decide, small9 (by decide), fun m m0 m9 k2 l2 => ?_⟩
    obtain ⟨k2, rfl⟩ : ∃ k', k2 = k' + 200 := ⟨k2 - 200, by omega⟩
    refine ⟨cs, m, k2, rfl, m0, by omega, rfl, hcs, c1, c4, fun ts k3 l3 ht => ?_⟩
    obtain ⟨k3, rfl⟩ : ∃ k', k3 = k' + 1 := ⟨k3 - 1, by omega⟩
    refine ⟨cs, rs, ts, k3, rfl, hc, hrs, ht, rfl, fun k4 l4 => ?_⟩
    refine ⟨_, rfl, ?_⟩
    rw [if_neg (by decide)]
    refine ⟨rs, rfl, ?_⟩
    have r8 := hrs.1
    refine lcLoop.fm (fun r => if isPairR r = true then some r else none) (fun r hr A B h1 h2 => ?_) (by rw [List.length_nil]; omega) ?_
    · obtain ⟨es, c, v, rfl, _⟩ := (hrs.2 r hr).parts
      simp only [wRet, wSet, wSeq, wNext, wDrop, wIfS, wTest, wAnd, wOr, wNot, wIf, wBin, wVar, wC, wAndV, wOrV, wNotV, wIsN, wNotN, wNeg, wChain, wNil, wCons, wTup, wLst, wBi, wCall, wIsi, wSl, wSo, wNo, wSeqI, wFor, gNm, gTp, puts, wAsg, wPar, wMul, wmD, wmO, putsI, wAug, wTryIs, wRng1, wRng2, wEnum, wEnumT, wZip, wLc, wYes, wLend, wRel, wOwn, wApp, wIns, wSetIx, wLstF, wListF, wRepF, wAddF, wSlS, wParO, wRevT, wSortedSet, wSortedSetL, wSortedSetT, wKeys, weI, wExt, allD, wMt, wRaise, wSeqO, wCallF, plainO, wCallA, wIdx0, wAnF, wSetA, wUnA, wSeqA, plainA, wFld, wFldO, wMake, wLRg, Ans.data, Ans.own.injEq, Ans.tup.injEq, Ans.dat.injEq, wTry, wTryM, wHs, wIsC, enOf, put, putUn, defEnds, lendE, lend, wipeE, hide, lenD, intD, listD, tupleD, reprD, wPen0, wPen1, wPen2, wPenS1, wPenS2, penAt, List.map_cons, List.map_nil, List.length_cons, List.length_nil, List.nil_append, List.cons_append, Nat.reduceAdd, Nat.reduceSub, Nat.reduceLeDiff, Nat.zero_add, List.replicate_zero, List.replicate_succ, List.getElem?_cons_zero, List.getElem?_cons_succ, List.set_cons_zero, List.set_cons_succ, Option.some.injEq, Slot.dat.injEq, Slot.own.injEq, PyData.bool.injEq, PyData.int.injEq, PyData.tuple.injEq, PyData.list.injEq, exists_eq_left', exists_eq_left, and_true, true_and, if_true, if_false, Bool.false_eq_true, reduceCtorEq, List.mapIdx_cons, List.mapIdx_nil, idxD]
      refine ⟨v, rfl, ?_⟩
      cases hv : isN v with
      | true =>
        rw [if_pos rfl]
        exact h2 _ (if_pos hv)
      | false =>
        rw [if_neg (by decide)]
        exact h1 (if_neg (by show ¬ isN v = true; rw [hv]; decide))
    · rw [List.nil_append, fm_filter]
      have hrp : okRuls cs (rs.filter isPairR) := ⟨Nat.le_trans (List.length_filter_le _ _) r8, fun r h => hrs.2 r (List.mem_filter.mp h).1⟩
      have hpp : ∀ r ∈ rs.filter isPairR, ∃ g c, r = .tuple [g, c, .none] := fun r h => by
        obtain ⟨h1, h2⟩ := List.mem_filter.mp h
        obtain ⟨es, c, v, rfl, _⟩ := (hrs.2 r h1).parts
        have : v = .none := by
          cases v <;> first | rfl | (cases h2)
        rw [this]
        exact ⟨_, _, rfl⟩
      simp only [slD, mulE]
      obtain ⟨x, hx⟩ := cut_one_mem (ts := ts) (m := Int.toNat 5)
      have c1 : (cutD ts none (some 1)).length ≤ 1 := by
        unfold cutD
        rw [List.length_take, show HT.sIx ts.length 0 none = 0 from rfl, show (1 : Int) = ((1 : Nat) : Int) from rfl, HT.sIx_nat]
        omega
      have ht5 : okTab cs (List.replicate (Int.toNat 5) (cutD ts none (some 1))).flatten := by
        refine ⟨?_, fun d hd => ht.2 d (hx d hd).2⟩
        rw [show Int.toNat 5 = 5 from rfl]
        simp only [List.length_flatten, List.map_replicate, List.sum_replicate_nat]
        omega
      refine ⟨by decide, by decide, by omega, ?_⟩
      refine ⟨cs, rs.filter isPairR, _, rfl, hc, hrp, ht5, ?_⟩
      rw [same_none hrp ht5 (fun d hd => (hx d hd).1) hpp]
      have gn : Good (.list []) := (by exact ⟨by decide +kernel, by decide +kernel, by decide +kernel⟩ : Ok 1 1 (.list [])).good
      refine ⟨.inr ⟨gn, gn⟩, _, rfl, ?_⟩
      rw [if_neg (by rw [eqv_self gn]; decide)]
      exact ih _ ⟨_, _, _, _, _, _, _, rfl, fun d hd => hi d (List.mem_cons_of_mem _ hd), by omega⟩
  · obtain ⟨k, _, rfl⟩ := rngD_nat hd
    exact ⟨k, rfl⟩
end
end L2.DL.K12



namespace L2.DL.K12
open PySem PySem.Spec
      PyProof.Rows
theorem kit_ref {K : PySem.W.Frag} {C D : Addr} {b : Bool} (hs : PySem.W.subIn K (.ref C) (.ref C) = some true) (hd : PySem.W.hasDictIn K D = true) (ht : PySem.W.typeIn K (.ref D) = some (.type "type")) (h : PySem.W.subIn K (.ref C) (.ref D) = some b) : PySem.W.kitOne K (.ref C) (.ref D) = some b := by
  by_cases e : C = D
  · subst e
    rw [hs] at h
    rw [← h]
    unfold PySem.W.kitOne
    rw [if_pos
          (beq_self_eq_true _)]
  · have n : ¬ ((Value.ref C == Value.ref D) = true) := fun z => e (Value.ref.inj (beq_iff_eq.mp z))
    obtain ⟨cd, hc, _⟩ := PySem.W.any_some hd
    have e2 : ((PySem.W.clsIn K D).isSome && PySem.W.typeIn K (.ref D) == some (.type "type")) = true := by rw [hc, ht] <;> rfl
    unfold PySem.W.kitOne
    rw [if_neg n]
    show (if ((PySem.W.clsIn K D).isSome && PySem.W.typeIn K (.ref D) == some (.type "type")) = true then PySem.W.subIn K (.ref C) (.ref D) else none) = some b
    rw [if_pos e2]
    exact h
theorem kit_val {K : PySem.W.Frag} {C : Addr} {b : Bool} (h : PySem.W.subIn K (.ref C) (.type "ValueError") = some b) : PySem.W.kitOne K (.ref C) (.type "ValueError") = some b := by
  unfold PySem.W.kitOne
  rw [if_neg (fun z => by cases (beq_iff_eq.mp z))]
  show (if PySem.W.kitMeta "ValueError" = true then PySem.W.subIn K (.ref C) (.type "ValueError") else none) = some b
  rw [if_pos (by decide +kernel)]
  exact h
theorem all_mk {l : PySem.W.OpenLaw} {w : World} {K : PySem.W.Frag} {h : Heap} {mg : Str → Option Value} {fa : Addr} (X : K.In h) (G : h.Ns mainGlobals mg) (hfa : mg "law" = some (.ref fa))
    {od0 an0 : Option Addr} {sl0 : Array (Option Value)} {oc0 kV0 dc0 pm0 cd0 ct0 : Value} {f0 : Addr}
    {od1 an1 : Option Addr} {sl1 : Array (Option Value)} {oc1 kV1 dc1 pm1 cd1 ct1 : Value} {f1 : Addr}
    {od2 an2 : Option Addr} {sl2 : Array (Option Value)} {oc2 kV2 dc2 pm2 cd2 ct2 : Value} {f2 : Addr}
    {od3 an3 : Option Addr} {sl3 : Array (Option Value)} {oc3 kV3 dc3 pm3 cd3 ct3 : Value} {f3 : Addr}
    {od4 an4 : Option Addr} {sl4 : Array (Option Value)} {oc4 kV4 dc4 pm4 cd4 ct4 : Value} {f4 : Addr}
    {od5 an5 : Option Addr} {sl5 : Array (Option Value)} {oc5 kV5 dc5 pm5 cd5 ct5 : Value} {f5 : Addr}
    {od6 an6 : Option Addr} {sl6 : Array (Option Value)} {oc6 kV6 dc6 pm6 cd6 ct6 : Value} {f6 : Addr}
    {od7 an7 : Option Addr} {sl7 : Array (Option Value)} {oc7 kV7 dc7 pm7 cd7 ct7 : Value} {f7 : Addr}
    {od8 an8 : Option Addr} {sl8 : Array (Option Value)} {oc8 kV8 dc8 pm8 cd8 ct8 : Value} {f8 : Addr}
    {od9 an9 : Option Addr} {sl9 : Array (Option Value)} {oc9 kV9 dc9 pm9 cd9 ct9 : Value} {f9 : Addr}
    {od10 an10 : Option Addr} {sl10 : Array (Option Value)} {oc10 kV10 dc10 pm10 cd10 ct10 : Value} {f10 : Addr}
    {od11 an11 : Option Addr} {sl11 : Array (Option Value)} {oc11 kV11 dc11 pm11 cd11 ct11 : Value} {f11 : Addr}
    {od12 an12 : Option Addr} {sl12 : Array (Option Value)} {oc12 kV12 dc12 pm12 cd12 ct12 : Value} {f12 : Addr}
    {od13 an13 : Option Addr} {sl13 : Array (Option Value)} {oc13 kV13 dc13 pm13 cd13 ct13 : Value} {f13 : Addr}
    {od14 an14 : Option Addr} {sl14 : Array (Option Value)} {oc14 kV14 dc14 pm14 cd14 ct14 : Value} {f14 : Addr}
    {od15 an15 : Option Addr} {sl15 : Array (Option Value)} {oc15 kV15 dc15 pm15 cd15 ct15 : Value} {f15 : Addr}
    {od16 an16 : Option Addr} {sl16 : Array (Option Value)} {oc16 kV16 dc16 pm16 cd16 ct16 : Value} {f16 : Addr}
    {od17 an17 : Option Addr} {sl17 : Array (Option Value)} {oc17 kV17 dc17 pm17 cd17 ct17 : Value} {f17 : Addr}
    {od18 an18 : Option Addr} {sl18 : Array (Option Value)} {oc18 kV18 dc18 pm18 cd18 ct18 : Value} {f18 : Addr}
    {od19 an19 : Option Addr} {sl19 : Array (Option Value)} {oc19 kV19 dc19 pm19 cd19 ct19 : Value} {f19 : Addr}
    {od20 an20 : Option Addr} {sl20 : Array (Option Value)} {oc20 kV20 dc20 pm20 cd20 ct20 : Value} {f20 : Addr}
    {od21 an21 : Option Addr} {sl21 : Array (Option Value)} {oc21 kV21 dc21 pm21 cd21 ct21 : Value} {f21 : Addr}
    {od22 an22 : Option Addr} {sl22 : Array (Option Value)} {oc22 kV22 dc22 pm22 cd22 ct22 : Value} {f22 : Addr}
    {od23 an23 : Option Addr} {sl23 : Array (Option Value)} {oc23 kV23 dc23 pm23 cd23 ct23 : Value} {f23 : Addr}
    {od24 an24 : Option Addr} {sl24 : Array (Option Value)} {oc24 kV24 dc24 pm24 cd24 ct24 : Value} {f24 : Addr}
    {od25 an25 : Option Addr} {sl25 : Array (Option Value)} {oc25 kV25 dc25 pm25 cd25 ct25 : Value} {f25 : Addr}
    {od26 an26 : Option Addr} {sl26 : Array (Option Value)} {oc26 kV26 dc26 pm26 cd26 ct26 : Value} {f26 : Addr}
    {od27 an27 : Option Addr} {sl27 : Array (Option Value)} {oc27 kV27 dc27 pm27 cd27 ct27 : Value} {f27 : Addr}
    {od28 an28 : Option Addr} {sl28 : Array (Option Value)} {oc28 kV28 dc28 pm28 cd28 ct28 : Value} {f28 : Addr}
    {od29 an29 : Option Addr} {sl29 : Array (Option Value)} {oc29 kV29 dc29 pm29 cd29 ct29 : Value} {f29 : Addr}
    {od30 an30 : Option Addr} {sl30 : Array (Option Value)} {oc30 kV30 dc30 pm30 cd30 ct30 : Value} {f30 : Addr}
    {od31 an31 : Option Addr} {sl31 : Array (Option Value)} {oc31 kV31 dc31 pm31 cd31 ct31 : Value} {f31 : Addr}
    {od32 an32 : Option Addr} {sl32 : Array (Option Value)} {oc32 kV32 dc32 pm32 cd32 ct32 : Value} {f32 : Addr}
    {od33 an33 : Option Addr} {sl33 : Array (Option Value)} {oc33 kV33 dc33 pm33 cd33 ct33 : Value} {f33 : Addr}
    {od34 an34 : Option Addr} {sl34 : Array (Option Value)} {oc34 kV34 dc34 pm34 cd34 ct34 : Value} {f34 : Addr}
    {od35 an35 : Option Addr} {sl35 : Array (Option Value)} {oc35 kV35 dc35 pm35 cd35 ct35 : Value} {f35 : Addr}
    {od36 an36 : Option Addr} {sl36 : Array (Option Value)} {oc36 kV36 dc36 pm36 cd36 ct36 : Value} {f36 : Addr}
    {od37 an37 : Option Addr} {sl37 : Array (Option Value)} {oc37 kV37 dc37 pm37 cd37 ct37 : Value} {f37 : Addr}
    {od38 an38 : Option Addr} {sl38 : Array (Option Value)} {oc38 kV38 dc38 pm38 cd38 ct38 : Value} {f38 : Addr}
    {od39 an39 : Option Addr} {sl39 : Array (Option Value)} {oc39 kV39 dc39 pm39 cd39 ct39 : Value} {f39 : Addr}
    {od40 an40 : Option Addr} {sl40 : Array (Option Value)} {oc40 kV40 dc40 pm40 cd40 ct40 : Value} {f40 : Addr}
    {t_MOST_CLOSED : Tok}
    {t_MOST_COLUMNS : Tok}
    {t_MOST_ROWS : Tok}
    {t_MOST_RULES : Tok}
    {t_MOST_VALUES : Tok}
    {A_InvalidColumns A_InvalidRule A_InvalidRules A_InvalidTable : Addr}
    (a0 : PySem.W.nsIn K mainGlobals "_law_open" = some (some (.ref f0)))
    (l0 : K.lookup f0 = some ⟨oc0, od0, .func (PySem.W.fnOf "_law_open" "_law_open" (defArgs s_law_open) (defBody s_law_open) (defScope s_law_open) .none kV0 dc0 pm0 an0 cd0 ct0), sl0⟩)
    (c0 : PySem.W.codeIn K cd0 "_law_open" = true)
    (k0 : PySem.W.keepIn K (.ref f0) = true)
    (a1 : PySem.W.nsIn K mainGlobals "_law_spread" = some (some (.ref f1)))
    (l1 : K.lookup f1 = some ⟨oc1, od1, .func (PySem.W.fnOf "_law_spread" "_law_spread" (defArgs s_law_spread) (defBody s_law_spread) (defScope s_law_spread) .none kV1 dc1 pm1 an1 cd1 ct1), sl1⟩)
    (c1 : PySem.W.codeIn K cd1 "_law_spread" = true)
    (k1 : PySem.W.keepIn K (.ref f1) = true)
    (a2 : PySem.W.nsIn K mainGlobals "_law_take" = some (some (.ref f2)))
    (l2 : K.lookup f2 = some ⟨oc2, od2, .func (PySem.W.fnOf "_law_take" "_law_take" (defArgs s_law_take) (defBody s_law_take) (defScope s_law_take) .none kV2 dc2 pm2 an2 cd2 ct2), sl2⟩)
    (c2 : PySem.W.codeIn K cd2 "_law_take" = true)
    (k2 : PySem.W.keepIn K (.ref f2) = true)
    (a3 : PySem.W.nsIn K mainGlobals "_law_columns" = some (some (.ref f3)))
    (l3 : K.lookup f3 = some ⟨oc3, od3, .func (PySem.W.fnOf "_law_columns" "_law_columns" (defArgs s_law_columns) (defBody s_law_columns) (defScope s_law_columns) .none kV3 dc3 pm3 an3 cd3 ct3), sl3⟩)
    (c3 : PySem.W.codeIn K cd3 "_law_columns" = true)
    (k3 : PySem.W.keepIn K (.ref f3) = true)
    (a4 : PySem.W.nsIn K mainGlobals "_law_one" = some (some (.ref f4)))
    (l4 : K.lookup f4 = some ⟨oc4, od4, .func (PySem.W.fnOf "_law_one" "_law_one" (defArgs s_law_one) (defBody s_law_one) (defScope s_law_one) .none kV4 dc4 pm4 an4 cd4 ct4), sl4⟩)
    (c4 : PySem.W.codeIn K cd4 "_law_one" = true)
    (k4 : PySem.W.keepIn K (.ref f4) = true)
    (a5 : PySem.W.nsIn K mainGlobals "_law_value" = some (some (.ref f5)))
    (l5 : K.lookup f5 = some ⟨oc5, od5, .func (PySem.W.fnOf "_law_value" "_law_value" (defArgs s_law_value) (defBody s_law_value) (defScope s_law_value) .none kV5 dc5 pm5 an5 cd5 ct5), sl5⟩)
    (c5 : PySem.W.codeIn K cd5 "_law_value" = true)
    (k5 : PySem.W.keepIn K (.ref f5) = true)
    (a6 : PySem.W.nsIn K mainGlobals "_law_rule" = some (some (.ref f6)))
    (l6 : K.lookup f6 = some ⟨oc6, od6, .func (PySem.W.fnOf "_law_rule" "_law_rule" (defArgs s_law_rule) (defBody s_law_rule) (defScope s_law_rule) .none kV6 dc6 pm6 an6 cd6 ct6), sl6⟩)
    (c6 : PySem.W.codeIn K cd6 "_law_rule" = true)
    (k6 : PySem.W.keepIn K (.ref f6) = true)
    (a7 : PySem.W.nsIn K mainGlobals "_law_rules" = some (some (.ref f7)))
    (l7 : K.lookup f7 = some ⟨oc7, od7, .func (PySem.W.fnOf "_law_rules" "_law_rules" (defArgs s_law_rules) (defBody s_law_rules) (defScope s_law_rules) .none kV7 dc7 pm7 an7 cd7 ct7), sl7⟩)
    (c7 : PySem.W.codeIn K cd7 "_law_rules" = true)
    (k7 : PySem.W.keepIn K (.ref f7) = true)
    (a8 : PySem.W.nsIn K mainGlobals "_law_row" = some (some (.ref f8)))
    (l8 : K.lookup f8 = some ⟨oc8, od8, .func (PySem.W.fnOf "_law_row" "_law_row" (defArgs s_law_row) (defBody s_law_row) (defScope s_law_row) .none kV8 dc8 pm8 an8 cd8 ct8), sl8⟩)
    (c8 : PySem.W.codeIn K cd8 "_law_row" = true)
    (k8 : PySem.W.keepIn K (.ref f8) = true)
    (a9 : PySem.W.nsIn K mainGlobals "_law_table" = some (some (.ref f9)))
    (l9 : K.lookup f9 = some ⟨oc9, od9, .func (PySem.W.fnOf "_law_table" "_law_table" (defArgs s_law_table) (defBody s_law_table) (defScope s_law_table) .none kV9 dc9 pm9 an9 cd9 ct9), sl9⟩)
    (c9 : PySem.W.codeIn K cd9 "_law_table" = true)
    (k9 : PySem.W.keepIn K (.ref f9) = true)
    (a10 : PySem.W.nsIn K mainGlobals "_law_anew" = some (some (.ref f10)))
    (l10 : K.lookup f10 = some ⟨oc10, od10, .func (PySem.W.fnOf "_law_anew" "_law_anew" (defArgs s_law_anew) (defBody s_law_anew) (defScope s_law_anew) .none kV10 dc10 pm10 an10 cd10 ct10), sl10⟩)
    (c10 : PySem.W.codeIn K cd10 "_law_anew" = true)
    (k10 : PySem.W.keepIn K (.ref f10) = true)
    (a11 : PySem.W.nsIn K mainGlobals "breaks_left" = some (some (.ref f11)))
    (l11 : K.lookup f11 = some ⟨oc11, od11, .func (PySem.W.fnOf "breaks_left" "breaks_left" (defArgs s_breaks_left) (defBody s_breaks_left) (defScope s_breaks_left) .none kV11 dc11 pm11 an11 cd11 ct11), sl11⟩)
    (c11 : PySem.W.codeIn K cd11 "breaks_left" = true)
    (k11 : PySem.W.keepIn K (.ref f11) = true)
    (a12 : PySem.W.nsIn K mainGlobals "fewest_rows" = some (some (.ref f12)))
    (l12 : K.lookup f12 = some ⟨oc12, od12, .func (PySem.W.fnOf "fewest_rows" "fewest_rows" (defArgs s_fewest_rows) (defBody s_fewest_rows) (defScope s_fewest_rows) .none kV12 dc12 pm12 an12 cd12 ct12), sl12⟩)
    (c12 : PySem.W.codeIn K cd12 "fewest_rows" = true)
    (k12 : PySem.W.keepIn K (.ref f12) = true)
    (a13 : PySem.W.nsIn K mainGlobals "is_integer" = some (some (.ref f13)))
    (l13 : K.lookup f13 = some ⟨oc13, od13, .func (PySem.W.fnOf "is_integer" "is_integer" (defArgs s_is_integer) (defBody s_is_integer) (defScope s_is_integer) .none kV13 dc13 pm13 an13 cd13 ct13), sl13⟩)
    (c13 : PySem.W.codeIn K cd13 "is_integer" = true)
    (k13 : PySem.W.keepIn K (.ref f13) = true)
    (a14 : PySem.W.nsIn K mainGlobals "is_closed" = some (some (.ref f14)))
    (l14 : K.lookup f14 = some ⟨oc14, od14, .func (PySem.W.fnOf "is_closed" "is_closed" (defArgs s_is_closed) (defBody s_is_closed) (defScope s_is_closed) .none kV14 dc14 pm14 an14 cd14 ct14), sl14⟩)
    (c14 : PySem.W.codeIn K cd14 "is_closed" = true)
    (k14 : PySem.W.keepIn K (.ref f14) = true)
    (a15 : PySem.W.nsIn K mainGlobals "is_columns" = some (some (.ref f15)))
    (l15 : K.lookup f15 = some ⟨oc15, od15, .func (PySem.W.fnOf "is_columns" "is_columns" (defArgs s_is_columns) (defBody s_is_columns) (defScope s_is_columns) .none kV15 dc15 pm15 an15 cd15 ct15), sl15⟩)
    (c15 : PySem.W.codeIn K cd15 "is_columns" = true)
    (k15 : PySem.W.keepIn K (.ref f15) = true)
    (a16 : PySem.W.nsIn K mainGlobals "check_columns" = some (some (.ref f16)))
    (l16 : K.lookup f16 = some ⟨oc16, od16, .func (PySem.W.fnOf "check_columns" "check_columns" (defArgs s_check_columns) (defBody s_check_columns) (defScope s_check_columns) .none kV16 dc16 pm16 an16 cd16 ct16), sl16⟩)
    (c16 : PySem.W.codeIn K cd16 "check_columns" = true)
    (k16 : PySem.W.keepIn K (.ref f16) = true)
    (a17 : PySem.W.nsIn K mainGlobals "is_value_of" = some (some (.ref f17)))
    (l17 : K.lookup f17 = some ⟨oc17, od17, .func (PySem.W.fnOf "is_value_of" "is_value_of" (defArgs s_is_value_of) (defBody s_is_value_of) (defScope s_is_value_of) .none kV17 dc17 pm17 an17 cd17 ct17), sl17⟩)
    (c17 : PySem.W.codeIn K cd17 "is_value_of" = true)
    (k17 : PySem.W.keepIn K (.ref f17) = true)
    (a18 : PySem.W.nsIn K mainGlobals "is_number" = some (some (.ref f18)))
    (l18 : K.lookup f18 = some ⟨oc18, od18, .func (PySem.W.fnOf "is_number" "is_number" (defArgs s_is_number) (defBody s_is_number) (defScope s_is_number) .none kV18 dc18 pm18 an18 cd18 ct18), sl18⟩)
    (c18 : PySem.W.codeIn K cd18 "is_number" = true)
    (k18 : PySem.W.keepIn K (.ref f18) = true)
    (a19 : PySem.W.nsIn K mainGlobals "entry_is_right" = some (some (.ref f19)))
    (l19 : K.lookup f19 = some ⟨oc19, od19, .func (PySem.W.fnOf "entry_is_right" "entry_is_right" (defArgs s_entry_is_right) (defBody s_entry_is_right) (defScope s_entry_is_right) .none kV19 dc19 pm19 an19 cd19 ct19), sl19⟩)
    (c19 : PySem.W.codeIn K cd19 "entry_is_right" = true)
    (k19 : PySem.W.keepIn K (.ref f19) = true)
    (a20 : PySem.W.nsIn K mainGlobals "given_is_right" = some (some (.ref f20)))
    (l20 : K.lookup f20 = some ⟨oc20, od20, .func (PySem.W.fnOf "given_is_right" "given_is_right" (defArgs s_given_is_right) (defBody s_given_is_right) (defScope s_given_is_right) .none kV20 dc20 pm20 an20 cd20 ct20), sl20⟩)
    (c20 : PySem.W.codeIn K cd20 "given_is_right" = true)
    (k20 : PySem.W.keepIn K (.ref f20) = true)
    (a21 : PySem.W.nsIn K mainGlobals "rule_is_right" = some (some (.ref f21)))
    (l21 : K.lookup f21 = some ⟨oc21, od21, .func (PySem.W.fnOf "rule_is_right" "rule_is_right" (defArgs s_rule_is_right) (defBody s_rule_is_right) (defScope s_rule_is_right) .none kV21 dc21 pm21 an21 cd21 ct21), sl21⟩)
    (c21 : PySem.W.codeIn K cd21 "rule_is_right" = true)
    (k21 : PySem.W.keepIn K (.ref f21) = true)
    (a22 : PySem.W.nsIn K mainGlobals "rules_are_right" = some (some (.ref f22)))
    (l22 : K.lookup f22 = some ⟨oc22, od22, .func (PySem.W.fnOf "rules_are_right" "rules_are_right" (defArgs s_rules_are_right) (defBody s_rules_are_right) (defScope s_rules_are_right) .none kV22 dc22 pm22 an22 cd22 ct22), sl22⟩)
    (c22 : PySem.W.codeIn K cd22 "rules_are_right" = true)
    (k22 : PySem.W.keepIn K (.ref f22) = true)
    (a23 : PySem.W.nsIn K mainGlobals "check_rules" = some (some (.ref f23)))
    (l23 : K.lookup f23 = some ⟨oc23, od23, .func (PySem.W.fnOf "check_rules" "check_rules" (defArgs s_check_rules) (defBody s_check_rules) (defScope s_check_rules) .none kV23 dc23 pm23 an23 cd23 ct23), sl23⟩)
    (c23 : PySem.W.codeIn K cd23 "check_rules" = true)
    (k23 : PySem.W.keepIn K (.ref f23) = true)
    (a24 : PySem.W.nsIn K mainGlobals "row_is_right" = some (some (.ref f24)))
    (l24 : K.lookup f24 = some ⟨oc24, od24, .func (PySem.W.fnOf "row_is_right" "row_is_right" (defArgs s_row_is_right) (defBody s_row_is_right) (defScope s_row_is_right) .none kV24 dc24 pm24 an24 cd24 ct24), sl24⟩)
    (c24 : PySem.W.codeIn K cd24 "row_is_right" = true)
    (k24 : PySem.W.keepIn K (.ref f24) = true)
    (a25 : PySem.W.nsIn K mainGlobals "table_is_right" = some (some (.ref f25)))
    (l25 : K.lookup f25 = some ⟨oc25, od25, .func (PySem.W.fnOf "table_is_right" "table_is_right" (defArgs s_table_is_right) (defBody s_table_is_right) (defScope s_table_is_right) .none kV25 dc25 pm25 an25 cd25 ct25), sl25⟩)
    (c25 : PySem.W.codeIn K cd25 "table_is_right" = true)
    (k25 : PySem.W.keepIn K (.ref f25) = true)
    (a26 : PySem.W.nsIn K mainGlobals "check_table" = some (some (.ref f26)))
    (l26 : K.lookup f26 = some ⟨oc26, od26, .func (PySem.W.fnOf "check_table" "check_table" (defArgs s_check_table) (defBody s_check_table) (defScope s_check_table) .none kV26 dc26 pm26 an26 cd26 ct26), sl26⟩)
    (c26 : PySem.W.codeIn K cd26 "check_table" = true)
    (k26 : PySem.W.keepIn K (.ref f26) = true)
    (a27 : PySem.W.nsIn K mainGlobals "is_value_rule" = some (some (.ref f27)))
    (l27 : K.lookup f27 = some ⟨oc27, od27, .func (PySem.W.fnOf "is_value_rule" "is_value_rule" (defArgs s_is_value_rule) (defBody s_is_value_rule) (defScope s_is_value_rule) .none kV27 dc27 pm27 an27 cd27 ct27), sl27⟩)
    (c27 : PySem.W.codeIn K cd27 "is_value_rule" = true)
    (k27 : PySem.W.keepIn K (.ref f27) = true)
    (a28 : PySem.W.nsIn K mainGlobals "has_given" = some (some (.ref f28)))
    (l28 : K.lookup f28 = some ⟨oc28, od28, .func (PySem.W.fnOf "has_given" "has_given" (defArgs s_has_given) (defBody s_has_given) (defScope s_has_given) .none kV28 dc28 pm28 an28 cd28 ct28), sl28⟩)
    (c28 : PySem.W.codeIn K cd28 "has_given" = true)
    (k28 : PySem.W.keepIn K (.ref f28) = true)
    (a29 : PySem.W.nsIn K mainGlobals "are_alike" = some (some (.ref f29)))
    (l29 : K.lookup f29 = some ⟨oc29, od29, .func (PySem.W.fnOf "are_alike" "are_alike" (defArgs s_are_alike) (defBody s_are_alike) (defScope s_are_alike) .none kV29 dc29 pm29 an29 cd29 ct29), sl29⟩)
    (c29 : PySem.W.codeIn K cd29 "are_alike" = true)
    (k29 : PySem.W.keepIn K (.ref f29) = true)
    (a30 : PySem.W.nsIn K mainGlobals "broken_pairs" = some (some (.ref f30)))
    (l30 : K.lookup f30 = some ⟨oc30, od30, .func (PySem.W.fnOf "broken_pairs" "broken_pairs" (defArgs s_broken_pairs) (defBody s_broken_pairs) (defScope s_broken_pairs) .none kV30 dc30 pm30 an30 cd30 ct30), sl30⟩)
    (c30 : PySem.W.codeIn K cd30 "broken_pairs" = true)
    (k30 : PySem.W.keepIn K (.ref f30) = true)
    (a31 : PySem.W.nsIn K mainGlobals "broken_singles" = some (some (.ref f31)))
    (l31 : K.lookup f31 = some ⟨oc31, od31, .func (PySem.W.fnOf "broken_singles" "broken_singles" (defArgs s_broken_singles) (defBody s_broken_singles) (defScope s_broken_singles) .none kV31 dc31 pm31 an31 cd31 ct31), sl31⟩)
    (c31 : PySem.W.codeIn K cd31 "broken_singles" = true)
    (k31 : PySem.W.keepIn K (.ref f31) = true)
    (a32 : PySem.W.nsIn K mainGlobals "broken_rows" = some (some (.ref f32)))
    (l32 : K.lookup f32 = some ⟨oc32, od32, .func (PySem.W.fnOf "broken_rows" "broken_rows" (defArgs s_broken_rows) (defBody s_broken_rows) (defScope s_broken_rows) .none kV32 dc32 pm32 an32 cd32 ct32), sl32⟩)
    (c32 : PySem.W.codeIn K cd32 "broken_rows" = true)
    (k32 : PySem.W.keepIn K (.ref f32) = true)
    (a33 : PySem.W.nsIn K mainGlobals "list_breaks" = some (some (.ref f33)))
    (l33 : K.lookup f33 = some ⟨oc33, od33, .func (PySem.W.fnOf "list_breaks" "list_breaks" (defArgs s_list_breaks) (defBody s_list_breaks) (defScope s_list_breaks) .none kV33 dc33 pm33 an33 cd33 ct33), sl33⟩)
    (c33 : PySem.W.codeIn K cd33 "list_breaks" = true)
    (k33 : PySem.W.keepIn K (.ref f33) = true)
    (a34 : PySem.W.nsIn K mainGlobals "breaks" = some (some (.ref f34)))
    (l34 : K.lookup f34 = some ⟨oc34, od34, .func (PySem.W.fnOf "breaks" "breaks" (defArgs s_breaks) (defBody s_breaks) (defScope s_breaks) .none kV34 dc34 pm34 an34 cd34 ct34), sl34⟩)
    (c34 : PySem.W.codeIn K cd34 "breaks" = true)
    (k34 : PySem.W.keepIn K (.ref f34) = true)
    (a35 : PySem.W.nsIn K mainGlobals "fewest_out" = some (some (.ref f35)))
    (l35 : K.lookup f35 = some ⟨oc35, od35, .func (PySem.W.fnOf "fewest_out" "fewest_out" (defArgs s_fewest_out) (defBody s_fewest_out) (defScope s_fewest_out) .none kV35 dc35 pm35 an35 cd35 ct35), sl35⟩)
    (c35 : PySem.W.codeIn K cd35 "fewest_out" = true)
    (k35 : PySem.W.keepIn K (.ref f35) = true)
    (a36 : PySem.W.nsIn K mainGlobals "_law_turned" = some (some (.ref f36)))
    (l36 : K.lookup f36 = some ⟨oc36, od36, .func (PySem.W.fnOf "_law_turned" "_law_turned" (defArgs s_law_turned) (defBody s_law_turned) (defScope s_law_turned) .none kV36 dc36 pm36 an36 cd36 ct36), sl36⟩)
    (c36 : PySem.W.codeIn K cd36 "_law_turned" = true)
    (k36 : PySem.W.keepIn K (.ref f36) = true)
    (a37 : PySem.W.nsIn K mainGlobals "check_rule" = some (some (.ref f37)))
    (l37 : K.lookup f37 = some ⟨oc37, od37, .func (PySem.W.fnOf "check_rule" "check_rule" (defArgs s_check_rule) (defBody s_check_rule) (defScope s_check_rule) .none kV37 dc37 pm37 an37 cd37 ct37), sl37⟩)
    (c37 : PySem.W.codeIn K cd37 "check_rule" = true)
    (k37 : PySem.W.keepIn K (.ref f37) = true)
    (a38 : PySem.W.nsIn K mainGlobals "holds" = some (some (.ref f38)))
    (l38 : K.lookup f38 = some ⟨oc38, od38, .func (PySem.W.fnOf "holds" "holds" (defArgs s_holds) (defBody s_holds) (defScope s_holds) .none kV38 dc38 pm38 an38 cd38 ct38), sl38⟩)
    (c38 : PySem.W.codeIn K cd38 "holds" = true)
    (k38 : PySem.W.keepIn K (.ref f38) = true)
    (a39 : PySem.W.nsIn K mainGlobals "_law_right" = some (some (.ref f39)))
    (l39 : K.lookup f39 = some ⟨oc39, od39, .func (PySem.W.fnOf "_law_right" "_law_right" (defArgs s_law_right) (defBody s_law_right) (defScope s_law_right) .none kV39 dc39 pm39 an39 cd39 ct39), sl39⟩)
    (c39 : PySem.W.codeIn K cd39 "_law_right" = true)
    (k39 : PySem.W.keepIn K (.ref f39) = true)
    (a40 : PySem.W.nsIn K mainGlobals "law" = some (some (.ref f40)))
    (l40 : K.lookup f40 = some ⟨oc40, od40, .func (PySem.W.fnOf "law" "law" (defArgs s_law) (defBody s_law) (defScope s_law) .none kV40 dc40 pm40 an40 cd40 ct40), sl40⟩)
    (c40 : PySem.W.codeIn K cd40 "law" = true)
    (k40 : PySem.W.keepIn K (.ref f40) = true)
    (z_any : PySem.W.nsIn K mainGlobals "any" = some none)
    (z_bool : PySem.W.nsIn K mainGlobals "bool" = some none)
    (z_combinations : PySem.W.nsIn K mainGlobals "combinations" = some (some (.type "itertools.combinations")))
    (z_enumerate : PySem.W.nsIn K mainGlobals "enumerate" = some none)
    (z_int : PySem.W.nsIn K mainGlobals "int" = some none)
    (z_isinstance : PySem.W.nsIn K mainGlobals "isinstance" = some none)
    (z_len : PySem.W.nsIn K mainGlobals "len" = some none)
    (z_list : PySem.W.nsIn K mainGlobals "list" = some none)
    (z_max : PySem.W.nsIn K mainGlobals "max" = some none)
    (z_range : PySem.W.nsIn K mainGlobals "range" = some none)
    (z_set : PySem.W.nsIn K mainGlobals "set" = some none)
    (z_sorted : PySem.W.nsIn K mainGlobals "sorted" = some none)
    (z_tuple : PySem.W.nsIn K mainGlobals "tuple" = some none)
    (z_zip : PySem.W.nsIn K mainGlobals "zip" = some none)
    (m_MOST_CLOSED : PySem.W.nsIn K mainGlobals "MOST_CLOSED" = some (some (.int 2 t_MOST_CLOSED)))
    (m_MOST_COLUMNS : PySem.W.nsIn K mainGlobals "MOST_COLUMNS" = some (some (.int 4 t_MOST_COLUMNS)))
    (m_MOST_ROWS : PySem.W.nsIn K mainGlobals "MOST_ROWS" = some (some (.int 8 t_MOST_ROWS)))
    (m_MOST_RULES : PySem.W.nsIn K mainGlobals "MOST_RULES" = some (some (.int 8 t_MOST_RULES)))
    (m_MOST_VALUES : PySem.W.nsIn K mainGlobals "MOST_VALUES" = some (some (.int 3 t_MOST_VALUES)))
    (g_InvalidColumns : PySem.W.nsIn K mainGlobals "InvalidColumns" = some (some (.ref A_InvalidColumns)))
    (h_InvalidColumns : PySem.W.hasDictIn K A_InvalidColumns = true)
    (y_InvalidColumns : PySem.W.typeIn K (.ref A_InvalidColumns) = some (.type "type"))
    (g_InvalidRule : PySem.W.nsIn K mainGlobals "InvalidRule" = some (some (.ref A_InvalidRule)))
    (h_InvalidRule : PySem.W.hasDictIn K A_InvalidRule = true)
    (y_InvalidRule : PySem.W.typeIn K (.ref A_InvalidRule) = some (.type "type"))
    (g_InvalidRules : PySem.W.nsIn K mainGlobals "InvalidRules" = some (some (.ref A_InvalidRules)))
    (h_InvalidRules : PySem.W.hasDictIn K A_InvalidRules = true)
    (y_InvalidRules : PySem.W.typeIn K (.ref A_InvalidRules) = some (.type "type"))
    (g_InvalidTable : PySem.W.nsIn K mainGlobals "InvalidTable" = some (some (.ref A_InvalidTable)))
    (h_InvalidTable : PySem.W.hasDictIn K A_InvalidTable = true)
    (y_InvalidTable : PySem.W.typeIn K (.ref A_InvalidTable) = some (.type "type"))
    (e_get : PySem.W.specialIn K (.builtin "object.__class__") "__get__" = some (some (.builtin "getset_descriptor.__get__")))
    (e_tk : PySem.W.takesIn K (.builtin "object.__class__") = some true)
    (k_InvalidColumns : PySem.W.keepIn K (.ref A_InvalidColumns) = true)
    (x_InvalidColumns : PySem.W.excIn K A_InvalidColumns [.type "ValueError", .type "Exception", .type "BaseException", .type "object"] "ValueError.__new__" = true)
    (s_InvalidColumns : PySem.W.subIn K (.ref A_InvalidColumns) (.type "BaseException") = some true)
    (q_InvalidColumns : PySem.W.findIn K (.ref A_InvalidColumns) "__getattribute__" = some (some (.builtin "BaseException.__getattribute__")))
    (r_InvalidColumns : PySem.W.findIn K (.ref A_InvalidColumns) "__getattr__" = some none)
    (p_InvalidColumns : PySem.W.findIn K (.ref A_InvalidColumns) "__class__" = some (some (.builtin "object.__class__")))
    (o_InvalidColumns : PySem.W.mroIn K A_InvalidColumns (.type "object") = some true)
    (u_InvalidColumns_InvalidColumns : PySem.W.subIn K (.ref A_InvalidColumns) (.ref A_InvalidColumns) = some true)
    (k_InvalidRule : PySem.W.keepIn K (.ref A_InvalidRule) = true)
    (x_InvalidRule : PySem.W.excIn K A_InvalidRule [.type "ValueError", .type "Exception", .type "BaseException", .type "object"] "ValueError.__new__" = true)
    (s_InvalidRule : PySem.W.subIn K (.ref A_InvalidRule) (.type "BaseException") = some true)
    (q_InvalidRule : PySem.W.findIn K (.ref A_InvalidRule) "__getattribute__" = some (some (.builtin "BaseException.__getattribute__")))
    (r_InvalidRule : PySem.W.findIn K (.ref A_InvalidRule) "__getattr__" = some none)
    (p_InvalidRule : PySem.W.findIn K (.ref A_InvalidRule) "__class__" = some (some (.builtin "object.__class__")))
    (o_InvalidRule : PySem.W.mroIn K A_InvalidRule (.type "object") = some true)
    (u_InvalidRule_InvalidRule : PySem.W.subIn K (.ref A_InvalidRule) (.ref A_InvalidRule) = some true)
    (k_InvalidRules : PySem.W.keepIn K (.ref A_InvalidRules) = true)
    (x_InvalidRules : PySem.W.excIn K A_InvalidRules [.type "ValueError", .type "Exception", .type "BaseException", .type "object"] "ValueError.__new__" = true)
    (s_InvalidRules : PySem.W.subIn K (.ref A_InvalidRules) (.type "BaseException") = some true)
    (q_InvalidRules : PySem.W.findIn K (.ref A_InvalidRules) "__getattribute__" = some (some (.builtin "BaseException.__getattribute__")))
    (r_InvalidRules : PySem.W.findIn K (.ref A_InvalidRules) "__getattr__" = some none)
    (p_InvalidRules : PySem.W.findIn K (.ref A_InvalidRules) "__class__" = some (some (.builtin "object.__class__")))
    (o_InvalidRules : PySem.W.mroIn K A_InvalidRules (.type "object") = some true)
    (u_InvalidRules_InvalidRules : PySem.W.subIn K (.ref A_InvalidRules) (.ref A_InvalidRules) = some true)
    (k_InvalidTable : PySem.W.keepIn K (.ref A_InvalidTable) = true)
    (x_InvalidTable : PySem.W.excIn K A_InvalidTable [.type "ValueError", .type "Exception", .type "BaseException", .type "object"] "ValueError.__new__" = true)
    (s_InvalidTable : PySem.W.subIn K (.ref A_InvalidTable) (.type "BaseException") = some true)
    (q_InvalidTable : PySem.W.findIn K (.ref A_InvalidTable) "__getattribute__" = some (some (.builtin "BaseException.__getattribute__")))
    (r_InvalidTable : PySem.W.findIn K (.ref A_InvalidTable) "__getattr__" = some none)
    (p_InvalidTable : PySem.W.findIn K (.ref A_InvalidTable) "__class__" = some (some (.builtin "object.__class__")))
    (o_InvalidTable : PySem.W.mroIn K A_InvalidTable (.type "object") = some true)
    (u_InvalidTable_InvalidTable : PySem.W.subIn K (.ref A_InvalidTable) (.ref A_InvalidTable) = some true) :
    ∃ fd : FuncData, (∀ (s : Shared) (v : Value), BindsTo s fd ⟨[v], []⟩ [("_law_script", v)]) ∧ ∀ base : Heap, K.In base → base.Ns mainGlobals mg → FnG l.prog w K mg base 11 fa fd ["_law_script"] (spTrue K) := by
  have e := hfa.symm.trans (PySem.W.mg_of X G a40)
  cases e
  let A : Cls := ⟨A_InvalidColumns, A_InvalidRule, A_InvalidRules, A_InvalidTable⟩
  have T : Txt K mg A := {
    z_any := PySem.W.mg_none_of X G z_any,
    z_bool := PySem.W.mg_none_of X G z_bool,
    z_combinations := PySem.W.mg_of X G z_combinations,
    z_enumerate := PySem.W.mg_none_of X G z_enumerate,
    z_int := PySem.W.mg_none_of X G z_int,
    z_isinstance := PySem.W.mg_none_of X G z_isinstance,
    z_len := PySem.W.mg_none_of X G z_len,
    z_list := PySem.W.mg_none_of X G z_list,
    z_max := PySem.W.mg_none_of X G z_max,
    z_range := PySem.W.mg_none_of X G z_range,
    z_set := PySem.W.mg_none_of X G z_set,
    z_sorted := PySem.W.mg_none_of X G z_sorted,
    z_tuple := PySem.W.mg_none_of X G z_tuple,
    z_zip := PySem.W.mg_none_of X G z_zip,
    c_MOST_CLOSED := ⟨t_MOST_CLOSED, PySem.W.mg_of X G m_MOST_CLOSED⟩,
    c_MOST_COLUMNS := ⟨t_MOST_COLUMNS, PySem.W.mg_of X G m_MOST_COLUMNS⟩,
    c_MOST_ROWS := ⟨t_MOST_ROWS, PySem.W.mg_of X G m_MOST_ROWS⟩,
    c_MOST_RULES := ⟨t_MOST_RULES, PySem.W.mg_of X G m_MOST_RULES⟩,
    c_MOST_VALUES := ⟨t_MOST_VALUES, PySem.W.mg_of X G m_MOST_VALUES⟩,
    g_InvalidColumns := PySem.W.mg_of X G g_InvalidColumns,
    g_InvalidRule := PySem.W.mg_of X G g_InvalidRule,
    g_InvalidRules := PySem.W.mg_of X G g_InvalidRules,
    g_InvalidTable := PySem.W.mg_of X G g_InvalidTable,
    k_InvalidColumns := k_InvalidColumns,
    x_InvalidColumns := x_InvalidColumns,
    s_InvalidColumns := s_InvalidColumns,
    t_InvalidColumns := y_InvalidColumns,
    e_InvalidColumns := ⟨q_InvalidColumns, r_InvalidColumns, s_InvalidColumns, h_InvalidColumns, p_InvalidColumns, e_get, e_tk, o_InvalidColumns⟩,
    k_InvalidRule := k_InvalidRule,
    x_InvalidRule := x_InvalidRule,
    s_InvalidRule := s_InvalidRule,
    t_InvalidRule := y_InvalidRule,
    e_InvalidRule := ⟨q_InvalidRule, r_InvalidRule, s_InvalidRule, h_InvalidRule, p_InvalidRule, e_get, e_tk, o_InvalidRule⟩,
    k_InvalidRules := k_InvalidRules,
    x_InvalidRules := x_InvalidRules,
    s_InvalidRules := s_InvalidRules,
    t_InvalidRules := y_InvalidRules,
    e_InvalidRules := ⟨q_InvalidRules, r_InvalidRules, s_InvalidRules, h_InvalidRules, p_InvalidRules, e_get, e_tk, o_InvalidRules⟩,
    k_InvalidTable := k_InvalidTable,
    x_InvalidTable := x_InvalidTable,
    s_InvalidTable := s_InvalidTable,
    t_InvalidTable := y_InvalidTable,
    e_InvalidTable := ⟨q_InvalidTable, r_InvalidTable, s_InvalidTable, h_InvalidTable, p_InvalidTable, e_get, e_tk, o_InvalidTable⟩ }
  have G0 := fun_mk (st := s_law_open) l0 c0 k0
  have F_law_open : FunAt K mg "_law_open" s_law_open ["_law_script"] := ⟨_, _, G0, PySem.W.mg_of X G a0, G0.binds (ps := ["_law_script"]) fun _ _ _ _ _ _ us hl => match us, hl with | [_], _ => rfl⟩
  have G1 := fun_mk (st := s_law_spread) l1 c1 k1
  have F_law_spread : FunAt K mg "_law_spread" s_law_spread ["_law_cell", "_law_at"] := ⟨_, _, G1, PySem.W.mg_of X G a1, G1.binds (ps := ["_law_cell", "_law_at"]) fun _ _ _ _ _ _ us hl => match us, hl with | [_, _], _ => rfl⟩
  have G2 := fun_mk (st := s_law_take) l2 c2 k2
  have F_law_take : FunAt K mg "_law_take" s_law_take ["_law_pen", "_law_many"] := ⟨_, _, G2, PySem.W.mg_of X G a2, G2.binds (ps := ["_law_pen", "_law_many"]) fun _ _ _ _ _ _ us hl => match us, hl with | [_, _], _ => rfl⟩
  have G3 := fun_mk (st := s_law_columns) l3 c3 k3
  have F_law_columns : FunAt K mg "_law_columns" s_law_columns ["_law_pen", "_law_most"] := ⟨_, _, G3, PySem.W.mg_of X G a3, G3.binds (ps := ["_law_pen", "_law_most"]) fun _ _ _ _ _ _ us hl => match us, hl with | [_, _], _ => rfl⟩
  have G4 := fun_mk (st := s_law_one) l4 c4 k4
  have F_law_one : FunAt K mg "_law_one" s_law_one ["_law_pen", "_law_some"] := ⟨_, _, G4, PySem.W.mg_of X G a4, G4.binds (ps := ["_law_pen", "_law_some"]) fun _ _ _ _ _ _ us hl => match us, hl with | [_, _], _ => rfl⟩
  have G5 := fun_mk (st := s_law_value) l5 c5 k5
  have F_law_value : FunAt K mg "_law_value" s_law_value ["_law_pen", "_law_column"] := ⟨_, _, G5, PySem.W.mg_of X G a5, G5.binds (ps := ["_law_pen", "_law_column"]) fun _ _ _ _ _ _ us hl => match us, hl with | [_, _], _ => rfl⟩
  have G6 := fun_mk (st := s_law_rule) l6 c6 k6
  have F_law_rule : FunAt K mg "_law_rule" s_law_rule ["_law_pen", "_law_columns_here"] := ⟨_, _, G6, PySem.W.mg_of X G a6, G6.binds (ps := ["_law_pen", "_law_columns_here"]) fun _ _ _ _ _ _ us hl => match us, hl with | [_, _], _ => rfl⟩
  have G7 := fun_mk (st := s_law_rules) l7 c7 k7
  have F_law_rules : FunAt K mg "_law_rules" s_law_rules ["_law_pen", "_law_columns_here", "_law_many"] := ⟨_, _, G7, PySem.W.mg_of X G a7, G7.binds (ps := ["_law_pen", "_law_columns_here", "_law_many"]) fun _ _ _ _ _ _ us hl => match us, hl with | [_, _, _], _ => rfl⟩
  have G8 := fun_mk (st := s_law_row) l8 c8 k8
  have F_law_row : FunAt K mg "_law_row" s_law_row ["_law_pen", "_law_columns_here"] := ⟨_, _, G8, PySem.W.mg_of X G a8, G8.binds (ps := ["_law_pen", "_law_columns_here"]) fun _ _ _ _ _ _ us hl => match us, hl with | [_, _], _ => rfl⟩
  have G9 := fun_mk (st := s_law_table) l9 c9 k9
  have F_law_table : FunAt K mg "_law_table" s_law_table ["_law_pen", "_law_columns_here", "_law_many"] := ⟨_, _, G9, PySem.W.mg_of X G a9, G9.binds (ps := ["_law_pen", "_law_columns_here", "_law_many"]) fun _ _ _ _ _ _ us hl => match us, hl with | [_, _, _], _ => rfl⟩
  have G10 := fun_mk (st := s_law_anew) l10 c10 k10
  have F_law_anew : FunAt K mg "_law_anew" s_law_anew ["_law_pen"] := ⟨_, _, G10, PySem.W.mg_of X G a10, G10.binds (ps := ["_law_pen"]) fun _ _ _ _ _ _ us hl => match us, hl with | [_], _ => rfl⟩
  have G11 := fun_mk (st := s_breaks_left) l11 c11 k11
  have F_breaks_left : FunAt K mg "breaks_left" s_breaks_left ["found", "out"] := ⟨_, _, G11, PySem.W.mg_of X G a11, G11.binds (ps := ["found", "out"]) fun _ _ _ _ _ _ us hl => match us, hl with | [_, _], _ => rfl⟩
  have G12 := fun_mk (st := s_fewest_rows) l12 c12 k12
  have F_fewest_rows : FunAt K mg "fewest_rows" s_fewest_rows ["found", "many"] := ⟨_, _, G12, PySem.W.mg_of X G a12, G12.binds (ps := ["found", "many"]) fun _ _ _ _ _ _ us hl => match us, hl with | [_, _], _ => rfl⟩
  have G13 := fun_mk (st := s_is_integer) l13 c13 k13
  have F_is_integer : FunAt K mg "is_integer" s_is_integer ["value"] := ⟨_, _, G13, PySem.W.mg_of X G a13, G13.binds (ps := ["value"]) fun _ _ _ _ _ _ us hl => match us, hl with | [_], _ => rfl⟩
  have G14 := fun_mk (st := s_is_closed) l14 c14 k14
  have F_is_closed : FunAt K mg "is_closed" s_is_closed ["value"] := ⟨_, _, G14, PySem.W.mg_of X G a14, G14.binds (ps := ["value"]) fun _ _ _ _ _ _ us hl => match us, hl with | [_], _ => rfl⟩
  have G15 := fun_mk (st := s_is_columns) l15 c15 k15
  have F_is_columns : FunAt K mg "is_columns" s_is_columns ["value"] := ⟨_, _, G15, PySem.W.mg_of X G a15, G15.binds (ps := ["value"]) fun _ _ _ _ _ _ us hl => match us, hl with | [_], _ => rfl⟩
  have G16 := fun_mk (st := s_check_columns) l16 c16 k16
  have F_check_columns : FunAt K mg "check_columns" s_check_columns ["columns"] := ⟨_, _, G16, PySem.W.mg_of X G a16, G16.binds (ps := ["columns"]) fun _ _ _ _ _ _ us hl => match us, hl with | [_], _ => rfl⟩
  have G17 := fun_mk (st := s_is_value_of) l17 c17 k17
  have F_is_value_of : FunAt K mg "is_value_of" s_is_value_of ["column", "value"] := ⟨_, _, G17, PySem.W.mg_of X G a17, G17.binds (ps := ["column", "value"]) fun _ _ _ _ _ _ us hl => match us, hl with | [_, _], _ => rfl⟩
  have G18 := fun_mk (st := s_is_number) l18 c18 k18
  have F_is_number : FunAt K mg "is_number" s_is_number ["value", "limit"] := ⟨_, _, G18, PySem.W.mg_of X G a18, G18.binds (ps := ["value", "limit"]) fun _ _ _ _ _ _ us hl => match us, hl with | [_, _], _ => rfl⟩
  have G19 := fun_mk (st := s_entry_is_right) l19 c19 k19
  have F_entry_is_right : FunAt K mg "entry_is_right" s_entry_is_right ["columns", "value"] := ⟨_, _, G19, PySem.W.mg_of X G a19, G19.binds (ps := ["columns", "value"]) fun _ _ _ _ _ _ us hl => match us, hl with | [_, _], _ => rfl⟩
  have G20 := fun_mk (st := s_given_is_right) l20 c20 k20
  have F_given_is_right : FunAt K mg "given_is_right" s_given_is_right ["columns", "value"] := ⟨_, _, G20, PySem.W.mg_of X G a20, G20.binds (ps := ["columns", "value"]) fun _ _ _ _ _ _ us hl => match us, hl with | [_, _], _ => rfl⟩
  have G21 := fun_mk (st := s_rule_is_right) l21 c21 k21
  have F_rule_is_right : FunAt K mg "rule_is_right" s_rule_is_right ["columns", "value"] := ⟨_, _, G21, PySem.W.mg_of X G a21, G21.binds (ps := ["columns", "value"]) fun _ _ _ _ _ _ us hl => match us, hl with | [_, _], _ => rfl⟩
  have G22 := fun_mk (st := s_rules_are_right) l22 c22 k22
  have F_rules_are_right : FunAt K mg "rules_are_right" s_rules_are_right ["columns", "value"] := ⟨_, _, G22, PySem.W.mg_of X G a22, G22.binds (ps := ["columns", "value"]) fun _ _ _ _ _ _ us hl => match us, hl with | [_, _], _ => rfl⟩
  have G23 := fun_mk (st := s_check_rules) l23 c23 k23
  have F_check_rules : FunAt K mg "check_rules" s_check_rules ["columns", "rules"] := ⟨_, _, G23, PySem.W.mg_of X G a23, G23.binds (ps := ["columns", "rules"]) fun _ _ _ _ _ _ us hl => match us, hl with | [_, _], _ => rfl⟩
  have G24 := fun_mk (st := s_row_is_right) l24 c24 k24
  have F_row_is_right : FunAt K mg "row_is_right" s_row_is_right ["columns", "value"] := ⟨_, _, G24, PySem.W.mg_of X G a24, G24.binds (ps := ["columns", "value"]) fun _ _ _ _ _ _ us hl => match us, hl with | [_, _], _ => rfl⟩
  have G25 := fun_mk (st := s_table_is_right) l25 c25 k25
  have F_table_is_right : FunAt K mg "table_is_right" s_table_is_right ["columns", "value"] := ⟨_, _, G25, PySem.W.mg_of X G a25, G25.binds (ps := ["columns", "value"]) fun _ _ _ _ _ _ us hl => match us, hl with | [_, _], _ => rfl⟩
  have G26 := fun_mk (st := s_check_table) l26 c26 k26
  have F_check_table : FunAt K mg "check_table" s_check_table ["columns", "table"] := ⟨_, _, G26, PySem.W.mg_of X G a26, G26.binds (ps := ["columns", "table"]) fun _ _ _ _ _ _ us hl => match us, hl with | [_, _], _ => rfl⟩
  have G27 := fun_mk (st := s_is_value_rule) l27 c27 k27
  have F_is_value_rule : FunAt K mg "is_value_rule" s_is_value_rule ["rule"] := ⟨_, _, G27, PySem.W.mg_of X G a27, G27.binds (ps := ["rule"]) fun _ _ _ _ _ _ us hl => match us, hl with | [_], _ => rfl⟩
  have G28 := fun_mk (st := s_has_given) l28 c28 k28
  have F_has_given : FunAt K mg "has_given" s_has_given ["given", "row"] := ⟨_, _, G28, PySem.W.mg_of X G a28, G28.binds (ps := ["given", "row"]) fun _ _ _ _ _ _ us hl => match us, hl with | [_, _], _ => rfl⟩
  have G29 := fun_mk (st := s_are_alike) l29 c29 k29
  have F_are_alike : FunAt K mg "are_alike" s_are_alike ["given", "one", "other"] := ⟨_, _, G29, PySem.W.mg_of X G a29, G29.binds (ps := ["given", "one", "other"]) fun _ _ _ _ _ _ us hl => match us, hl with | [_, _, _], _ => rfl⟩
  have G30 := fun_mk (st := s_broken_pairs) l30 c30 k30
  have F_broken_pairs : FunAt K mg "broken_pairs" s_broken_pairs ["rule", "table"] := ⟨_, _, G30, PySem.W.mg_of X G a30, G30.binds (ps := ["rule", "table"]) fun _ _ _ _ _ _ us hl => match us, hl with | [_, _], _ => rfl⟩
  have G31 := fun_mk (st := s_broken_singles) l31 c31 k31
  have F_broken_singles : FunAt K mg "broken_singles" s_broken_singles ["rule", "table"] := ⟨_, _, G31, PySem.W.mg_of X G a31, G31.binds (ps := ["rule", "table"]) fun _ _ _ _ _ _ us hl => match us, hl with | [_, _], _ => rfl⟩
  have G32 := fun_mk (st := s_broken_rows) l32 c32 k32
  have F_broken_rows : FunAt K mg "broken_rows" s_broken_rows ["rule", "table"] := ⟨_, _, G32, PySem.W.mg_of X G a32, G32.binds (ps := ["rule", "table"]) fun _ _ _ _ _ _ us hl => match us, hl with | [_, _], _ => rfl⟩
  have G33 := fun_mk (st := s_list_breaks) l33 c33 k33
  have F_list_breaks : FunAt K mg "list_breaks" s_list_breaks ["rules", "table"] := ⟨_, _, G33, PySem.W.mg_of X G a33, G33.binds (ps := ["rules", "table"]) fun _ _ _ _ _ _ us hl => match us, hl with | [_, _], _ => rfl⟩
  have G34 := fun_mk (st := s_breaks) l34 c34 k34
  have F_breaks : FunAt K mg "breaks" s_breaks ["columns", "rules", "table"] := ⟨_, _, G34, PySem.W.mg_of X G a34, G34.binds (ps := ["columns", "rules", "table"]) fun _ _ _ _ _ _ us hl => match us, hl with | [_, _, _], _ => rfl⟩
  have G35 := fun_mk (st := s_fewest_out) l35 c35 k35
  have F_fewest_out : FunAt K mg "fewest_out" s_fewest_out ["columns", "rules", "table"] := ⟨_, _, G35, PySem.W.mg_of X G a35, G35.binds (ps := ["columns", "rules", "table"]) fun _ _ _ _ _ _ us hl => match us, hl with | [_, _, _], _ => rfl⟩
  have G36 := fun_mk (st := s_law_turned) l36 c36 k36
  have F_law_turned : FunAt K mg "_law_turned" s_law_turned ["_law_found", "_law_many"] := ⟨_, _, G36, PySem.W.mg_of X G a36, G36.binds (ps := ["_law_found", "_law_many"]) fun _ _ _ _ _ _ us hl => match us, hl with | [_, _], _ => rfl⟩
  have G37 := fun_mk (st := s_check_rule) l37 c37 k37
  have F_check_rule : FunAt K mg "check_rule" s_check_rule ["columns", "rule"] := ⟨_, _, G37, PySem.W.mg_of X G a37, G37.binds (ps := ["columns", "rule"]) fun _ _ _ _ _ _ us hl => match us, hl with | [_, _], _ => rfl⟩
  have G38 := fun_mk (st := s_holds) l38 c38 k38
  have F_holds : FunAt K mg "holds" s_holds ["columns", "rule", "table"] := ⟨_, _, G38, PySem.W.mg_of X G a38, G38.binds (ps := ["columns", "rule", "table"]) fun _ _ _ _ _ _ us hl => match us, hl with | [_, _, _], _ => rfl⟩
  have G39 := fun_mk (st := s_law_right) l39 c39 k39
  have F_law_right : FunAt K mg "_law_right" s_law_right ["_law_pen", "_law_columns_here", "_law_rules_here", "_law_table_here"] := ⟨_, _, G39, PySem.W.mg_of X G a39, G39.binds (ps := ["_law_pen", "_law_columns_here", "_law_rules_here", "_law_table_here"]) fun _ _ _ _ _ _ us hl => match us, hl with | [_, _, _, _], _ => rfl⟩
  refine ⟨PySem.W.fnOf "law" "law" (defArgs s_law) (defBody s_law) (defScope s_law) .none kV40 dc40 pm40 an40 cd40 ct40, fun s v => .of_eq rfl, fun base _ _ => ?_⟩
  have L_open := L2.DL.K12.ok_law_open (P := l.prog) (w := w) (base := base) T F_law_open
  have d_law_spread := L2.DL.K12.d_law_spread (P := l.prog) (w := w) (base := base) T F_law_spread
  have d_law_take := L2.DL.K12.d_law_take (P := l.prog) (w := w) (base := base) T d_law_spread F_law_take
  have d_law_columns := L2.DL.K12.d_law_columns (P := l.prog) (w := w) (base := base) T d_law_take F_law_columns
  have d_law_one := L2.DL.K12.d_law_one (P := l.prog) (w := w) (base := base) T d_law_take F_law_one
  have d_law_value := L2.DL.K12.d_law_value (P := l.prog) (w := w) (base := base) T d_law_one F_law_value
  have d_law_rule := L2.DL.K12.d_law_rule (P := l.prog) (w := w) (base := base) T d_law_take d_law_one d_law_value F_law_rule
  have d_law_rules := L2.DL.K12.d_law_rules (P := l.prog) (w := w) (base := base) T d_law_take d_law_rule F_law_rules
  have d_law_row := L2.DL.K12.d_law_row (P := l.prog) (w := w) (base := base) T d_law_value F_law_row
  have d_law_table := L2.DL.K12.d_law_table (P := l.prog) (w := w) (base := base) T d_law_take d_law_one d_law_row F_law_table
  have d_law_anew := L2.DL.K12.d_law_anew (P := l.prog) (w := w) (base := base) T F_law_anew
  have o_breaks_left := L2.DL.K12.o_breaks_left (P := l.prog) (w := w) (base := base) T F_breaks_left
  have d_fewest_rows := L2.DL.K12.d_fewest_rows (P := l.prog) (w := w) (base := base) T o_breaks_left F_fewest_rows
  have d_is_integer := L2.DL.K12.d_is_integer (P := l.prog) (w := w) (base := base) T F_is_integer
  have d_is_closed := L2.DL.K12.d_is_closed (P := l.prog) (w := w) (base := base) T d_is_integer F_is_closed
  have d_is_columns := L2.DL.K12.d_is_columns (P := l.prog) (w := w) (base := base) T d_is_closed F_is_columns
  have d_check_columns := L2.DL.K12.d_check_columns (P := l.prog) (w := w) (base := base) T d_is_columns F_check_columns
  have d_is_value_of := L2.DL.K12.d_is_value_of (P := l.prog) (w := w) (base := base) d_is_integer F_is_value_of
  have d_is_number := L2.DL.K12.d_is_number (P := l.prog) (w := w) (base := base) d_is_integer F_is_number
  have d_entry_is_right := L2.DL.K12.d_entry_is_right (P := l.prog) (w := w) (base := base) T d_is_number d_is_value_of F_entry_is_right
  have d_given_is_right := L2.DL.K12.d_given_is_right (P := l.prog) (w := w) (base := base) T d_entry_is_right F_given_is_right
  have d_rule_is_right := L2.DL.K12.d_rule_is_right (P := l.prog) (w := w) (base := base) T d_is_number d_is_value_of d_given_is_right F_rule_is_right
  have d_rules_are_right := L2.DL.K12.d_rules_are_right (P := l.prog) (w := w) (base := base) T d_rule_is_right F_rules_are_right
  have d_check_rules := L2.DL.K12.d_check_rules (P := l.prog) (w := w) (base := base) T d_rules_are_right F_check_rules
  have d_row_is_right := L2.DL.K12.d_row_is_right (P := l.prog) (w := w) (base := base) T d_is_value_of F_row_is_right
  have d_table_is_right := L2.DL.K12.d_table_is_right (P := l.prog) (w := w) (base := base) T d_row_is_right F_table_is_right
  have d_check_table := L2.DL.K12.d_check_table (P := l.prog) (w := w) (base := base) T d_table_is_right F_check_table
  have d_is_value_rule := L2.DL.K12.d_is_value_rule (P := l.prog) (w := w) (base := base) T F_is_value_rule
  have d_has_given := L2.DL.K12.d_has_given (P := l.prog) (w := w) (base := base) T F_has_given
  have d_are_alike := L2.DL.K12.d_are_alike (P := l.prog) (w := w) (base := base) T d_has_given F_are_alike
  have d_broken_pairs := L2.DL.K12.d_broken_pairs (P := l.prog) (w := w) (base := base) T d_are_alike F_broken_pairs
  have d_broken_singles := L2.DL.K12.d_broken_singles (P := l.prog) (w := w) (base := base) T d_has_given F_broken_singles
  have d_broken_rows := L2.DL.K12.d_broken_rows (P := l.prog) (w := w) (base := base) T d_is_value_rule d_broken_singles d_broken_pairs F_broken_rows
  have o_list_breaks := L2.DL.K12.o_list_breaks (P := l.prog) (w := w) (base := base) T d_broken_rows F_list_breaks
  have o_breaks := L2.DL.K12.o_breaks (P := l.prog) (w := w) (base := base) T d_check_columns d_check_rules d_check_table o_list_breaks F_breaks
  have d_fewest_out := L2.DL.K12.d_fewest_out (P := l.prog) (w := w) (base := base) T o_breaks d_fewest_rows F_fewest_out
  have d_law_turned := L2.DL.K12.d_law_turned (P := l.prog) (w := w) (base := base) T F_law_turned
  have d_check_rule := L2.DL.K12.d_check_rule (P := l.prog) (w := w) (base := base) T d_rule_is_right F_check_rule
  have d_holds := L2.DL.K12.d_holds (P := l.prog) (w := w) (base := base) T d_check_columns d_check_rule d_check_table d_broken_rows F_holds
  have d_law_right := L2.DL.K12.d_law_right (P := l.prog) (w := w) (base := base) T d_law_take o_breaks d_holds d_law_turned d_fewest_out F_law_right
  exact ok_law T L_open d_law_anew d_law_take d_law_columns d_law_rules d_law_table d_law_right o_breaks (fun_mk (st := s_law) l40 c40 k40)
end L2.DL.K12
open PySem PySem.W
      PyProof.Rows in
set_option
      maxRecDepth 100000 in
set_option maxHeartbeats 0 in
theorem PySem.Challenge.cw_whererules_k12_whole_breaks_holds : PySem.Challenge.rw_whererules_k12_whole_breaks.Holds := by
  w_on; o_law; k_head; (case hw =>
        w_witness2)
  k_fill
  refine L2.DL.walk_G (l := PySem.Challenge.rw_whererules_k12_whole_breaks) (k := 11) (x := "_law_script") rfl rfl ⟨rfl, by decide, by decide⟩ (fun w h Y => PySem.W.kIn_of Y) ?F
  case F =>
    intro w mg fa h KX G hmg
    refine' L2.DL.K12.all_mk KX G hmg ?a0 ?l0 ?c0 ?k0 ?a1 ?l1 ?c1 ?k1 ?a2 ?l2 ?c2 ?k2 ?a3 ?l3 ?c3 ?k3 ?a4 ?l4 ?c4 ?k4 ?a5 ?l5 ?c5 ?k5 ?a6 ?l6 ?c6 ?k6 ?a7 ?l7 ?c7 ?k7 ?a8 ?l8 ?c8 ?k8 ?a9 ?l9 ?c9 ?k9 ?a10 ?l10 ?c10 ?k10 ?a11 ?l11 ?c11 ?k11 ?a12 ?l12 ?c12 ?k12 ?a13 ?l13 ?c13 ?k13 ?a14 ?l14 ?c14 ?k14 ?a15 ?l15 ?c15 ?k15 ?a16 ?l16 ?c16 ?k16 ?a17 ?l17 ?c17 ?k17 ?a18 ?l18 ?c18 ?k18 ?a19 ?l19 ?c19 ?k19 ?a20 ?l20 ?c20 ?k20 ?a21 ?l21 ?c21 ?k21 ?a22 ?l22 ?c22 ?k22 ?a23 ?l23 ?c23 ?k23 ?a24 ?l24 ?c24 ?k24 ?a25 ?l25 ?c25 ?k25 ?a26 ?l26 ?c26 ?k26 ?a27 ?l27 ?c27 ?k27 ?a28 ?l28 ?c28 ?k28 ?a29 ?l29 ?c29 ?k29 ?a30 ?l30 ?c30 ?k30 ?a31 ?l31 ?c31 ?k31 ?a32 ?l32 ?c32 ?k32 ?a33 ?l33 ?c33 ?k33 ?a34 ?l34 ?c34 ?k34 ?a35 ?l35 ?c35 ?k35 ?a36 ?l36 ?c36 ?k36 ?a37 ?l37 ?c37 ?k37 ?a38 ?l38 ?c38 ?k38 ?a39 ?l39 ?c39 ?k39 ?a40 ?l40 ?c40 ?k40 ?z_any ?z_bool ?z_combinations ?z_enumerate ?z_int ?z_isinstance ?z_len ?z_list ?z_max ?z_range ?z_set ?z_sorted ?z_tuple ?z_zip ?m_MOST_CLOSED ?m_MOST_COLUMNS ?m_MOST_ROWS ?m_MOST_RULES ?m_MOST_VALUES ?g_InvalidColumns ?h_InvalidColumns ?y_InvalidColumns ?g_InvalidRule ?h_InvalidRule ?y_InvalidRule ?g_InvalidRules ?h_InvalidRules ?y_InvalidRules ?g_InvalidTable ?h_InvalidTable ?y_InvalidTable ?e_get ?e_tk ?k_InvalidColumns ?x_InvalidColumns ?s_InvalidColumns ?q_InvalidColumns ?r_InvalidColumns ?p_InvalidColumns ?o_InvalidColumns ?u_InvalidColumns_InvalidColumns ?k_InvalidRule ?x_InvalidRule ?s_InvalidRule ?q_InvalidRule ?r_InvalidRule ?p_InvalidRule ?o_InvalidRule ?u_InvalidRule_InvalidRule ?k_InvalidRules ?x_InvalidRules ?s_InvalidRules ?q_InvalidRules ?r_InvalidRules ?p_InvalidRules ?o_InvalidRules ?u_InvalidRules_InvalidRules ?k_InvalidTable ?x_InvalidTable ?s_InvalidTable ?q_InvalidTable ?r_InvalidTable ?p_InvalidTable ?o_InvalidTable ?u_InvalidTable_InvalidTable
    (case a0 => k_is)
    (case l0 => k_is)
    (case c0 => k_is)
    (case k0 => k_is)
    (case a1 => k_is)
    (case l1 => k_is)
    (case c1 => k_is)
    (case k1 => k_is)
    (case a2 => k_is)
    (case l2 => k_is)
    (case c2 => k_is)
    (case k2 => k_is)
    (case a3 => k_is)
    (case l3 => k_is)
    (case c3 => k_is)
    (case k3 => k_is)
    (case a4 => k_is)
    (case l4 => k_is)
    (case c4 => k_is)
    (case k4 => k_is)
    (case a5 => k_is)
    (case l5 => k_is)
    (case c5 => k_is)
    (case k5 => k_is)
    (case a6 => k_is)
    (case l6 => k_is)
    (case c6 => k_is)
    (case k6 => k_is)
    (case a7 => k_is)
    (case l7 => k_is)
    (case c7 => k_is)
    (case k7 => k_is)
    (case a8 => k_is)
    (case l8 => k_is)
    (case c8 => k_is)
    (case k8 => k_is)
    (case a9 => k_is)
    (case l9 => k_is)
    (case c9 => k_is)
    (case k9 => k_is)
    (case a10 => k_is)
    (case l10 => k_is)
    (case c10 => k_is)
    (case k10 => k_is)
    (case a11 => k_is)
    (case l11 => k_is)
    (case c11 => k_is)
    (case k11 => k_is)
    (case a12 => k_is)
    (case l12 => k_is)
    (case c12 => k_is)
    (case k12 => k_is)
    (case a13 => k_is)
    (case l13 => k_is)
    (case c13 => k_is)
    (case k13 => k_is)
    (case a14 => k_is)
    (case l14 => k_is)
    (case c14 => k_is)
    (case k14 => k_is)
    (case a15 => k_is)
    (case l15 => k_is)
    (case c15 => k_is)
    (case k15 => k_is)
    (case a16 => k_is)
    (case l16 => k_is)
    (case c16 => k_is)
    (case k16 => k_is)
    (case a17 => k_is)
    (case l17 => k_is)
    (case c17 => k_is)
    (case k17 => k_is)
    (case a18 => k_is)
    (case l18 => k_is)
    (case c18 => k_is)
    (case k18 => k_is)
    (case a19 => k_is)
    (case l19 => k_is)
    (case c19 => k_is)
    (case k19 => k_is)
    (case a20 => k_is)
    (case l20 => k_is)
    (case c20 => k_is)
    (case k20 => k_is)
    (case a21 => k_is)
    (case l21 => k_is)
    (case c21 => k_is)
    (case k21 => k_is)
    (case a22 => k_is)
    (case l22 => k_is)
    (case c22 => k_is)
    (case k22 => k_is)
    (case a23 => k_is)
    (case l23 => k_is)
    (case c23 => k_is)
    (case k23 => k_is)
    (case a24 => k_is)
    (case l24 => k_is)
    (case c24 => k_is)
    (case k24 => k_is)
    (case a25 => k_is)
    (case l25 => k_is)
    (case c25 => k_is)
    (case k25 => k_is)
    (case a26 => k_is)
    (case l26 => k_is)
    (case c26 => k_is)
    (case k26 => k_is)
    (case a27 => k_is)
    (case l27 => k_is)
    (case c27 => k_is)
    (case k27 => k_is)
    (case a28 => k_is)
    (case l28 => k_is)
    (case c28 => k_is)
    (case k28 => k_is)
    (case a29 => k_is)
    (case l29 => k_is)
    (case c29 => k_is)
    (case k29 => k_is)
    (case a30 => k_is)
    (case l30 => k_is)
    (case c30 => k_is)
    (case k30 => k_is)
    (case a31 => k_is)
    (case l31 => k_is)
    (case c31 => k_is)
    (case k31 => k_is)
    (case a32 => k_is)
    (case l32 => k_is)
    (case c32 => k_is)
    (case k32 => k_is)
    (case a33 => k_is)
    (case l33 => k_is)
    (case c33 => k_is)
    (case k33 => k_is)
    (case a34 => k_is)
    (case l34 => k_is)
    (case c34 => k_is)
    (case k34 => k_is)
    (case a35 => k_is)
    (case l35 => k_is)
    (case c35 => k_is)
    (case k35 => k_is)
    (case a36 => k_is)
    (case l36 => k_is)
    (case c36 => k_is)
    (case k36 => k_is)
    (case a37 => k_is)
    (case l37 => k_is)
    (case c37 => k_is)
    (case k37 => k_is)
    (case a38 => k_is)
    (case l38 => k_is)
    (case c38 => k_is)
    (case k38 => k_is)
    (case a39 => k_is)
    (case l39 => k_is)
    (case c39 => k_is)
    (case k39 => k_is)
    (case a40 => k_is)
    (case l40 => k_is)
    (case c40 => k_is)
    (case k40 => k_is)
    (case z_any => k_is)
    (case z_bool => k_is)
    (case z_combinations => k_is)
    (case z_enumerate => k_is)
    (case z_int => k_is)
    (case z_isinstance => k_is)
    (case z_len => k_is)
    (case z_list => k_is)
    (case z_max => k_is)
    (case z_range => k_is)
    (case z_set => k_is)
    (case z_sorted => k_is)
    (case z_tuple => k_is)
    (case z_zip => k_is)
    (case m_MOST_CLOSED => k_is)
    (case m_MOST_COLUMNS => k_is)
    (case m_MOST_ROWS => k_is)
    (case m_MOST_RULES => k_is)
    (case m_MOST_VALUES => k_is)
    (case g_InvalidColumns => k_is)
    (case h_InvalidColumns => k_is)
    (case y_InvalidColumns => k_is)
    (case g_InvalidRule => k_is)
    (case h_InvalidRule => k_is)
    (case y_InvalidRule => k_is)
    (case g_InvalidRules => k_is)
    (case h_InvalidRules => k_is)
    (case y_InvalidRules => k_is)
    (case g_InvalidTable => k_is)
    (case h_InvalidTable => k_is)
    (case y_InvalidTable => k_is)
    (case e_get => k_is)
    (case e_tk => k_is)
    (case k_InvalidColumns => k_is)
    (case x_InvalidColumns => k_exc)
    (case s_InvalidColumns => k_is)
    (case q_InvalidColumns => k_is)
    (case r_InvalidColumns => k_is)
    (case p_InvalidColumns => k_is)
    (case o_InvalidColumns => k_is)
    (case u_InvalidColumns_InvalidColumns => first | rfl | k_is)
    (case k_InvalidRule => k_is)
    (case x_InvalidRule => k_exc)
    (case s_InvalidRule => k_is)
    (case q_InvalidRule => k_is)
    (case r_InvalidRule => k_is)
    (case p_InvalidRule => k_is)
    (case o_InvalidRule => k_is)
    (case u_InvalidRule_InvalidRule => first | rfl | k_is)
    (case k_InvalidRules => k_is)
    (case x_InvalidRules => k_exc)
    (case s_InvalidRules => k_is)
    (case q_InvalidRules => k_is)
    (case r_InvalidRules => k_is)
    (case p_InvalidRules => k_is)
    (case o_InvalidRules => k_is)
    (case u_InvalidRules_InvalidRules => first | rfl | k_is)
    (case k_InvalidTable => k_is)
    (case x_InvalidTable => k_exc)
    (case s_InvalidTable => k_is)
    (case q_InvalidTable => k_is)
    (case r_InvalidTable => k_is)
    (case p_InvalidTable => k_is)
    (case o_InvalidTable => k_is)
    (case u_InvalidTable_InvalidTable => first | rfl | k_is)
#print axioms PySem.Challenge.cw_whererules_k12_whole_breaks_holds