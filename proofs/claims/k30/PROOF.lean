import PyProof.Rows.All
import Wide.All
import OpenK.AllK
import Wide.FinOn
import HandS.ForMost
import HandS.ForExc
import HandS.Walk
import HandS.IsInst
import HandS.Deep
import HandS.Wide
import HandS.TupAny
import HandS.TupMul
import HandS.Style
import PyProof.StrLawsRepr
import HandS.More
import HandS.SortInts
import HandS.Zip
import HandS.ExcIs
import HandS.ExcValue
import HandS.SetFor
import HandS.Strs
import HandS.TryMany
import KE.GoesMore
import PyProof.Draws
import HandS.Dict
import HandS.TupSets
import HandS.Conv
import PyProof.ZipIter
import PyProof.CallType
import PyProof.Walk
import PyProof.WalkLemmas
import PyProof.RangeIter
import PyProof.RulesTry
import HandS.RepeatKit
import HandS.Iter
import KE.SortData
import KE.DataMinMax
import HandS.Flow
import KE.GoesZip
import PyProof.ListNew
import KE.KItemsList
import HandS.Defaults
import HandS.Text
import HandS.Sort
import PySem.Challenge.RW_whererules_k30_views_and_their_rows
set_option Elab.async false
set_option linter.all false
set_option maxRecDepth 100000
set_option
      maxHeartbeats 4000000
set_option exponentiation.threshold 10000
set_option
      maxHeartbeats 1000000
/-! A layer over data: what a def does is told over plain data (PyData), without the heap. -/
namespace L2.DL
open PySem PySem.Spec
      PyProof.Rows
abbrev D := PyData
/-- the drawing pen, an error of the class at C, an instance of the class at C: as data that no program can write -/
abbrev penD : D := .dict []
abbrev excD (C : Addr) : D := .dict [(.none, .int (C : Nat))]
abbrev objD (C : Addr) (fs : List (Str × D)) : D := .dict ((.bool true, .int (C : Nat)) :: fs.map fun f => (.str f.1, f.2))
/-- the law's script, as data that no program can write -/
abbrev scrD (ns : List Int) : D := .dict [(.bool false, .list (ns.map PyData.int))]
def ExC (C a : Addr) : HO := .ext fun h => ∃ (oe : Obj) (vs : Array Value), h.get? a = some oe ∧ Zc (.ref C) none oe ∧ oe.data = .fields vs
mutual
/-- the value v stands for the data d, over the ground G of things that do not change -/
inductive R (K : PySem.W.Frag) (p : Option Addr) (G : Hp) : V → D → Prop
  | non : R K p G .non .none
  | bl (b : Bool) : R K p G (.bl b) (.bool b)
  | int (i : Int) : R K p G (.int i) (.int i)
  | str (x : Str) : R K p G (.str x) (.str x)
  | lst {a : Addr} {xs : List V} {ds : List D} : G a = some (.lst xs) → RA K p G xs ds → R K p G (.ref a) (.list ds)
  | tup {a : Addr} {xs : List V} {ds : List D} : SqT K G a xs → RA K p G xs ds → R K p G (.ref a) (.tuple ds)
  | pen {a : Addr} {d : D} : p = some a → d = penD → R K p G (.ref a) d
  | exc {a C : Addr} {d : D} : G a = some (ExC C a) → d = excD C → R K p G (.ref a) d
  | obj {a C dx : Addr} {fvs : List (Str × V)} {fs : List (Str × D)} {d : D} : G a = some (.ins C dx fvs) → RF K p G fvs fs → d = objD C fs → R K p G (.ref a) d
  | scr {a : Addr} {ns : List Int} {d : D} : SqL K G a (ns.map V.int) → d = scrD ns → R K p G (.ref a) d
inductive RA (K : PySem.W.Frag) (p : Option Addr) (G : Hp) : List V → List D → Prop
  | nil : RA K p G [] []
  | cons {v : V} {vs : List V} {d : D} {ds : List D} : R K p G v d → RA K p G vs ds → RA K p G (v :: vs) (d :: ds)
inductive RF (K : PySem.W.Frag) (p : Option Addr) (G : Hp) : List (Str × V) → List (Str × D) → Prop
  | nil : RF K p G [] []
  | cons {n : Str} {v : V} {vs : List (Str × V)} {d : D} {ds : List (Str × D)} : R K p G v d → RF K p G vs ds → RF K p G ((n, v) :: vs) ((n, d) :: ds)
end
theorem sameT {K : PySem.W.Frag} {H H' : Hp} {a : Addr} {xs : List V} (e : Same H H') (h : SqT K H a xs) : SqT K H' a xs := by
  rcases h with (h | ⟨o,
        h⟩) | h
  · exact .inl (.inl (e _ _ h))
  · exact .inl (.inr ⟨o,
        e _ _ h⟩)
  · exact .inr h
section
variable {K : PySem.W.Frag} {p : Option Addr} {G G' : Hp}
mutual
theorem R.mono (s : Same G G') : ∀ {v : V} {d : D}, R K p G v d → R K p G' v d
  | _, _, .non => .non
  | _, _, .bl b => .bl b
  | _, _, .int i => .int i
  | _, _, .str x => .str x
  | _, _, .lst h r => .lst (s _ _ h) (RA.mono s r)
  | _, _, .tup h r => .tup (sameT s h) (RA.mono s r)
  | _, _, .pen h e => .pen h e
  | _, _, .exc h e => .exc (s _ _ h) e
  | _, _, .obj h r e => .obj (s _ _ h) (RF.mono s r) e
  | _, _, .scr h e => .scr (s.seq h) e
theorem RA.mono (s : Same G G') : ∀ {vs : List V} {ds : List D}, RA K p G vs ds → RA K p G' vs ds
  | _, _, .nil => .nil
  | _, _, .cons h t => .cons (R.mono s h) (RA.mono s t)
theorem RF.mono (s : Same G G') : ∀ {vs : List (Str × V)} {ds : List (Str × D)}, RF K p G vs ds → RF K p G' vs ds
  | _, _, .nil => .nil
  | _, _, .cons h t => .cons (R.mono s h) (RF.mono s t)
end
theorem R.bl_inv {v : V} {b : Bool} (h : R K p G v (.bool b)) : v = .bl b := by cases h <;> first | rfl | contradiction
theorem R.int_inv {v : V} {i : Int} (h : R K p G v (.int i)) : v = .int i := by cases h <;> first | rfl | contradiction
theorem R.str_inv {v : V} {x : Str} (h : R K p G v (.str x)) : v = .str x := by cases h <;> first | rfl | contradiction
theorem R.lst_inv {v : V} {ds : List D} (h : R K p G v (.list ds)) : ∃ a xs, v = .ref a ∧ G a = some (.lst xs) ∧ RA K p G xs ds := by
  cases h <;> first | contradiction | skip
  rename_i h1 h2
  exact ⟨_, _, rfl, h1, h2⟩
theorem R.tup_inv {v : V} {ds : List D} (h : R K p G v (.tuple ds)) : ∃ a xs, v = .ref a ∧ SqT K G a xs ∧ RA K p G xs ds := by
  cases h <;> first | contradiction | skip
  rename_i h1 h2
  exact ⟨_, _, rfl, h1, h2⟩
theorem R.pen_inv {v : V} (h : R K p G v penD) : ∃ a, v = .ref a ∧ p = some a := by
  cases h with
  | pen h1 h2 => exact ⟨_, rfl, h1⟩
  | exc h1 h2 => cases h2
  | obj h1 h2 h3 => cases h3
  | scr h1 h2 => cases h2
theorem R.exc_inv {v : V} {C : Addr} (h : R K p G v (excD C)) : ∃ a, v = .ref a ∧ G a = some (ExC C a) := by
  cases h with
  | pen h1 h2 => cases h2
  | @exc a C' _ h1 h2 =>
    have e : (C : Int) = (C' : Int) := by
      injection h2 with e
      injection e with e _
      injection e with _ e
      injection e with e
    have e' : C = C' := Int.ofNat.inj e
    subst e'
    exact ⟨_, rfl, h1⟩
  | obj h1 h2 h3 =>
    injection h3 with e
    injection e with e _
    injection e with e _
    cases e
  | scr h1 h2 =>
    injection h2 with e
    injection e with e _
    injection e with e _
    cases e
theorem ints_inj : ∀ {xs ys : List Int}, xs.map PyData.int = ys.map PyData.int → xs = ys
  | [], [], _ => rfl
  | [], _ :: _, h => by cases h
  | _ :: _, [], h => by cases h
  | x :: xs, y :: ys, h => by
    injection h with h1 h2
    injection h1 with h1
    rw [h1, ints_inj h2]
theorem R.scr_inv {v : V} {ns : List Int} (h : R K p G v (scrD ns)) : ∃ a, v = .ref a ∧ SqL K G a (ns.map V.int) := by
  cases h with
  | pen h1 h2 => cases h2
  | exc h1 h2 =>
    injection h2 with e
    injection e with e _
    injection e with e _
    cases e
  | obj h1 h2 h3 =>
    injection h3 with e
    injection e with e _
    injection e with e _
    cases e
  | scr h1 h2 =>
    injection h2 with e
    injection e with e _
    injection e with _ e
    injection e with e
    rw [ints_inj e]
    exact ⟨_, rfl, h1⟩
end
section
variable {K : PySem.W.Frag} {p : Option Addr} {G G' : Hp}
theorem RA.length : ∀ {vs : List V} {ds : List D}, RA K p G vs ds → vs.length = ds.length
  | _, _, .nil => rfl
  | _, _, .cons _ t => by rw [List.length_cons, List.length_cons, RA.length t]
theorem RA.get : ∀ {vs : List V} {ds : List D} {i : Nat} {d : D}, RA K p G vs ds → ds[i]? = some d → ∃ v, vs[i]? = some v ∧ R K p G v d
  | _, _, _, _, .nil,
        e => by simp at e
  | _, _, 0, _, .cons r _, e =>
        by simp at e; subst e; exact ⟨_, rfl, r⟩
  | _, _, i + 1, d, .cons _ t, e => by
    obtain ⟨u, h1, h2⟩ := RA.get (i := i) (d := d) t (by simpa using e)
    exact ⟨u,
          by simpa using h1, h2⟩
theorem RA.append : ∀ {xs ys : List V} {ds es : List D}, RA K p G xs ds → RA K p G ys es → RA K p G (xs ++ ys) (ds ++ es)
  | _, _, _, _, .nil, s => s
  | _, _, _, _, .cons r t, s => .cons r (RA.append t s)
theorem RA.take : ∀ {xs : List V} {ds : List D} (n : Nat), RA K p G xs ds → RA K p G (xs.take n) (ds.take n)
  | _, _, 0, _ => .nil
  | _, _, _ + 1, .nil => .nil
  | _, _, n + 1, .cons r t => .cons r (RA.take n t)
theorem RA.drop : ∀ {xs : List V} {ds : List D} (n : Nat), RA K p G xs ds → RA K p G (xs.drop n) (ds.drop n)
  | _, _, 0, r => r
  | _, _, _ + 1, .nil => .nil
  | _, _, n + 1, .cons _ t => RA.drop n t
theorem RA.set {x : V} {u : D} (r : R K p G x u) : ∀ {xs : List V} {us : List D} (i : Nat), RA K p G xs us → RA K p G (xs.set i x) (us.set i u)
  | _, _, _, .nil => .nil
  | _, _, 0,
        .cons _ t => .cons r t
  | _, _, i + 1, .cons q t => .cons q (RA.set r i t)
theorem RA.reverse : ∀ {xs : List V} {ds : List D}, RA K p G xs ds → RA K p G xs.reverse ds.reverse
  | _, _, .nil => .nil
  | _, _, .cons r t => by
    rw [List.reverse_cons,
          List.reverse_cons]
    exact (RA.reverse t).append (.cons r .nil)
theorem RA.rep {xs : List V} {ds : List D} (h : RA K p G xs ds) : ∀ k : Nat, RA K p G (List.replicate k xs).flatten (List.replicate k ds).flatten
  | 0 => .nil
  | k + 1 => by
    rw [List.replicate_succ, List.replicate_succ,
          List.flatten_cons, List.flatten_cons]
    exact h.append (RA.rep h k)
theorem RA.nil_iff {xs : List V} {ds : List D} (h : RA K p G xs ds) : xs = [] ↔ ds = [] := by
  cases h <;> simp
end
end L2.DL
set_option
      maxHeartbeats 1000000
namespace L2.DL
open PySem PySem.Spec
      PyProof.Rows
/-- a slot of a def: nothing known, data, or a list that this slot alone holds -/
inductive Slot where
  | un | dat (d : D) | own (ds : List D)
/-- the slots, and how many draws are left -/
structure En where
  s : List Slot
  k : Nat
/-- most draws of a run -/
abbrev most : Nat := 1000000
structure Wd (K : PySem.W.Frag) (p : Option Addr) (k : Nat) (G H : Hp) : Prop where
  same : Same G H
  pen : ∀ a, p = some a → G a = none ∧ ∃ (c : Addr) (xs : List Int) (i r : Int), H a = some (.lst [.ref c, .int i, .int r]) ∧ G c = some (.lst (xs.map V.int)) ∧ xs.length ≤ 12 ∧ 0 ≤ i ∧ i + (k : Int) ≤ most
/-- the pen at a draws from the list at c -/
def HasC (H : Hp) (a c : Addr) : Prop := ∃ i r : Int, H a = some (.lst [.ref c, .int i, .int r])
structure Stp (p : Option Addr) (G₀ H₀ G H : Hp) : Prop where
  gg : Same G₀ G
  hh : ∀ b o, H₀ b = some o → p ≠ some b → H b = some o
  nn : ∀ b o, H₀ b = some o → G₀ b = none → G b = none
  pc : ∀ a c, p = some a → HasC H₀ a c → HasC H a c
structure Rel (K : PySem.W.Frag) (p : Option Addr) (G₀ H₀ G H : Hp) (σ : St) (e : En) (α : Nat → Addr) : Prop where
  w : Wd K p e.k G H
  st : Stp p G₀ H₀ G H
  len : σ.length = e.s.length
  dat : ∀ (i : Nat) d, e.s[i]? = some (.dat d) → ∃ v, σ[i]? = some (some v) ∧ R K p G v d
  own : ∀ (i : Nat) ds, e.s[i]? = some (.own ds) → ∃ xs, σ[i]? = some (some (.ref (α i))) ∧ H (α i) = some (.lst xs) ∧ G (α i) = none ∧ H₀ (α i) = none ∧ p ≠ some (α i) ∧ RA K p G xs ds
  sep : ∀ (i j : Nat) ds es, e.s[i]? = some (.own ds) → e.s[j]? = some (.own es) → i ≠ j → α i ≠ α j
def Rl (K : PySem.W.Frag) (p : Option Addr) (G₀ H₀ G H : Hp) (σ : St) (e : En) : Prop := ∃ α, Rel K p G₀ H₀ G H σ e α
theorem Stp.refl {p : Option Addr} {G H : Hp} : Stp p G H G H := ⟨fun _ _ h => h, fun _ _ h _ => h, fun _ _ _ h => h, fun _ _ _ h => h⟩
section
variable {K : PySem.W.Frag} {p : Option Addr} {k : Nat} {G₀ H₀ G H G' H' : Hp} {σ : St} {e : En}
/-- behind a call -/
theorem Rl.step {k' : Nat} (r : Rl K p G₀ H₀ G H σ e) (s : Stp p G H G' H') (w : Wd K p k' G' H') : Rl K p G₀ H₀ G' H' σ { e with k := k' } := by
  obtain ⟨α, r⟩ := r
  refine ⟨α, w, ⟨fun b o h => s.gg _ _ (r.st.gg _ _ h), fun b o h n => s.hh _ _ (r.st.hh _ _ h n) n, fun b o h n => ?_, fun a c ea h => s.pc a c ea (r.st.pc a c ea h)⟩, r.len, fun i d h => ?_, fun i ds h => ?_, r.sep⟩
  · by_cases hp : p = some b
    · exact (w.pen b hp).1
    · exact s.nn b o (r.st.hh _ _ h hp) (r.st.nn _ _ h n)
  · obtain ⟨v, h1, h2⟩ := r.dat i d h
    exact ⟨v, h1, h2.mono s.gg⟩
  · obtain ⟨xs, h1, h2, h3, h4, h5, h6⟩ := r.own i ds h
    exact ⟨xs, h1, s.hh _ _ h2 h5, s.nn _ _ h2 h3, h4, h5, h6.mono s.gg⟩
theorem Rl.wd (r : Rl K p G₀ H₀ G H σ e) : Wd K p e.k G H := let ⟨_, r⟩ := r; r.w
theorem Rl.same (r : Rl K p G₀ H₀ G H σ e) : Same G H := r.wd.same
/-- something new and unchanging has been laid -/
theorem Stp.new {q : Addr} {o : HO} (w : Same G H) (hq : H q = none) : Stp p G H (upd G q o) (upd H q o) ∧ Same G (upd G q o) := by
  have gq : G q = none := w.free hq
  have s1 : Same G (upd G q o) := fun b u h => by rw [upd_ne (ne_of_none h gq)]; exact h
  refine ⟨⟨s1, fun b u h _ => by rw [upd_ne (ne_of_none h hq)]; exact h, fun b u h n => by rw [upd_ne (ne_of_none h hq)]; exact n, fun a c _ ⟨i, r, h⟩ => ⟨i, r, by rw [upd_ne (ne_of_none h hq)]; exact h⟩⟩, s1⟩
theorem Wd.new {q : Addr} {o : HO} (w : Wd K p k G H) (hq : H q = none) : Wd K p k (upd G q o) (upd H q o) := by
  refine ⟨fun b u h => ?_, fun a e => ?_⟩
  · by_cases hb : b = q
    · subst hb; rw [upd_same] at h ⊢; exact h
    · rw [upd_ne hb] at h ⊢; exact w.same _ _ h
  · obtain ⟨h1, c, xs, i, r, h2, h3, h4⟩ := w.pen a e
    have n := ne_of_none h2 hq
    exact ⟨by rw [upd_ne n]; exact h1, c, xs, i, r, by rw [upd_ne n]; exact h2, (Stp.new (p := p) (o := o) w.same hq).2 _ _ h3, h4⟩
theorem Rl.new {q : Addr} {o : HO} (r : Rl K p G₀ H₀ G H σ e) (hq : H q = none) : Rl K p G₀ H₀ (upd G q o) (upd H q o) σ e :=
  r.step (Stp.new r.same hq).1 (r.wd.new hq)
theorem sameNew {q : Addr} {o : HO} (w : Same G H) (hq : H q = none) : Same G (upd G q o) := (Stp.new (p := none) w hq).2
end
/-! ### the judgements -/
abbrev PD := D → En → Prop
abbrev WEx := En → PD → PD → Prop
def PQ (K : PySem.W.Frag) (p : Option Addr) (G₀ H₀ : Hp) (G : Hp) (σ : St) (Q : VK) : PD := fun d e' => ∀ v G' H', Same G G' → Rl K p G₀ H₀ G' H' σ e' → R K p G' v d → Q v H'
def PX (K : PySem.W.Frag) (p : Option Addr) (G₀ H₀ : Hp) (W : WX) (G : Hp) (σ : St) : PD := fun x e' => ∀ C G' H', Same G G' → Rl K p G₀ H₀ G' H' σ e' → x = excD C → W (.ref C) none σ H'
/-- what a def fixes: the ground and the heap at its entry, the pen, the wish about errors -/
structure Fx where
  p : Option Addr
  G₀ : Hp
  H₀ : Hp
  W : WX
def tE (K : PySem.W.Frag) (F : Fx) (w : WEx) : TE := fun σ H Q => ∃ e G, Rl K F.p F.G₀ F.H₀ G H σ e ∧ w e (PQ K F.p F.G₀ F.H₀ G σ Q) (PX K F.p F.G₀ F.H₀ F.W G σ)
def Mono (w : WEx) : Prop := ∀ e Q Q' x x', (∀ d e, Q d e → Q' d e) → (∀ d e, x d e → x' d e) → w e Q x → w e Q' x'
structure DE (X : Cx) (F : Fx) (e : Expr) (w : WEx) : Prop where
  run : PE X e (tE X.K F w)
  mono : Mono w
section
variable {K : PySem.W.Frag} {F : Fx} {σ : St} {H : Hp} {Q : VK}
theorem PQ.mono {p : Option Addr} {G₀ H₀ G G' : Hp} {d : D} {e : En} (s : Same G G') (h : PQ K p G₀ H₀ G σ Q d e) : PQ K p G₀ H₀ G' σ Q d e := fun v G2 H2 s2 => h v G2 H2 (s.trans s2)
theorem PX.mono {p : Option Addr} {G₀ H₀ G G' : Hp} {W : WX} {d : D} {e : En} (s : Same G G') (h : PX K p G₀ H₀ W G σ d e) : PX K p G₀ H₀ W G' σ d e := fun C G2 H2 s2 => h C G2 H2 (s.trans s2)
/-- the first of two -/
theorem tE.bind {w : WEx} {f : D → WEx} {e : En} {G : Hp} (m : Mono w) (mf : ∀ d, Mono (f d)) (r : Rl K F.p F.G₀ F.H₀ G H σ e) (h : w e (fun d e1 => f d e1 (PQ K F.p F.G₀ F.H₀ G σ Q) (PX K F.p F.G₀ F.H₀ F.W G σ)) (PX K F.p F.G₀ F.H₀ F.W G σ)) :
    tE K F w σ H (fun v H1 => ∃ e1 G1 d, Same G G1 ∧ Rl K F.p F.G₀ F.H₀ G1 H1 σ e1 ∧ R K F.p G1 v d ∧ f d e1 (PQ K F.p F.G₀ F.H₀ G1 σ Q) (PX K F.p F.G₀ F.H₀ F.W G1 σ)) := by
  refine ⟨e, G, r, m e _ _ _ _ (fun d e1 q => ?_) (fun _ _ q => q) h⟩
  intro v G' H' s r' rv
  exact ⟨e1, G', d, s, r', rv, mf d _ _ _ _ _ (fun _ _ => PQ.mono s) (fun _ _ => PX.mono s) q⟩
end
/-- the word of an expression in a def's statement: what it asks of the slots -/
def wVar (i : Nat) : WEx := fun e Q _ => ∃ d, e.s[i]? = some (.dat d) ∧ Q d e
def wC (d : D) : WEx := fun e Q _ => Q d e
theorem wVar.mono (i : Nat) : Mono (wVar i) := fun e Q Q' x x' h _ ⟨d, h1, h2⟩ => ⟨d, h1, h _ _ h2⟩
theorem wC.mono (d : D) : Mono (wC d) := fun e Q Q' x x' h _ q => h _ _ q
section
variable {X : Cx} {F : Fx} {pos : Pos}
theorem de_of {e : Expr} {t : TE} {w : WEx} (h : PE X e t) (m : Mono w) (i : ∀ σ H Q, tE X.K F w σ H Q → t σ H Q) : DE X F e w :=
  ⟨⟨fun pins s σ H Q I q => h.run pins s σ H Q I (i σ H Q q)⟩, m⟩
theorem de_var {i : Nat} {x : Str} (h : PE X (.Name x pos) (tVar i)) : DE X F (.Name x pos) (wVar i) :=
  de_of h (wVar.mono i) fun σ H Q ⟨e, G, r, d, h1, h2⟩ => by
    obtain ⟨α, r'⟩ := id r
    obtain ⟨v, h3, h4⟩ := r'.dat i d h1
    exact ⟨v, h3, h2 v G H (Same.refl G) r h4⟩
theorem de_c {e : Expr} {v : V} {d : D} (h : PE X e (tC v)) (hr : ∀ K p G, R K p G v d) : DE X F e (wC d) :=
  de_of h (wC.mono d) fun σ H Q ⟨e, G, r, q⟩ => q v G H (Same.refl G) r (hr _ _ _)
theorem de_int {i : Int} {j : Nat} : DE X F (.Constant (.int i) j pos) (wC (.int i)) := de_c pe_int fun _ _ _ => .int i
theorem de_bl {b : Bool} {j : Nat} : DE X F (.Constant (.bool b) j pos) (wC (.bool b)) := de_c pe_bl fun _ _ _ => .bl b
theorem de_non {j : Nat} : DE X F (.Constant .none j pos) (wC .none) := de_c pe_non fun _ _ _ => .non
theorem de_str {x : Str} {j : Nat} : DE X F (.Constant (.str x) j pos) (wC (.str x)) := de_c pe_str fun _ _ _ => .str x
end
end L2.DL
set_option
      maxHeartbeats 4000000
namespace L2.DL
open PySem PySem.Spec
      PyProof.Rows
/-! ### a tuple once: the tuple itself -/
theorem tuple_once (l : Addr) (items : Array Value) (n : Nat) (dd : Option Addr) (sl : Array (Option Value)) (u : Tok) :
    Meets (Builtin.«tuple.__mul__» ⟨[.ref l, .int 1 u], []⟩) (fun _ R s => s.heap.get? l = some { cls := .type "tuple", dict := dd, data := .seq items n, slots := sl } ∧ R (.ok (.ret (Value.ref l))) s) :=
  .of_wp fun prog
        w A R s h => by
    obtain ⟨hp, g,
          d, tk, os⟩ := s
    obtain ⟨hl, h⟩ := h
    have f1 := AutoSeq1.idx_int
    wp_walk using
          wpAny_loadPart' hl
    exact ⟨_, rfl, h⟩
def rOnce (K : PySem.W.Frag) : R2 := fun x y H Q => ∃ l xs, x = .ref l ∧ y = .int 1 ∧ SqT K H l xs ∧ Q (.ref l) H
theorem op_once {X : Cx} : OpR X (binaryOp .Mult) (rOnce X.K) := by
  intro pins s σ H x
        y v u Q I rx ry h
  obtain ⟨l, xs, rfl, rfl, hT, q⟩ := h
  cases rx
  obtain ⟨t, rfl⟩ := ry
  obtain ⟨its, r, ⟨⟨cls, dd, data, sl⟩,
        ho, hc, n, hd⟩, hs⟩ := I.tuple hT
  simp only at hc hd
  subst hc hd
  refine wpAny_binaryOp_repeat_ref (T := "tuple") (U := "int") (by decide) ⟨_, ho, rfl⟩ (fun s' => typeIs_int s' 1 t) noFill_tuple_mul F.fills_int_mul F.slot_int_rmul repeat_tuple F.slot_int_index.lookup
    (call_meets F.slot_int_rmul (typeIs_int s 1 t) F.entry_int_rmul (F.args_int_rmul_2 _ _) (int_rmul_tuple 1 t l its.toArray n dd sl)
      ⟨ho, rfl, ⟨_, ho, rfl⟩, call_meets F.slot_tuple_mul ⟨_, ho, rfl⟩ F.entry_tuple_mul (F.args_tuple_mul_2 _ _) (tuple_once l its.toArray n dd sl t) ⟨ho, ?_⟩⟩)
  exact ⟨.ref l, H, I.kept (t' := s.toks) fun _ _ z => z, rfl, q⟩
end L2.DL
set_option
      maxHeartbeats 1000000
namespace L2.DL
open PySem PySem.Spec
      PyProof.Rows
/-! ### data that may be compared and shown -/
mutual
def fine : D → Bool
  | .none => true
  | .bool _ => true
  | .int i => decide (i.natAbs < 2 ^ 120)
  | .str x => PyData.canLay0 (.str x)
  | .list xs => fineAll xs
  | .tuple xs => fineAll xs
  | .dict _ => false
def fineAll : List D → Bool
  | [] => true
  | d :: ds => fine d && fineAll ds
end
mutual
def wt : D → Nat
  | .none => 1
  | .bool _ => 1
  | .int _ => 1
  | .str x => x.length / 100 + 1
  | .list xs => wtAll xs + 1
  | .tuple xs => wtAll xs + 1
  | .dict _ => 1
def wtAll : List D → Nat
  | [] => 0
  | d :: ds => wt d + wtAll ds
end
/-- small enough -/
structure Ok (n m : Nat) (d : D) : Prop where
  f : fine d = true
  w : wt d ≤ n
  d : d.depth ≤ m
abbrev Good (d : D) : Prop := Ok 8000 50 d
mutual
theorem fine.lay : ∀ d : D, fine d = true → d.canLay0 = true
  | .none, _ => rfl
  | .bool _, _ => rfl
  | .int _, _ => rfl
  | .str x, h => by
    unfold fine at h
    exact h
  | .list xs, h => by
    unfold PyData.canLay0
    exact fineAll.lay xs (by simpa only [fine] using h)
  | .tuple xs, h => by
    unfold PyData.canLay0
    exact fineAll.lay xs (by simpa only [fine] using h)
  | .dict _, h => by simp only [fine] at h; cases h
theorem fineAll.lay : ∀ ds : List D, fineAll ds = true → PyData.canLayAll0 ds = true
  | [], _ => rfl
  | d :: ds, h => by
    unfold fineAll at h
    rw [Bool.and_eq_true] at h
    unfold PyData.canLayAll0
    rw [fine.lay d h.1, fineAll.lay ds h.2]
    rfl
end
theorem Ok.shaped {n m : Nat} {d : D} (h : Ok n m d) (hm : m ≤ 64) : SeqAt.shaped d = true := by
  unfold SeqAt.shaped
  rw [fine.lay d h.f, decide_eq_true (Nat.le_trans h.d hm)]
  rfl
theorem Ok.noDict {n m : Nat} {d : D} (h : Ok n m d) : d.hasDict = false := PyData.hasDict_of_canLay d (fine.lay d h.f)
theorem log2_120 {i : Int} (h : i.natAbs < 2 ^ 120) : i.natAbs.log2 < 1920 := Nat.lt_of_lt_of_le (PySem.Flt.log2_lt_of (by decide) h) (by decide)
mutual
theorem fine.showable : ∀ d : D, fine d = true → d.showable = true
  | .none, _ => by simp only [PyData.showable]
  | .bool _, _ => by simp only [PyData.showable]
  | .int i, h => by
    unfold fine at h
    unfold PyData.showable
    exact decide_eq_true (log2_120 (of_decide_eq_true h))
  | .str _, _ => by simp only [PyData.showable]
  | .list xs, h => by
    unfold PyData.showable
    exact fineAll.showable xs (by simpa only [fine] using h)
  | .tuple xs, h => by
    unfold PyData.showable
    exact fineAll.showable xs (by simpa only [fine] using h)
  | .dict _, h => by simp only [fine] at h; cases h
theorem fineAll.showable : ∀ ds : List D, fineAll ds = true → PyData.showableAll ds = true
  | [], _ =>
        by simp only [PyData.showableAll]
  | d :: ds, h => by
    unfold fineAll at h
    rw [Bool.and_eq_true] at h
    unfold PyData.showableAll
    rw [fine.showable d h.1, fineAll.showable ds h.2]
    rfl
end
theorem shownAll_length : ∀ ds : List D, (PyData.shownAll ds).length = ds.length
  | [] => by simp [PyData.shownAll]
  | d :: ds => by simp [PyData.shownAll, shownAll_length ds]
theorem wtAll_length : ∀ ds : List D, ds.length ≤ wtAll ds
  | [] => by simp [wtAll]
  | d :: ds => by
    have h := wtAll_length ds
    have : 1 ≤ wt d := by cases d <;> simp [wt]
    simp only [wtAll, List.length_cons]
    omega
theorem small_text {i : Int} (h : i.natAbs < 2 ^ 120) : ((toString i : String) : Str).length ≤ 400 := by
  have z := PySem.int_text_length_le (a := i) (k := 120) (by decide) (PySem.Flt.log2_lt_of (by decide) h)
  rw [PySem.ofString_length]
  omega
mutual
theorem fine.len : ∀ d : D, fine d = true → d.shown.length + 3 ≤ 2000 * wt d
  | .none, _ => by simp only [PyData.shown, wt]; decide
  | .bool b, _ => by cases b <;> (simp only [PyData.shown, wt]; decide)
  | .int i, h => by
    unfold fine at h
    simp only [PyData.shown, wt]
    have z := small_text (of_decide_eq_true h)
    omega
  | .str x, h => by
    unfold fine at h
    simp only [PyData.shown, wt]
    have z := PySem.StrLaws.reprText_len x (fun c hc => by
      have q : PyData.strOk x = true := h
      unfold PyData.strOk at q
      rw [Array.all_eq_true_iff_forall_mem] at q
      have := of_decide_eq_true (q c (by simpa using hc))
      omega)
    omega
  | .list xs, h => by
    have q := fineAll.len xs (by simpa only [fine] using h)
    simp only [PyData.shown, wt]
    have z := PySem.listText_len_le (PyData.shownAll xs)
    rw [shownAll_length] at z
    have l := wtAll_length xs
    omega
  | .tuple xs, h => by
    have q := fineAll.len xs (by simpa only [fine] using h)
    simp only [PyData.shown, wt]
    have z := PySem.tupleText_len_le (PyData.shownAll xs)
    rw [shownAll_length] at z
    have l := wtAll_length xs
    omega
  | .dict _, h => by simp only [fine] at h; cases h
theorem fineAll.len : ∀ ds : List D, fineAll ds = true → ((PyData.shownAll ds).map (·.length)).sum + 3 * ds.length ≤ 2000 * wtAll ds
  | [], _ => by simp [PyData.shownAll, wtAll]
  | d :: ds, h => by
    unfold fineAll at h
    rw [Bool.and_eq_true] at h
    have a := fine.len d h.1
    have b := fineAll.len ds h.2
    have : 1 ≤ wt d := by cases d <;> simp [wt]
    simp only [PyData.shownAll, wtAll, List.map_cons, List.sum_cons, List.length_cons]
    omega
end
theorem Good.shownLen {d : D} (h : Good d) : d.shown.length ≤ sizeLine := by
  have z := fine.len d h.f
  have w := h.w
  rw [sizeLine_eq]
  omega
/-! ### data as the library's own data -/
section
variable {K : PySem.W.Frag} {p : Option Addr} {G H : Hp}
mutual
theorem R.dp (s : Same G H) : ∀ {v : V} {d : D}, R K p G v d → d.hasDict = false → Dp K H v d
  | _, _, .non, _ => .non
  | _, _, .bl b, _ => .bl b
  | _, _, .int i, _ => .int i
  | _, _, .str x, _ => .str x
  | _, _, .lst h r, n => .lst (SqL.of (s _ _ h)) (RA.dp s r (by simpa only [PyData.hasDict] using n))
  | _, _, .tup h r, n => .tup (sameT s h) (RA.dp s r (by simpa only [PyData.hasDict] using n))
  | _, _, .pen h e, n => by subst e; simp only [PyData.hasDict] at n; cases n
  | _, _, .exc h e, n => by subst e; simp only [PyData.hasDict] at n; cases n
  | _, _, .obj h r e, n => by subst e; simp only [PyData.hasDict] at n; cases n
  | _, _, .scr h e, n => by subst e; simp only [PyData.hasDict] at n; cases n
theorem RA.dp (s : Same G H) : ∀ {vs : List V} {ds : List D}, RA K p G vs ds → PyData.hasDictAll ds = false → DpAll K H vs ds
  | _, _, .nil, _ => .nil
  | _, _, .cons h t, n => by
    unfold PyData.hasDictAll at n
    rw [Bool.or_eq_false_iff] at n
    exact .cons (R.dp s h n.1) (RA.dp s t n.2)
end
end
/-! ### operations on two data -/
abbrev B2 := D → D → (D → Prop) → Prop
def B2.Mono (f : B2) : Prop := ∀ a b P P', (∀ d, P d → P' d) → f a b P → f a b P'
def wBin (f : B2) (wa wb : WEx) : WEx := fun e Q x => wa e (fun d1 e1 => wb e1 (fun d2 e2 => f d1 d2 (fun d => Q d e2)) x) x
/-- the rule r of the heap does what f says of data -/
def Fits (K : PySem.W.Frag) (f : B2) (r : R2) : Prop := ∀ (p : Option Addr) (G₀ H₀ G H : Hp) (σ : L2.St) (e : En) (x y : V) (a b : D) (P : D → Prop) (Q : VK),
  Rl K p G₀ H₀ G H σ e → R K p G x a → R K p G y b → f a b P → (∀ d, P d → ∀ v G' H', Same G G' → Rl K p G₀ H₀ G' H' σ e → R K p G' v d → Q v H') → r x y H Q
section
variable {X : Cx} {F : Fx} {a b : Expr} {wa wb : WEx} {pos : Pos}
theorem wBin.mono {f : B2} (hf : f.Mono) (ha : Mono wa) (hb : Mono wb) : Mono (wBin f wa wb) := fun e Q Q' x x' h1 h2 q =>
  ha e _ _ _ _ (fun d1 e1 q1 => hb e1 _ _ _ _ (fun d2 e2 q2 => hf d1 d2 _ _ (fun d q3 => h1 d e2 q3) q2) h2 q1) h2 q
theorem tE.mono {K : PySem.W.Frag} {w : WEx} (m : Mono w) {σ : L2.St} {H : Hp} {Q Q' : VK} (h : ∀ v H, Q v H → Q' v H) (q : tE K F w σ H Q) : tE K F w σ H Q' := by
  obtain ⟨e, G, r, q⟩ := q
  exact ⟨e, G, r, m e _ _ _ _ (fun d e1 q1 v G' H' s r' rv => h _ _ (q1 v G' H' s r' rv)) (fun _ _ z => z) q⟩
/-- two in a row, the result by a rule of two values -/
theorem tE.two {K : PySem.W.Frag} {f : B2} {r : R2} (hf : f.Mono) (ft : Fits K f r) (ha : Mono wa) (hb : Mono wb) {σ : L2.St} {H : Hp} {Q : VK} (q : tE K F (wBin f wa wb) σ H Q) :
    tE K F wa σ H fun x H1 => tE K F wb σ H1 fun y H2 => r x y H2 Q := by
  obtain ⟨e, G, r0, q⟩ := q
  refine tE.mono ha (fun v1 H1 q1 => ?_) (tE.bind (w := wa) (f := fun d1 e1 Q x => wb e1 (fun d2 e2 => f d1 d2 (fun d => Q d e2)) x) ha (fun d1 e1 Q Q' x x' h1 h2 q => hb e1 _ _ _ _ (fun d2 e2 q2 => hf d1 d2 _ _ (fun d q3 => h1 d e2 q3) q2) h2 q) r0 q)
  obtain ⟨e1, G1, d1, s1, r1, rv1, q1⟩ := q1
  refine tE.mono hb (fun v2 H2 q2 => ?_) (tE.bind (w := wb) (f := fun d2 e2 Q x => f d1 d2 (fun d => Q d e2)) hb (fun d2 e2 Q Q' x x' h1 h2 q => hf d1 d2 _ _ (fun d q3 => h1 d e2 q3) q) r1 q1)
  obtain ⟨e2, G2, d2, s2, r2, rv2, q2⟩ := q2
  exact ft F.p F.G₀ F.H₀ G2 H2 σ e2 v1 v2 d1 d2 _ Q r2 (rv1.mono s2) rv2 q2 fun d z v G' H' s r' rv => z v G' H' s r' rv
theorem de_bin {op : Operator} {f : B2} {r : R2} (ho : OpR X (binaryOp op) r) (hf : f.Mono) (ft : Fits X.K f r) (ha : DE X F a wa) (hb : DE X F b wb) : DE X F (.BinOp a op b pos) (wBin f wa wb) :=
  de_of (pe_op ho ha.run hb.run) (wBin.mono hf ha.mono hb.mono) fun σ H Q q => tE.two hf ft ha.mono hb.mono q
theorem de_cmp {op : CmpOp} {f : B2} {r : R2} (ho : OpR X (compareOp op) r) (hf : f.Mono) (ft : Fits X.K f r) (ha : DE X F a wa) (hb : DE X F b wb) (hm : behindInMarks op b = false := by first | exact nomark _ (by decide) (by decide) | rfl) : DE X F (.Compare a [op] [b] pos) (wBin f wa wb) :=
  de_of (pe_cmpR ho ha.run hb.run hm) (wBin.mono hf ha.mono hb.mono) fun σ H Q q => tE.two hf ft ha.mono hb.mono q
end
/-! #### what the operations say of data -/
def addD : B2
  | .int i, .int j, P => P (.int (i + j))
  | .str a, .str b, P => a.length + b.length ≤ sizeLine ∧ P (.str (a ++ b))
  | .list xs, .list ys, P => xs.length + ys.length ≤ sizeLine ∧ P (.list (xs ++ ys))
  | .tuple xs, .tuple ys, P => xs.length + ys.length ≤ sizeLine ∧ P (.tuple (xs ++ ys))
  | _, _, _ => False
def subD : B2
  | .int i, .int j, P => P (.int (i - j))
  | _, _, _ => False
def mulD : B2
  | .int i, .int j, P => CMul i j ∧ P (.int (i * j))
  | .list xs, .int k, P => 0 ≤ k ∧ k ≤ 1000 ∧ xs.length ≤ 1000 ∧ P (.list (List.replicate k.toNat xs).flatten)
  | .tuple xs, .int k, P => xs ≠ [] ∧ 1 ≤ k ∧ k ≤ 1000 ∧ xs.length ≤ 1000 ∧ P (.tuple (List.replicate k.toNat xs).flatten)
  | _, _, _ => False
def powD : B2
  | .int i, .int j, P => CPow i j ∧ P (.int (i ^ j.toNat))
  | _, _, _ => False
def modD : B2
  | .int i, .int j, P => 0 < j ∧ P (.int (i % j))
  | _, _, _ => False
def divD : B2
  | .int i, .int j, P => (0 < j ∧ j.natAbs < 2 ^ 9000) ∧ P (.int (i / j))
  | _, _, _ => False
def cmpD (c : Int → Int → Bool) : B2
  | .int i, .int j, P => P (.bool (c i j))
  | _, _, _ => False
def twoInts : D → D → Bool
  | .int _, .int _ => true
  | .str _, .str _ => true
  | _, _ => false
def eqD : B2 := fun a b P => (twoInts a b = true ∨ (Good a ∧ Good b)) ∧ P (.bool (PyData.eqv a b))
def neD : B2 := fun a b P => (twoInts a b = true ∨ (Good a ∧ Good b)) ∧ P (.bool (!PyData.eqv a b))
def items : D → Option (List D)
  | .list xs => some xs
  | .tuple xs => some xs
  | _ => none
def inB (a : D) (xs : List D) : Bool := xs.any fun z => PyData.eqv z a
def inD : B2 := fun a b P => Good a ∧ Good b ∧ ∃ xs, items b = some xs ∧ P (.bool (inB a xs))
def notInD : B2 := fun a b P => Good a ∧ Good b ∧ ∃ xs, items b = some xs ∧ P (.bool (!inB a xs))
theorem addD.mono : B2.Mono addD := by
  intro a b P P' h q
  unfold addD at q ⊢
  split at q
  · exact h _ q
  · exact ⟨q.1, h _ q.2⟩
  · exact ⟨q.1, h _ q.2⟩
  · exact ⟨q.1, h _ q.2⟩
  · exact q.elim
theorem subD.mono : B2.Mono subD := by
  intro a b P P' h q
  unfold subD at q ⊢
  split at q
  · exact h _ q
  · exact q.elim
theorem mulD.mono : B2.Mono mulD := by
  intro a b P P' h q
  unfold mulD at q ⊢
  split at q
  · exact ⟨q.1, h _ q.2⟩
  · exact ⟨q.1, q.2.1, q.2.2.1, h _ q.2.2.2⟩
  · exact ⟨q.1, q.2.1, q.2.2.1, q.2.2.2.1, h _ q.2.2.2.2⟩
  · exact q.elim
theorem powD.mono : B2.Mono powD := by
  intro a b P P' h q
  unfold powD at q ⊢
  split at q
  · exact ⟨q.1, h _ q.2⟩
  · exact q.elim
theorem modD.mono : B2.Mono modD := by
  intro a b P P' h q
  unfold modD at q ⊢
  split at q
  · exact ⟨q.1, h _ q.2⟩
  · exact q.elim
theorem divD.mono : B2.Mono divD := by
  intro a b P P' h q
  unfold divD at q ⊢
  split at q
  · exact ⟨q.1, h _ q.2⟩
  · exact q.elim
theorem cmpD.mono {c : Int → Int → Bool} : B2.Mono (cmpD c) := by
  intro a b P P' h q
  unfold cmpD at q ⊢
  split at q
  · exact h _ q
  · exact q.elim
theorem eqD.mono : B2.Mono eqD := fun _ _ _ _ h q => ⟨q.1, h _ q.2⟩
theorem neD.mono : B2.Mono neD := fun _ _ _ _ h q => ⟨q.1, h _ q.2⟩
theorem twoInts_inv {a b : D} (h : twoInts a b = true) : (∃ i j, a = .int i ∧ b = .int j) ∨ ∃ i j, a = .str i ∧ b = .str j := by
  unfold twoInts at h
  split at h
  · exact .inl ⟨_, _, rfl, rfl⟩
  · exact .inr ⟨_, _, rfl, rfl⟩
  · cases h
theorem inD.mono : B2.Mono inD := fun _ _ _ _ h q => ⟨q.1, q.2.1, let ⟨xs, e, z⟩ := q.2.2; ⟨xs, e, h _ z⟩⟩
theorem notInD.mono : B2.Mono notInD := fun _ _ _ _ h q => ⟨q.1, q.2.1, let ⟨xs, e, z⟩ := q.2.2; ⟨xs, e, h _ z⟩⟩
section
variable {K : PySem.W.Frag} {p : Option Addr} {G₀ H₀ G H : Hp} {σ : L2.St} {e : En} {Q : VK} {P : D → Prop}
/-- a plain answer -/
theorem ans {d : D} {v : V} (r : Rl K p G₀ H₀ G H σ e) (rv : R K p G v d) (k : ∀ d, P d → ∀ v G' H', Same G G' → Rl K p G₀ H₀ G' H' σ e → R K p G' v d → Q v H') (h : P d) : Q v H := k d h v G H (Same.refl G) r rv
/-- a new list, a new tuple -/
theorem ansL {xs : List V} {ds : List D} {q : Addr} (r : Rl K p G₀ H₀ G H σ e) (rv : RA K p G xs ds) (k : ∀ d, P d → ∀ v G' H', Same G G' → Rl K p G₀ H₀ G' H' σ e → R K p G' v d → Q v H') (h : P (.list ds)) (hq : H q = none) : Q (.ref q) (upd H q (.lst xs)) :=
  k _ h _ (upd G q (.lst xs)) _ (sameNew r.same hq) (r.new hq) (.lst upd_same (rv.mono (sameNew r.same hq)))
theorem ansT {xs : List V} {ds : List D} {q : Addr} (r : Rl K p G₀ H₀ G H σ e) (rv : RA K p G xs ds) (k : ∀ d, P d → ∀ v G' H', Same G G' → Rl K p G₀ H₀ G' H' σ e → R K p G' v d → Q v H') (h : P (.tuple ds)) (hq : H q = none) : Q (.ref q) (upd H q (.tup xs)) :=
  k _ h _ (upd G q (.tup xs)) _ (sameNew r.same hq) (r.new hq) (.tup (SqT.of upd_same) (rv.mono (sameNew r.same hq)))
end
/-- the rules of the heap, put together -/
def rAddA (K : PySem.W.Frag) : R2 := fun x y H Q => rI0 (fun i j => .int (i + j)) x y H Q ∨ (∃ i j, x = .str i ∧ y = .str j ∧ i.length + j.length ≤ sizeLine ∧ Q (.str (i ++ j)) H) ∨ rCat x y H Q ∨ rCatA K x y H Q
theorem op_addA {X : Cx} : OpR X (binaryOp .Add) (rAddA X.K) := op_add.or (op_add_str.or (op_cat.or op_catA))
theorem fitsAdd {K : PySem.W.Frag} : Fits K addD (rAddA K) := by
  intro p G₀ H₀ G H σ e x y a b P Q r ra rb q k
  unfold addD at q
  split at q
  · cases ra.int_inv; cases rb.int_inv
    exact .inl ⟨_, _, rfl, rfl, ans r (.int _) k q⟩
  · cases ra.str_inv; cases rb.str_inv
    exact .inr (.inl ⟨_, _, rfl, rfl, q.1, ans r (.str _) k q.2⟩)
  · obtain ⟨l, xs, rfl, h1, r1⟩ := ra.lst_inv
    obtain ⟨m, ys, rfl, h2, r2⟩ := rb.lst_inv
    exact .inr (.inr (.inl ⟨l, m, xs, ys, rfl, rfl, r.same _ _ h1, r.same _ _ h2, by rw [r1.length, r2.length]; exact q.1, fun z hz => ansL r (r1.append r2) k q.2 hz⟩))
  · obtain ⟨l, xs, rfl, h1, r1⟩ := ra.tup_inv
    obtain ⟨m, ys, rfl, h2, r2⟩ := rb.tup_inv
    refine .inr (.inr (.inr ⟨l, m, xs, ys, rfl, rfl, sameT r.same h1, sameT r.same h2, by rw [r1.length, r2.length]; exact q.1, fun z => ?_, fun _ z => ?_, fun _ _ z hz => ansT r (r1.append r2) k q.2 hz⟩))
    · have e1 := r1.nil_iff.mp z
      have q2 := q.2
      rw [e1, List.nil_append] at q2
      exact ans r rb k q2
    · have e1 := r2.nil_iff.mp z
      have q2 := q.2
      rw [e1, List.append_nil] at q2
      exact ans r ra k q2
  · exact q.elim
theorem fitsSub {K : PySem.W.Frag} : Fits K subD (rI0 fun i j => .int (i - j)) := by
  intro p G₀ H₀ G H σ e x y a b P Q r ra rb q k
  unfold subD at q
  split at q
  · cases ra.int_inv; cases rb.int_inv
    exact ⟨_, _, rfl, rfl, ans r (.int _) k q⟩
  · exact q.elim
def rMulA (K : PySem.W.Frag) : R2 := fun x y H Q => rI CMul (fun i j => .int (i * j)) x y H Q ∨ rRep x y H Q ∨ rRepT K x y H Q ∨ rOnce K x y H Q
theorem op_mulA {X : Cx} : OpR X (binaryOp .Mult) (rMulA X.K) := op_mul.or (op_rep.or (op_repT.or op_once))
theorem fitsMul {K : PySem.W.Frag} : Fits K mulD (rMulA K) := by
  intro p G₀ H₀ G H σ e x y a b P Q r ra rb q k
  unfold mulD at q
  split at q
  · cases ra.int_inv; cases rb.int_inv
    exact .inl ⟨_, _, rfl, rfl, q.1, ans r (.int _) k q.2⟩
  · obtain ⟨l, xs, rfl, h1, r1⟩ := ra.lst_inv
    cases rb.int_inv
    obtain ⟨q1, q2, q3, q4⟩ := q
    refine .inr (.inl ⟨l, _, xs, rfl, rfl, r.same _ _ h1, by omega, by omega, ?_, fun z hz => ansL r (r1.rep _) k q4 hz⟩)
    rw [sizeLine_eq, r1.length]
    exact Nat.le_trans (Nat.mul_le_mul q3 (show _ ≤ 1000 by omega)) (by decide)
  · obtain ⟨l, xs, rfl, h1, r1⟩ := ra.tup_inv
    cases rb.int_inv
    obtain ⟨q0, q1, q2, q3, q4⟩ := q
    rename_i i
    by_cases e1 : i = 1
    · subst e1
      refine .inr (.inr (.inr ⟨l, xs, rfl, rfl, sameT r.same h1, ans r (.tup h1 r1) k ?_⟩))
      simpa using q4
    · exact .inr (.inr (.inl ⟨l, _, xs, rfl, rfl, sameT r.same h1, fun z => q0 (r1.nil_iff.mp z), by omega, q2, by rw [r1.length]; exact q3, fun z hz => ansT r (r1.rep _) k q4 hz⟩))
  · exact q.elim
theorem fitsPow {K : PySem.W.Frag} : Fits K powD (rI CPow fun i j => .int (i ^ j.toNat)) := by
  intro p G₀ H₀ G H σ e x y a b P Q r ra rb q k
  unfold powD at q
  split at q
  · cases ra.int_inv; cases rb.int_inv
    exact ⟨_, _, rfl, rfl, q.1, ans r (.int _) k q.2⟩
  · exact q.elim
theorem fitsMod {K : PySem.W.Frag} : Fits K modD (rI (fun _ j => 0 < j) fun i j => .int (i % j)) := by
  intro p G₀ H₀ G H σ e x y a b P Q r ra rb q k
  unfold modD at q
  split at q
  · cases ra.int_inv; cases rb.int_inv
    exact ⟨_, _, rfl, rfl, q.1, ans r (.int _) k q.2⟩
  · exact q.elim
theorem fitsDiv {K : PySem.W.Frag} : Fits K divD (rI CDivW fun i j => .int (i / j)) := by
  intro p G₀ H₀ G H σ e x y a b P Q r ra rb q k
  unfold divD at q
  split at q
  · cases ra.int_inv; cases rb.int_inv
    exact ⟨_, _, rfl, rfl, wide_div (b := 9000) q.1.1 q.1.2 (by decide) (Nat.le_refl _), ans r (.int _) k q.2⟩
  · exact q.elim
theorem fitsCmp {K : PySem.W.Frag} {c : Int → Int → Bool} : Fits K (cmpD c) (rI0 fun i j => .bl (c i j)) := by
  intro p G₀ H₀ G H σ e x y a b P Q r ra rb q k
  unfold cmpD at q
  split at q
  · cases ra.int_inv; cases rb.int_inv
    exact ⟨_, _, rfl, rfl, ans r (.bl _) k q⟩
  · exact q.elim
def rEqA (K : PySem.W.Frag) : R2 := fun x y H Q => rEq x y H Q ∨ rEqD K x y H Q
def rNeA (K : PySem.W.Frag) : R2 := fun x y H Q => rNe x y H Q ∨ rNeD K x y H Q
theorem op_eqA {X : Cx} (hu : X.A.units + 64 < cLine) : OpR X (compareOp .Eq) (rEqA X.K) := op_eq.or (op_eqD hu)
theorem op_neA {X : Cx} (hu : X.A.units + 64 < cLine) : OpR X (compareOp .NotEq) (rNeA X.K) := op_ne.or (op_neD hu)
theorem eqv_int (i j : Int) : PyData.eqv (.int i) (.int j) = decide (V.int i = V.int j) := by
  rw [dec_int]
  simp only [PyData.eqv]
theorem eqv_str (i j : Str) : PyData.eqv (.str i) (.str j) = decide (V.str i = V.str j) := by
  rw [dec_str]
  simp only [PyData.eqv]
theorem fitsEq {K : PySem.W.Frag} : Fits K eqD (rEqA K) := by
  intro p G₀ H₀ G H σ e x y a b P Q r ra rb q k
  obtain ⟨q | ⟨q1, q2⟩, z⟩ := q
  · rcases twoInts_inv q with ⟨i, j, rfl, rfl⟩ | ⟨i, j, rfl, rfl⟩
    · cases ra.int_inv; cases rb.int_inv
      refine .inl ⟨rfl, ?_⟩
      rw [← eqv_int]
      exact ans r (.bl _) k z
    · cases ra.str_inv; cases rb.str_inv
      refine .inl ⟨rfl, ?_⟩
      rw [← eqv_str]
      exact ans r (.bl _) k z
  · exact .inr ⟨a, b, ra.dp r.same q1.noDict, rb.dp r.same q2.noDict, q1.shaped (by decide), q2.shaped (by decide), ans r (.bl _) k z⟩
theorem fitsNe {K : PySem.W.Frag} : Fits K neD (rNeA K) := by
  intro p G₀ H₀ G H σ e x y a b P Q r ra rb q k
  obtain ⟨q | ⟨q1, q2⟩, z⟩ := q
  · rcases twoInts_inv q with ⟨i, j, rfl, rfl⟩ | ⟨i, j, rfl, rfl⟩
    · cases ra.int_inv; cases rb.int_inv
      refine .inl ⟨rfl, ?_⟩
      rw [← eqv_int]
      exact ans r (.bl _) k z
    · cases ra.str_inv; cases rb.str_inv
      refine .inl ⟨rfl, ?_⟩
      rw [← eqv_str]
      exact ans r (.bl _) k z
  · exact .inr ⟨a, b, ra.dp r.same q1.noDict, rb.dp r.same q2.noDict, q1.shaped (by decide), q2.shaped (by decide), ans r (.bl _) k z⟩
/-- x in a list or a tuple, at any depth -/
def rInA (K : PySem.W.Frag) (neg : Bool) : R2 := fun x y H Q => ∃ d c ds, Dp K H x d ∧ Dp K H y c ∧ items c = some ds ∧ SeqAt.shaped d = true ∧ SeqAt.shaped c = true ∧ Q (.bl (if neg then !inB d ds else inB d ds)) H
theorem op_inA {X : Cx} (hu : X.A.units + 65 < cLine) : OpR X (compareOp .In) (rInA X.K false) := by
  intro pins s σ H x
        y v u Q I rx ry h
  obtain ⟨d, c, ds, hd, he, hc, sd, se, q⟩ := h
  obtain ⟨as, r1⟩ :=
        Dp.reads I d x v hd rx
  obtain ⟨bs, r2⟩ := Dp.reads I c y u he ry
  cases c <;> simp only [items, Option.some.injEq, reduceCtorEq] at hc
  · subst hc
    exact SeqAt.in_list_reads r2 r1 (SeqAt.canLay_of_shaped se)
          (SeqAt.canLay_of_shaped sd) (room_in_shaped sd hu) ⟨.bl _, H, I, rfl, q⟩
  · subst hc
    exact SeqAt.in_tuple_reads r2 r1 (SeqAt.canLay_of_shaped se) (SeqAt.canLay_of_shaped sd) (room_in_shaped sd hu) ⟨.bl _, H, I, rfl, q⟩
theorem op_notInA {X : Cx} (hu : X.A.units + 65 < cLine) : OpR X (compareOp .NotIn) (rInA X.K true) := by
  intro pins s σ H x
        y v u Q I rx ry h
  obtain ⟨d, c, ds, hd, he, hc, sd, se, q⟩ := h
  obtain ⟨as, r1⟩ :=
        Dp.reads I d x v hd rx
  obtain ⟨bs, r2⟩ := Dp.reads I c y u he ry
  cases c <;> simp only [items, Option.some.injEq, reduceCtorEq] at hc
  · subst hc
    exact SeqAt.notIn_list_reads r2 r1 (SeqAt.canLay_of_shaped se)
          (SeqAt.canLay_of_shaped sd) (room_in_shaped sd hu) ⟨.bl _, H, I, rfl, q⟩
  · subst hc
    exact SeqAt.notIn_tuple_reads r2 r1 (SeqAt.canLay_of_shaped se) (SeqAt.canLay_of_shaped sd) (room_in_shaped sd hu) ⟨.bl _, H, I, rfl, q⟩
theorem fitsIn {K : PySem.W.Frag} : Fits K inD (rInA K false) := by
  intro p G₀ H₀ G H σ e x y a b P Q r ra rb q k
  obtain ⟨q1, q2, xs, e1, q3⟩ := q
  exact ⟨a, b, xs, ra.dp r.same q1.noDict, rb.dp r.same q2.noDict, e1, q1.shaped (by decide), q2.shaped (by decide), ans r (.bl _) k q3⟩
theorem fitsNotIn {K : PySem.W.Frag} : Fits K notInD (rInA K true) := by
  intro p G₀ H₀ G H σ e x y a b P Q r ra rb q k
  obtain ⟨q1, q2, xs, e1, q3⟩ := q
  exact ⟨a, b, xs, ra.dp r.same q1.noDict, rb.dp r.same q2.noDict, e1, q1.shaped (by decide), q2.shaped (by decide), ans r (.bl _) k q3⟩
end L2.DL
set_option
      maxHeartbeats 1000000
namespace L2.DL
open PySem PySem.Spec
      PyProof.Rows
/-! ### tests -/
abbrev WTx := En → (Bool → En → Prop) → PD → Prop
def MonoT (w : WTx) : Prop := ∀ e Q Q' x x', (∀ b e, Q b e → Q' b e) → (∀ d e, x d e → x' d e) → w e Q x → w e Q' x'
def PT_ (K : PySem.W.Frag) (F : Fx) (G : Hp) (σ : L2.St) (Q : Bool → Hp → Prop) : Bool → En → Prop := fun b e' => ∀ G' H', Same G G' → Rl K F.p F.G₀ F.H₀ G' H' σ e' → Q b H'
def tT (K : PySem.W.Frag) (F : Fx) (w : WTx) : TT := fun σ H Q => ∃ e G, Rl K F.p F.G₀ F.H₀ G H σ e ∧ w e (PT_ K F G σ Q) (PX K F.p F.G₀ F.H₀ F.W G σ)
structure DT (X : Cx) (F : Fx) (e : Expr) (w : WTx) : Prop where
  run : PT X e (tT X.K F w)
  mono : MonoT w
structure DW (X : Cx) (F : Fx) (e : Expr) (w : WTx) : Prop where
  run : PW X e (tT X.K F w)
  mono : MonoT w
def wTest (w : WEx) : WTx := fun e Q x => w e (fun d e' => ∃ b, d = .bool b ∧ Q b e') x
def wAnd (a b : WTx) : WTx := fun e Q x => a e (fun c e1 => if c = true then b e1 Q x else Q false e1) x
def wOr (a b : WTx) : WTx := fun e Q x => a e (fun c e1 => if c = true then Q true e1 else b e1 Q x) x
def wNot (a : WTx) : WTx := fun e Q x => a e (fun c e1 => Q (!c) e1) x
def wIf (c : WTx) (a b : WEx) : WEx := fun e Q x => c e (fun k e1 => if k = true then a e1 Q x else b e1 Q x) x
section
variable {K : PySem.W.Frag} {F : Fx} {σ : L2.St} {H : Hp} {X : Cx} {pos : Pos} {a b c : Expr} {rest : List Expr}
theorem PT_.mono {G G' : Hp} {Q : Bool → Hp → Prop} {d : Bool} {e : En} (s : Same G G') (h : PT_ K F G σ Q d e) : PT_ K F G' σ Q d e := fun G2 H2 s2 => h G2 H2 (s.trans s2)
theorem tT.mono {w : WTx} (m : MonoT w) {Q Q' : Bool → Hp → Prop} (h : ∀ b H, Q b H → Q' b H) (q : tT K F w σ H Q) : tT K F w σ H Q' := by
  obtain ⟨e, G, r, q⟩ := q
  exact ⟨e, G, r, m e _ _ _ _ (fun d e1 q1 G' H' s r' => h _ _ (q1 G' H' s r')) (fun _ _ z => z) q⟩
theorem tT.bind {w : WTx} {P : Bool → En → Prop} {e : En} {G : Hp} (m : MonoT w) (r : Rl K F.p F.G₀ F.H₀ G H σ e) (h : w e P (PX K F.p F.G₀ F.H₀ F.W G σ)) :
    tT K F w σ H (fun k H1 => ∃ e1 G1, Same G G1 ∧ Rl K F.p F.G₀ F.H₀ G1 H1 σ e1 ∧ P k e1) :=
  ⟨e, G, r, m e _ _ _ _ (fun k e1 q G' H' s r' => ⟨e1, G', s, r', q⟩) (fun _ _ z => z) h⟩
theorem dt_of {e : Expr} {t : TT} {w : WTx} (h : PT X e t) (m : MonoT w) (i : ∀ σ H Q, tT X.K F w σ H Q → t σ H Q) : DT X F e w :=
  ⟨⟨fun pins s σ H Q I q => h.run pins s σ H Q I (i σ H Q q)⟩, m⟩
theorem dw_of {e : Expr} {t : TT} {w : WTx} (h : PW X e t) (m : MonoT w) (i : ∀ σ H Q, tT X.K F w σ H Q → t σ H Q) : DW X F e w :=
  ⟨⟨fun wh pins s σ H Q I q => h.run wh pins s σ H Q I (i σ H Q q)⟩, m⟩
theorem wTest.mono {w : WEx} (m : Mono w) : MonoT (wTest w) := fun e Q Q' x x' h1 h2 q => m e _ _ _ _ (fun d e1 ⟨b, eb, z⟩ => ⟨b, eb, h1 b e1 z⟩) h2 q
theorem dt_val {e : Expr} {w : WEx} (h : DE X F e w) (he : ∀ whole, isTrue e X.env whole = (do let v ← whole; standAt e.pos; holding [v] (truthy v)) := by intro _; rfl) : DT X F e (wTest w) :=
  dt_of (pt_val h.run he) (wTest.mono h.mono) fun σ H Q ⟨e, G, r, q⟩ =>
    ⟨e, G, r, h.mono e _ _ _ _ (fun d e1 ⟨b, eb, z⟩ v G' H' s r' rv => by
      subst eb
      exact ⟨b, rv.bl_inv, z G' H' s r'⟩) (fun _ _ z => z) q⟩
theorem wAnd.mono {u v : WTx} (mu : MonoT u) (mv : MonoT v) : MonoT (wAnd u v) := fun e Q Q' x x' h1 h2 q => mu e _ _ _ _ (fun c e1 z => by
  cases c with
  | true => exact mv e1 _ _ _ _ h1 h2 z
  | false => exact h1 _ _ z) h2 q
theorem wOr.mono {u v : WTx} (mu : MonoT u) (mv : MonoT v) : MonoT (wOr u v) := fun e Q Q' x x' h1 h2 q => mu e _ _ _ _ (fun c e1 z => by
  cases c with
  | true => exact h1 _ _ z
  | false => exact mv e1 _ _ _ _ h1 h2 z) h2 q
theorem wNot.mono {u : WTx} (mu : MonoT u) : MonoT (wNot u) := fun e Q Q' x x' h1 h2 q => mu e _ _ _ _ (fun c e1 z => h1 _ _ z) h2 q
theorem wIf.mono {u : WTx} {v w : WEx} (mu : MonoT u) (mv : Mono v) (mw : Mono w) : Mono (wIf u v w) := fun e Q Q' x x' h1 h2 q => mu e _ _ _ _ (fun c e1 z => by
  cases c with
  | true => exact mv e1 _ _ _ _ h1 h2 z
  | false => exact mw e1 _ _ _ _ h1 h2 z) h2 q
variable {u v : WTx} {wa wb wc : WEx}
theorem dw_and1 (ha : DT X F a u) : DW X F (.BoolOp .And [a] pos) u := dw_of (pw_and1 ha.run) ha.mono fun _ _ _ q => q
theorem dw_or1 (ha : DT X F a u) : DW X F (.BoolOp .Or [a] pos) u := dw_of (pw_or1 ha.run) ha.mono fun _ _ _ q => q
theorem tT.and {σ : L2.St} {H : Hp} {Q : Bool → Hp → Prop} (mu : MonoT u) (mv : MonoT v) (q : tT K F (wAnd u v) σ H Q) : tAnd (tT K F u) (tT K F v) σ H Q := by
  obtain ⟨e, G, r, q⟩ := q
  refine tT.mono mu (fun k H1 z => ?_) (tT.bind mu r q)
  obtain ⟨e1, G1, s1, r1, z⟩ := z
  cases k with
  | true => exact ⟨e1, G1, r1, mv e1 _ _ _ _ (fun _ _ => PT_.mono s1) (fun _ _ => PX.mono s1) z⟩
  | false => exact z G1 H1 s1 r1
theorem tT.or {σ : L2.St} {H : Hp} {Q : Bool → Hp → Prop} (mu : MonoT u) (mv : MonoT v) (q : tT K F (wOr u v) σ H Q) : tOr (tT K F u) (tT K F v) σ H Q := by
  obtain ⟨e, G, r, q⟩ := q
  refine tT.mono mu (fun k H1 z => ?_) (tT.bind mu r q)
  obtain ⟨e1, G1, s1, r1, z⟩ := z
  cases k with
  | false => exact ⟨e1, G1, r1, mv e1 _ _ _ _ (fun _ _ => PT_.mono s1) (fun _ _ => PX.mono s1) z⟩
  | true => exact z G1 H1 s1 r1
theorem dw_and (ha : DT X F a u) (hb : DW X F (.BoolOp .And (b :: rest) pos) v) : DW X F (.BoolOp .And (a :: b :: rest) pos) (wAnd u v) :=
  dw_of (pw_and ha.run hb.run) (wAnd.mono ha.mono hb.mono) fun _ _ _ q => tT.and ha.mono hb.mono q
theorem dw_or (ha : DT X F a u) (hb : DW X F (.BoolOp .Or (b :: rest) pos) v) : DW X F (.BoolOp .Or (a :: b :: rest) pos) (wOr u v) :=
  dw_of (pw_or ha.run hb.run) (wOr.mono ha.mono hb.mono) fun _ _ _ q => tT.or ha.mono hb.mono q
theorem DW.dt (h : DW X F a u) : DT X F a u := ⟨h.run.pt, h.mono⟩
theorem dt_not (ha : DT X F a u) : DT X F (.UnaryOp .Not a pos) (wNot u) :=
  dt_of (pt_not ha.run) (wNot.mono ha.mono) fun σ H Q ⟨e, G, r, q⟩ => ⟨e, G, r, ha.mono e _ _ _ _ (fun _ _ z => z) (fun _ _ z => z) q⟩
theorem de_if (hc : DT X F c u) (ha : DE X F a wa) (hb : DE X F b wb) : DE X F (.IfExp c a b pos) (wIf u wa wb) :=
  de_of (pe_ifExp hc.run ha.run hb.run) (wIf.mono hc.mono ha.mono hb.mono) fun σ H Q ⟨e, G, r, q⟩ => by
    refine tT.mono hc.mono (fun k H1 z => ?_) (tT.bind hc.mono r q)
    obtain ⟨e1, G1, s1, r1, z⟩ := z
    cases k with
    | true => exact ⟨e1, G1, r1, ha.mono e1 _ _ _ _ (fun _ _ => PQ.mono s1) (fun _ _ => PX.mono s1) z⟩
    | false => exact ⟨e1, G1, r1, hb.mono e1 _ _ _ _ (fun _ _ => PQ.mono s1) (fun _ _ => PX.mono s1) z⟩
/-! ### bools as values -/
def wAndV (wa wb : WEx) : WEx := fun e Q x => wa e (fun d e1 => ∃ c, d = .bool c ∧ if c = true then wb e1 Q x else Q (.bool false) e1) x
def wOrV (wa wb : WEx) : WEx := fun e Q x => wa e (fun d e1 => ∃ c, d = .bool c ∧ if c = true then Q (.bool true) e1 else wb e1 Q x) x
def wNotV (wa : WEx) : WEx := fun e Q x => wa e (fun d e1 => ∃ c, d = .bool c ∧ Q (.bool (!c)) e1) x
theorem wAndV.mono (ma : Mono wa) (mb : Mono wb) : Mono (wAndV wa wb) := fun e Q Q' x x' h1 h2 q => ma e _ _ _ _ (fun d e1 ⟨c, ec, z⟩ => ⟨c, ec, by
  cases c with
  | true => exact mb e1 _ _ _ _ h1 h2 z
  | false => exact h1 _ _ z⟩) h2 q
theorem wOrV.mono (ma : Mono wa) (mb : Mono wb) : Mono (wOrV wa wb) := fun e Q Q' x x' h1 h2 q => ma e _ _ _ _ (fun d e1 ⟨c, ec, z⟩ => ⟨c, ec, by
  cases c with
  | true => exact h1 _ _ z
  | false => exact mb e1 _ _ _ _ h1 h2 z⟩) h2 q
theorem wNotV.mono (ma : Mono wa) : Mono (wNotV wa) := fun e Q Q' x x' h1 h2 q => ma e _ _ _ _ (fun d e1 ⟨c, ec, z⟩ => ⟨c, ec, h1 _ _ z⟩) h2 q
theorem de_one {op} (h : DE X F a wa) : DE X F (.BoolOp op [a] pos) wa := de_of (pe_one h.run) h.mono fun _ _ _ q => q
theorem de_and (ha : DE X F a wa) (hb : DE X F (.BoolOp .And (b :: rest) pos) wb) : DE X F (.BoolOp .And (a :: b :: rest) pos) (wAndV wa wb) :=
  de_of (pe_and ha.run hb.run) (wAndV.mono ha.mono hb.mono) fun σ H Q ⟨e, G, r, q⟩ => ⟨e, G, r, ha.mono e _ _ _ _ (fun d e1 ⟨k, ek, z⟩ v G' H' s r' rv => by
    subst ek
    refine ⟨k, rv.bl_inv, ?_⟩
    cases k with
    | true => exact ⟨e1, G', r', hb.mono e1 _ _ _ _ (fun _ _ => PQ.mono s) (fun _ _ => PX.mono s) z⟩
    | false => exact z _ G' H' s r' (.bl false)) (fun _ _ z => z) q⟩
theorem de_or (ha : DE X F a wa) (hb : DE X F (.BoolOp .Or (b :: rest) pos) wb) : DE X F (.BoolOp .Or (a :: b :: rest) pos) (wOrV wa wb) :=
  de_of (pe_or ha.run hb.run) (wOrV.mono ha.mono hb.mono) fun σ H Q ⟨e, G, r, q⟩ => ⟨e, G, r, ha.mono e _ _ _ _ (fun d e1 ⟨k, ek, z⟩ v G' H' s r' rv => by
    subst ek
    refine ⟨k, rv.bl_inv, ?_⟩
    cases k with
    | false => exact ⟨e1, G', r', hb.mono e1 _ _ _ _ (fun _ _ => PQ.mono s) (fun _ _ => PX.mono s) z⟩
    | true => exact z _ G' H' s r' (.bl true)) (fun _ _ z => z) q⟩
theorem de_not (ha : DE X F a wa) : DE X F (.UnaryOp .Not a pos) (wNotV wa) :=
  de_of (pe_not ha.run) (wNotV.mono ha.mono) fun σ H Q ⟨e, G, r, q⟩ => ⟨e, G, r, ha.mono e _ _ _ _ (fun d e1 ⟨k, ek, z⟩ v G' H' s r' rv => by
    subst ek
    exact ⟨k, rv.bl_inv, z _ G' H' s r' (.bl _)⟩) (fun _ _ z => z) q⟩
/-! ### is None -/
def isN : D → Bool
  | .none => true
  | _ => false
def wIsN (wa : WEx) : WEx := fun e Q x => wa e (fun d e1 => Q (.bool (isN d)) e1) x
def wNotN (wa : WEx) : WEx := fun e Q x => wa e (fun d e1 => Q (.bool (!isN d)) e1) x
theorem wIsN.mono (ma : Mono wa) : Mono (wIsN wa) := fun e Q Q' x x' h1 h2 q => ma e _ _ _ _ (fun d e1 z => h1 _ _ z) h2 q
theorem wNotN.mono (ma : Mono wa) : Mono (wNotN wa) := fun e Q Q' x x' h1 h2 q => ma e _ _ _ _ (fun d e1 z => h1 _ _ z) h2 q
theorem R.isN {p : Option Addr} {G : Hp} {x : V} {d : D} (h : R K p G x d) : decide (x = .non) = DL.isN d := by
  cases h <;> first | rfl | (rename_i e; subst e; rfl) | (rename_i _ e; subst e; rfl)
theorem de_isN {j} {p2 : Pos} (ha : DE X F a wa) : DE X F (.Compare a [.Is] [.Constant .none j p2] pos) (wIsN wa) :=
  de_of (pe_cmp (pc_isN ha.run) rfl) (wIsN.mono ha.mono) fun σ H Q ⟨e, G, r, q⟩ => ⟨e, G, r, ha.mono e _ _ _ _ (fun d e1 z v G' H' s r' rv => by
    show Q (.bl (decide (v = .non))) H'
    rw [rv.isN]
    exact z _ G' H' s r' (.bl _)) (fun _ _ z => z) q⟩
/-! ### -n -/
def wNeg (wa : WEx) : WEx := fun e Q x => wa e (fun d e1 => ∃ i, d = .int i ∧ Q (.int (-i)) e1) x
theorem wNeg.mono (ma : Mono wa) : Mono (wNeg wa) := fun e Q Q' x x' h1 h2 q => ma e _ _ _ _ (fun d e1 ⟨i, ei, z⟩ => ⟨i, ei, h1 _ _ z⟩) h2 q
theorem de_neg (ha : DE X F a wa) : DE X F (.UnaryOp .USub a pos) (wNeg wa) :=
  de_of (pe_un un_neg ha.run) (wNeg.mono ha.mono) fun σ H Q ⟨e, G, r, q⟩ => ⟨e, G, r, ha.mono e _ _ _ _ (fun d e1 ⟨i, ei, z⟩ v G' H' s r' rv => by
    subst ei
    exact ⟨i, rv.int_inv, z _ G' H' s r' (.int _)⟩) (fun _ _ z => z) q⟩
/-! ### a < b < c -/
def wChain (f g : B2) (wa wb wc : WEx) : WEx := fun e Q x => wa e (fun d1 e1 => wb e1 (fun d2 e2 => f d1 d2 fun z => ∃ k, z = .bool k ∧ if k = true then wc e2 (fun d3 e3 => g d2 d3 fun d => Q d e3) x else Q (.bool false) e2) x) x
theorem wChain.mono {f g : B2} (hf : f.Mono) (hg : g.Mono) (ma : Mono wa) (mb : Mono wb) (mc : Mono wc) : Mono (wChain f g wa wb wc) := fun e Q Q' x x' h1 h2 q =>
  ma e _ _ _ _ (fun d1 e1 q1 => mb e1 _ _ _ _ (fun d2 e2 q2 => hf d1 d2 _ _ (fun z ⟨k, ek, y⟩ => ⟨k, ek, by
    cases k with
    | true => exact mc e2 _ _ _ _ (fun d3 e3 q3 => hg d2 d3 _ _ (fun d q4 => h1 d e3 q4) q3) h2 y
    | false => exact h1 _ _ y⟩) q2) h2 q1) h2 q
theorem tE.chain {f g : B2} {r r' : R2} (hf : f.Mono) (hg : g.Mono) (ft : Fits K f r) (gt : Fits K g r') (ma : Mono wa) (mb : Mono wb) (mc : Mono wc) {σ : L2.St} {H : Hp} {Q : VK} (q : tE K F (wChain f g wa wb wc) σ H Q) :
    tChain r r' (tE K F wa) (tE K F wb) (tE K F wc) σ H Q := by
  obtain ⟨e, G, r0, q⟩ := q
  refine tE.mono ma (fun v1 H1 q1 => ?_) (tE.bind (w := wa) (f := fun d1 e1 Q x => wb e1 (fun d2 e2 => f d1 d2 fun z => ∃ k, z = .bool k ∧ if k = true then wc e2 (fun d3 e3 => g d2 d3 fun d => Q d e3) x else Q (.bool false) e2) x) ma
    (fun d1 e1 Q Q' x x' h1 h2 q => mb e1 _ _ _ _ (fun d2 e2 q2 => hf d1 d2 _ _ (fun z ⟨k, ek, y⟩ => ⟨k, ek, by
      cases k with
      | true => exact mc e2 _ _ _ _ (fun d3 e3 q3 => hg d2 d3 _ _ (fun d q4 => h1 d e3 q4) q3) h2 y
      | false => exact h1 _ _ y⟩) q2) h2 q) r0 q)
  obtain ⟨e1, G1, d1, s1, r1, rv1, q1⟩ := q1
  refine tE.mono mb (fun v2 H2 q2 => ?_) (tE.bind (w := wb) (f := fun d2 e2 Q x => f d1 d2 fun z => ∃ k, z = .bool k ∧ if k = true then wc e2 (fun d3 e3 => g d2 d3 fun d => Q d e3) x else Q (.bool false) e2) mb
    (fun d2 e2 Q Q' x x' h1 h2 q => hf d1 d2 _ _ (fun z ⟨k, ek, y⟩ => ⟨k, ek, by
      cases k with
      | true => exact mc e2 _ _ _ _ (fun d3 e3 q3 => hg d2 d3 _ _ (fun d q4 => h1 d e3 q4) q3) h2 y
      | false => exact h1 _ _ y⟩) q) r1 q1)
  obtain ⟨e2, G2, d2, s2, r2, rv2, q2⟩ := q2
  refine ft F.p F.G₀ F.H₀ G2 H2 σ e2 v1 v2 d1 d2 _ _ r2 (rv1.mono s2) rv2 q2 fun d z v G' H' s r' rv => ?_
  obtain ⟨k, ek, z⟩ := z
  subst ek
  refine ⟨k, rv.bl_inv, ?_⟩
  cases k with
  | false => exact z _ G' H' s r' (.bl false)
  | true =>
    refine tE.mono mc (fun v3 H3 q3 => ?_) (tE.bind (w := wc) (f := fun d3 e3 Q x => g d2 d3 fun d => Q d e3) mc (fun d3 e3 Q Q' x x' h1 h2 q => hg d2 d3 _ _ (fun d q4 => h1 d e3 q4) q) r'
      (mc e2 _ _ _ _ (fun d3 e3 q3 => hg d2 d3 _ _ (fun d q4 => PQ.mono s q4) q3) (fun _ _ => PX.mono s) z))
    obtain ⟨e3, G3, d3, s3, r3, rv3, q3⟩ := q3
    exact gt F.p F.G₀ F.H₀ G3 H3 σ e3 v2 v3 d2 d3 _ Q r3 (rv2.mono (s.trans s3)) rv3 q3 fun d z v G' H' s r' rv => z v G' H' s r' rv
theorem de_chain {op op' : CmpOp} {f g : B2} {r r' : R2} (ho : OpR X (compareOp op) r) (ho' : OpR X (compareOp op') r') (hf : f.Mono) (hg : g.Mono) (ft : Fits X.K f r) (gt : Fits X.K g r') (ha : DE X F a wa) (hb : DE X F b wb) (hc : DE X F c wc)
    (hm : lastMarks [op, op'] [b, c] = false := by with_unfolding_all rfl) : DE X F (.Compare a [op, op'] [b, c] pos) (wChain f g wa wb wc) :=
  de_of (pe_chain ho ho' ha.run hb.run hc.run hm) (wChain.mono hf hg ha.mono hb.mono hc.mono) fun _ _ _ q => tE.chain hf hg ft gt ha.mono hb.mono hc.mono q
theorem dt_chain {op op' : CmpOp} {f g : B2} {r r' : R2} (ho : OpR X (compareOp op) r) (ho' : OpR X (compareOp op') r') (hf : f.Mono) (hg : g.Mono) (ft : Fits X.K f r) (gt : Fits X.K g r') (ha : DE X F a wa) (hb : DE X F b wb) (hc : DE X F c wc)
    (hm : lastMarks [op, op'] [b, c] = false := by with_unfolding_all rfl) : DT X F (.Compare a [op, op'] [b, c] pos) (wTest (wChain f g wa wb wc)) :=
  dt_of (pt_chain ho ho' ha.run hb.run hc.run hm) (wTest.mono (wChain.mono hf hg ha.mono hb.mono hc.mono)) fun σ H Q ⟨e, G, r, q⟩ =>
    tE.chain (Q := fun x H' => ∃ k, x = .bl k ∧ Q k H') hf hg ft gt ha.mono hb.mono hc.mono ⟨e, G, r, wChain.mono hf hg ha.mono hb.mono hc.mono e _ _ _ _ (fun d e1 ⟨k, ek, z⟩ v G' H' s r' rv => by
      subst ek
      exact ⟨k, rv.bl_inv, z G' H' s r'⟩) (fun _ _ z => z) q⟩
end
end L2.DL
set_option
      maxHeartbeats 1000000
namespace L2.DL
open PySem PySem.Spec
      PyProof.Rows
/-! ### arguments -/
abbrev WAx := En → (List D → En → Prop) → PD → Prop
def MonoA (w : WAx) : Prop := ∀ e Q Q' x x', (∀ b e, Q b e → Q' b e) → (∀ d e, x d e → x' d e) → w e Q x → w e Q' x'
def PA_ (K : PySem.W.Frag) (F : Fx) (G : Hp) (σ : L2.St) (Q : List V → Hp → Prop) : List D → En → Prop := fun ds e' => ∀ vs G' H', Same G G' → Rl K F.p F.G₀ F.H₀ G' H' σ e' → RA K F.p G' vs ds → Q vs H'
def tA (K : PySem.W.Frag) (F : Fx) (w : WAx) : TA := fun σ H Q => ∃ e G, Rl K F.p F.G₀ F.H₀ G H σ e ∧ w e (PA_ K F G σ Q) (PX K F.p F.G₀ F.H₀ F.W G σ)
structure DA (X : Cx) (F : Fx) (es : List Expr) (w : WAx) : Prop where
  run : PA X es (tA X.K F w)
  mono : MonoA w
def wNil : WAx := fun e Q _ => Q [] e
def wCons (wa : WEx) (wr : WAx) : WAx := fun e Q x => wa e (fun d e1 => wr e1 (fun ds e2 => Q (d :: ds) e2) x) x
section
variable {K : PySem.W.Frag} {F : Fx} {σ : L2.St} {H : Hp} {X : Cx} {pos : Pos} {a b c : Expr} {es : List Expr} {wa wb : WEx} {wr : WAx}
theorem PA_.mono {G G' : Hp} {Q : List V → Hp → Prop} {ds : List D} {e : En} (s : Same G G') (h : PA_ K F G σ Q ds e) : PA_ K F G' σ Q ds e := fun vs G2 H2 s2 => h vs G2 H2 (s.trans s2)
theorem tA.mono (m : MonoA wr) {Q Q' : List V → Hp → Prop} (h : ∀ b H, Q b H → Q' b H) (q : tA K F wr σ H Q) : tA K F wr σ H Q' := by
  obtain ⟨e, G, r, q⟩ := q
  exact ⟨e, G, r, m e _ _ _ _ (fun d e1 q1 vs G' H' s r' rv => h _ _ (q1 vs G' H' s r' rv)) (fun _ _ z => z) q⟩
theorem tA.bind {P : List D → En → Prop} {e : En} {G : Hp} (m : MonoA wr) (r : Rl K F.p F.G₀ F.H₀ G H σ e) (h : wr e P (PX K F.p F.G₀ F.H₀ F.W G σ)) :
    tA K F wr σ H (fun vs H1 => ∃ e1 G1 ds, Same G G1 ∧ Rl K F.p F.G₀ F.H₀ G1 H1 σ e1 ∧ RA K F.p G1 vs ds ∧ P ds e1) :=
  ⟨e, G, r, m e _ _ _ _ (fun ds e1 q vs G' H' s r' rv => ⟨e1, G', ds, s, r', rv, q⟩) (fun _ _ z => z) h⟩
theorem wNil.mono : MonoA wNil := fun _ _ _ _ _ h _ q => h _ _ q
theorem wCons.mono (ma : Mono wa) (mr : MonoA wr) : MonoA (wCons wa wr) := fun e Q Q' x x' h1 h2 q => ma e _ _ _ _ (fun d e1 z => mr e1 _ _ _ _ (fun ds e2 y => h1 _ _ y) h2 z) h2 q
theorem da_nil : DA X F [] wNil := ⟨⟨fun pos pins s σ H Q I ⟨e, G, r, q⟩ => pa_nil.run pos pins s σ H Q I (q [] G H (Same.refl G) r .nil)⟩, wNil.mono⟩
theorem tE.any {P : D → En → Prop} {e : En} {G : Hp} (m : Mono wa) (r : Rl K F.p F.G₀ F.H₀ G H σ e) (h : wa e P (PX K F.p F.G₀ F.H₀ F.W G σ)) :
    tE K F wa σ H (fun v H1 => ∃ e1 G1 d, Same G G1 ∧ Rl K F.p F.G₀ F.H₀ G1 H1 σ e1 ∧ R K F.p G1 v d ∧ P d e1) :=
  ⟨e, G, r, m e _ _ _ _ (fun d e1 q v G' H' s r' rv => ⟨e1, G', d, s, r', rv, q⟩) (fun _ _ z => z) h⟩
theorem da_cons (ha : DE X F a wa) (hr : DA X F es wr) (hs : starEach (a :: es) X.env = (false, eval a X.env) :: starEach es X.env := by rfl) : DA X F (a :: es) (wCons wa wr) := by
  refine ⟨⟨fun pos pins s σ H Q I q => (pa_cons ha.run hr.run hs).run pos pins s σ H Q I ?_⟩, wCons.mono ha.mono hr.mono⟩
  obtain ⟨e, G, r, q⟩ := q
  refine tE.mono ha.mono (fun v1 H1 q1 => ?_) (tE.any ha.mono r q)
  obtain ⟨e1, G1, d1, s1, r1, rv1, q1⟩ := q1
  exact ⟨e1, G1, r1, hr.mono e1 _ _ _ _ (fun ds e2 y xs G' H' s r' rv => y (v1 :: xs) G' H' (s1.trans s) r' (.cons (rv1.mono s) rv)) (fun _ _ => PX.mono s1) q1⟩
/-! ### displays -/
def wTup (w : WAx) : WEx := fun e Q x => w e (fun ds e1 => ds.length ≤ 1000 ∧ Q (.tuple ds) e1) x
def wLst (w : WAx) : WEx := fun e Q x => w e (fun ds e1 => ds.length ≤ 1000 ∧ Q (.list ds) e1) x
theorem wTup.mono (m : MonoA wr) : Mono (wTup wr) := fun e Q Q' x x' h1 h2 q => m e _ _ _ _ (fun ds e1 z => ⟨z.1, h1 _ _ z.2⟩) h2 q
theorem wLst.mono (m : MonoA wr) : Mono (wLst wr) := fun e Q Q' x x' h1 h2 q => m e _ _ _ _ (fun ds e1 z => ⟨z.1, h1 _ _ z.2⟩) h2 q
theorem le_line {n : Nat} (h : n ≤ 1000) : n ≤ sizeLine := Nat.le_trans h (by decide)
theorem de_tup {k} (h : DA X F es wr) : DE X F (.Tuple es k pos) (wTup wr) :=
  de_of (pe_tup h.run) (wTup.mono h.mono) fun σ H Q ⟨e, G, r, q⟩ => ⟨e, G, r, h.mono e _ _ _ _ (fun ds e1 z vs G' H' s r' rv => ⟨by rw [rv.length]; exact le_line z.1, fun p hp =>
    z.2 _ (upd G' p (.tup vs)) _ (s.trans (sameNew r'.same hp)) (r'.new hp) (.tup (SqT.of upd_same) (rv.mono (sameNew r'.same hp)))⟩) (fun _ _ z => z) q⟩
theorem de_lst (h : DA X F es wr) : DE X F (.List es pos) (wLst wr) :=
  de_of (pe_lst h.run) (wLst.mono h.mono) fun σ H Q ⟨e, G, r, q⟩ => ⟨e, G, r, h.mono e _ _ _ _ (fun ds e1 z vs G' H' s r' rv => ⟨by rw [rv.length]; exact le_line z.1, fun p hp =>
    z.2 _ (upd G' p (.lst vs)) _ (s.trans (sameNew r'.same hp)) (r'.new hp) (.lst upd_same (rv.mono (sameNew r'.same hp)))⟩) (fun _ _ z => z) q⟩
/-! ### built-ins -/
abbrev BL := List D → (D → Prop) → Prop
def BL.Mono (f : BL) : Prop := ∀ a P P', (∀ d, P d → P' d) → f a P → f a P'
def wBi (f : BL) (w : WAx) : WEx := fun e Q x => w e (fun ds e1 => f ds fun d => Q d e1) x
def FitsL (K : PySem.W.Frag) (f : BL) (r : List V → Hp → VK → Prop) : Prop := ∀ (p : Option Addr) (G₀ H₀ G H : Hp) (σ : L2.St) (e : En) (xs : List V) (ds : List D) (P : D → Prop) (Q : VK),
  Rl K p G₀ H₀ G H σ e → RA K p G xs ds → f ds P → (∀ d, P d → ∀ v G' H', Same G G' → Rl K p G₀ H₀ G' H' σ e → R K p G' v d → Q v H') → r xs H Q
theorem wBi.mono {f : BL} (hf : f.Mono) (m : MonoA wr) : Mono (wBi f wr) := fun e Q Q' x x' h1 h2 q => m e _ _ _ _ (fun ds e1 z => hf ds _ _ (fun d y => h1 _ _ y) z) h2 q
theorem tA.bi {f : BL} {r : List V → Hp → VK → Prop} (hf : f.Mono) (ft : FitsL K f r) (m : MonoA wr) {Q : VK} (q : tE K F (wBi f wr) σ H Q) : tCB r (tA K F wr) σ H Q := by
  obtain ⟨e, G, r0, q⟩ := q
  refine tA.mono m (fun vs H1 z => ?_) (tA.bind m r0 q)
  obtain ⟨e1, G1, ds, s1, r1, rv, z⟩ := z
  exact ft F.p F.G₀ F.H₀ G1 H1 σ e1 vs ds _ Q r1 rv z fun d y v G' H' s r' rv' => y v G' H' (s1.trans s) r' rv'
theorem de_bi {x : Str} {id : String} {f : BL} {r : List V → Hp → VK → Prop} {p : Pos} (hf : f.Mono) (ft : FitsL X.K f r) (hc : CallR X (.builtin id) r) (ha : DA X F (a :: es) wr) (hm : X.mg x = none) (hg : Gl X x := by rfl) (hv : bootBuiltins x = some (.builtin id) := by decide +kernel)
    (hn : x ≠ "__name__" := by decide) (hdb : (x == ("__debug__" : Str)) = false := by decide) (he : starEach (a :: es) X.env = (false, eval a X.env) :: starEach es X.env := by rfl) (hpl : (backTo pos (starEach es X.env)).any (·.1) = false := by rfl) :
    DE X F (.Call (.Name x p) (a :: es) [] pos) (wBi f wr) :=
  de_of (pe_callB hc hg hm hv ha.run hn hdb he hpl) (wBi.mono hf ha.mono) fun _ _ _ q => tA.bi hf ft ha.mono q
theorem de_bt {x : Str} {T : String} {f : BL} {r : List V → Hp → VK → Prop} {p : Pos} (hf : f.Mono) (ft : FitsL X.K f r) (hc : CallR X (.type T) r) (ha : DA X F (a :: es) wr) (hm : X.mg x = none) (hg : Gl X x := by rfl) (hv : bootBuiltins x = some (.type T) := by decide +kernel)
    (hn : x ≠ "__name__" := by decide) (hdb : (x == ("__debug__" : Str)) = false := by decide) (he : starEach (a :: es) X.env = (false, eval a X.env) :: starEach es X.env := by rfl) (hpl : (backTo pos (starEach es X.env)).any (·.1) = false := by rfl) :
    DE X F (.Call (.Name x p) (a :: es) [] pos) (wBi f wr) :=
  de_of (pe_callTy hc hg hm hv ha.run hn hdb he hpl) (wBi.mono hf ha.mono) fun _ _ _ q => tA.bi hf ft ha.mono q
def lenD : BL
  | [.list xs], P => P (.int xs.length)
  | [.tuple xs], P => P (.int xs.length)
  | _, _ => False
def intD : BL
  | [.int i], P => P (.int i)
  | _, _ => False
def listD : BL
  | [.list xs], P => P (.list xs)
  | [.tuple xs], P => P (.list xs)
  | _, _ => False
def tupleD : BL
  | [.list xs], P => P (.tuple xs)
  | [.tuple xs], P => P (.tuple xs)
  | _, _ => False
def reprD : BL
  | [d], P => Good d ∧ P (.str d.shown)
  | _, _ => False
theorem lenD.mono : BL.Mono lenD := by
  intro a P P' h q
  unfold lenD at q ⊢
  split at q <;> first | exact h _ q | exact q.elim
theorem intD.mono : BL.Mono intD := by
  intro a P P' h q
  unfold intD at q ⊢
  split at q <;> first | exact h _ q | exact q.elim
theorem listD.mono : BL.Mono listD := by
  intro a P P' h q
  unfold listD at q ⊢
  split at q <;> first | exact h _ q | exact q.elim
theorem tupleD.mono : BL.Mono tupleD := by
  intro a P P' h q
  unfold tupleD at q ⊢
  split at q <;> first | exact h _ q | exact q.elim
theorem reprD.mono : BL.Mono reprD := by
  intro a P P' h q
  unfold reprD at q ⊢
  split at q
  · exact ⟨q.1, h _ q.2⟩
  · exact q.elim
theorem RA.one {p : Option Addr} {G : Hp} {xs : List V} {d : D} (h : RA K p G xs [d]) : ∃ x, xs = [x] ∧ R K p G x d := by
  cases h with
  | cons a b => cases b; exact ⟨_, rfl, a⟩
theorem RA.two {p : Option Addr} {G : Hp} {xs : List V} {d d' : D} (h : RA K p G xs [d, d']) : ∃ x y, xs = [x, y] ∧ R K p G x d ∧ R K p G y d' := by
  cases h with
  | cons a b =>
    obtain ⟨y, e, b'⟩ := b.one
    subst e
    exact ⟨_, _, rfl, a, b'⟩
theorem fitsLen : FitsL K lenD (fun xs H Q => ∃ p ys, xs = [.ref p] ∧ (SqL K H p ys ∨ SqT K H p ys) ∧ Q (.int ys.length) H) := by
  intro p G₀ H₀ G H σ e xs ds P Q r ra q k
  unfold lenD at q
  split at q
  · obtain ⟨x, rfl, rx⟩ := ra.one
    obtain ⟨a, ys, rfl, h1, r1⟩ := rx.lst_inv
    exact ⟨a, ys, rfl, .inl (SqL.of (r.same _ _ h1)), by rw [r1.length]; exact ans r (.int _) k q⟩
  · obtain ⟨x, rfl, rx⟩ := ra.one
    obtain ⟨a, ys, rfl, h1, r1⟩ := rx.tup_inv
    exact ⟨a, ys, rfl, .inr (sameT r.same h1), by rw [r1.length]; exact ans r (.int _) k q⟩
  · exact q.elim
theorem fitsInt : FitsL K intD (fun xs H Q => (∃ i, xs = [.int i] ∧ Q (.int i) H) ∨ ∃ k, xs = [.bl k] ∧ Q (.int (if k then 1 else 0)) H) := by
  intro p G₀ H₀ G H σ e xs ds P Q r ra q k
  unfold intD at q
  split at q
  · obtain ⟨x, rfl, rx⟩ := ra.one
    cases rx.int_inv
    exact .inl ⟨_, rfl, ans r (.int _) k q⟩
  · exact q.elim
theorem fitsList : FitsL K listD (fun xs H Q => ∃ p ys, xs = [.ref p] ∧ (SqL K H p ys ∨ SqT K H p ys) ∧ ∀ l, H l = none → Q (.ref l) (upd H l (.lst ys))) := by
  intro p G₀ H₀ G H σ e xs ds P Q r ra q k
  unfold listD at q
  split at q
  · obtain ⟨x, rfl, rx⟩ := ra.one
    obtain ⟨a, ys, rfl, h1, r1⟩ := rx.lst_inv
    exact ⟨a, ys, rfl, .inl (SqL.of (r.same _ _ h1)), fun l hl => ansL r r1 k q hl⟩
  · obtain ⟨x, rfl, rx⟩ := ra.one
    obtain ⟨a, ys, rfl, h1, r1⟩ := rx.tup_inv
    exact ⟨a, ys, rfl, .inr (sameT r.same h1), fun l hl => ansL r r1 k q hl⟩
  · exact q.elim
theorem fitsTuple : FitsL K tupleD (fun xs H Q => ∃ p ys, xs = [.ref p] ∧ ((SqL K H p ys ∧ ∀ l, H l = none → Q (.ref l) (upd H l (.tup ys))) ∨ (SqT K H p ys ∧ Q (.ref p) H))) := by
  intro p G₀ H₀ G H σ e xs ds P Q r ra q k
  unfold tupleD at q
  split at q
  · obtain ⟨x, rfl, rx⟩ := ra.one
    obtain ⟨a, ys, rfl, h1, r1⟩ := rx.lst_inv
    exact ⟨a, ys, rfl, .inl ⟨SqL.of (r.same _ _ h1), fun l hl => ansT r r1 k q hl⟩⟩
  · obtain ⟨x, rfl, rx⟩ := ra.one
    obtain ⟨a, ys, rfl, h1, r1⟩ := rx.tup_inv
    exact ⟨a, ys, rfl, .inr ⟨sameT r.same h1, ans r rx k q⟩⟩
  · exact q.elim
/-- repr of data -/
def rRepr (K : PySem.W.Frag) : List V → Hp → VK → Prop := fun xs H Q => ∃ x d, xs = [x] ∧ Dp K H x d ∧ Good d ∧ Q (.str d.shown) H
theorem call_reprD (hg : X.A.guards = some []) (hu : X.A.units + 64 < cLine) : CallR X (.builtin "repr") (rRepr X.K) := by
  intro pins s σ
        H xs us Q I r h
  obtain ⟨x, d, rfl, hd, ok, q⟩ := h
  obtain ⟨u, rfl,
        ru⟩ := vals1 r
  obtain ⟨as, rd⟩ := Dp.reads I d x u hd ru
  have fin : ∀ h' tk t, (∀ b o, s.heap.get? b = some o → h'.get? b = some o) → EP X pins σ Q (.str d.shown t) { s with heap := h', toks := tk } := fun h' tk t k => ⟨.str d.shown, H, I.kept (t' := tk) k, ⟨_, rfl⟩, q⟩
  have far : ∀ a, u = .ref a → wpAny (model X.prog X.w) X.A (call (.builtin "repr") [u]) (EP X pins σ Q) X.xe s := fun a e => by
    subst e
    exact repr_of_reads' rd (fine.showable d ok.f) (PyData.noDict_hsm ok.noDict) hg (by have := ok.d; omega) (fun _ _ z => z) (fun h' t tk k => fin h' tk t k) ok.shownLen
  cases hd with
  | non => cases ru; exact PySem.P.repr_of_none (fin s.heap _ _ fun _ _ z => z)
  | bl b => cases ru; exact PySem.P.repr_of_bool (fin s.heap _ _ fun _ _ z => z)
  | int i =>
    obtain ⟨t, rfl⟩ := ru
    exact PySem.P.repr_of_int (log2_120 (of_decide_eq_true (by have := ok.f; unfold fine at this; exact this))) (fin s.heap _ _ fun _ _ z => z)
  | str z =>
    obtain ⟨t, rfl⟩ := ru
    exact PySem.P.repr_of_str (fin s.heap _ _ fun _ _ z => z) ok.shownLen
  | lst _ _ => exact far _ ru
  | tup _ _ => exact far _ ru
theorem fitsRepr : FitsL K reprD (rRepr K) := by
  intro p G₀ H₀ G H σ e xs ds P Q r ra q k
  unfold reprD at q
  split at q
  · obtain ⟨x, rfl, rx⟩ := ra.one
    exact ⟨x, _, rfl, rx.dp r.same q.1.noDict, q.1, ans r (.str _) k q.2⟩
  · exact q.elim
/-! ### xs[i], xs[a:b] -/
def idxD : B2
  | .list xs, .int i, P => ∃ d, atI xs i = some d ∧ P d
  | .tuple xs, .int i, P => ∃ d, atI xs i = some d ∧ P d
  | _, _, _ => False
theorem idxD.mono : B2.Mono idxD := by
  intro a b P P' h q
  unfold idxD at q ⊢
  split at q
  · obtain ⟨d, e, z⟩ := q; exact ⟨d, e, h _ z⟩
  · obtain ⟨d, e, z⟩ := q; exact ⟨d, e, h _ z⟩
  · exact q.elim
theorem RA.at {p : Option Addr} {G : Hp} {xs : List V} {ds : List D} {i : Int} {d : D} (h : RA K p G xs ds) (e : atI ds i = some d) : ∃ v, atI xs i = some v ∧ R K p G v d := by
  unfold atI at e ⊢
  rw [h.length]
  cases hn : ixN ds.length i with
  | none => rw [hn] at e; cases e
  | some j =>
    rw [hn] at e
    exact h.get (i := j) e
theorem fitsIdx : Fits K idxD (fun x y H Q => rIxL K x y H Q ∨ rIxT K x y H Q) := by
  intro p G₀ H₀ G H σ e x y a b P Q r ra rb q k
  unfold idxD at q
  split at q
  · obtain ⟨l, xs, rfl, h1, r1⟩ := ra.lst_inv
    cases rb.int_inv
    obtain ⟨d, ed, z⟩ := q
    obtain ⟨v, ev, rv⟩ := r1.at ed
    exact .inl ⟨l, xs, _, v, rfl, rfl, SqL.of (r.same _ _ h1), ev, ans r rv k z⟩
  · obtain ⟨l, xs, rfl, h1, r1⟩ := ra.tup_inv
    cases rb.int_inv
    obtain ⟨d, ed, z⟩ := q
    obtain ⟨v, ev, rv⟩ := r1.at ed
    exact .inr ⟨l, xs, _, v, rfl, rfl, sameT r.same h1, ev, ans r rv k z⟩
  · exact q.elim
theorem de_idx (ha : DE X F a wa) (hb : DE X F b wb) (hs : PlainIx b := by intro _ _; rfl) : DE X F (.Subscript a b pos) (wBin idxD wa wb) :=
  de_of (pe_ix (ix_list.or ix_tup) ha.run hb.run hs) (wBin.mono idxD.mono ha.mono hb.mono) fun σ H Q q => tE.two idxD.mono fitsIdx ha.mono hb.mono q
/-- an end of a slice -/
abbrev WOx := En → (Option Int → En → Prop) → PD → Prop
def MonoO (w : WOx) : Prop := ∀ e Q Q' x x', (∀ b e, Q b e → Q' b e) → (∀ d e, x d e → x' d e) → w e Q x → w e Q' x'
def tO (K : PySem.W.Frag) (F : Fx) (w : WOx) : TO := fun σ H Q => ∃ e G, Rl K F.p F.G₀ F.H₀ G H σ e ∧ w e (fun o e' => ∀ G' H', Same G G' → Rl K F.p F.G₀ F.H₀ G' H' σ e' → Q o H') (PX K F.p F.G₀ F.H₀ F.W G σ)
structure DO (X : Cx) (F : Fx) (e : Option Expr) (w : WOx) : Prop where
  run : PO X e (tO X.K F w)
  mono : MonoO w
def wNo : WOx := fun e Q _ => Q none e
def wSo (w : WEx) : WOx := fun e Q x => w e (fun d e1 => ∃ i, d = .int i ∧ Q (some i) e1) x
theorem do_none : DO X F none wNo := ⟨⟨fun pins s σ H Q I ⟨e, G, r, q⟩ => po_none.run pins s σ H Q I (q G H (Same.refl G) r)⟩, fun _ _ _ _ _ h _ q => h _ _ q⟩
theorem do_some (h : DE X F a wa) : DO X F (some a) (wSo wa) :=
  ⟨⟨fun pins s σ H Q I ⟨e, G, r, q⟩ => (po_some h.run).run pins s σ H Q I ⟨e, G, r, h.mono e _ _ _ _ (fun d e1 ⟨i, ei, z⟩ v G' H' s r' rv => by
    subst ei
    exact ⟨i, rv.int_inv, z G' H' s r'⟩) (fun _ _ z => z) q⟩⟩, fun e Q Q' x x' h1 h2 q => h.mono e _ _ _ _ (fun d e1 ⟨i, ei, z⟩ => ⟨i, ei, h1 _ _ z⟩) h2 q⟩
def cutD (xs : List D) (lo hi : Option Int) : List D := (xs.drop (HT.sIx xs.length 0 lo)).take (HT.sIx xs.length xs.length hi - HT.sIx xs.length 0 lo)
def slD : D → Option Int → Option Int → (D → Prop) → Prop
  | .list xs, lo, hi, P => P (.list (cutD xs lo hi))
  | .tuple xs, lo, hi, P => P (.tuple (cutD xs lo hi))
  | _, _, _, _ => False
theorem slD.mono {a : D} {lo hi : Option Int} {P P' : D → Prop} (h : ∀ d, P d → P' d) (q : slD a lo hi P) : slD a lo hi P' := by
  unfold slD at q ⊢
  split at q <;> first | exact h _ q | exact q.elim
def wSl (wa : WEx) (wl wh : WOx) : WEx := fun e Q x => wa e (fun d e1 => wl e1 (fun lo e2 => wh e2 (fun hi e3 => slD d lo hi fun z => Q z e3) x) x) x
variable {wl wh : WOx} {lo hi : Option Expr}
theorem RA.cut {p : Option Addr} {G : Hp} {xs : List V} {ds : List D} (h : RA K p G xs ds) (lo hi : Option Int) : RA K p G (cutV xs lo hi) (cutD ds lo hi) := by
  unfold cutV cutD
  rw [h.length]
  exact (h.drop _).take _
theorem cutD_whole {ds : List D} {lo hi : Option Int} (h : HT.sIx ds.length 0 lo = 0 ∧ HT.sIx ds.length ds.length hi = ds.length) : cutD ds lo hi = ds := by
  unfold cutD
  rw [h.1, h.2]
  simp
theorem de_sl {p2 : Pos} (ha : DE X F a wa) (hl : DO X F lo wl) (hh : DO X F hi wh) : DE X F (.Subscript a (.Slice lo hi none p2) pos) (wSl wa wl wh) := by
  refine de_of (pe_slice (sl_list.or sl_tupA) ha.run hl.run hh.run) (fun e Q Q' x x' h1 h2 q => ha.mono e _ _ _ _ (fun d e1 q1 => hl.mono e1 _ _ _ _ (fun o e2 q2 => hh.mono e2 _ _ _ _ (fun u e3 q3 => slD.mono (fun z y => h1 _ _ y) q3) h2 q2) h2 q1) h2 q) fun σ H Q q => ?_
  obtain ⟨e, G, r, q⟩ := q
  refine tE.mono ha.mono (fun v H1 z => ?_) (tE.any ha.mono r q)
  obtain ⟨e1, G1, d, s1, r1, rv, z⟩ := z
  refine ⟨e1, G1, r1, hl.mono e1 _ _ _ _ (fun o e2 z2 G2 H2 s2 r2 => ?_) (fun _ _ => PX.mono s1) z⟩
  refine ⟨e2, G2, r2, hh.mono e2 _ _ _ _ (fun u e3 z3 G3 H3 s3 r3 => ?_) (fun _ _ => PX.mono (s1.trans s2)) z2⟩
  have rv3 := rv.mono (s2.trans s3)
  have s13 := s1.trans (s2.trans s3)
  cases d with
  | list ds =>
    obtain ⟨l, xs, rfl, g1, ra⟩ := rv3.lst_inv
    exact .inl ⟨l, xs, rfl, SqL.of (r3.same _ _ g1), fun p hp => z3 _ (upd G3 p (.lst (cutV xs o u))) _ (s13.trans (sameNew r3.same hp)) (r3.new hp) (.lst upd_same ((ra.cut o u).mono (sameNew r3.same hp)))⟩
  | tuple ds =>
    obtain ⟨l, xs, rfl, g1, ra⟩ := rv3.tup_inv
    refine .inr ⟨l, xs, rfl, sameT r3.same g1, fun hw => ?_, fun hw p hp => z3 _ (upd G3 p (.tup (cutV xs o u))) _ (s13.trans (sameNew r3.same hp)) (r3.new hp) (.tup (SqT.of upd_same) ((ra.cut o u).mono (sameNew r3.same hp)))⟩
    rw [ra.length] at hw
    have z4 : _ := z3
    simp only [slD, cutD_whole hw] at z4
    exact z4 _ G3 _ s13 r3 rv3
  | _ => exact z3.elim
end
end L2.DL
set_option
      maxHeartbeats 1000000
namespace L2.DL
open PySem PySem.Spec
      PyProof.Rows
/-! ### defs, where nothing is being shown (repr wants that known) -/
structure FnG (P : Program) (w : World) (K : PySem.W.Frag) (mg : Str → Option Value) (base : Heap) (k : Nat) (f : Addr) (fd : FuncData) (ps : List Str) (sp : Sp) : Prop where
  len : ∀ vs H Q E,
        sp vs H Q E → vs.length = ps.length
  run : ∀ (A : Around) (outer : List Env) (s : Shared) (H : Hp) (args : Args) (us : List Value) (vs : List V) (Q : VK) (E : XK), A.guards = some [] → Room k A → Env0 P w K mg base A outer s H → BindsTo s fd args (ps.zip us) → Vals vs us →
    sp vs H Q E → codeAny (model P w) A (.call (.ref f) args) (CR (L2.CX P w) outer P w H s Q E) s
section
variable {P : Program} {w : World} {K :
      PySem.W.Frag} {mg : Str → Option Value} {base : Heap}
theorem FnG.mono {j k : Nat} {f : Addr} {fd : FuncData} {ps : List Str} {sp : Sp} (F : FnG P w K mg base j f fd ps sp) (h : j ≤ k) : FnG P w K mg base k f fd ps sp :=
  ⟨F.len, fun A outer s H args us vs Q E hg hr => F.run A outer s H args us vs Q E hg (hr.mono h)⟩
theorem FnG.imp {k : Nat} {f : Addr} {fd : FuncData} {ps : List Str} {sp sp' : Sp} (F : FnG P w K mg base k f fd ps sp) (h : ∀ vs H Q E, sp' vs H Q E → sp vs H Q E) : FnG P w K mg base k f fd ps sp' :=
  ⟨fun vs H Q E q => F.len vs H Q E (h _ _ _ _ q), fun A outer s H args us vs Q E hg hr e b r q => F.run A outer s H args us vs Q E hg hr e b r (h _ _ _ _ q)⟩
/-- a def by its body -/
theorem fnG_of {x qual : Str} {st : Stmt} {f : Addr} {fd : FuncData} {N ps : List Str} {k : Nat} {sp : Sp} (F : Fun K x qual st f fd) (S : FnScope N ps (defScope st)) (len : ∀ vs H Q E, sp vs H Q E → vs.length = ps.length)
    (hbody : ∀ (cdv : Value) (A : Around) (outer : List Env) (s : Shared) (H : Hp) (vs : List V) (Q : VK) (E : XK), A.guards = some [] → Room k (A.deeper (envOfC qual (defScope st) s.heap.objs.size f cdv)) → sp vs H Q E →
      ∃ t, PSs (cxOf (L2.CX P w) P w K mg base N qual (defScope st) f cdv A outer s H E) (defBody st) t ∧ t { nx := fun _ H' => Q .non H', rt := Q } (start N vs) H) : FnG P w K mg base (k + 1) f fd ps sp := by
  obtain ⟨oc, od, kV, doc, pm, an,
        cdv, ct, osl, rfl, lk, hcd⟩ := F.ex
  refine ⟨len, ?_⟩
  intro A outer s H args us vs Q E hg hr e0 hb rv hsp
  have kept : K.In s.heap := e0.mod.kin.keeps fun b o e => (e0.bs b o e).1
  have nlim : s.heap.NoLimit := e0.mod.nolimit.keeps fun b o e => (e0.bs b o e).1
  have names : ∀ y ∈ ps.zip us, (defScope st).names.lookup y.1 = some .local ∨ ((defScope st).names.lookup y.1 = some .cell ∧ ((cellsFrom (s.heap.objs.size + 1) (defScope st).names []).lookup y.1).isSome = true) := by
    intro y hy
    rcases S.par y.1 (List.of_mem_zip (a := y.1) (b := y.2) hy).1 with q | q
    · exact Or.inl q
    · exact Or.inr ⟨q, PySem.W.cellsFrom_some _ _ _ (Or.inl q)⟩
  apply codeAny_call_function hr.depth (kept _ _ lk) rfl S.co S.gen rfl (PySem.W.codeRec_of kept hcd)
  apply hb
  apply wpAny_newFunctionEnv_cells S.kind names
  intro env he s1 x
  cases he
  refine ⟨nlim.keeps x.toInCall.keep, codeAny_func ?_⟩
  obtain ⟨t, ht, hq⟩ := hbody cdv A outer s H vs Q E hg (hr.deeper _) hsp
  have J := inv_start (CX := L2.CX P w) (E := E) S hr.hd e0 (len _ _ _ _ hsp) rv x
  refine wpAny_mono (ht.run [] s1 (start N vs) H _ J hq) ?_ fun e s' z => z
  intro fl s' z
  cases fl with
  | ret u => obtain ⟨v, σ', H', J', r', q⟩ := z; exact ⟨v, H', J'.os, J'.bare, J'.base, J'.hok, r', q⟩
  | next => obtain ⟨σ', H', J', q⟩ := z; exact ⟨V.non, H', J'.os, J'.bare, J'.base, J'.hok, rfl, q⟩
  | brk => obtain ⟨_, _, _, q⟩ := z; exact q.elim
  | cont => obtain ⟨_, _, _, q⟩ := z; exact q.elim
end
/-! ### calls -/
abbrev Wc := List D → Nat → (D → Nat → Prop) → (D → Nat → Prop) → Prop
def Wc.Mono (w : Wc) : Prop := ∀ ds k Q Q' x x', (∀ d k, Q d k → Q' d k) → (∀ d k, x d k → x' d k) → w ds k Q x → w ds k Q' x'
/-- a def's promise over data -/
def spD (K : PySem.W.Frag) (w : Wc) : Sp := fun vs H Q E => ∃ p G ds k, Wd K p k G H ∧ RA K p G vs ds ∧
  w ds k (fun d k' => ∀ v G' H', Stp p G H G' H' → Wd K p k' G' H' → R K p G' v d → Q v H') (fun x k' => ∀ C G' H', Stp p G H G' H' → Wd K p k' G' H' → x = excD C → E (.ref C) none H')
def wCall (wf : Wc) (wa : WAx) : WEx := fun e Q x => wa e (fun ds e1 => wf ds e1.k (fun d k' => Q d { e1 with k := k' }) (fun y k' => x y { e1 with k := k' })) x
section
variable {X : Cx} {F : Fx} {pos : Pos} {a : Expr} {es : List Expr} {wr : WAx}
theorem wCall.mono {wf : Wc} (mf : wf.Mono) (m : MonoA wr) : Mono (wCall wf wr) := fun e Q Q' x x' h1 h2 q => m e _ _ _ _ (fun ds e1 z => mf ds e1.k _ _ _ _ (fun d k => h1 _ _) (fun d k => h2 _ _) z) h2 q
theorem run_fnG {W : WX} {k : Nat} {f : Addr} {fd : FuncData} {ps : List Str} {sp : Sp} {pins : List (Addr × Obj)} {σ : L2.St} {H : Hp} {s : Shared} {Q : VK} {us : List Value} {vs : List V}
    (FN : FnG X.prog X.w X.K X.mg X.base k f fd ps sp) (hg : X.A.guards = some []) (hr : Room k X.A) (hb : Binds X.K fd ps []) (tk : Takes X W) (I : Inv X pins σ H s) (r : Vals vs us) (h : sp vs H Q (WE W σ)) :
    wpAny (model X.prog X.w) X.A (call (.ref
          f) us) (EP X pins σ Q) X.xe s := by
  have hl : us.length = ps.length := by rw [← r.length]; exact FN.len _ _ _ _ h
  have b :=
        hb s us I.kIn (by rw [List.append_nil]; exact hl)
  rw [List.append_nil] at b
  apply wpAny_call
  refine codeAny_mono (FN.run X.A X.stack s H ⟨us, []⟩ us vs Q (WE W σ) hg hr I.env0 b r h) ?_
  intro res s' z
  cases res with
  | error e => exact passAt tk σ pins H s e s' I z
  | ok fl =>
    cases fl with
    | ret u => exact I.after z
    | next => exact z.elim
    | brk => exact z.elim
    | cont => exact z.elim
theorem pe_callG {W : WX} {k : Nat} {f : Addr} {fd : FuncData} {ps : List Str} {sp : Sp} {x : Str} {p : Pos} {t : TA} (FN : FnG X.prog X.w X.K X.mg X.base k f fd ps sp) (hgd : X.A.guards = some []) (hr : Room k X.A) (hg : Gl X x) (hm : X.mg x = some (.ref f)) (hk : PySem.W.keepIn X.K (.ref f) = true)
    (hb : Binds X.K fd ps []) (tk : Takes X W) (ha : PA X (a :: es) t) (hdb : (x == ("__debug__" : Str)) = false) (he : starEach (a :: es) X.env = (false, eval a X.env) :: starEach es X.env) (hpl : (backTo pos (starEach es X.env)).any (·.1) = false) :
    PE X (.Call (.Name x p) (a :: es) [] pos) (tCallS sp (WE W) t) := by
  constructor
  intro pins s σ H Q I h
  apply wpAny_Call_Name_kw
  apply ld_glob I hg hm _ hdb
  apply PySem.W.callWith_K (h₀ := X.base) I.ok.mod.kin hk _ he hpl
  exact thn (ha.run pos pins s σ H _ I h) fun us s1 ⟨vs, H1, I1, r, q⟩ => ⟨I1.kIn, run_fnG FN hgd hr hb tk I1 r q⟩
theorem tA.call {K : PySem.W.Frag} {wf : Wc} (mf : wf.Mono) (m : MonoA wr) {σ : L2.St} {H : Hp} {Q : VK} (q : tE K F (wCall wf wr) σ H Q) : tCallS (spD K wf) (WE F.W) (tA K F wr) σ H Q := by
  obtain ⟨e, G, r0, q⟩ := q
  refine tA.mono m (fun vs H1 z => ?_) (tA.bind m r0 q)
  obtain ⟨e1, G1, ds, s1, r1, ra, z⟩ := z
  exact ⟨F.p, G1, ds, e1.k, r1.wd, ra, mf ds e1.k _ _ _ _ (fun d k' h v G' H' st wd rv => h v G' H' (s1.trans st.gg) (r1.step st wd) rv) (fun y k' h C G' H' st wd ec => h C G' H' (s1.trans st.gg) (r1.step st wd) ec) z⟩
theorem de_call {wf : Wc} {k : Nat} {f : Addr} {fd : FuncData} {ps : List Str} {x : Str} {p : Pos} (FN : FnG X.prog X.w X.K X.mg X.base k f fd ps (spD X.K wf)) (mf : wf.Mono) (hgd : X.A.guards = some []) (hr : Room k X.A) (hm : X.mg x = some (.ref f)) (hk : PySem.W.keepIn X.K (.ref f) = true)
    (hb : Binds X.K fd ps []) (tk : Takes X F.W) (ha : DA X F (a :: es) wr) (hg : Gl X x := by rfl) (hdb : (x == ("__debug__" : Str)) = false := by decide) (he : starEach (a :: es) X.env = (false, eval a X.env) :: starEach es X.env := by rfl) (hpl : (backTo pos (starEach es X.env)).any (·.1) = false := by rfl) :
    DE X F (.Call (.Name x p) (a :: es) [] pos) (wCall wf wr) :=
  de_of (pe_callG FN hgd hr hg hm hk hb tk ha.run hdb he hpl) (wCall.mono mf ha.mono) fun _ _ _ q => tA.call mf ha.mono q
end
/-! ### statements -/
structure DEnds where
  nx : En → Prop
  rt : PD
  bk : En → Prop
  ct : En → Prop
  ex : PD
structure DEnds.le (A B : DEnds) : Prop where
  nx : ∀ e, A.nx e → B.nx e
  rt : ∀ d e, A.rt d e → B.rt d e
  bk : ∀ e, A.bk e → B.bk e
  ct : ∀ e, A.ct e → B.ct e
  ex : ∀ d e, A.ex d e → B.ex d e
abbrev WSt := En → DEnds → Prop
def MonoS (w : WSt) : Prop := ∀ e A B, DEnds.le A B → w e A → w e B
def endsOf (K : PySem.W.Frag) (F : Fx) (G : Hp) (D : Ends) : DEnds where
  nx := fun e' => ∀ σ' G' H', Same G G' → Rl K F.p F.G₀ F.H₀ G' H' σ' e' → D.nx σ' H'
  rt := fun d e' => ∀ v σ' G' H', Same G G' → Rl K F.p F.G₀ F.H₀ G' H' σ' e' → R K F.p G' v d → D.rt v H'
  bk := fun e' => ∀ σ' G' H', Same G G' → Rl K F.p F.G₀ F.H₀ G' H' σ' e' → D.bk σ' H'
  ct := fun e' => ∀ σ' G' H', Same G G' → Rl K F.p F.G₀ F.H₀ G' H' σ' e' → D.ct σ' H'
  ex := fun x e' => ∀ C σ' G' H', Same G G' → Rl K F.p F.G₀ F.H₀ G' H' σ' e' → x = excD C → F.W (.ref C) none σ' H'
def tS (K : PySem.W.Frag) (F : Fx) (w : WSt) : TS := fun D σ H => ∃ e G, Rl K F.p F.G₀ F.H₀ G H σ e ∧ w e (endsOf K F G D)
structure DS (X : Cx) (F : Fx) (st : Stmt) (w : WSt) : Prop where
  run : PS X st (tS X.K F w)
  mono : MonoS w
structure DSs (X : Cx) (F : Fx) (st : List Stmt) (w : WSt) : Prop where
  run : PSs X st (tS X.K F w)
  mono : MonoS w
def put (e : En) (i : Nat) (z : Slot) : En := { e with s := e.s.set i z }
section
variable {K : PySem.W.Frag} {F : Fx} {σ : L2.St} {H : Hp} {X : Cx} {pos : Pos} {a b c : Expr} {st : Stmt} {rest : List Stmt} {wa wb : WEx} {w1 w2 : WSt}
theorem endsOf.le {G G' : Hp} {D : Ends} (s : Same G G') : DEnds.le (endsOf K F G D) (endsOf K F G' D) :=
  ⟨fun _ h σ' G2 H2 s2 => h σ' G2 H2 (s.trans s2), fun _ _ h v σ' G2 H2 s2 => h v σ' G2 H2 (s.trans s2), fun _ h σ' G2 H2 s2 => h σ' G2 H2 (s.trans s2), fun _ h σ' G2 H2 s2 => h σ' G2 H2 (s.trans s2), fun _ _ h C σ' G2 H2 s2 => h C σ' G2 H2 (s.trans s2)⟩
theorem DEnds.le.refl (A : DEnds) : DEnds.le A A := ⟨fun _ z => z, fun _ _ z => z, fun _ z => z, fun _ z => z, fun _ _ z => z⟩
theorem ds_of {t : TS} {w : WSt} (h : PS X st t) (m : MonoS w) (i : ∀ D σ H, tS X.K F w D σ H → t D σ H) : DS X F st w :=
  ⟨⟨fun pins s σ H D I q => h.run pins s σ H D I (i D σ H q)⟩, m⟩
theorem dss_of {t : TS} {w : WSt} {sts : List Stmt} (h : PSs X sts t) (m : MonoS w) (i : ∀ D σ H, tS X.K F w D σ H → t D σ H) : DSs X F sts w :=
  ⟨⟨fun pins s σ H D I q => h.run pins s σ H D I (i D σ H q)⟩, m⟩
def wNext : WSt := fun e D => D.nx e
def wSeq (w1 w2 : WSt) : WSt := fun e D => w1 e { D with nx := fun e' => w2 e' D }
theorem wSeq.mono (m1 : MonoS w1) (m2 : MonoS w2) : MonoS (wSeq w1 w2) := fun e A B l q => m1 e { A with nx := fun e' => w2 e' A } _ ⟨fun e' z => m2 e' _ _ l z, l.rt, l.bk, l.ct, l.ex⟩ q
theorem tS.seq (m1 : MonoS w1) (m2 : MonoS w2) {D : Ends} (q : tS K F (wSeq w1 w2) D σ H) : tSeq (tS K F w1) (tS K F w2) D σ H := by
  obtain ⟨e, G, r, q⟩ := q
  exact ⟨e, G, r, m1 e { endsOf K F G D with nx := fun e' => w2 e' (endsOf K F G D) } _ ⟨fun e' z σ' G' H' s r' => ⟨e', G', r', m2 e' _ _ (endsOf.le s) z⟩, fun _ _ z => z, fun _ z => z, fun _ z => z, fun _ _ z => z⟩ q⟩
theorem dss_nil : DSs X F [] wNext := dss_of pss_nil (fun _ _ _ l z => l.nx _ z) fun D σ H ⟨e, G, r, q⟩ => q σ G H (Same.refl G) r
theorem dss_one (h : DS X F st w1) : DSs X F [st] w1 := dss_of (pss_one h.run) h.mono fun _ _ _ q => q
theorem dss_cons (h1 : DS X F st w1) (h2 : DSs X F rest w2) : DSs X F (st :: rest) (wSeq w1 w2) := dss_of (pss_cons h1.run h2.run) (wSeq.mono h1.mono h2.mono) fun _ _ _ q => tS.seq h1.mono h2.mono q
/-- an expression in a statement -/
theorem tS.expr {w : WEx} {k : DEnds → PD} {D : Ends} {T : VK} (m : Mono w) {e : En} {G : Hp} (r : Rl K F.p F.G₀ F.H₀ G H σ e) (q : w e (k (endsOf K F G D)) (endsOf K F G D).ex)
    (hk : ∀ d e' v G' H', Same G G' → Rl K F.p F.G₀ F.H₀ G' H' σ e' → R K F.p G' v d → k (endsOf K F G D) d e' → T v H') : tE K F w σ H T :=
  ⟨e, G, r, m e _ _ _ _ (fun d e' z v G' H' s r' rv => hk d e' v G' H' s r' rv z) (fun y e' z C G' H' s r' ec => z C σ G' H' s r' ec) q⟩
def wDrop (w : WEx) : WSt := fun e D => w e (fun _ e1 => D.nx e1) D.ex
def wRet (w : WEx) : WSt := fun e D => w e D.rt D.ex
def wSet (i : Nat) (w : WEx) : WSt := fun e D => w e (fun d e1 => D.nx (put e1 i (.dat d))) D.ex
theorem wDrop.mono (m : Mono wa) : MonoS (wDrop wa) := fun e A B l q => m e _ _ _ _ (fun _ _ z => l.nx _ z) l.ex q
theorem wRet.mono (m : Mono wa) : MonoS (wRet wa) := fun e A B l q => m e _ _ _ _ l.rt l.ex q
theorem wSet.mono {i : Nat} (m : Mono wa) : MonoS (wSet i wa) := fun e A B l q => m e _ _ _ _ (fun _ _ z => l.nx _ z) l.ex q
theorem ds_drop (h : DE X F a wa) (hs : swapsWith a none pos.line X.env = pure false := by rfl) : DS X F (.Expr a pos) (wDrop wa) :=
  ds_of (ps_expr h.run hs) (wDrop.mono h.mono) fun D σ H ⟨e, G, r, q⟩ => tS.expr (k := fun D _ e1 => D.nx e1) h.mono r q fun d e' v G' H' s r' rv z => z σ G' H' s r'
theorem ds_ret (h : DE X F a wa) : DS X F (.Return (some a) pos) (wRet wa) :=
  ds_of (ps_ret h.run) (wRet.mono h.mono) fun D σ H ⟨e, G, r, q⟩ => tS.expr (k := fun D => D.rt) h.mono r q fun d e' v G' H' s r' rv z => z v σ G' H' s r' rv
theorem Rl.put {p : Option Addr} {G₀ H₀ G : Hp} {e : En} {i : Nat} {v : V} {d : D} (r : Rl K p G₀ H₀ G H σ e) (rv : R K p G v d) : Rl K p G₀ H₀ G H (σ.set i (some v)) (put e i (.dat d)) := by
  obtain ⟨α, r⟩ := r
  have own_ne : ∀ {j : Nat} {ds}, (e.s.set i (.dat d))[j]? = some (.own ds) → j ≠ i ∧ e.s[j]? = some (.own ds) := fun {j ds} h => by
    by_cases hj : i = j
    · subst hj
      by_cases hl : i < e.s.length
      · rw [List.getElem?_set_self hl] at h; cases h
      · rw [List.getElem?_eq_none (by simpa using hl)] at h; cases h
    · rw [List.getElem?_set_ne hj] at h
      exact ⟨Ne.symm hj, h⟩
  refine ⟨α, r.w, r.st, by simpa [DL.put] using r.len, fun j d' h => ?_, fun j ds h => ?_, fun j k ds es h1 h2 => r.sep j k ds es (own_ne h1).2 (own_ne h2).2⟩
  · have h' : (e.s.set i (.dat d))[j]? = some (.dat d') := h
    by_cases hj : i = j
    · subst hj
      by_cases hl : i < e.s.length
      · rw [List.getElem?_set_self hl] at h'
        cases h'
        exact ⟨v, List.getElem?_set_self (by rw [r.len]; exact hl), rv⟩
      · rw [List.getElem?_eq_none (by simpa using hl)] at h'; cases h'
    · rw [List.getElem?_set_ne hj] at h'
      rw [List.getElem?_set_ne hj]
      exact r.dat j d' h'
  · obtain ⟨hj, h'⟩ := own_ne h
    rw [List.getElem?_set_ne (Ne.symm hj)]
    exact r.own j ds h'
theorem ds_set {i : Nat} {x : Str} {p2 : Pos} (h : DE X F a wa) (hN : X.N.Nodup) (hi : X.N[i]? = some x := by rfl) (hx : Loc X.env.scope x := by first | exact Or.inl rfl | exact Or.inr rfl) (hs : swapsWith a (some (.Name x p2)) pos.line X.env = pure false := by rfl)
    (hf : X.fn x = true ∨ X.env.scope.names.lookup x = some .local := by first | exact Or.inl rfl | exact Or.inr rfl) : DS X F (.Assign [.Name x p2] a pos) (wSet i wa) :=
  ds_of (ps_set hN hi hx h.run hs hf) (wSet.mono h.mono) fun D σ H ⟨e, G, r, q⟩ => tS.expr (k := fun D d e1 => D.nx (DL.put e1 i (.dat d))) h.mono r q fun d e' v G' H' s r' rv z => z _ G' H' s (r'.put rv)
def wIfS (c : WTx) (u v : WSt) : WSt := fun e D => c e (fun k e1 => if k = true then u e1 D else v e1 D) D.ex
theorem wIfS.mono {cw : WTx} (m : MonoT cw) (m1 : MonoS w1) (m2 : MonoS w2) : MonoS (wIfS cw w1 w2) := fun e A B l q => m e _ _ _ _ (fun k e1 z => by
  cases k with
  | true => exact m1 e1 _ _ l z
  | false => exact m2 e1 _ _ l z) l.ex q
theorem ds_if {cw : WTx} {xs ys : List Stmt} (hc : DT X F c cw) (h1 : DSs X F xs w1) (h2 : DSs X F ys w2) : DS X F (.If c xs ys pos) (wIfS cw w1 w2) :=
  ds_of (ps_if hc.run h1.run h2.run) (wIfS.mono hc.mono h1.mono h2.mono) fun D σ H ⟨e, G, r, q⟩ =>
    ⟨e, G, r, hc.mono e _ _ _ _ (fun k e1 z G' H' s r' => by
      cases k with
      | true => exact ⟨e1, G', r', h1.mono e1 _ _ (endsOf.le s) z⟩
      | false => exact ⟨e1, G', r', h2.mono e1 _ _ (endsOf.le s) z⟩) (fun y e' z C G' H' s r' ec => z C σ G' H' s r' ec) q⟩
end
end L2.DL
set_option
      maxHeartbeats 1000000
namespace L2.DL
open PySem PySem.Spec
      PyProof.Rows
/-! ### targets -/
abbrev WG := D → En → (En → Prop) → Prop
def MonoG (g : WG) : Prop := ∀ d e Q Q', (∀ e, Q e → Q' e) → g d e Q → g d e Q'
def tG (K : PySem.W.Frag) (F : Fx) (g : WG) : TG := fun v σ H Q => ∃ e G d, Rl K F.p F.G₀ F.H₀ G H σ e ∧ R K F.p G v d ∧ g d e fun e' => ∀ σ' H', Rl K F.p F.G₀ F.H₀ G H' σ' e' → Q σ' H'
structure DG (X : Cx) (F : Fx) (e : Expr) (g : WG) : Prop where
  run : PG X e (tG X.K F g)
  mono : MonoG g
def gNm (i : Nat) : WG := fun d e Q => Q (put e i (.dat d))
def puts : En → List Nat → List D → En
  | e, i :: is, d :: ds => puts (put e i (.dat d)) is ds
  | e, _, _ => e
def gTp (is : List Nat) : WG := fun d e Q => ∃ ds, d = .tuple ds ∧ ds.length = is.length ∧ Q (puts e is ds)
def setsV : L2.St → List Nat → List V → L2.St
  | σ, i :: is, v :: vs => setsV (σ.set i (some v)) is vs
  | σ, _, _ => σ
section
variable {K : PySem.W.Frag} {F : Fx} {σ : L2.St} {H : Hp} {X : Cx} {pos : Pos}
theorem gNm.mono {i : Nat} : MonoG (gNm i) := fun _ _ _ _ h q => h _ q
theorem gTp.mono {is : List Nat} : MonoG (gTp is) := fun _ _ _ _ h ⟨ds, e, l, q⟩ => ⟨ds, e, l, h _ q⟩
theorem dg_nm {i : Nat} {x : Str} (hN : X.N.Nodup) (hi : X.N[i]? = some x := by rfl) (hx : Loc X.env.scope x := by first | exact Or.inl rfl | exact Or.inr rfl) (hf : X.fn x = true ∨ X.env.scope.names.lookup x = some .local := by first | exact Or.inl rfl | exact Or.inr rfl) : DG X F (.Name x pos) (gNm i) :=
  ⟨⟨fun pins s σ H v u Q I r ⟨e, G, d, rl, rv, q⟩ => (pg_name hN hi hx hf).run pins s σ H v u Q I r (q _ _ (rl.put rv))⟩, gNm.mono⟩
/-- names one after another -/
structure DGs (X : Cx) (es : List Expr) (is : List Nat) : Prop where
  run : PGs X es (fun vs σ H Q => vs.length = is.length ∧ Q (setsV σ is vs) H)
theorem dgs_nil : DGs X [] [] := ⟨⟨fun pins s σ H vs us Q I r h => by
  obtain ⟨hl, q⟩ := h
  cases vs with
  | nil => exact pgs_nil.run pins s σ H [] us Q I r ⟨rfl, q⟩
  | cons v vs => cases hl⟩⟩
theorem dgs_cons {i : Nat} {is : List Nat} {x : Str} {es : List Expr} (hN : X.N.Nodup) (h : DGs X es is) (hi : X.N[i]? = some x := by rfl) (hx : Loc X.env.scope x := by first | exact Or.inl rfl | exact Or.inr rfl) (hf : X.fn x = true ∨ X.env.scope.names.lookup x = some .local := by first | exact Or.inl rfl | exact Or.inr rfl)
    (hs : (assignEach (.Name x pos :: es) X.env).map (·.2) = assign (.Name x pos) X.env :: (assignEach es X.env).map (·.2) := by rfl) : DGs X (.Name x pos :: es) (i :: is) := ⟨⟨fun pins s σ H vs us Q I r h' => by
  obtain ⟨hl, q⟩ := h'
  cases vs with
  | nil => cases hl
  | cons v vs => exact (pgs_cons (pg_name hN hi hx hf) h.run hs).run pins s σ H _ us Q I r ⟨v, vs, rfl, Nat.succ.inj hl, q⟩⟩⟩
theorem Rl.puts {p : Option Addr} {G₀ H₀ G : Hp} : ∀ {is : List Nat} {vs : List V} {ds : List D} {σ : L2.St} {e : En}, Rl K p G₀ H₀ G H σ e → RA K p G vs ds → Rl K p G₀ H₀ G H (setsV σ is vs) (DL.puts e is ds)
  | [], _, _, _, _, r, _ => by unfold setsV DL.puts; exact r
  | i :: is, _, _, _, _, r, .nil => by unfold setsV DL.puts; exact r
  | i :: is, _, _, _, _, r, .cons h t => by
    unfold setsV DL.puts
    exact Rl.puts (r.put h) t
theorem dg_tp {is : List Nat} {es : List Expr} {k : Nat} (hc : X.calm = true) (h : DGs X es is) (hn : (assignEach es X.env).length = is.length := by rfl) (hst : (assignEach es X.env).findIdx? (·.1) = none := by rfl) : DG X F (.Tuple es k pos) (gTp is) :=
  ⟨⟨fun pins s σ H v u Q I r ⟨e, G, d, rl, rv, ds, ed, hl, q⟩ => by
    subst ed
    obtain ⟨a, xs, rfl, h1, ra⟩ := rv.tup_inv
    exact (pg_tup hc h.run hn hst).run pins s σ H _ u Q I r ⟨a, xs, rfl, sameT rl.same h1, by rw [ra.length]; exact hl, by rw [ra.length]; exact hl, q _ _ (rl.puts ra)⟩⟩, gTp.mono⟩
end
/-! ### what is walked -/
structure WalkD (K : PySem.W.Frag) (p : Option Addr) (J : It) (ds : List D) (G : Hp) : Prop where
  goes : ∀ i H, i < ds.length → Same G H → J.go i H
  stops : ∀ H, Same G H → J.stop ds.length H
  yields : ∀ i H x H' d, ds[i]? = some d → Same G H → J.yld i H x H' → (H' = H ∧ R K p G x d) ∨ ∃ T xs es, x = .ref T ∧ H T = none ∧ H' = upd H T (.tup xs) ∧ d = .tuple es ∧ RA K p G xs es
def tI (K : PySem.W.Frag) (F : Fx) (w : WAx) : TI := fun σ H R => ∃ e G, Rl K F.p F.G₀ F.H₀ G H σ e ∧
  w e (fun ds e' => ∀ J G' H', Same G G' → Rl K F.p F.G₀ F.H₀ G' H' σ e' → WalkD K F.p J ds G' → R J H') (PX K F.p F.G₀ F.H₀ F.W G σ)
structure DI (X : Cx) (F : Fx) (tg iter : Expr) (w : WAx) : Prop where
  run : PI X tg iter (tI X.K F w)
  mono : MonoA w
def wSeqI (w : WEx) : WAx := fun e Q x => w e (fun d e1 => ∃ ds, items d = some ds ∧ Q ds e1) x
theorem wSeqI.mono {w : WEx} (m : Mono w) : MonoA (wSeqI w) := fun e Q Q' x x' h1 h2 q => m e _ _ _ _ (fun d e1 ⟨ds, i, z⟩ => ⟨ds, i, h1 _ _ z⟩) h2 q
section
variable {K : PySem.W.Frag} {F : Fx} {σ : L2.St} {H : Hp} {X : Cx} {pos : Pos} {a b tg : Expr} {wa wb : WEx} {p : Option Addr} {G : Hp}
theorem walkD_list {l : Addr} {xs : List V} {ds : List D} (h : G l = some (.lst xs)) (r : RA K p G xs ds) : WalkD K p (Itl K l) ds G where
  goes := fun i H hi s => (walk_list (K := K) (a := l) (xs := xs)).goes i H (by rw [r.length]; exact hi) (SqL.of (s _ _ h))
  stops := fun H s => by have q := (walk_list (K := K) (a := l) (xs := xs)).stops H (SqL.of (s _ _ h)); rw [r.length] at q; exact q
  yields := fun i H x H' d hd s y => by
    obtain ⟨v, hv, rv⟩ := r.get hd
    obtain ⟨e1, e2⟩ := (walk_list (K := K) (a := l) (xs := xs)).yields i H x H' (by rw [r.length]; exact (List.getElem?_eq_some_iff.mp hd).1) (SqL.of (s _ _ h)) y
    rw [hv] at e2
    cases e2
    exact .inl ⟨e1, rv⟩
theorem walkD_tup {l : Addr} {xs : List V} {ds : List D} (h : SqT K G l xs) (r : RA K p G xs ds) : WalkD K p (Itt K l) ds G where
  goes := fun i H hi s => (walk_tup (K := K) (a := l) (xs := xs)).goes i H (by rw [r.length]; exact hi) (sameT s h)
  stops := fun H s => by have q := (walk_tup (K := K) (a := l) (xs := xs)).stops H (sameT s h); rw [r.length] at q; exact q
  yields := fun i H x H' d hd s y => by
    obtain ⟨v, hv, rv⟩ := r.get hd
    obtain ⟨e1, e2⟩ := (walk_tup (K := K) (a := l) (xs := xs)).yields i H x H' (by rw [r.length]; exact (List.getElem?_eq_some_iff.mp hd).1) (sameT s h) y
    rw [hv] at e2
    cases e2
    exact .inl ⟨e1, rv⟩
/-- a list or a tuple is walked -/
theorem di_seq (h : DE X F a wa) : DI X F tg a (wSeqI wa) := by
  refine ⟨⟨fun pins s σ H R I q => ?_⟩, wSeqI.mono h.mono⟩
  obtain ⟨e, G, r, q⟩ := q
  refine thn (h.run.run pins s σ H _ I (tE.any h.mono r q)) fun v s1 hv => ?_
  obtain ⟨x, H1, I1, rx, e1, G1, d, s1', r1, rd, ds, hi, z⟩ := hv
  have new : ∀ (o : Obj) (J : It) (tn : Nat → Heap → Prop), Turn X.prog X.w X.K tg J [s1.heap.objs.size] s1.heap.objs.size tn → tn 0 (s1.heap.push o) → R J H1 → PIE X pins σ tg R (.ref s1.heap.objs.size) { s1 with heap := s1.heap.push o } := fun o J tn T st q =>
    ⟨s1.heap.objs.size, [s1.heap.objs.size], tn, J, H1, rfl, I1.kept (t' := s1.toks) fun b o e => Heap.get?_push_of_some _ e, T, st, fun b hb => by
      cases List.mem_singleton.mp hb
      exact I1.fpOk (Nat.le_refl _) (I1.hok.fresh (Nat.le_refl _)), q⟩
  cases d with
  | list es =>
    cases hi
    obtain ⟨l, xs, rfl, g1, ra⟩ := rd.lst_inv
    cases rx
    obtain ⟨its, rv, pl, hz⟩ := I1.list (SqL.of (K := X.K) (r1.same _ _ g1))
    exact wpAny_pyIter_list pl.isList (new _ _ _ (turn_list l _) ⟨_, Heap.get?_push_size _ rfl, rfl, rfl⟩ (z _ G1 H1 s1' r1 (walkD_list g1 ra)))
  | tuple es =>
    cases hi
    obtain ⟨l, xs, rfl, g1, ra⟩ := rd.tup_inv
    cases rx
    obtain ⟨its, rv, pl, hz⟩ := I1.tuple (sameT r1.same g1)
    exact wpAny_pyIter_tuple pl (new _ _ _ (turn_tuple l _) ⟨_, Heap.get?_push_size _ rfl, rfl, rfl⟩ (z _ G1 H1 s1' r1 (walkD_tup g1 ra)))
  | none => cases hi
  | bool b => cases hi
  | int i => cases hi
  | str x => cases hi
  | dict kvs => cases hi
/-- range(n), range(m, n) -/
def rngD (lo : Int) (n : Nat) : List D := (List.range n).map fun i => .int (lo + (i : Nat))
theorem rngD_at {lo : Int} {n i : Nat} {d : D} (h : (rngD lo n)[i]? = some d) : i < n ∧ d = .int (lo + (i : Nat)) := by
  unfold rngD at h
  rw [List.getElem?_map] at h
  by_cases hi : i < n
  · rw [List.getElem?_range hi] at h
    cases h
    exact ⟨hi, rfl⟩
  · rw [List.getElem?_eq_none (by simpa using hi)] at h
    cases h
theorem rngD_length {lo : Int} {n : Nat} : (rngD lo n).length = n := by unfold rngD; simp
theorem walkD_range {lo : Int} {n : Nat} : WalkD K p (Itr lo n) (rngD lo n) G where
  goes := fun i H hi _ => by rw [rngD_length] at hi; exact hi
  stops := fun H _ => by rw [rngD_length]; exact Nat.le_refl _
  yields := fun i H x H' d hd _ y => by
    obtain ⟨_, rfl⟩ := rngD_at hd
    obtain ⟨e1, e2⟩ := y
    subst e2
    exact .inl ⟨e1, .int _⟩
def wRng1 (w : WEx) : WAx := fun e Q x => w e (fun d e1 => ∃ j, d = .int j ∧ -(2 ^ 62) ≤ j ∧ j < 2 ^ 62 ∧ Q (rngD 0 j.toNat) e1) x
def wRng2 (w u : WEx) : WAx := fun e Q x => w e (fun d e1 => u e1 (fun d' e2 => ∃ i j, d = .int i ∧ d' = .int j ∧ (-(2 ^ 62) ≤ i ∧ i < 2 ^ 62 ∧ -(2 ^ 62) ≤ j ∧ j < 2 ^ 62) ∧ Q (rngD i (j - i).toNat) e2) x) x
theorem wRng1.mono (m : Mono wa) : MonoA (wRng1 wa) := fun e Q Q' x x' h1 h2 q => m e _ _ _ _ (fun d e1 ⟨j, i1, i2, i3, z⟩ => ⟨j, i1, i2, i3, h1 _ _ z⟩) h2 q
theorem wRng2.mono (m : Mono wa) (m' : Mono wb) : MonoA (wRng2 wa wb) := fun e Q Q' x x' h1 h2 q => m e _ _ _ _ (fun d e1 z => m' e1 _ _ _ _ (fun d' e2 ⟨i, j, i1, i2, i3, z⟩ => ⟨i, j, i1, i2, i3, h1 _ _ z⟩) h2 z) h2 q
theorem di_of {iter : Expr} {t : TI} {w : WAx} (h : PI X tg iter t) (m : MonoA w) (i : ∀ σ H Q, tI X.K F w σ H Q → t σ H Q) : DI X F tg iter w := ⟨⟨fun pins s σ H R I q => h.run pins s σ H R I (i σ H R q)⟩, m⟩
theorem di_rng1 {q : Pos} (h : DE X F a wa) (hm : X.mg "range" = none) (hg : Gl X "range" := by rfl) (hs : starEach [a] X.env = [(false, eval a X.env)] := by rfl) : DI X F tg (.Call (.Name "range" q) [a] [] pos) (wRng1 wa) :=
  di_of (pi_range1 hg hm (pa_cons h.run pa_nil hs) hs) (wRng1.mono h.mono) fun σ H R ⟨e, G, r, z⟩ => by
    refine tE.mono h.mono (fun v H1 z => ?_) (tE.any h.mono r z)
    obtain ⟨e1, G1, d, s1, r1, rd, j, rfl, i1, i2, z⟩ := z
    cases rd.int_inv
    exact ⟨j, rfl, i1, i2, z _ G1 H1 s1 r1 walkD_range⟩
/-- enumerate(xs) of a list, zip of two lists or of two tuples -/
def pairs (xs ys : List D) : List D := List.zipWith (fun x y => .tuple [x, y]) xs ys
def wEnum (w : WEx) : WAx := fun e Q x => w e (fun d e1 => ∃ ds, d = .list ds ∧ Q (pairs (rngD 0 ds.length) ds) e1) x
theorem wEnum.mono (m : Mono wa) : MonoA (wEnum wa) := fun e Q Q' x x' h1 h2 q => m e _ _ _ _ (fun d e1 ⟨ds, i, z⟩ => ⟨ds, i, h1 _ _ z⟩) h2 q
def wZip (w u : WEx) : WAx := fun e Q x => w e (fun d e1 => u e1 (fun d' e2 => ∃ xs ys, ((d = .list xs ∧ d' = .list ys) ∨ (d = .tuple xs ∧ d' = .tuple ys)) ∧ Q (pairs xs ys) e2) x) x
theorem wZip.mono (m : Mono wa) (m' : Mono wb) : MonoA (wZip wa wb) := fun e Q Q' x x' h1 h2 q => m e _ _ _ _ (fun d e1 z => m' e1 _ _ _ _ (fun d' e2 ⟨xs, ys, i, z⟩ => ⟨xs, ys, i, h1 _ _ z⟩) h2 z) h2 q
theorem pairs_at {xs ys : List D} {i : Nat} {d : D} (h : (pairs xs ys)[i]? = some d) : ∃ x y, xs[i]? = some x ∧ ys[i]? = some y ∧ d = .tuple [x, y] := by
  unfold pairs at h
  rw [List.getElem?_zipWith] at h
  cases h1 : xs[i]? with
  | none =>
        rw [h1] at h; cases h
  | some x =>
    cases h2 : ys[i]? with
    | none => rw [h1,
          h2] at h; cases h
    | some y => rw [h1, h2] at h; cases h; exact ⟨x, y, rfl, rfl, rfl⟩
theorem pairs_length {xs ys : List D} : (pairs xs ys).length = min xs.length ys.length := by unfold pairs; simp
theorem walkD_enum {l : Addr} {xs : List V} {ds : List D} (h : G l = some (.lst xs)) (r : RA K p G xs ds) : WalkD K p (Ite K l) (pairs (rngD 0 ds.length) ds) G where
  goes := fun i H hi s => (walk_enum (K := K) (a := l) (xs := xs)).goes i H (by rw [pairs_length, rngD_length] at hi; rw [r.length]; omega) (SqL.of (s _ _ h))
  stops := fun H s => by have q := (walk_enum (K := K) (a := l) (xs := xs)).stops H (SqL.of (s _ _ h)); rw [r.length] at q; rw [pairs_length, rngD_length, Nat.min_self]; exact q
  yields := fun i H x H' d hd s y => by
    obtain ⟨d1, d2, h1, h2, rfl⟩ := pairs_at hd
    obtain ⟨_, rfl⟩ := rngD_at h1
    obtain ⟨v, hv, rv⟩ := r.get h2
    obtain ⟨T, x1, x2, e1, e2, e3, e4, e5⟩ := (walk_enum (K := K) (a := l) (xs := xs)).yields i H x H' (by rw [r.length]; exact (List.getElem?_eq_some_iff.mp h2).1) (SqL.of (s _ _ h)) y
    dsimp only at e4 e5
    rw [hv] at e5
    cases e5
    cases e4
    exact .inr ⟨T, _, _, e1, e2, e3, rfl, .cons (by rw [Int.zero_add]; exact .int _) (.cons rv .nil)⟩
theorem di_enum {q tp : Pos} {elts : List Expr} {kk : Nat} (h : DE X F a wa) (hm : X.mg "enumerate" = none) (hg : Gl X "enumerate" := by rfl) (hs : starEach [a] X.env = [(false, eval a X.env)] := by rfl) : DI X F (.Tuple elts kk tp) (.Call (.Name "enumerate" q) [a] [] pos) (wEnum wa) :=
  di_of (pi_enum hg hm (pa_cons h.run pa_nil hs) hs) (wEnum.mono h.mono) fun σ H R ⟨e, G, r, z⟩ => by
    refine tE.mono h.mono (fun v H1 z => ?_) (tE.any h.mono r z)
    obtain ⟨e1, G1, d, s1, r1, rd, ds, rfl, z⟩ := z
    obtain ⟨l, xs, rfl, g1, ra⟩ := rd.lst_inv
    exact ⟨l, xs, rfl, SqL.of (r1.same _ _ g1), z _ G1 H1 s1 r1 (walkD_enum g1 ra)⟩
theorem walkD_zipL {l m : Addr} {xs ys : List V} {ds es : List D} (h : G l = some (.lst xs)) (h' : G m = some (.lst ys)) (r : RA K p G xs ds) (r' : RA K p G ys es) : WalkD K p (Itz K l m) (pairs ds es) G where
  goes := fun i H hi s => by
    rw [pairs_length] at hi
    exact (walk_zip (K := K) (a := l) (b := m) (xs := xs) (ys := ys) rfl).goes i H (by rw [r.length, r'.length]; exact hi) ⟨SqL.of (s _ _ h), SqL.of (s _ _ h')⟩
  stops := fun H s => by have q := (walk_zip (K := K) (a := l) (b := m) (xs := xs) (ys := ys) rfl).stops H ⟨SqL.of (s _ _ h), SqL.of (s _ _ h')⟩; rw [r.length, r'.length] at q; rw [pairs_length]; exact q
  yields := fun i H x H' d hd s y => by
    obtain ⟨d1, d2, h1, h2, rfl⟩ := pairs_at hd
    obtain ⟨v, hv, rv⟩ := r.get h1
    obtain ⟨v', hv', rv'⟩ := r'.get h2
    obtain ⟨T, x1, x2, e1, e2, e3, e4, e5⟩ := (walk_zip (K := K) (a := l) (b := m) (xs := xs) (ys := ys) rfl).yields i H x H' (by have := (List.getElem?_eq_some_iff.mp hv).1; have := (List.getElem?_eq_some_iff.mp hv').1; omega) ⟨SqL.of (s _ _ h), SqL.of (s _ _ h')⟩ y
    dsimp only at e4 e5
    rw [hv] at e4
    rw [hv'] at e5
    cases e5
    cases e4
    exact .inr ⟨T, _, _, e1, e2, e3, rfl, .cons rv (.cons rv' .nil)⟩
theorem walkD_zipT {l m : Addr} {xs ys : List V} {ds es : List D} (h : SqT K G l xs) (h' : SqT K G m ys) (r : RA K p G xs ds) (r' : RA K p G ys es) : WalkD K p (RZ.ItzT K l m) (pairs ds es) G where
  goes := fun i H hi s => by
    rw [pairs_length] at hi
    have h1 : i < xs.length := by rw [r.length]; omega
    have h2 : i < ys.length := by rw [r'.length]; omega
    exact ⟨xs, ys, xs[i], ys[i], sameT s h, sameT s h', by simp [h1], by simp [h2]⟩
  stops := fun H s => ⟨xs, ys, sameT s h, sameT s h', by rw [pairs_length, r.length, r'.length]; omega⟩
  yields := fun i H x H' d hd s y => by
    obtain ⟨d1, d2, h1, h2, rfl⟩ := pairs_at hd
    obtain ⟨v, hv, rv⟩ := r.get h1
    obtain ⟨v', hv', rv'⟩ := r'.get h2
    obtain ⟨T, x1, x2, e1, e2, e3, e4, e5⟩ := y
    have e4 := e4 xs (sameT s h)
    have e5 := e5 ys (sameT s h')
    rw [hv] at e4
    rw [hv'] at e5
    cases e5
    cases e4
    exact .inr ⟨T, _, _, e1, e2, e3, rfl, .cons rv (.cons rv' .nil)⟩
theorem di_zip {q tp : Pos} {elts : List Expr} {kk : Nat} (h : DE X F a wa) (h' : DE X F b wb) (hm : X.mg "zip" = none) (hg : Gl X "zip" := by rfl) (hs2 : starEach [b] X.env = [(false, eval b X.env)] := by rfl)
    (hs : starEach [a, b] X.env = (false, eval a X.env) :: starEach [b] X.env := by rfl) (hpl : (backTo pos (starEach [b] X.env)).any (·.1) = false := by rfl) : DI X F (.Tuple elts kk tp) (.Call (.Name "zip" q) [a, b] [] pos) (wZip wa wb) :=
  di_of (RZ.pi_zipA hg hm (pa_cons h.run (pa_cons h'.run pa_nil hs2) hs) hs hpl) (wZip.mono h.mono h'.mono) fun σ H R ⟨e, G, r, z⟩ => by
    refine tE.mono h.mono (fun v H1 z => ?_) (tE.any h.mono r z)
    obtain ⟨e1, G1, d, s1, r1, rd, z⟩ := z
    refine tE.mono h'.mono (fun v' H2 z => ?_) (tE.any h'.mono r1 (h'.mono e1 _ _ _ _ (fun _ _ z => z) (fun _ _ => PX.mono s1) z))
    obtain ⟨e2, G2, d', s2, r2, rd', xs, ys, i, y⟩ := z
    rcases i with ⟨i1, i2⟩ | ⟨i1, i2⟩
    · rw [i1] at rd
      rw [i2] at rd'
      obtain ⟨l, vs, ev, g1, ra⟩ := (rd.mono s2).lst_inv
      obtain ⟨m, ws, ew, g2, ra'⟩ := rd'.lst_inv
      exact ⟨l, m, vs, ws, by rw [ev, ew], .inl ⟨SqL.of (r2.same _ _ g1), SqL.of (r2.same _ _ g2), y _ G2 H2 (s1.trans s2) r2 (walkD_zipL g1 g2 ra ra')⟩⟩
    · rw [i1] at rd
      rw [i2] at rd'
      obtain ⟨l, vs, ev, g1, ra⟩ := (rd.mono s2).tup_inv
      obtain ⟨m, ws, ew, g2, ra'⟩ := rd'.tup_inv
      exact ⟨l, m, vs, ws, by rw [ev, ew], .inr ⟨sameT r2.same g1, sameT r2.same g2, y _ G2 H2 (s1.trans s2) r2 (walkD_zipT g1 g2 ra ra')⟩⟩
end
/-! ### for -/
def wLoop (g : WG) (wb : WSt) (B : DEnds) : List D → En → Prop
  | [], e => B.nx e
  | d :: ds, e => g d e fun e1 => wb e1 { B with nx := fun e2 => wLoop g wb B ds e2, ct := fun e2 => wLoop g wb B ds e2, bk := B.nx }
def wFor (wi : WAx) (g : WG) (wb : WSt) : WSt := fun e B => wi e (fun ds e1 => wLoop g wb B ds e1) B.ex
section
variable {K : PySem.W.Frag} {F : Fx} {σ : L2.St} {H : Hp} {X : Cx} {pos : Pos} {tg iter : Expr} {body : List Stmt} {wi : WAx} {g : WG} {wb : WSt}
theorem wLoop.mono (mg : MonoG g) (mb : MonoS wb) {A B : DEnds} (l : DEnds.le A B) : ∀ {ds : List D} {e : En}, wLoop g wb A ds e → wLoop g wb B ds e
  | [], _, q => l.nx _ q
  | d :: ds, e, q => mg d e _ _ (fun e1 z => mb e1 { A with nx := fun e2 => wLoop g wb A ds e2, ct := fun e2 => wLoop g wb A ds e2, bk := A.nx } _ ⟨fun e2 y => wLoop.mono mg mb l y, l.rt, fun e2 y => l.nx _ y, fun e2 y => wLoop.mono mg mb l y, l.ex⟩ z) q
theorem wFor.mono (mi : MonoA wi) (mg : MonoG g) (mb : MonoS wb) : MonoS (wFor wi g wb) := fun e A B l q => mi e _ _ _ _ (fun ds e1 z => wLoop.mono mg mb l z) l.ex q
theorem ds_for (hp : PassesOwn (model X.prog X.w) X.A X.env X.xe) (hc : X.calm = true) (hi : DI X F tg iter wi) (hg : DG X F tg g) (hb : DSs X F body wb) (hs : ∀ x, foldedSetIterable iter X.env x = pure x := by intro _; rfl) : DS X F (.For tg iter body [] pos) (wFor wi g wb) :=
  ds_of (ps_for hp hc hi.run hg.run hb.run hs) (wFor.mono hi.mono hg.mono hb.mono) fun D σ H ⟨e, G, r, q⟩ => by
    refine ⟨e, G, r, hi.mono e _ _ _ _ (fun ds e1 z J G1 H1 s1 r1 wk => ?_) (fun y e' z C G' H' s r' ec => z C σ G' H' s r' ec) q⟩
    have wk' : Walk J ds.length (Same G1) (fun i H x H' => ∀ d, ds[i]? = some d → (H' = H ∧ R X.K F.p G1 x d) ∨ ∃ T xs es, x = .ref T ∧ H T = none ∧ H' = upd H T (.tup xs) ∧ d = .tuple es ∧ RA X.K F.p G1 xs es) :=
      ⟨wk.goes, wk.stops, fun i H x H' _ s y d hd => wk.yields i H x H' d hd s y⟩
    refine for_it wk' (fun i σ H => ∃ e2 G2, Same G1 G2 ∧ Rl X.K F.p F.G₀ F.H₀ G2 H σ e2 ∧ wLoop g wb (endsOf X.K F G2 D) (ds.drop i) e2) ⟨e1, G1, Same.refl G1, r1, wLoop.mono hg.mono hb.mono (endsOf.le s1) z⟩
      (fun i σ H _ ⟨e2, G2, s2, r2, _⟩ => s2.trans r2.same) (fun i x σ H H' hlt ⟨e2, G2, s2, r2, z2⟩ y => ?_) (fun σ H ⟨e2, G2, s2, r2, z2⟩ => ?_)
    · rw [List.drop_eq_getElem_cons hlt] at z2
      have hd : ds[i]? = some ds[i] := List.getElem?_eq_getElem hlt
      have after : ∀ G3, Same G2 G3 → ∀ e3, wb e3 { endsOf X.K F G2 D with nx := fun e2 => wLoop g wb (endsOf X.K F G2 D) (ds.drop (i + 1)) e2, ct := fun e2 => wLoop g wb (endsOf X.K F G2 D) (ds.drop (i + 1)) e2, bk := (endsOf X.K F G2 D).nx } → ∀ σ' H', Rl X.K F.p F.G₀ F.H₀ G3 H' σ' e3 →
          tS X.K F wb { D with nx := fun σ H => ∃ e2 G2, Same G1 G2 ∧ Rl X.K F.p F.G₀ F.H₀ G2 H σ e2 ∧ wLoop g wb (endsOf X.K F G2 D) (ds.drop (i + 1)) e2, ct := fun σ H => ∃ e2 G2, Same G1 G2 ∧ Rl X.K F.p F.G₀ F.H₀ G2 H σ e2 ∧ wLoop g wb (endsOf X.K F G2 D) (ds.drop (i + 1)) e2, bk := D.nx } σ' H' := fun G3 s3 e3 z3 σ' H' r3 => by
        have le3 := endsOf.le (K := X.K) (F := F) (D := D) s3
        refine ⟨e3, G3, r3, hb.mono e3 { endsOf X.K F G2 D with nx := fun e2 => wLoop g wb (endsOf X.K F G2 D) (ds.drop (i + 1)) e2, ct := fun e2 => wLoop g wb (endsOf X.K F G2 D) (ds.drop (i + 1)) e2, bk := (endsOf X.K F G2 D).nx } _ ⟨fun e4 y4 σ4 G4 H4 s4 r4 => ⟨e4, G4, s2.trans (s3.trans s4), r4, wLoop.mono hg.mono hb.mono (endsOf.le (s3.trans s4)) y4⟩, le3.rt, fun e4 y4 => le3.nx e4 y4,
          fun e4 y4 σ4 G4 H4 s4 r4 => ⟨e4, G4, s2.trans (s3.trans s4), r4, wLoop.mono hg.mono hb.mono (endsOf.le (s3.trans s4)) y4⟩, le3.ex⟩ z3⟩
      rcases y _ hd with ⟨rfl, rv⟩ | ⟨T, xs, es, rfl, hT, rfl, ed, rxs⟩
      · exact ⟨e2, G2, _, r2, rv.mono s2, hg.mono _ _ _ _ (fun e3 z3 σ' H' r3 => after G2 (Same.refl G2) e3 z3 σ' H' r3) z2⟩
      · have s3 := sameNew (o := .tup xs) r2.same hT
        exact ⟨e2, upd G2 T (.tup xs), _, r2.new hT, by rw [ed]; exact .tup (SqT.of upd_same) (rxs.mono (s2.trans s3)), hg.mono _ _ _ _ (fun e3 z3 σ' H' r3 => after _ s3 e3 z3 σ' H' r3) z2⟩
    · rw [List.drop_length] at z2
      exact z2 σ G2 H (Same.refl G2) r2
end
end L2.DL
set_option
      maxHeartbeats 1000000
namespace L2.DL
open PySem PySem.Spec
      PyProof.Rows
/-! ### comprehensions -/
def hide (vs : List Nat) (i : Nat) : Slot → Slot
  | .own _ => .un
  | z => if i ∈ vs then .un else z
def wipeE (e : En) (vs : List Nat) : En := { e with s := e.s.mapIdx (hide vs) }
def NoOwn (e : En) : Prop := ∀ (i : Nat) ds, e.s[i]? ≠ some (.own ds)
theorem wipe_in {σ : L2.St} {i : Nat} : ∀ {vs : List Nat}, i ∈ vs → i < σ.length → (wipe σ vs)[i]? = some none
  | v :: vs, h, hl => by
    unfold wipe
    by_cases e : v = i
    · subst e
      rw [List.getElem?_set_self (by rw [wipe_length]; exact hl)]
    · rw [List.getElem?_set_ne e]
      exact wipe_in ((List.mem_cons.mp h).resolve_left (Ne.symm e)) hl
theorem wipe_set {σ : L2.St} {i : Nat} {z : Option V} {vs : List Nat} (h : i ∈ vs) : wipe (σ.set i z) vs = wipe σ vs := by
  apply List.ext_getElem?
  intro j
  by_cases hj : j ∈ vs
  · by_cases hl : j < σ.length
    · rw [wipe_in hj hl, wipe_in hj (by simpa using hl)]
    · rw [List.getElem?_eq_none (by rw [wipe_length]; simpa using hl), List.getElem?_eq_none (by rw [wipe_length]; simpa using hl)]
  · rw [wipe_out hj, wipe_out hj, List.getElem?_set_ne (fun e => hj (by rw [← e]; exact h))]
theorem wipe_wipe {σ : L2.St} {vs : List Nat} : wipe (wipe σ vs) vs = wipe σ vs := by
  apply List.ext_getElem?
  intro j
  by_cases hj : j ∈ vs
  · by_cases hl : j < σ.length
    · rw [wipe_in hj hl, wipe_in hj (by rw [wipe_length]; exact hl)]
    · rw [List.getElem?_eq_none (by rw [wipe_length, wipe_length]; simpa using hl), List.getElem?_eq_none (by rw [wipe_length]; simpa using hl)]
  · rw [wipe_out hj, wipe_out hj]
theorem wipeE_dat {e : En} {vs : List Nat} {i : Nat} {d : D} (h : (wipeE e vs).s[i]? = some (.dat d)) : i ∉ vs ∧ e.s[i]? = some (.dat d) := by
  unfold wipeE at h
  simp only [List.getElem?_mapIdx] at h
  cases q : e.s[i]? with
  | none => rw [q] at h; cases h
  | some z =>
    rw [q] at h
    cases z with
    | un =>
      simp only [Option.map_some, hide, Option.some.injEq] at h
      split at h <;> cases h
    | own ds => simp only [Option.map_some, hide, Option.some.injEq, reduceCtorEq] at h
    | dat d' =>
      simp only [Option.map_some, hide, Option.some.injEq] at h
      split at h
      · cases h
      · cases h
        exact ⟨by assumption, rfl⟩
theorem wipeE_own {e : En} {vs : List Nat} : NoOwn (wipeE e vs) := by
  intro i ds h
  unfold wipeE at h
  simp only [List.getElem?_mapIdx] at h
  cases q : e.s[i]? with
  | none => rw [q] at h; cases h
  | some z =>
    rw [q] at h
    cases z with
    | un =>
      simp only [Option.map_some, hide, Option.some.injEq] at h
      split at h <;> cases h
    | own ds => simp only [Option.map_some, hide, Option.some.injEq, reduceCtorEq] at h
    | dat d' =>
      simp only [Option.map_some, hide, Option.some.injEq] at h
      split at h <;> cases h
theorem NoOwn.put {e : En} {i : Nat} {d : D} (h : NoOwn e) : NoOwn (put e i (.dat d)) := by
  intro j ds q
  have q : (e.s.set i (.dat d))[j]? = some (.own ds) := q
  by_cases hj : i = j
  · subst hj
    by_cases hl : i < e.s.length
    · rw [List.getElem?_set_self hl] at q; cases q
    · rw [List.getElem?_eq_none (by simpa using hl)] at q; cases q
  · rw [List.getElem?_set_ne hj] at q
    exact h j ds q
theorem NoOwn.puts : ∀ {is : List Nat} {ds : List D} {e : En}, NoOwn e → NoOwn (puts e is ds)
  | [], _, _, h => by unfold DL.puts; exact h
  | _ :: _, [], _, h => by unfold DL.puts; exact h
  | i :: is, d :: ds, e, h => by
    unfold DL.puts
    exact NoOwn.puts h.put
/-- a target within a comprehension: it changes none but the slots vs -/
def tGc (K : PySem.W.Frag) (F : Fx) (g : WG) (vs : List Nat) : TG := fun v σ H Q => ∃ e G d, Rl K F.p F.G₀ F.H₀ G H σ e ∧ R K F.p G v d ∧ NoOwn e ∧ g d e fun e' => ∀ σ', Rl K F.p F.G₀ F.H₀ G H σ' e' → NoOwn e' → wipe σ' vs = wipe σ vs → Q σ' H
structure DGc (X : Cx) (F : Fx) (e : Expr) (g : WG) (vs : List Nat) : Prop where
  run : PG X e (tGc X.K F g vs)
  mono : MonoG g
section
variable {X : Cx} {F : Fx} {pos : Pos}
theorem dgc_nm {i : Nat} {x : Str} {vs : List Nat} (hN : X.N.Nodup) (hv : i ∈ vs) (hi : X.N[i]? = some x := by rfl) (hx : Loc X.env.scope x := by first | exact Or.inl rfl | exact Or.inr rfl) (hf : X.fn x = true ∨ X.env.scope.names.lookup x = some .local := by first | exact Or.inl rfl | exact Or.inr rfl) : DGc X F (.Name x pos) (gNm i) vs :=
  ⟨⟨fun pins s σ H v u Q I r ⟨e, G, d, rl, rv, no, q⟩ => (pg_name hN hi hx hf).run pins s σ H v u Q I r (q _ (rl.put rv) no.put (wipe_set hv))⟩, gNm.mono⟩
/-- the tests of a comprehension -/
structure DTs (X : Cx) (F : Fx) (ifs : List Expr) (w : WTx) : Prop where
  run : PTs X ifs (tT X.K F w)
  mono : MonoT w
def wYes : WTx := fun e Q _ => Q true e
theorem dts_nil : DTs X F [] wYes := ⟨⟨fun pins s σ H Q I ⟨e, G, r, q⟩ => pts_nil.run pins s σ H Q I (q G H (Same.refl G) r)⟩, fun _ _ _ _ _ h _ q => h _ _ q⟩
theorem dts_one {c : Expr} {w : WTx} (h : DT X F c w) : DTs X F [c] w := ⟨pts_one h.run, h.mono⟩
end
abbrev noX : PD := fun _ _ => False
def lcLoop (g : WG) (wt : WTx) (we : WEx) (e₀ : En) : List D → List D → Nat → (List D → Nat → Prop) → Prop
  | acc, [], k, P => P acc k
  | acc, d :: ds, k, P => g d { e₀ with k := k } fun e1 => wt e1 (fun b e2 => if b = true then we e2 (fun y e3 => acc.length < 1000 ∧ lcLoop g wt we e₀ (acc ++ [y]) ds e3.k P) noX else lcLoop g wt we e₀ acc ds e2.k P) noX
def wLc (wi : WAx) (g : WG) (wt : WTx) (we : WEx) (vs : List Nat) : WEx := fun e Q x => wi e (fun ds e1 => lcLoop g wt we (wipeE e1 vs) [] ds e1.k fun acc k => Q (.list acc) { e1 with k := k }) x
section
variable {K : PySem.W.Frag} {F : Fx} {σ : L2.St} {H : Hp} {g : WG} {wt : WTx} {we : WEx} {wi : WAx} {vs : List Nat}
theorem lcLoop.mono (mg : MonoG g) (mt : MonoT wt) (me : Mono we) {e₀ : En} {P P' : List D → Nat → Prop} (h : ∀ a k, P a k → P' a k) : ∀ {ds acc : List D} {k : Nat}, lcLoop g wt we e₀ acc ds k P → lcLoop g wt we e₀ acc ds k P'
  | [], _, _, q => h _ _ q
  | d :: ds, acc, k, q => mg d _ _ _ (fun e1 z => mt e1 _ _ _ _ (fun b e2 y => by
    cases b with
    | true => exact me e2 _ _ _ _ (fun d' e3 u => ⟨u.1, lcLoop.mono mg mt me h u.2⟩) (fun _ _ u => u) y
    | false => exact lcLoop.mono mg mt me h y) (fun _ _ u => u) z) q
theorem wLc.mono (mi : MonoA wi) (mg : MonoG g) (mt : MonoT wt) (me : Mono we) : Mono (wLc wi g wt we vs) := fun e Q Q' x x' h1 h2 q => mi e _ _ _ _ (fun ds e1 z => lcLoop.mono mg mt me (fun acc k => h1 _ _) z) h2 q
theorem Rl.rebase {p : Option Addr} {G₀ H₀ G : Hp} {e : En} (r : Rl K p G₀ H₀ G H σ e) (no : NoOwn e) : Rl K p G H G H σ e := by
  obtain ⟨α, r⟩ := r
  exact ⟨α, r.w, Stp.refl, r.len, r.dat, fun i ds h => absurd h (no i ds), fun i j ds es h => absurd h (no i ds)⟩
/-- a list of ours that no slot holds is changed -/
theorem Rl.upd {p : Option Addr} {G₀ H₀ G : Hp} {e : En} {q : Addr} {o : HO} (r : Rl K p G₀ H₀ G H σ e) (no : NoOwn e) (g : G q = none) (h : H₀ q = none) (n : p ≠ some q) : Rl K p G₀ H₀ G (L2.upd H q o) σ e := by
  obtain ⟨α, r⟩ := r
  refine ⟨α, ⟨fun b u z => ?_, fun a ea => ?_⟩, ⟨r.st.gg, fun b u z np => ?_, r.st.nn, fun a c ea h => ?_⟩, r.len, r.dat, fun i ds h => absurd h (no i ds), fun i j ds es h => absurd h (no i ds)⟩
  · rw [upd_ne (ne_of_none z g)]
    exact r.w.same _ _ z
  · obtain ⟨h1, c, xs, i, t, h2, h3⟩ := r.w.pen a ea
    exact ⟨h1, c, xs, i, t, by rw [upd_ne (fun z => n (by rw [← z]; exact ea))]; exact h2, h3⟩
  · rw [upd_ne (ne_of_none z h)]
    exact r.st.hh b u z np
  · obtain ⟨i, t, z⟩ := r.st.pc a c ea h
    exact ⟨i, t, by rw [upd_ne (fun z => n (by rw [← z]; exact ea))]; exact z⟩
theorem Rl.block {p : Option Addr} {G₀ H₀ G : Hp} {e : En} {q : Addr} {o : HO} (r : Rl K p G₀ H₀ G H σ e) (hq : H q = none) : Rl K p G H G (L2.upd H q o) (wipe σ vs) (wipeE e vs) := by
  obtain ⟨α, r⟩ := r
  refine ⟨α, ⟨fun b u z => ?_, fun a ea => ?_⟩, ⟨fun _ _ z => z, fun b u z np => ?_, fun _ _ _ z => z, fun a c ea ⟨i, t, z⟩ => ⟨i, t, by rw [upd_ne (ne_of_none z hq)]; exact z⟩⟩, ?_, fun i d h => ?_, fun i ds h => absurd h (wipeE_own i ds), fun i j ds es h => absurd h (wipeE_own i ds)⟩
  · rw [upd_ne (ne_of_none (r.w.same _ _ z) hq)]
    exact r.w.same _ _ z
  · obtain ⟨h1, c, xs, i, t, h2, h3⟩ := r.w.pen a ea
    exact ⟨h1, c, xs, i, t, by rw [upd_ne (ne_of_none h2 hq)]; exact h2, h3⟩
  · rw [upd_ne (ne_of_none z hq)]
    exact z
  · rw [wipe_length, r.len]
    unfold wipeE
    simp
  · obtain ⟨h1, h2⟩ := wipeE_dat h
    rw [wipe_out h1]
    exact r.dat i d h2
theorem tE.lc {F : Fx} (mi : MonoA wi) (mg : MonoG g) (mt : MonoT wt) (me : Mono we) {tg' : TG} {tt : TT} {te : TE}
    (hg : ∀ G₀ H₀ v σ H Q, tGc K ⟨F.p, G₀, H₀, fun _ _ _ _ => False⟩ g vs v σ H Q → tg' v σ H Q) (ht : ∀ G₀ H₀ σ H Q, tT K ⟨F.p, G₀, H₀, fun _ _ _ _ => False⟩ wt σ H Q → tt σ H Q) (he : ∀ G₀ H₀ σ H Q, tE K ⟨F.p, G₀, H₀, fun _ _ _ _ => False⟩ we σ H Q → te σ H Q)
    {Q : VK} (q : tE K F (wLc wi g wt we vs) σ H Q) : tLc (tI K F wi) tg' tt te vs σ H Q := by
  obtain ⟨e, G, r, q⟩ := q
  refine ⟨e, G, r, mi e _ _ _ _ (fun ds e1 z J G1 H1 s1 r1 wk D hD => ?_) (fun _ _ z => z) q⟩
  have wk' : Walk J ds.length (Same G1) (fun i H x H' => ∀ d, ds[i]? = some d → (H' = H ∧ R K F.p G1 x d) ∨ ∃ T xs es, x = .ref T ∧ H T = none ∧ H' = L2.upd H T (.tup xs) ∧ d = .tuple es ∧ RA K F.p G1 xs es) :=
    ⟨wk.goes, wk.stops, fun i H x H' _ s y d hd => wk.yields i H x H' d hd s y⟩
  have nG : G1 D = none := r1.same.free hD
  have np : F.p ≠ some D := fun ep => by
    obtain ⟨_, c, xs, i, t, h2, _⟩ := r1.wd.pen D ep
    rw [hD] at h2; cases h2
  refine lc_it wk' (fun i H => ∃ acc as k G, Same G1 G ∧ H D = some (.lst as) ∧ G D = none ∧ RA K F.p G as acc ∧ Rl K F.p G1 H1 G H (wipe σ vs) { wipeE e1 vs with k := k } ∧ lcLoop g wt we (wipeE e1 vs) acc (ds.drop i) k fun acc k => PQ K F.p F.G₀ F.H₀ G1 σ Q (.list acc) { e1 with k := k })
    ⟨[], [], e1.k, G1, Same.refl G1, upd_same, nG, .nil, r1.block hD, lcLoop.mono mg mt me (fun _ _ => PQ.mono s1) z⟩
    (fun i H _ ⟨_, _, _, G2, s2, _, _, _, r2, _⟩ => s2.trans r2.same) (fun i x H H' hlt ⟨acc, as, k, G2, s2, hd2, gd2, ra2, r2, z2⟩ y => ?_) (fun H ⟨acc, as, k, G2, s2, hd2, gd2, ra2, r2, z2⟩ => ?_)
  · rw [List.drop_eq_getElem_cons hlt] at z2
    have hd : ds[i]? = some ds[i] := List.getElem?_eq_getElem hlt
    -- the turn, from any ground
    have turn : ∀ G3 H3 v, Same G2 G3 → H3 D = some (.lst as) → G3 D = none → Rl K F.p G1 H1 G3 H3 (wipe σ vs) { wipeE e1 vs with k := k } → R K F.p G3 v ds[i] →
        tg' v (wipe σ vs) H3 fun σ2 H2 => wipe σ2 vs = wipe σ vs ∧ tt σ2 H2 fun b H3 => if b = true then te σ2 H3 fun y H4 => ∃ acc, H4 D = some (.lst acc) ∧ acc.length < sizeLine ∧
          (∃ acc' as k G, Same G1 G ∧ (L2.upd H4 D (.lst (acc ++ [y]))) D = some (.lst as) ∧ G D = none ∧ RA K F.p G as acc' ∧ Rl K F.p G1 H1 G (L2.upd H4 D (.lst (acc ++ [y]))) (wipe σ vs) { wipeE e1 vs with k := k } ∧ lcLoop g wt we (wipeE e1 vs) acc' (ds.drop (i + 1)) k fun acc k => PQ K F.p F.G₀ F.H₀ G1 σ Q (.list acc) { e1 with k := k })
          else (∃ acc as k G, Same G1 G ∧ H3 D = some (.lst as) ∧ G D = none ∧ RA K F.p G as acc ∧ Rl K F.p G1 H1 G H3 (wipe σ vs) { wipeE e1 vs with k := k } ∧ lcLoop g wt we (wipeE e1 vs) acc (ds.drop (i + 1)) k fun acc k => PQ K F.p F.G₀ F.H₀ G1 σ Q (.list acc) { e1 with k := k }) := fun G3 H3 v s3 hd3 gd3 r3 rv => by
      have no : NoOwn { wipeE e1 vs with k := k } := wipeE_own (e := e1) (vs := vs)
      refine hg G3 H3 _ _ _ _ ⟨{ wipeE e1 vs with k := k }, G3, _, r3.rebase no, rv, no, mg _ _ _ _ (fun e4 z4 σ4 r4 no4 w4 => ⟨w4.trans wipe_wipe, ?_⟩) z2⟩
      refine ht G3 H3 _ _ _ ⟨e4, G3, r4, mt e4 _ _ _ _ (fun b e5 z5 G5 H5 s5 r5 => ?_) (fun _ _ u => u.elim) z4⟩
      have step := fun (G6 H6 : Hp) (e6 : En) (r6 : Rl K F.p G3 H3 G6 H6 σ4 e6) => (⟨let ⟨_, q⟩ := r6; q.st, r6.wd⟩ : Stp F.p G3 H3 G6 H6 ∧ Wd K F.p e6.k G6 H6)
      cases b with
      | false =>
        obtain ⟨st, wd⟩ := step G5 H5 e5 r5
        exact ⟨acc, as, e5.k, G5, s2.trans (s3.trans s5), st.hh _ _ hd3 np, st.nn _ _ hd3 gd3, ra2.mono (s3.trans s5), r3.step st wd, z5⟩
      | true =>
        refine he G3 H3 _ _ _ ⟨e5, G5, r5, me e5 _ _ _ _ (fun dy e6 z6 y G6 H6 s6 r6 ry => ?_) (fun _ _ u => u.elim) z5⟩
        obtain ⟨st, wd⟩ := step G6 H6 e6 r6
        have hd6 := st.hh _ _ hd3 np
        have gd6 := st.nn _ _ hd3 gd3
        have s36 := s3.trans (s5.trans s6)
        refine ⟨as, hd6, by rw [ra2.length]; exact Nat.lt_of_lt_of_le z6.1 (by decide), acc ++ [dy], as ++ [y], e6.k, G6, s2.trans s36, upd_same, gd6, (ra2.mono s36).append (.cons ry .nil), ?_, z6.2⟩
        exact (r3.step st wd).upd (wipeE_own (e := e1) (vs := vs)) gd6 hD np
    rcases y _ hd with ⟨rfl, rv⟩ | ⟨T, xs, es, rfl, hT, rfl, ed, rxs⟩
    · exact turn G2 _ x (Same.refl G2) hd2 gd2 r2 (rv.mono s2)
    · have s3 := sameNew (o := .tup xs) r2.same hT
      have nT : D ≠ T := ne_of_none hd2 hT
      exact turn (L2.upd G2 T (.tup xs)) _ (.ref T) s3 (by rw [upd_ne nT]; exact hd2) (by rw [upd_ne nT]; exact gd2) (r2.new hT) (by rw [ed]; exact .tup (SqT.of upd_same) (rxs.mono (s2.trans s3)))
  · rw [List.drop_length] at z2
    obtain ⟨α, r3⟩ := id r2
    have sD : Same G2 (L2.upd G2 D (.lst as)) := fun b u z => by rw [upd_ne (ne_of_none z gd2)]; exact z
    refine z2 _ (L2.upd G2 D (.lst as)) H (s2.trans sD) (r1.step (k' := k) ⟨fun b u z => sD _ _ (r3.st.gg _ _ z), r3.st.hh, fun b u z n => ?_, r3.st.pc⟩ ⟨fun b u z => ?_, fun a ea => ?_⟩) (.lst upd_same (ra2.mono sD))
    · rw [upd_ne (ne_of_none z hD)]
      exact r3.st.nn _ _ z n
    · by_cases hb : b = D
      · subst hb; rw [upd_same] at z; rw [hd2]; exact z
      · rw [upd_ne hb] at z; exact r3.w.same _ _ z
    · obtain ⟨h1, h2⟩ := r3.w.pen a ea
      exact ⟨by rw [upd_ne (fun z => np (by rw [← z]; exact ea))]; exact h1, by
        obtain ⟨c, xs, i, t, h3, h4, h5⟩ := h2
        exact ⟨c, xs, i, t, h3, sD _ _ h4, h5⟩⟩
end
end L2.DL
set_option
      maxHeartbeats 1000000
namespace L2.DL
open PySem PySem.Spec
      PyProof.Rows
section
variable {X : Cx} {F : Fx} {pos : Pos} {elt tg iter : Expr} {ifs : List Expr} {scope : Scope} {own : List (Str × Nat)} {wi : WAx} {g : WG} {wt : WTx} {we : WEx}
abbrev inn (p : Option Addr) (G₀ H₀ : Hp) : Fx := ⟨p, G₀, H₀, fun _ _ _ _ => False⟩
/-- the rules that a comprehension's block is read by -/
theorem lc_parts (hc : X.calm = true) (hN : X.N.Nodup) (hi : DI X F tg iter wi)
    (hg : ∀ (s : Shared) (H : Hp) (C : Addr) (cl : List (Str × Addr)) (fp : List Addr) (G₀ H₀ : Hp), DGc (X.blk s H scope (compEnvC scope cl C X.env) fp) (inn F.p G₀ H₀) tg g (own.map (·.2)))
    (ht : ∀ (s : Shared) (H : Hp) (C : Addr) (cl : List (Str × Addr)) (fp : List Addr) (G₀ H₀ : Hp), DTs (X.blk s H scope (compEnvC scope cl C X.env) fp) (inn F.p G₀ H₀) ifs wt)
    (he : ∀ (s : Shared) (H : Hp) (C : Addr) (cl : List (Str × Addr)) (fp : List Addr) (G₀ H₀ : Hp), DE (X.blk s H scope (compEnvC scope cl C X.env) fp) (inn F.p G₀ H₀) elt we) :
    ∃ (tg' : TG) (tt : TT) (te : TE), (∀ (s : Shared) (H : Hp) (C : Addr) (cl : List (Str × Addr)) (fp : List Addr), PG (X.blk s H scope (compEnvC scope cl C X.env) fp) tg tg') ∧
      (∀ (s : Shared) (H : Hp) (C : Addr) (cl : List (Str × Addr)) (fp : List Addr), PTs (X.blk s H scope (compEnvC scope cl C X.env) fp) ifs tt) ∧
      (∀ (s : Shared) (H : Hp) (C : Addr) (cl : List (Str × Addr)) (fp : List Addr), PE (X.blk s H scope (compEnvC scope cl C X.env) fp) elt te) ∧
      ∀ σ H Q, tE X.K F (wLc wi g wt we (own.map (·.2))) σ H Q → tLc (tI X.K F wi) tg' tt te (own.map (·.2)) σ H Q := by
  refine ⟨fun v σ H Q => ∃ G₀ H₀, tGc X.K (inn F.p G₀ H₀) g (own.map (·.2)) v σ H Q, fun σ H Q => ∃ G₀ H₀, tT X.K (inn F.p G₀ H₀) wt σ H Q, fun σ H Q => ∃ G₀ H₀, tE X.K (inn F.p G₀ H₀) we σ H Q,
    fun s H C cl fp => ⟨fun pins s' σ H' v u Q I r ⟨G₀, H₀, q⟩ => (hg s H C cl fp G₀ H₀).run.run pins s' σ H' v u Q I r q⟩,
    fun s H C cl fp => ⟨fun pins s' σ H' Q I ⟨G₀, H₀, q⟩ => (ht s H C cl fp G₀ H₀).run.run pins s' σ H' Q I q⟩,
    fun s H C cl fp => ⟨fun pins s' σ H' Q I ⟨G₀, H₀, q⟩ => (he s H C cl fp G₀ H₀).run.run pins s' σ H' Q I q⟩, fun σ H Q q => ?_⟩
  exact tE.lc hi.mono (hg X.s_0 X.H_0 0 [] [] X.H_0 X.H_0).mono (ht X.s_0 X.H_0 0 [] [] X.H_0 X.H_0).mono (he X.s_0 X.H_0 0 [] [] X.H_0 X.H_0).mono
    (fun G₀ H₀ _ _ _ _ z => ⟨G₀, H₀, z⟩) (fun G₀ H₀ _ _ _ z => ⟨G₀, H₀, z⟩) (fun G₀ H₀ _ _ _ z => ⟨G₀, H₀, z⟩) q
theorem de_lc (hc : X.calm = true) (hN : X.N.Nodup) (hi : DI X F tg iter wi) (ok : BlkOk X.N X.env.scope scope own)
    (hg : ∀ (s : Shared) (H : Hp) (C : Addr) (cl : List (Str × Addr)) (fp : List Addr) (G₀ H₀ : Hp), DGc (X.blk s H scope (compEnvC scope cl C X.env) fp) (inn F.p G₀ H₀) tg g (own.map (·.2)))
    (ht : ∀ (s : Shared) (H : Hp) (C : Addr) (cl : List (Str × Addr)) (fp : List Addr) (G₀ H₀ : Hp), DTs (X.blk s H scope (compEnvC scope cl C X.env) fp) (inn F.p G₀ H₀) ifs wt)
    (he : ∀ (s : Shared) (H : Hp) (C : Addr) (cl : List (Str × Addr)) (fp : List Addr) (G₀ H₀ : Hp), DE (X.blk s H scope (compEnvC scope cl C X.env) fp) (inn F.p G₀ H₀) elt we)
    (hs : ∀ x, foldedSetIterable iter X.env x = pure x := by intro _; rfl) : DE X F (.ListComp elt [⟨tg, iter, ifs, 0⟩] scope pos) (wLc wi g wt we (own.map (·.2))) := by
  obtain ⟨tg', tt, te, h1, h2, h3, h4⟩ := lc_parts hc hN hi hg ht he
  exact de_of (pe_lc hc hN hi.run ok h1 h2 h3 hs) (wLc.mono hi.mono (hg X.s_0 X.H_0 0 [] [] X.H_0 X.H_0).mono (ht X.s_0 X.H_0 0 [] [] X.H_0 X.H_0).mono (he X.s_0 X.H_0 0 [] [] X.H_0 X.H_0).mono) h4
/-- name = [..], on one line -/
theorem ds_setLc {i : Nat} {y : Str} {py spos : Pos} (hc : X.calm = true) (hN : X.N.Nodup) (hi : DI X F tg iter wi) (ok : BlkOk X.N X.env.scope scope own)
    (hg : ∀ (s : Shared) (H : Hp) (C : Addr) (cl : List (Str × Addr)) (fp : List Addr) (G₀ H₀ : Hp), DGc (X.blk s H scope (compEnvC scope cl C X.env) fp) (inn F.p G₀ H₀) tg g (own.map (·.2)))
    (ht : ∀ (s : Shared) (H : Hp) (C : Addr) (cl : List (Str × Addr)) (fp : List Addr) (G₀ H₀ : Hp), DTs (X.blk s H scope (compEnvC scope cl C X.env) fp) (inn F.p G₀ H₀) ifs wt)
    (he : ∀ (s : Shared) (H : Hp) (C : Addr) (cl : List (Str × Addr)) (fp : List Addr) (G₀ H₀ : Hp), DE (X.blk s H scope (compEnvC scope cl C X.env) fp) (inn F.p G₀ H₀) elt we)
    (hsw : swapsWith (.ListComp elt [⟨tg, iter, ifs, 0⟩] scope pos) (some (.Name y py)) spos.line X.env = pure true) (hy : X.N[i]? = some y := by rfl) (hyl : X.env.scope.names.lookup y = some .local := by rfl)
    (hs : ∀ x, foldedSetIterable iter X.env x = pure x := by intro _; rfl) : DS X F (.Assign [.Name y py] (.ListComp elt [⟨tg, iter, ifs, 0⟩] scope pos) spos) (wSet i (wLc wi g wt we (own.map (·.2)))) := by
  obtain ⟨tg', tt, te, h1, h2, h3, h4⟩ := lc_parts hc hN hi hg ht he
  have m := wLc.mono (vs := own.map (·.2)) hi.mono (hg X.s_0 X.H_0 0 [] [] X.H_0 X.H_0).mono (ht X.s_0 X.H_0 0 [] [] X.H_0 X.H_0).mono (he X.s_0 X.H_0 0 [] [] X.H_0 X.H_0).mono
  exact ds_of (ps_setLc hc hN hy hyl hsw hi.run ok h1 h2 h3 hs) (wSet.mono m) fun D σ H ⟨e, G, r, q⟩ => h4 _ _ _ (tS.expr (k := fun D d e1 => D.nx (DL.put e1 i (.dat d))) m r q fun d e' v G' H' s r' rv z => z _ G' H' s (r'.put rv))
end
/-! ### lists that one slot alone holds -/
def PF (K : PySem.W.Frag) (F : Fx) (G : Hp) (σ : L2.St) (Q : VK) : List D → En → Prop := fun ds e' => ∀ a xs G' H', Same G G' → Rl K F.p F.G₀ F.H₀ G' H' σ e' → H' a = none → RA K F.p G' xs ds → Q (.ref a) (L2.upd H' a (.lst xs))
def tF (K : PySem.W.Frag) (F : Fx) (w : WAx) : TE := fun σ H Q => ∃ e G, Rl K F.p F.G₀ F.H₀ G H σ e ∧ w e (PF K F G σ Q) (PX K F.p F.G₀ F.H₀ F.W G σ)
/-- an expression that gives a new list -/
structure DF (X : Cx) (F : Fx) (e : Expr) (w : WAx) : Prop where
  run : PE X e (tF X.K F w)
  mono : MonoA w
section
variable {K : PySem.W.Frag} {F : Fx} {σ : L2.St} {H : Hp} {X : Cx} {pos : Pos} {a b : Expr} {es : List Expr} {wa wb : WEx} {wr : WAx}
theorem df_of {e : Expr} {t : TE} {w : WAx} (h : PE X e t) (m : MonoA w) (i : ∀ σ H Q, tF X.K F w σ H Q → t σ H Q) : DF X F e w := ⟨⟨fun pins s σ H Q I q => h.run pins s σ H Q I (i σ H Q q)⟩, m⟩
def wLstF (w : WAx) : WAx := fun e Q x => w e (fun ds e1 => ds.length ≤ 1000 ∧ Q ds e1) x
theorem df_lst (h : DA X F es wr) : DF X F (.List es pos) (wLstF wr) :=
  df_of (pe_lst h.run) (fun e Q Q' x x' h1 h2 q => h.mono e _ _ _ _ (fun ds e1 z => ⟨z.1, h1 _ _ z.2⟩) h2 q) fun σ H Q ⟨e, G, r, q⟩ => ⟨e, G, r, h.mono e _ _ _ _ (fun ds e1 z vs G' H' s r' rv => ⟨by rw [rv.length]; exact le_line z.1, fun p hp => z.2 p vs G' H' s r' hp rv⟩) (fun _ _ z => z) q⟩
def wListF (w : WEx) : WAx := fun e Q x => w e (fun d e1 => ∃ ds, items d = some ds ∧ Q ds e1) x
theorem df_list {q : Pos} (h : DE X F a wa) (hm : X.mg "list" = none) (hg : Gl X "list" := by rfl) (hv : bootBuiltins "list" = some (.type "list") := by decide +kernel) (hs : starEach [a] X.env = (false, eval a X.env) :: starEach [] X.env := by rfl)
    (hpl : (backTo pos (starEach [] X.env)).any (·.1) = false := by rfl) : DF X F (.Call (.Name "list" q) [a] [] pos) (wListF wa) :=
  df_of (pe_callTy call_list_of hg hm hv (pa_cons h.run pa_nil hs) (by decide) (by decide) hs hpl) (fun e Q Q' x x' h1 h2 q => h.mono e _ _ _ _ (fun d e1 ⟨ds, i, z⟩ => ⟨ds, i, h1 _ _ z⟩) h2 q) fun σ H Q ⟨e, G, r, q⟩ =>
    ⟨e, G, r, h.mono e _ _ _ _ (fun d e1 ⟨ds, i, z⟩ v G' H' s r' rv => by
      cases d with
      | list es =>
        cases i
        obtain ⟨l, ys, rfl, h1, r1⟩ := rv.lst_inv
        exact ⟨l, ys, rfl, .inl (SqL.of (r'.same _ _ h1)), fun l hl => z l ys G' H' s r' hl r1⟩
      | tuple es =>
        cases i
        obtain ⟨l, ys, rfl, h1, r1⟩ := rv.tup_inv
        exact ⟨l, ys, rfl, .inr (sameT r'.same h1), fun l hl => z l ys G' H' s r' hl r1⟩
      | none => cases i
      | bool b => cases i
      | int i => cases i
      | str x => cases i
      | dict kvs => cases i) (fun _ _ z => z) q⟩
def wRepF (wa wb : WEx) : WAx := fun e Q x => wa e (fun d e1 => wb e1 (fun d' e2 => ∃ ds k, d = .list ds ∧ d' = .int k ∧ 0 ≤ k ∧ k ≤ 1000 ∧ ds.length ≤ 1000 ∧ Q (List.replicate k.toNat ds).flatten e2) x) x
theorem df_rep (ha : DE X F a wa) (hb : DE X F b wb) : DF X F (.BinOp a .Mult b pos) (wRepF wa wb) :=
  df_of (pe_op op_rep ha.run hb.run) (fun e Q Q' x x' h1 h2 q => ha.mono e _ _ _ _ (fun d e1 z => hb.mono e1 _ _ _ _ (fun d' e2 ⟨ds, k, i1, i2, i3, i4, i5, y⟩ => ⟨ds, k, i1, i2, i3, i4, i5, h1 _ _ y⟩) h2 z) h2 q) fun σ H Q ⟨e, G, r, q⟩ => by
    refine tE.mono ha.mono (fun v H1 z => ?_) (tE.any ha.mono r q)
    obtain ⟨e1, G1, d, s1, r1, rd, z⟩ := z
    refine tE.mono hb.mono (fun v' H2 z => ?_) (tE.any hb.mono r1 (hb.mono e1 _ _ _ _ (fun _ _ z => z) (fun _ _ => PX.mono s1) z))
    obtain ⟨e2, G2, d', s2, r2, rd', ds, k, i1, i2, i3, i4, i5, y⟩ := z
    rw [i1] at rd
    rw [i2] at rd'
    obtain ⟨l, xs, ev, h1, ra⟩ := (rd.mono s2).lst_inv
    have ew := rd'.int_inv
    refine ⟨l, k, xs, ev, ew, r2.same _ _ h1, by omega, by omega, ?_, fun p hp => y p _ G2 H2 (s1.trans s2) r2 hp (ra.rep _)⟩
    rw [sizeLine_eq, ra.length]
    exact Nat.le_trans (Nat.mul_le_mul i5 (show _ ≤ 1000 by omega)) (by decide)
/-! #### the relation when such a list comes, changes, is let go -/
theorem own_ne {e : En} {i j : Nat} {ds es : List D} (h : (put e i (.own es)).s[j]? = some (.own ds)) : (j = i ∧ i < e.s.length ∧ ds = es) ∨ (j ≠ i ∧ e.s[j]? = some (.own ds)) := by
  have h : (e.s.set i (.own es))[j]? = some (.own ds) := h
  by_cases hj : i = j
  · subst hj
    by_cases hl : i < e.s.length
    · rw [List.getElem?_set_self hl] at h
      cases h
      exact .inl ⟨rfl, hl, rfl⟩
    · rw [List.getElem?_eq_none (by simpa using hl)] at h; cases h
  · rw [List.getElem?_set_ne hj] at h
    exact .inr ⟨Ne.symm hj, h⟩
theorem own_dat {e : En} {i j : Nat} {es : List D} {d : D} (h : (put e i (.own es)).s[j]? = some (.dat d)) : j ≠ i ∧ e.s[j]? = some (.dat d) := by
  have h : (e.s.set i (.own es))[j]? = some (.dat d) := h
  by_cases hj : i = j
  · subst hj
    by_cases hl : i < e.s.length
    · rw [List.getElem?_set_self hl] at h; cases h
    · rw [List.getElem?_eq_none (by simpa using hl)] at h; cases h
  · rw [List.getElem?_set_ne hj] at h
    exact ⟨Ne.symm hj, h⟩
theorem Rl.own {p : Option Addr} {G₀ H₀ G : Hp} {e : En} {i : Nat} {q : Addr} {xs : List V} {ds : List D} (r : Rl K p G₀ H₀ G H σ e) (hq : H q = none) (ra : RA K p G xs ds) : Rl K p G₀ H₀ G (L2.upd H q (.lst xs)) (σ.set i (some (.ref q))) (DL.put e i (.own ds)) := by
  obtain ⟨α, r⟩ := r
  have np : p ≠ some q := fun ep => by
    obtain ⟨_, c, xs, i, t, h2, _⟩ := r.w.pen q ep
    rw [hq] at h2; cases h2
  have n0 : H₀ q = none := by
    cases z : H₀ q with
    | none => rfl
    | some o => have := r.st.hh q o z np; rw [hq] at this; cases this
  have gq : G q = none := r.w.same.free hq
  refine ⟨fun j => if j = i then q else α j, ⟨fun b u z => ?_, fun a ea => ?_⟩, ⟨r.st.gg, fun b u z n => ?_, r.st.nn, fun a c ea h => ?_⟩, by simpa [DL.put] using r.len, fun j d h => ?_, fun j es h => ?_, fun j k es fs h1 h2 hjk => ?_⟩
  · rw [upd_ne (ne_of_none z gq)]; exact r.w.same _ _ z
  · obtain ⟨h1, c, xs, i, t, h2, h3⟩ := r.w.pen a ea
    exact ⟨h1, c, xs, i, t, by rw [upd_ne (ne_of_none h2 hq)]; exact h2, h3⟩
  · rw [upd_ne (ne_of_none z n0)]; exact r.st.hh b u z n
  · obtain ⟨i, t, z⟩ := r.st.pc a c ea h
    exact ⟨i, t, by rw [upd_ne (ne_of_none z hq)]; exact z⟩
  · obtain ⟨hj, h'⟩ := own_dat h
    rw [List.getElem?_set_ne (Ne.symm hj)]
    exact r.dat j d h'
  · rcases own_ne h with ⟨rfl, hl, rfl⟩ | ⟨hj, h'⟩
    · simp only [if_true]
      exact ⟨xs, List.getElem?_set_self (by rw [r.len]; exact hl), upd_same, gq, n0, np, ra⟩
    · obtain ⟨ys, q1, q2, q3, q4, q5, q6⟩ := r.own j es h'
      simp only [if_neg hj]
      exact ⟨ys, by rw [List.getElem?_set_ne (Ne.symm hj)]; exact q1, by rw [upd_ne (ne_of_none q2 hq)]; exact q2, q3, q4, q5, q6⟩
  · rcases own_ne h1 with ⟨rfl, _, rfl⟩ | ⟨hj, h1'⟩
    · rcases own_ne h2 with ⟨rfl, _, rfl⟩ | ⟨hk, h2'⟩
      · exact absurd rfl hjk
      · obtain ⟨ys, q1, q2, _⟩ := r.own k fs h2'
        simp only [if_true, if_neg hk]
        exact Ne.symm (ne_of_none q2 hq)
    · rcases own_ne h2 with ⟨rfl, _, rfl⟩ | ⟨hk, h2'⟩
      · obtain ⟨ys, q1, q2, _⟩ := r.own j es h1'
        simp only [if_true, if_neg hj]
        exact ne_of_none q2 hq
      · simp only [if_neg hj, if_neg hk]
        exact r.sep j k es fs h1' h2' hjk
theorem Rl.mut {p : Option Addr} {G₀ H₀ G : Hp} {e : En} {i : Nat} {q : Addr} {ys : List V} {ds es : List D} (r : Rl K p G₀ H₀ G H σ e) (hi : e.s[i]? = some (.own ds)) (hs : σ[i]? = some (some (.ref q))) (ra : RA K p G ys es) : Rl K p G₀ H₀ G (L2.upd H q (.lst ys)) σ (DL.put e i (.own es)) := by
  obtain ⟨α, r⟩ := r
  obtain ⟨xs, q1, q2, q3, q4, q5, q6⟩ := r.own i ds hi
  have eq : α i = q := by rw [hs] at q1; cases q1; rfl
  rw [eq] at q2 q3 q4 q5
  refine ⟨α, ⟨fun b u z => ?_, fun a ea => ?_⟩, ⟨r.st.gg, fun b u z n => ?_, r.st.nn, fun a c ea h => ?_⟩, by simpa [DL.put] using r.len, fun j d h => ?_, fun j fs h => ?_, fun j k fs gs h1 h2 hjk => ?_⟩
  · rw [upd_ne (ne_of_none z q3)]; exact r.w.same _ _ z
  · obtain ⟨h1, c, xs, i, t, h2, h3⟩ := r.w.pen a ea
    exact ⟨h1, c, xs, i, t, by rw [upd_ne (fun z => q5 (by rw [← z]; exact ea))]; exact h2, h3⟩
  · rw [upd_ne (ne_of_none z q4)]; exact r.st.hh b u z n
  · obtain ⟨i, t, z⟩ := r.st.pc a c ea h
    exact ⟨i, t, by rw [upd_ne (fun z => q5 (by rw [← z]; exact ea))]; exact z⟩
  · obtain ⟨hj, h'⟩ := own_dat h
    exact r.dat j d h'
  · rcases own_ne h with ⟨rfl, hl, rfl⟩ | ⟨hj, h'⟩
    · rw [eq]
      exact ⟨ys, hs, upd_same, q3, q4, q5, ra⟩
    · obtain ⟨zs, z1, z2, z3⟩ := r.own j fs h'
      have n := r.sep j i fs ds h' hi hj
      rw [eq] at n
      exact ⟨zs, z1, by rw [upd_ne n]; exact z2, z3⟩
  · have o : ∀ {j : Nat} {fs}, (DL.put e i (Slot.own es)).s[j]? = some (.own fs) → ∃ gs, e.s[j]? = some (Slot.own gs) := fun {j fs} h => by
      rcases own_ne h with ⟨rfl, _, rfl⟩ | ⟨_, h'⟩
      · exact ⟨_, hi⟩
      · exact ⟨_, h'⟩
    obtain ⟨a1, b1⟩ := o h1
    obtain ⟨a2, b2⟩ := o h2
    exact r.sep j k a1 a2 b1 b2 hjk
def lend : Slot → Slot
  | .own ds => .dat (.list ds)
  | z => z
def lendE (e : En) : En := { e with s := e.s.map lend }
def heldAt (e : En) (α : Nat → Addr) (b : Addr) : Prop := ∃ (j : Nat) (ds : List D), e.s[j]? = some (.own ds) ∧ α j = b
open Classical in
/-- the ground with the lists let go; without them -/
noncomputable def plus (G H : Hp) (e : En) (α : Nat → Addr) : Hp := fun b => if heldAt e α b then H b else G b
open Classical in
noncomputable def minus (G : Hp) (e : En) (α : Nat → Addr) : Hp := fun b => if heldAt e α b then none else G b
theorem lendE_dat {e : En} {i : Nat} {d : D} (h : (lendE e).s[i]? = some (.dat d)) : e.s[i]? = some (.dat d) ∨ ∃ ds, d = .list ds ∧ e.s[i]? = some (.own ds) := by
  have h : (e.s.map lend)[i]? = some (.dat d) := h
  rw [List.getElem?_map] at h
  cases q : e.s[i]? with
  | none => rw [q] at h; cases h
  | some z =>
    rw [q] at h
    cases z with
    | un => cases h
    | dat d' => cases h; exact .inl rfl
    | own ds => cases h; exact .inr ⟨ds, rfl, rfl⟩
theorem lendE_own {e : En} : NoOwn (lendE e) := by
  intro i ds h
  have h : (e.s.map lend)[i]? = some (.own ds) := h
  rw [List.getElem?_map] at h
  cases q : e.s[i]? with
  | none => rw [q] at h; cases h
  | some z =>
    rw [q] at h
    cases z <;> cases h
theorem Rel.plus {p : Option Addr} {G₀ H₀ G : Hp} {e : En} {α : Nat → Addr} (r : Rel K p G₀ H₀ G H σ e α) : Same G (DL.plus G H e α) ∧ Rl K p G₀ H₀ (DL.plus G H e α) H σ (lendE e) := by
  have s1 : Same G (DL.plus G H e α) := fun b u z => by
    unfold DL.plus
    split
    · exact r.w.same _ _ z
    · exact z
  have s2 : Same (DL.plus G H e α) H := fun b u z => by
    unfold DL.plus at z
    split at z
    · exact z
    · exact r.w.same _ _ z
  refine ⟨s1, α, ⟨s2, fun a ea => ?_⟩, ⟨fun b u z => s1 _ _ (r.st.gg _ _ z), r.st.hh, fun b u z n => ?_, r.st.pc⟩, by simpa [lendE] using r.len, fun i d h => ?_, fun i ds h => absurd h (lendE_own i ds), fun i j ds es h => absurd h (lendE_own i ds)⟩
  · obtain ⟨h1, c, xs, i, t, h2, h3, h4⟩ := r.w.pen a ea
    refine ⟨?_, c, xs, i, t, h2, s1 _ _ h3, h4⟩
    unfold DL.plus
    rw [if_neg]
    · exact h1
    · rintro ⟨j, ds, hj, ej⟩
      obtain ⟨_, _, _, _, _, n, _⟩ := r.own j ds hj
      exact n (by rw [ej]; exact ea)
  · unfold DL.plus
    rw [if_neg]
    · exact r.st.nn b u z n
    · rintro ⟨j, ds, hj, ej⟩
      obtain ⟨_, _, _, _, n0, _⟩ := r.own j ds hj
      rw [ej] at n0
      rw [z] at n0; cases n0
  · rcases lendE_dat h with hd | ⟨ds, ed, ho⟩
    · obtain ⟨v, h1, h2⟩ := r.dat i d hd
      exact ⟨v, h1, h2.mono s1⟩
    · subst ed
      obtain ⟨xs, h1, h2, h3, h4, h5, h6⟩ := r.own i ds ho
      refine ⟨_, h1, .lst ?_ (h6.mono s1)⟩
      unfold DL.plus
      rw [if_pos ⟨i, ds, ho, rfl⟩]
      exact h2
mutual
/-- no list within -/
def noL : D → Bool
  | .none => true
  | .bool _ => true
  | .int _ => true
  | .str _ => true
  | .tuple ds => noLs ds
  | .list _ => false
  | .dict _ => false
def noLs : List D → Bool
  | [] => true
  | d :: ds => noL d && noLs ds
end
mutual
theorem R.less {p : Option Addr} {G G' : Hp} (h : ∀ b o, G b = some o → (∀ xs, o ≠ .lst xs) → G' b = some o) : ∀ {v : V} {d : D}, R K p G v d → noL d = true → R K p G' v d
  | _, _, .non, _ => .non
  | _, _, .bl b, _ => .bl b
  | _, _, .int i, _ => .int i
  | _, _, .str x, _ => .str x
  | _, _, .lst _ _, n => by simp only [noL] at n; cases n
  | _, _, .tup q r, n => .tup (by
      rcases q with (q | ⟨o, q⟩) | q
      · exact .inl (.inl (h _ _ q fun xs z => nomatch z))
      · exact .inl (.inr ⟨o, h _ _ q fun xs z => nomatch z⟩)
      · exact .inr q) (RA.less h r (by simpa only [noL] using n))
  | _, _, .pen _ e, n => by subst e; simp only [noL] at n; cases n
  | _, _, .exc _ e, n => by subst e; simp only [noL] at n; cases n
  | _, _, .obj _ _ e, n => by subst e; simp only [noL] at n; cases n
  | _, _, .scr _ e, n => by subst e; simp only [noL] at n; cases n
theorem RA.less {p : Option Addr} {G G' : Hp} (h : ∀ b o, G b = some o → (∀ xs, o ≠ .lst xs) → G' b = some o) : ∀ {vs : List V} {ds : List D}, RA K p G vs ds → noLs ds = true → RA K p G' vs ds
  | _, _, .nil, _ => .nil
  | _, _, .cons q t, n => by
    unfold noLs at n
    rw [Bool.and_eq_true] at n
    exact .cons (R.less h q n.1) (RA.less h t n.2)
end
def wLend (w : WEx) : WEx := fun e Q x => w (lendE e) (fun d e' => noL d = true ∧ Q d { e with k := e'.k }) noX
theorem wLend.mono (m : Mono wa) : Mono (wLend wa) := fun e Q Q' x x' h1 h2 q => m _ _ _ _ _ (fun d e1 z => ⟨z.1, h1 _ _ z.2⟩) (fun _ _ z => z) q
/-- an expression that reads such lists and gives nothing of them away -/
theorem de_lend (h : ∀ G₀ H₀, DE X (inn F.p G₀ H₀) a wa) : DE X F a (wLend wa) := by
  have hr : PE X a (fun σ H Q => ∃ G₀ H₀, tE X.K (inn F.p G₀ H₀) wa σ H Q) := ⟨fun pins s σ H Q I ⟨G₀, H₀, q⟩ => (h G₀ H₀).run.run pins s σ H Q I q⟩
  have m := (h X.H_0 X.H_0).mono
  refine de_of hr (wLend.mono m) fun σ H Q ⟨e, G, r, q⟩ => ?_
  obtain ⟨α, r0⟩ := id r
  obtain ⟨s1, r1⟩ := r0.plus
  refine ⟨DL.plus G H e α, H, lendE e, DL.plus G H e α, r1.rebase lendE_own, m _ _ _ _ _ (fun d e1 z v G' H' s r' rv => ?_) (fun _ _ z => z.elim) q⟩
  obtain ⟨β, r2⟩ := id r'
  have held : ∀ b, heldAt e α b → ∃ xs, H b = some (.lst xs) ∧ G' b = some (.lst xs) ∧ G b = none ∧ F.H₀ b = none ∧ F.p ≠ some b := fun b hb => by
    obtain ⟨j, ds, hj, ej⟩ := id hb
    obtain ⟨xs, _, h2, h3, h4, h5, _⟩ := r0.own j ds hj
    rw [ej] at h2 h3 h4 h5
    exact ⟨xs, h2, s _ _ (by unfold DL.plus; rw [if_pos hb]; exact h2), h3, h4, h5⟩
  have sG : Same G (minus G' e α) := fun b u z => by
    unfold minus
    rw [if_neg (fun hb => by obtain ⟨_, _, _, n, _⟩ := held b hb; rw [z] at n; cases n)]
    exact s _ _ (s1 _ _ z)
  have sH : Same (minus G' e α) H' := fun b u z => by
    unfold minus at z
    split at z
    · cases z
    · exact r'.same _ _ z
  refine z.2 v (minus G' e α) H' sG (r.step (k' := e1.k) ⟨sG, r2.st.hh, fun b u z n => ?_, r2.st.pc⟩ ⟨sH, fun a ea => ?_⟩) (rv.less (fun b o z nl => ?_) z.1)
  · unfold minus
    split
    · rfl
    · rename_i hb
      refine r2.st.nn b u z ?_
      show DL.plus G H e α b = none
      unfold DL.plus
      rw [if_neg hb]
      exact n
  · obtain ⟨h1, c, xs, i, t, h2, h3, h4, h5, h6⟩ := r'.wd.pen a ea
    obtain ⟨_, c', xs', i', t', g2, g3, g4, _⟩ := r0.w.pen a ea
    obtain ⟨i2, t2, h2'⟩ := r2.st.pc a c' ea ⟨i', t', g2⟩
    rw [h2] at h2'
    cases h2'
    exact ⟨by unfold minus; split <;> first | rfl | exact h1, c, xs', i, t, h2, sG _ _ g3, g4, h5, h6⟩
  · unfold minus
    rw [if_neg (fun hb => by obtain ⟨ys, _, g', _⟩ := held b hb; rw [z] at g'; cases g'; exact nl _ rfl)]
    exact z
end
/-! #### statements that change them -/
section
variable {K : PySem.W.Frag} {F : Fx} {σ : L2.St} {H : Hp} {X : Cx} {pos : Pos} {a b : Expr} {es : List Expr} {wa wb : WEx} {wr : WAx} {sts : List Stmt} {ws : WSt}
def wRel (w : WSt) : WSt := fun e D => w (lendE e) D
theorem dss_rel (h : DSs X F sts ws) : DSs X F sts (wRel ws) := dss_of h.run (fun e A B l q => h.mono _ _ _ l q) fun D σ H ⟨e, G, r, q⟩ => by
  obtain ⟨α, r0⟩ := id r
  obtain ⟨s1, r1⟩ := r0.plus
  exact ⟨lendE e, _, r1, h.mono _ _ _ (endsOf.le s1) q⟩
def wOwn (i : Nat) (w : WAx) : WSt := fun e D => w e (fun ds e1 => D.nx (put e1 i (.own ds))) D.ex
theorem ds_own {i : Nat} {x : Str} {p2 : Pos} (h : DF X F a wr) (hN : X.N.Nodup) (hi : X.N[i]? = some x := by rfl) (hx : Loc X.env.scope x := by first | exact Or.inl rfl | exact Or.inr rfl) (hs : swapsWith a (some (.Name x p2)) pos.line X.env = pure false := by rfl)
    (hf : X.fn x = true ∨ X.env.scope.names.lookup x = some .local := by first | exact Or.inl rfl | exact Or.inr rfl) : DS X F (.Assign [.Name x p2] a pos) (wOwn i wr) :=
  ds_of (ps_set hN hi hx h.run hs hf) (fun e A B l q => h.mono e _ _ _ _ (fun _ _ z => l.nx _ z) l.ex q) fun D σ H ⟨e, G, r, q⟩ =>
    ⟨e, G, r, h.mono e _ _ _ _ (fun ds e1 z q xs G' H' s r' hq ra => z _ G' _ s (r'.own hq ra)) (fun y e' z C G' H' s r' ec => z C σ G' H' s r' ec) q⟩
def wApp (i : Nat) (w : WEx) : WSt := fun e D => (∃ ds, e.s[i]? = some (.own ds)) ∧ w e (fun d e1 => ∃ ds, e1.s[i]? = some (.own ds) ∧ ds.length < 1000 ∧ D.nx (put e1 i (.own (ds ++ [d])))) D.ex
theorem ds_app {i : Nat} {x : Str} {p1 p2 p3 : Pos} (h : DE X F a wa) (hv : PE X (.Name x p1) (tVar i)) (hs : starEach [a] X.env = (false, eval a X.env) :: starEach [] X.env := by rfl)
    (hpe : PE X (.Call (.Attribute (.Name x p1) "append" p2) [a] [] p3) (tBM X.K "list" rAppend (tVar i) (tCons (tE X.K F wa) tNil))) (hsw : swapsWith (.Call (.Attribute (.Name x p1) "append" p2) [a] [] p3) none pos.line X.env = pure false := by rfl) :
    DS X F (.Expr (.Call (.Attribute (.Name x p1) "append" p2) [a] [] p3) pos) (wApp i wa) :=
  ds_of (ps_expr hpe hsw) (fun e A B l q => ⟨q.1, h.mono e _ _ _ _ (fun d e1 ⟨ds, i1, i2, z⟩ => ⟨ds, i1, i2, l.nx _ z⟩) l.ex q.2⟩) fun D σ H ⟨e, G, r, ⟨ds0, h0⟩, q⟩ => by
    obtain ⟨α, r0⟩ := id r
    obtain ⟨xs, h1, h2, _⟩ := r0.own i ds0 h0
    refine ⟨.ref (α i), h1, .inl ⟨rfl, _, .inl (.inl h2)⟩, ?_⟩
    refine tE.mono h.mono (fun v H1 z => ?_) (tS.expr (k := fun D d e1 => ∃ ds, e1.s[i]? = some (.own ds) ∧ ds.length < 1000 ∧ D.nx (put e1 i (.own (ds ++ [d])))) (T := fun v H1 => ∃ e1 G1 d ds, Same G G1 ∧ Rl X.K F.p F.G₀ F.H₀ G1 H1 σ e1 ∧ R X.K F.p G1 v d ∧ e1.s[i]? = some (.own ds) ∧ ds.length < 1000 ∧ (endsOf X.K F G D).nx (put e1 i (.own (ds ++ [d])))) h.mono r q
      fun d e' v G' H' s r' rv ⟨ds, i1, i2, z⟩ => ⟨e', G', d, ds, s, r', rv, i1, i2, z⟩)
    obtain ⟨e1, G1, d, ds, s1, r1, rv, i1, i2, z⟩ := z
    obtain ⟨β, r2⟩ := id r1
    obtain ⟨ys, g1, g2, _, _, _, ra⟩ := r2.own i ds i1
    rw [h1] at g1
    have eb : α i = β i := by injection g1 with g1; injection g1 with g1; injection g1
    rw [← eb] at g2
    exact ⟨α i, ys, v, rfl, rfl, g2, by rw [ra.length]; exact Nat.lt_of_lt_of_le i2 (by decide), z σ G1 _ s1 (r1.mut i1 h1 (ra.append (.cons rv .nil)))⟩
def wIns (i : Nat) (wk w : WEx) : WSt := fun e D => (∃ ds, e.s[i]? = some (.own ds)) ∧ wk e (fun dk e1 => w e1 (fun d e2 => ∃ ds k, e2.s[i]? = some (.own ds) ∧ dk = .int k ∧ 0 ≤ k ∧ k < 1000 ∧ ds.length < 1000 ∧ D.nx (put e2 i (.own (ds.take k.toNat ++ [d] ++ ds.drop k.toNat)))) D.ex) D.ex
theorem ds_ins {i : Nat} {x : Str} {p1 p2 p3 : Pos} {t : V → List V → Hp → VK → Prop} (hk : DE X F b wb) (h : DE X F a wa)
    (ht : ∀ (l : Addr) (xs : List V) (k : Int) (y : V) (H : Hp) (Q : VK), H l = some (.lst xs) → xs.length < sizeLine → 0 ≤ k → k < 2 ^ 63 → Q .non (L2.upd H l (.lst (xs.take k.toNat ++ [y] ++ xs.drop k.toNat))) → t (.ref l) [.int k, y] H Q)
    (hpe : PE X (.Call (.Attribute (.Name x p1) "insert" p2) [b, a] [] p3) (tBM X.K "list" t (tVar i) (tCons (tE X.K F wb) (tCons (tE X.K F wa) tNil)))) (hsw : swapsWith (.Call (.Attribute (.Name x p1) "insert" p2) [b, a] [] p3) none pos.line X.env = pure false := by rfl) :
    DS X F (.Expr (.Call (.Attribute (.Name x p1) "insert" p2) [b, a] [] p3) pos) (wIns i wb wa) :=
  ds_of (ps_expr hpe hsw) (fun e A B l q => ⟨q.1, hk.mono e _ _ _ _ (fun dk e1 z => h.mono e1 _ _ _ _ (fun d e2 ⟨ds, k, i1, i2, i3, i4, i5, y⟩ => ⟨ds, k, i1, i2, i3, i4, i5, l.nx _ y⟩) l.ex z) l.ex q.2⟩) fun D σ H ⟨e, G, r, ⟨ds0, h0⟩, q⟩ => by
    obtain ⟨α, r0⟩ := id r
    obtain ⟨xs, h1, h2, _⟩ := r0.own i ds0 h0
    refine ⟨.ref (α i), h1, .inl ⟨rfl, _, .inl (.inl h2)⟩, ?_⟩
    refine tE.mono hk.mono (fun v H1 z => ?_) (tE.any hk.mono r (hk.mono e _ _ _ _ (fun _ _ z => z) (fun y e' z C G' H' s r' ec => z C σ G' H' s r' ec) q))
    obtain ⟨e1, G1, dk, s1, r1, rk, z⟩ := z
    refine tE.mono h.mono (fun v' H2 z => ?_) (tE.any h.mono r1 (h.mono e1 _ _ _ _ (fun _ _ z => z) (fun y e' z C G' H' s r' ec => z C σ G' H' (s1.trans s) r' ec) z))
    obtain ⟨e2, G2, d, s2, r2, rv, ds, k, i1, ek, i2, i3, i4, y⟩ := z
    subst ek
    obtain ⟨β, r3⟩ := id r2
    obtain ⟨ys, g1, g2, _, _, _, ra⟩ := r3.own i ds i1
    rw [h1] at g1
    have eb : α i = β i := by injection g1 with g1; injection g1 with g1; injection g1
    rw [← eb] at g2
    rw [rk.int_inv]
    exact ht _ ys k v' H2 _ g2 (by rw [ra.length]; exact Nat.lt_of_lt_of_le i4 (by decide)) i2 (by omega) (y σ G2 _ (s1.trans s2) (r2.mut i1 h1 (((ra.take _).append (.cons rv .nil)).append (ra.drop _))))
def wSetIx (i : Nat) (wk w : WEx) : WSt := fun e D => w e (fun d e1 => (∃ ds, e1.s[i]? = some (.own ds)) ∧ wk e1 (fun dk e2 => ∃ ds k j, e2.s[i]? = some (.own ds) ∧ dk = .int k ∧ ixN ds.length k = some j ∧ D.nx (put e2 i (.own (ds.set j d)))) D.ex) D.ex
theorem ds_setix {i : Nat} {x : Str} {p1 p2 : Pos} (hk : DE X F b wb) (h : DE X F a wa) (hv : PE X (.Name x p1) (tVar i))
    (ha : ∀ v, assign (.Subscript (.Name x p1) b p2) X.env v = (do
      let ov ← holding [v] (eval (.Name x p1) X.env)
      let iv ← holding [v, ov] (eval b X.env)
      standAt p2
      holding [v, ov,
            iv] (setItem ov iv v)
      release [v, ov, iv] []) := by intro _; rfl)
    (hs : swapsWithSole [.Subscript (.Name x p1) b p2] a pos.line X.env = pure false := by rfl) (hw : swappedStores [.Subscript (.Name x p1) b p2] a X.env = pure none := by rfl) (h1 : (assignEach [.Subscript (.Name x p1) b p2] X.env).map (·.2) = [assign (.Subscript (.Name x p1) b p2) X.env] := by rfl) :
    DS X F (.Assign [.Subscript (.Name x p1) b p2] a pos) (wSetIx i wb wa) :=
  ds_of (ps_asg h.run (pg_sub hv hk.run set_list ha) hs hw h1) (fun e A B l q => h.mono e _ _ _ _ (fun d e1 z => ⟨z.1, hk.mono e1 _ _ _ _ (fun dk e2 ⟨ds, k, j, i1, i2, i3, y⟩ => ⟨ds, k, j, i1, i2, i3, l.nx _ y⟩) l.ex z.2⟩) l.ex q) fun D σ H ⟨e, G, r, q⟩ => by
    refine tE.mono h.mono (fun v H1 z => ?_) (tE.any h.mono r (h.mono e _ _ _ _ (fun _ _ z => z) (fun y e' z C G' H' s r' ec => z C σ G' H' s r' ec) q))
    obtain ⟨e1, G1, d, s1, r1, rv, ⟨ds0, h0⟩, z⟩ := z
    obtain ⟨α, r0⟩ := id r1
    obtain ⟨xs, g1, g2, _⟩ := r0.own i ds0 h0
    refine ⟨.ref (α i), g1, ?_⟩
    refine tE.mono hk.mono (fun v' H2 z => ?_) (tE.any hk.mono r1 (hk.mono e1 _ _ _ _ (fun _ _ z => z) (fun y e' z C G' H' s r' ec => z C σ G' H' (s1.trans s) r' ec) z))
    obtain ⟨e2, G2, dk, s2, r2, rk, ds, k, j, i1, ek, i2, z⟩ := z
    subst ek
    obtain ⟨β, r3⟩ := id r2
    obtain ⟨ys, q1, q2, _, _, _, ra⟩ := r3.own i ds i1
    rw [g1] at q1
    have eb : α i = β i := by injection q1 with q1; injection q1 with q1; injection q1
    rw [← eb] at q2
    exact ⟨α i, ys, k, j, rfl, rk.int_inv, q2, by rw [ra.length]; exact i2, z σ G2 _ (s1.trans s2) (r2.mut i1 g1 (ra.set (rv.mono s2) j))⟩
/-! ### a, b = e -/
def wAsg (g : WG) (w : WEx) : WSt := fun e D => w e (fun d e1 => g d e1 D.nx) D.ex
theorem ds_asg {tg : Expr} {g : WG} (h : DE X F a wa) (hg : DG X F tg g) (hs : swapsWithSole [tg] a pos.line X.env = pure false := by rfl) (hw : swappedStores [tg] a X.env = pure none := by rfl) (h1 : (assignEach [tg] X.env).map (·.2) = [assign tg X.env] := by rfl) : DS X F (.Assign [tg] a pos) (wAsg g wa) :=
  ds_of (ps_asg h.run hg.run hs hw h1) (fun e A B l q => h.mono e _ _ _ _ (fun d e1 z => hg.mono _ _ _ _ l.nx z) l.ex q) fun D σ H ⟨e, G, r, q⟩ =>
    ⟨e, G, r, h.mono e _ _ _ _ (fun d e1 z v G' H' s r' rv => ⟨e1, G', d, r', rv, hg.mono _ _ _ _ (fun e2 y σ' H2 r2 => y σ' G' H2 s r2) z⟩) (fun y e' z C G' H' s r' ec => z C σ G' H' s r' ec) q⟩
/-- a, b = x, y -/
def wPar (i j : Nat) (wa wb : WEx) : WSt := fun e D => wa e (fun d e1 => wb e1 (fun d' e2 => D.nx (put (put e2 i (.dat d)) j (.dat d'))) D.ex) D.ex
theorem ds_par {i j : Nat} {x y : Str} {px py pt : Pos} {kt k2 pt2} (hc : X.calm = true) (hN : X.N.Nodup) (h : DE X F a wa) (h' : DE X F b wb) (hij : i ≠ j) (hw : swappedStores [.Tuple [.Name x px, .Name y py] kt pt] (.Tuple [a, b] k2 pt2) X.env = pure (some [x, y]))
    (hi : X.N[i]? = some x := by rfl) (hj : X.N[j]? = some y := by rfl) (hx : X.env.scope.names.lookup x = some .local := by rfl) (hy : X.env.scope.names.lookup y = some .local := by rfl)
    (hs : swapsWithSole [.Tuple [.Name x px, .Name y py] kt pt] (.Tuple [a, b] k2 pt2) pos.line X.env = pure false := by rfl) (s1 : starEach [a, b] X.env = (false, eval a X.env) :: starEach [b] X.env := by rfl) (s2 : starEach [b] X.env = (false, eval b X.env) :: starEach [] X.env := by rfl) :
    DS X F (.Assign [.Tuple [.Name x px, .Name y py] kt pt] (.Tuple [a, b] k2 pt2) pos) (wPar i j wa wb) :=
  ds_of (ps_par hc hN hi hj hij hx hy (pa_cons h.run (pa_cons h'.run pa_nil s2) s1) hw hs) (fun e A B l q => h.mono e _ _ _ _ (fun d e1 z => h'.mono e1 _ _ _ _ (fun _ _ y => l.nx _ y) l.ex z) l.ex q) fun D σ H ⟨e, G, r, q⟩ => by
    refine tE.mono h.mono (fun v H1 z => ?_) (tE.any h.mono r (h.mono e _ _ _ _ (fun _ _ z => z) (fun y e' z C G' H' s r' ec => z C σ G' H' s r' ec) q))
    obtain ⟨e1, G1, d, s1, r1, rv, z⟩ := z
    refine tE.mono h'.mono (fun v' H2 z => ?_) (tE.any h'.mono r1 (h'.mono e1 _ _ _ _ (fun _ _ z => z) (fun y e' z C G' H' s r' ec => z C σ G' H' (s1.trans s) r' ec) z))
    obtain ⟨e2, G2, d', s2, r2, rv', z⟩ := z
    exact ⟨v, v', rfl, z _ G2 H2 (s1.trans s2) ((r2.put (rv.mono s2)).put rv')⟩
end
end L2.DL
set_option
      maxHeartbeats 1000000
namespace L2.DL
open PySem PySem.Spec
      PyProof.Rows
/-! ### isinstance -/
def tyN : D → String
  | .none => "NoneType"
  | .bool _ => "bool"
  | .int _ => "int"
  | .str _ => "str"
  | .list _ => "list"
  | .tuple _ => "tuple"
  | .dict _ => ""
def wIsi (T : String) (w : WEx) : WEx := fun e Q x => w e (fun d e1 => ∃ b, kitB (tyN d) T = some b ∧ (∀ kv, d ≠ .dict kv) ∧ Q (.bool b) e1) x
section
variable {K : PySem.W.Frag} {F : Fx} {σ : L2.St} {H : Hp} {X : Cx} {pos : Pos} {a b : Expr} {es : List Expr} {wa wb : WEx} {wr : WAx}
theorem wIsi.mono {T : String} (m : Mono wa) : Mono (wIsi T wa) := fun e Q Q' x x' h1 h2 q => m e _ _ _ _ (fun d e1 ⟨b, i1, i2, z⟩ => ⟨b, i1, i2, h1 _ _ z⟩) h2 q
theorem R.ty {p : Option Addr} {G : Hp} {v : V} {d : D} (s : Same G H) (r : R K p G v d) (h : ∀ kv, d ≠ .dict kv) : TyX K H v (.type (tyN d)) := by
  cases r with
  | non => exact .base .non
  | bl b => exact .base (.bl b)
  | int i => exact .base (.int i)
  | str x => exact .base (.str x)
  | lst g _ => exact .base (.lst (s _ _ g))
  | tup g _ =>
    rcases g with (g | ⟨o, g⟩) | ⟨o, _, _, hk, hc, _⟩
    · exact .base (.tup (s _ _ g))
    · exact .fTuple (s _ _ g)
    · exact .kTuple hk hc
  | pen _ e => exact absurd e (h _)
  | exc _ e => exact absurd e (h _)
  | obj _ _ e => exact absurd e (h _)
  | scr _ e => exact absurd e (h _)
theorem de_isi {T : String} {x : Str} {p1 p2 : Pos} (h : DE X F a wa) (hm : X.mg "isinstance" = none) (hT : X.mg x = none) (hv2 : bootBuiltins x = some (.type T)) (hg : Gl X "isinstance" := by rfl) (hgT : Gl X x := by rfl) (hv : bootBuiltins "isinstance" = some (.builtin "isinstance") := by decide +kernel)
    (hn : x ≠ "__name__" := by decide) (hd : (x == ("__debug__" : Str)) = false := by decide) (hs : starEach [a, .Name x p2] X.env = (false, eval a X.env) :: starEach [.Name x p2] X.env := by rfl) (hs2 : starEach [.Name x p2] X.env = (false, eval (.Name x p2) X.env) :: starEach [] X.env := by rfl)
    (hpl : (backTo pos (starEach [.Name x p2] X.env)).any (·.1) = false := by rfl) : DE X F (.Call (.Name "isinstance" p1) [a, .Name x p2] [] pos) (wIsi T wa) :=
  de_of (pe_callB call_isi hg hm hv (pa_cons h.run (pa_cons (pe_bltn (v := .ty T) hgT hT hv2 rfl hn hd) pa_nil hs2) hs) (by decide) (by decide) hs hpl) (wIsi.mono h.mono) fun σ H Q ⟨e, G, r, q⟩ =>
    ⟨e, G, r, h.mono e _ _ _ _ (fun d e1 ⟨b, i1, i2, z⟩ v G' H' s r' rv => ⟨v, .ty T, .type (tyN d), .type T, b, rfl, .ty T, rv.ty r'.same i2, kit_ty i1, z _ G' H' s r' (.bl b)⟩) (fun _ _ z => z) q⟩
/-- isinstance(e, C), e an error -/
def wIsC (K : PySem.W.Frag) (c : Value) (w : WEx) : WEx := fun e Q x => w e (fun d e1 => ∃ C b, d = excD C ∧ ExcC K C ∧ PySem.W.kitOne K (.ref C) c = some b ∧ Q (.bool b) e1) x
theorem wIsC.mono {K : PySem.W.Frag} {c : Value} (m : Mono wa) : Mono (wIsC K c wa) := fun e Q Q' x x' h1 h2 q => m e _ _ _ _ (fun d e1 ⟨C, b, i1, i2, i3, z⟩ => ⟨C, b, i1, i2, i3, h1 _ _ z⟩) h2 q
def rIsX (K : PySem.W.Frag) : List V → Hp → VK → Prop := fun xs H Q => ∃ (a C : Addr) (c : V) (cv : Value) (b : Bool), xs = [.ref a, c] ∧ H a = some (ExC C a) ∧ ExcC K C ∧ (∀ u, RelV c u → u = cv) ∧ PySem.W.kitOne K (.ref C) cv = some b ∧ Q (.bl b) H
theorem call_isX : CallR X (.builtin "isinstance") (rIsX X.K) := by
  intro pins s σ
        H xs us Q I r h
  obtain ⟨a, C, c, cv, b, rfl, ha, hC, hc, hk, q⟩ := h
  obtain ⟨u1, u2, rfl,
        r1, r2⟩ := vals2 r
  have e2 := hc _ r2
  subst e2
  cases (show u1 =
        Value.ref a from r1)
  obtain ⟨⟨oe, vs, ho, hz, hd⟩, _, _⟩ := I.hok a _ ha
  have J : PySem.W.InstAt s.heap a oe C none := by
    obtain ⟨c1, c2, c3, c4⟩ := oe
    obtain ⟨h1, h2⟩ := hz
    dsimp only at h1 h2 hd
    subst h1 h2 hd
    exact ⟨ho, rfl, rfl, trivial⟩
  exact PySem.W.kia_one (PySem.W.handS_kitx_exc hC.hg hC.hk hC.hs hC.hd hC.ha hC.hn hC.ht hC.hm) I.kIn J hk (fun z => nomatch z) fun tk => ⟨.bl b, H, I.kept (t' := tk) fun _ _ z => z, rfl, q⟩
theorem de_isC {x : Str} {c : V} {cv : Value} {p1 p2 : Pos} (h : DE X F a wa) (hm : X.mg "isinstance" = none) (hc : PE X (.Name x p2) (tC c)) (hcv : ∀ u, RelV c u → u = cv) (hg : Gl X "isinstance" := by rfl) (hv : bootBuiltins "isinstance" = some (.builtin "isinstance") := by decide +kernel)
    (hs : starEach [a, .Name x p2] X.env = (false, eval a X.env) :: starEach [.Name x p2] X.env := by rfl) (hs2 : starEach [.Name x p2] X.env = (false, eval (.Name x p2) X.env) :: starEach [] X.env := by rfl)
    (hpl : (backTo pos (starEach [.Name x p2] X.env)).any (·.1) = false := by rfl) : DE X F (.Call (.Name "isinstance" p1) [a, .Name x p2] [] pos) (wIsC X.K cv wa) :=
  de_of (pe_callB call_isX hg hm hv (pa_cons h.run (pa_cons hc pa_nil hs2) hs) (by decide) (by decide) hs hpl) (wIsC.mono h.mono) fun σ H Q ⟨e, G, r, q⟩ =>
    ⟨e, G, r, h.mono e _ _ _ _ (fun d e1 ⟨C, b, i1, i2, i3, z⟩ v G' H' s r' rv => by
      rw [i1] at rv
      obtain ⟨a, rfl, ha⟩ := rv.exc_inv
      exact ⟨a, C, c, cv, b, rfl, r'.same _ _ ha, i2, hcv, i3, z _ G' H' s r' (.bl b)⟩) (fun _ _ z => z) q⟩
/-! ### sorted of ints, count and index of flat things -/
def sortedD : BL
  | [.list xs], P => ∃ ns : List Int, xs = ns.map PyData.int ∧ ∀ ns' : List Int, ns'.Perm ns → ns'.Pairwise (· ≤ ·) → P (.list (ns'.map PyData.int))
  | _, _ => False
theorem sortedD.mono : BL.Mono sortedD := by
  intro a P P' h q
  unfold sortedD at q ⊢
  split at q
  · obtain ⟨ns, e, z⟩ := q
    exact ⟨ns, e, fun ns' p1 p2 => h _ (z ns' p1 p2)⟩
  · exact q.elim
theorem RA.ofInts {p : Option Addr} {G : Hp} : ∀ {ns : List Int} {xs : List V}, RA K p G xs (ns.map PyData.int) → xs = ns.map V.int
  | [], _, h => by cases h; rfl
  | n :: ns, _, h => by
    cases h with
    | cons h t => rw [RA.ofInts t, h.int_inv]; rfl
theorem RA.toInts {p : Option Addr} {G : Hp} : ∀ ns : List Int, RA K p G (ns.map V.int) (ns.map PyData.int)
  | [] => .nil
  | n :: ns => .cons (.int n) (RA.toInts ns)
theorem fitsSorted : FitsL K sortedD (rSortedI K) := by
  intro p G₀ H₀ G H σ e xs ds P Q r ra q k
  unfold sortedD at q
  split at q
  · obtain ⟨x, rfl, rx⟩ := ra.one
    obtain ⟨a, ys, rfl, h1, r1⟩ := rx.lst_inv
    obtain ⟨ns, e1, z⟩ := q
    subst e1
    have ey := r1.ofInts
    subst ey
    exact ⟨a, ns, rfl, SqL.of (r.same _ _ h1), fun ns' l p1 p2 hl => ansL r (RA.toInts ns') k (z ns' p1 p2) hl⟩
  · exact q.elim
/-! ### raise -/
def wRaise (C : Addr) : WSt := fun e D => D.ex (excD C) e
theorem ds_raise {C : Addr} {bmB : List Value} {B newId initId : String} {x m : Str} {j : Nat} {p1 p2 p3 : Pos} (hc : X.calm = true) (tk : Takes X F.W) (FB : ExcBaseFacts B newId initId bmB) (q : PySem.W.excIn X.K C bmB newId = true) (gC : X.mg x = some (.ref C)) (kC : PySem.W.keepIn X.K (.ref C) = true)
    (r : Raises X (.ref C)) (hg : Gl X x := by rfl) (hdb : (x == ("__debug__" : Str)) = false := by decide) : DS X F (.Raise (some (.Call (.Name x p1) [.Constant (.str m) j p2] [] p3)) none pos) (wRaise C) :=
  ds_of (ps_raise hc tk (pmk_own FB q gC kC r hg hdb)) (fun e A B l q => l.ex _ _ q) fun D σ H ⟨e, G, r, q⟩ => q C σ G H (Same.refl G) r rfl
end
end L2.DL
set_option
      maxHeartbeats 2000000
namespace L2.DL
open PySem PySem.Spec
      PyProof.Rows
/-! ### try: body, except X as n: m = n; the error stays known behind it -/
section
variable {X : Cx} {pins : List (Addr ×
      Obj)} {σ : L2.St} {H : Hp} {s : Shared}
/-- an object of ours that nothing speaks of is told anew -/
theorem inv_told {a : Addr} {o : HO} (I : Inv X pins σ H s) (n : H a = none) (n0 : X.s_0.heap.get? a = none) (nl : a ≠ X.env.locals) (nc : ∀ x c, X.env.cells.lookup x = some c → c ≠ a) (np : ∀ p ∈ X.pn ++ pins, p.1 ≠ a) (new : ObjOk X.prog X.w (L2.upd H a o) s.heap a o) :
    Inv X pins σ (L2.upd H a o) s where
  ok := I.ok
  os := I.os
  bare := I.bare
  base := {
    keep := I.base.keep
    slot := I.base.slot
    free := fun b ob e h hx => by rw [upd_ne (fun z => by rw [z, n0] at e; cases e)]; exact I.base.free b ob e h hx
    there := I.base.there
    tups := fun b xs e => by have q := I.base.tups b xs e; rw [upd_ne (ne_of_none q n)]; exact q
    frzs := fun b ob u e => by have q := I.base.frzs b ob u e; rw [upd_ne (ne_of_none q n)]; exact q
    tbls := fun b ps e => by obtain ⟨m, q⟩ := I.base.tbls b ps e; exact ⟨m, by rw [upd_ne (ne_of_none q n)]; exact q⟩ }
  loc := I.loc
  cell := I.cell
  free := by rw [upd_ne (Ne.symm nl)]; exact I.free
  freeC := fun x c e => by rw [upd_ne (nc x c e)]; exact I.freeC x c e
  pin := fun p hp => by
    obtain ⟨h1, h2, h3, h4, h5⟩ := I.pin p hp
    exact ⟨h1, by rw [upd_ne (np p hp)]; exact h2, h3, h4, h5⟩
  hok := I.hok.laidN (fun _ _ z => z) n new
  len := I.len
variable {x n m : Str} {i j : Nat} {CR : Value} {body : List Stmt} {np np2 mp ap pos pos' : Pos} {tb : WX → TS} {Wo : WX}
/-- what is wished of an error in the body -/
def wKeep (K : PySem.W.Frag) (CR : Value) (i j : Nat) (D : Ends) : WX := fun cls od σ H => ∃ C, cls = .ref C ∧ od = none ∧ PySem.W.exmOne K cls CR = some true ∧ ∀ a, H a = none → D.nx (((σ.set i (some (.ref a))).set j (some (.ref a))).set i none) (L2.upd H a (ExC C a))
theorem ps_keep (hs : X.stack = X.env :: X.outer) (hf : X.env.frame = some X.env.locals) (hex : X.ex = []) (hN : X.N.Nodup) (hi : X.N[i]? = some n) (hj : X.N[j]? = some m) (hln : X.env.kindOf n = some .local) (hlm : X.env.kindOf m = some .local) (hc : Names X x CR)
    (hd : (n == ("__debug__" : Str)) = false) (hcd : (n == ("__classdict__" : Str)) = false) (hsw : ∀ a pn, swapsWith (.Name n np2) (some (.Name m mp)) ap.line (X.suite a pn).env = pure false)
    (hb : ∀ (W : WX) (pn : List (Addr × Obj)) (xe : Value → Shared → Prop), Takes (X.tr pn xe) W → PassesOwn (model X.prog X.w) X.A X.env xe → PSs (X.tr pn xe) body (tb W)) :
    PS X (.Try body [.ExceptHandler (some (.Name x np)) (some n) [.Assign [.Name m mp] (.Name n np2) ap] pos'] [] [] pos) (fun D σ H => tb (wKeep X.K CR i j D) D σ H) := by
  constructor
  intro pins s σ H D I h
  have ok := I.ok
  have hfr : X.A.frames = some (X.env :: X.outer) :=
        by rw [ok.frames, hs]
  apply wpAny_Try_except
  have run := (hb (wKeep X.K CR i j D) (X.pn ++ pins) (fun e s₁ => wpAny (model X.prog X.w) X.A (noteFrame e X.env) (fun _ s₂ => wpAny (model X.prog X.w) X.A (setFlight e none)
    (fun _ s₃ => wpAny (model X.prog X.w) X.A (handleBy e X.env [.ExceptHandler (some (.Name x np)) (some n) [.Assign [.Name m mp] (.Name n np2) ap] pos']) (SP X pins D) X.xe s₃) X.xe s₂) X.xe s₁) ?_ PassesOwn.looking).run [] s σ H D (I.toTry _) h
  · refine wpAny_mono run ?_ fun _ _ z => z
    intro f s1 z
    cases f with
    | next => obtain ⟨σ', H', J, q⟩ := z; exact wpAny_execs_nil ⟨σ', H', J.ofTry ok, q⟩
    | brk => obtain ⟨σ', H', J, q⟩ := z; exact ⟨σ', H', J.ofTry ok, q⟩
    | cont => obtain ⟨σ', H', J, q⟩ := z; exact ⟨σ', H', J.ofTry ok, q⟩
    | ret u => obtain ⟨v, σ', H', J, rv, q⟩ := z; exact ⟨v, σ', H', J.ofTry ok, rv, q⟩
  · -- an error comes
    intro u s' xx
    obtain ⟨a, B, sI, pins', σ', H', cls, d, rfl, J', nb, up, sky, na, os, ag, C, rfl, rfl, hm, hq⟩ := xx
    have J : Inv X pins σ' H' sI :=
          J'.ofTry ok
    rw [show (X.tr (X.pn ++ pins) _).stack = X.env :: X.outer from hs] at sky
    show wpAny (model X.prog X.w) X.A
          (noteFrame (.ref a) X.env) _ _ _
    apply Sky.land Zc.steady hfr hf sky
    intro h3 fl3 up3
    have J3 : Inv X pins σ' H' { s' with heap :=
          h3 } := J.landed nb fl3.1 (up.trans up3) os ag
    obtain ⟨oe3, vs3, he3,
          hz3, hd3⟩ := fl3.there
    have nfr : a ∉ frs (X.env :: X.outer) := by
      intro hmem
      obtain ⟨_, o', e', hnf⟩ := fl3.2.2.1.mem hmem
      rw [he3] at e'
      cases e'
      exact hnf _ hd3
    have nL : a ≠ X.env.locals := fun z =>
          nfr (List.mem_filterMap.mpr ⟨X.env, List.mem_cons_self, by rw [hf, z]⟩)
    have nF : a ∉ X.fs := by
      intro hmem
      obtain ⟨e, he, q⟩ := List.mem_filterMap.mp hmem
      exact nfr (List.mem_filterMap.mpr ⟨e,
            List.mem_cons_of_mem _ he, q⟩)
    have nB : B.get? a = none := fl3.2.1
    have young : ∀ b o, sI.heap.get? b = some o → b ∉ frs X.stack → b ≠ a := fun b o e hb z => by
      have q := nb b o e hb
      rw [z, nB] at q; cases q
    have n0 : X.s_0.heap.get?
          a = none := by
      cases e :
            X.s_0.heap.get? a with
      | none => rfl
      | some o =>
        obtain ⟨o', e'⟩ := J.base.there a o e (by rw [hex]; simp)
        exact absurd rfl (young a o' e' (by rw [hs]; exact nfr))
    have nP : ∀ p ∈ X.pn ++ pins, p.1 ≠ a := fun p hp => by
      obtain ⟨e, _, ne, nf, _⟩ := J.pin p hp
      refine young _ _ e fun hb => ?_
      rcases List.mem_cons.mp (J.stkSub p.1 hb) with z | z
      · exact ne z
      · exact nf z
    have S3 :=
          J3.suite he3 hd3 na nL nF
    apply wpAny_handleBy_cons (codeAny_handlers_test ?_) (by intro q; cases q)
    have LT : PySem.W.Looks (model X.prog X.w) h3 (typeOf (.ref a)) (.ref C) := fun A Q E s k q => wpAny_typeOf_ref (k _ _ he3) (by rw [hz3.1]; exact q)
    have LM := PySem.W.exm_one (M := model X.prog X.w) J3.kIn LT hm
    have named : ∀ {Q : Value → Shared → Prop} {E : Value → Shared → Prop}, Q CR { s' with heap := h3 } → wpAny (model X.prog X.w) (X.A.mark (some (.ref a))) (eval (.Name x np) X.env) Q E { s' with heap := h3 } := by
      intro Q E q
      obtain ⟨hg, hdbg,
            hm | ⟨hm, hv, hnn⟩⟩ := hc
      · exact ld_glob (X := X.suite a ((a,
            oe3) :: (X.pn ++ pins))) S3 hg hm q hdbg
      · exact ld_blt (X := X.suite a ((a,
            oe3) :: (X.pn ++ pins))) S3 hg hm hv q hnn hdbg
    apply named
    apply LM.here
    apply codeAny_handlers_suite_as
    apply HandSPX.lands_againZ fl3
    intro h4 fl4 up4
    have J4 : Inv X pins σ' H' { s' with heap := h4 } :=
          J.landed nb fl4.1 ((up.trans up3).trans up4) os ag
    obtain ⟨oe4, vs4, he4,
          hz4, hd4⟩ := fl4.there
    have S4 :=
          J4.suite he4 hd4 na nL nF
    refine store_ok (X := X.suite a ((a, oe4) :: (X.pn ++ pins))) (v := .ref a) S4 hN hi (.inl hln) rfl (fun s5 S5 => ?_) (.inr hln)
    have st : PSs (X.suite a ((a, oe4) :: (X.pn ++ pins))) [.Assign [.Name m mp] (.Name n np2) ap] (tAsg (tVar i) (gName j)) :=
      pss_one (ps_set (X := X.suite a ((a, oe4) :: (X.pn ++ pins))) hN hj (.inl hlm) (pe_var hi (.inl hln) hd hcd) (hsw _ _) (.inr hlm))
    have hlen : i < σ'.length := by rw [J.len]; exact (List.getElem?_eq_some_iff.mp hi).1
    refine wpAny_mono (st.run [] s5 _ H' { nx := fun σ6 H6 => σ6 = (σ'.set i (some (.ref a))).set j (some (.ref a)) ∧ H6 = H', rt := fun _ _ => False } S5 ⟨.ref a, List.getElem?_set_self hlen, rfl, rfl⟩) ?_ fun _ _ z => z.elim
    intro f s6 z
    cases f with
    | brk => obtain ⟨_, _, _, q⟩ := z; exact q.elim
    | cont => obtain ⟨_, _, _, q⟩ := z; exact q.elim
    | ret u => obtain ⟨_, _, _, _, _, q⟩ := z; exact q.elim
    | next =>
      obtain ⟨σ6, H6, S6, rfl, rfl⟩ := z
      have J6 : Inv X (pins ++ [(a, oe4)]) ((σ'.set i (some (.ref a))).set j (some (.ref a))) H6 s6 :=
        ⟨ok, S6.os, S6.bare, S6.base, S6.loc, S6.cell, S6.free, S6.freeC, fun p hp => S6.pin p (by
          have : p ∈ (a, oe4) :: (X.pn ++ pins) := by
            rcases List.mem_append.mp
                  hp with z | z
            · exact List.mem_cons_of_mem _ (List.mem_append_left _ z)
            · rcases List.mem_append.mp z with z | z
              · exact List.mem_cons_of_mem _ (List.mem_append_right _ z)
              · rw [List.mem_singleton.mp
                    z]; exact List.mem_cons_self
          exact List.mem_append_left _ this), S6.hok, S6.len⟩
      refine gone_ok J6 hN hi hln fun s7 J7 => ?_
      obtain ⟨p1, p2, p3, p4, p5⟩ := J7.pin (a, oe4) (List.mem_append_right _ (List.mem_append_right _ (List.mem_singleton.mpr rfl)))
      have J8 : Inv X pins _ H6 s7 := J7.pins_of fun p hp => J7.pin p (List.mem_append_right _ (List.mem_append_left _ hp))
      refine ⟨_, _, inv_told (a := a) (o := ExC C a) J8 p2 n0 nL (fun y c e z => ?_) nP ⟨⟨oe4, vs4, p1, hz4, hd4⟩, ⟨oe4, p1⟩, fun h1 h2 ⟨oe, vs, q1, q2⟩ k => ⟨oe, vs, k _ q1, q2⟩⟩, hq a na⟩
      obtain ⟨v, o, ho, hv⟩ := J8.cell y c e
      rw [z, p1] at ho
      cases ho
      exact p5 v hv
end
def putUn (e : En) (i : Nat) : En := { e with s := e.s.set i .un }
section
variable {K : PySem.W.Frag} {F : Fx} {σ : L2.St} {H : Hp} {X : Cx} {x n m : Str} {i j : Nat} {CR : Value} {body : List Stmt} {np np2 mp ap pos pos' : Pos} {wb : WSt}
theorem Rl.un {p : Option Addr} {G₀ H₀ G : Hp} {e : En} {i : Nat} {z : Option V} (r : Rl K p G₀ H₀ G H σ e) : Rl K p G₀ H₀ G H (σ.set i z) (putUn e i) := by
  obtain ⟨α, r⟩ := r
  have ne : ∀ {j : Nat} {q : Slot}, (e.s.set i .un)[j]? = some q → q ≠ .un → j ≠ i ∧ e.s[j]? = some q := fun {j q} h hq => by
    by_cases hj : i = j
    · subst hj
      by_cases hl : i < e.s.length
      · rw [List.getElem?_set_self hl] at h; cases h; exact absurd rfl hq
      · rw [List.getElem?_eq_none (by simpa using hl)] at h; cases h
    · rw [List.getElem?_set_ne hj] at h
      exact ⟨Ne.symm hj, h⟩
  refine ⟨α, r.w, r.st, by simpa [putUn] using r.len, fun j d h => ?_, fun j ds h => ?_, fun j k ds es h1 h2 => r.sep j k ds es (ne h1 (fun z => nomatch z)).2 (ne h2 (fun z => nomatch z)).2⟩
  · obtain ⟨hj, h'⟩ := ne h (fun z => nomatch z)
    rw [List.getElem?_set_ne (Ne.symm hj)]
    exact r.dat j d h'
  · obtain ⟨hj, h'⟩ := ne h (fun z => nomatch z)
    rw [List.getElem?_set_ne (Ne.symm hj)]
    exact r.own j ds h'
def wTry (K : PySem.W.Frag) (CR : Value) (i j : Nat) (wb : WSt) : WSt := fun e D => wb e { D with ex := fun y e' => ∃ C, y = excD C ∧ PySem.W.exmOne K (.ref C) CR = some true ∧ D.nx (putUn (put (putUn e' i) j (.dat y)) i) }
theorem excD_inj {C C' : Addr} (h : excD C = excD C') : C = C' := by
  injection h with e
  injection e with e _
  injection e with _ e
  injection e with e
  exact Int.ofNat.inj e
theorem ds_try (hs : X.stack = X.env :: X.outer) (hf : X.env.frame = some X.env.locals) (hex : X.ex = []) (hN : X.N.Nodup) (hc : Names X x CR)
    (hb : ∀ (W : WX) (pn : List (Addr × Obj)) (xe : Value → Shared → Prop), Takes (X.tr pn xe) W → PassesOwn (model X.prog X.w) X.A X.env xe → DSs (X.tr pn xe) { F with W := W } body wb)
    (hi : X.N[i]? = some n := by rfl) (hj : X.N[j]? = some m := by rfl) (hln : X.env.kindOf n = some .local := by rfl) (hlm : X.env.kindOf m = some .local := by rfl) (hd : (n == ("__debug__" : Str)) = false := by decide) (hcd : (n == ("__classdict__" : Str)) = false := by decide)
    (hsw : ∀ a pn, swapsWith (.Name n np2) (some (.Name m mp)) ap.line (X.suite a pn).env = pure false := by intros; rfl) :
    DS X F (.Try body [.ExceptHandler (some (.Name x np)) (some n) [.Assign [.Name m mp] (.Name n np2) ap] pos'] [] [] pos) (wTry X.K CR i j wb) := by
  have mb : MonoS wb := (hb (fun _ _ _ _ => False) [] (fun _ _ => False) takes0 PassesOwn.never).mono
  refine ds_of (ps_keep (tb := fun W => tS X.K { F with W := W } wb) hs hf hex hN hi hj hln hlm hc hd hcd hsw (fun W pn xe tk po => (hb W pn xe tk po).run)) (fun e A B l q => ?_) fun D σ H q => ?_
  · exact mb e { A with ex := fun y e' => ∃ C, y = excD C ∧ PySem.W.exmOne X.K (.ref C) CR = some true ∧ A.nx (putUn (put (putUn e' i) j (.dat y)) i) } _ ⟨l.nx, l.rt, l.bk, l.ct, fun y e' ⟨C, e1, e2, z⟩ => ⟨C, e1, e2, l.nx _ z⟩⟩ q
  · obtain ⟨e, G, r, q⟩ := q
    refine ⟨e, G, r, mb e { endsOf X.K F G D with ex := fun y e' => ∃ C, y = excD C ∧ PySem.W.exmOne X.K (.ref C) CR = some true ∧ (endsOf X.K F G D).nx (putUn (put (putUn e' i) j (.dat y)) i) } _ ⟨fun _ z => z, fun _ _ z => z, fun _ z => z, fun _ z => z, fun y e' ⟨C, e1, e2, z⟩ C' σ' G' H' s r' e3 => ?_⟩ q⟩
    have ec : C = C' := excD_inj (e1.symm.trans e3)
    subst ec
    refine ⟨C, rfl, rfl, e2, fun a ha => z _ (L2.upd G' a (ExC C a)) _ (s.trans (sameNew r'.same ha)) ?_⟩
    exact (((r'.new ha).un (i := i) (z := some (.ref a))).put (i := j) (.exc upd_same e1)).un
end
end L2.DL
set_option
      maxHeartbeats 1000000
namespace L2.DL
open PySem PySem.Spec
      PyProof.Rows
/-! ### a def over data -/
def enOf (N : List Str) (ds : List D) (k : Nat) : En := ⟨ds.map .dat ++ List.replicate (N.length - ds.length) .un, k⟩
abbrev defEnds (Q x : D → Nat → Prop) : DEnds := ⟨fun e => Q .none e.k, fun d e => Q d e.k, fun _ => False, fun _ => False, fun d e => x d e.k⟩
section
variable {P : Program} {w : World} {K :
      PySem.W.Frag} {mg : Str → Option Value} {base : Heap}
theorem Rl.start {p : Option Addr} {G H : Hp} {N : List Str} {vs : List V} {ds : List D} {k : Nat} (wd : Wd K p k G H) (ra : RA K p G vs ds) : Rl K p G H G H (L2.start N vs) (enOf N ds k) := by
  have dat : ∀ {i : Nat} {q : Slot}, (ds.map Slot.dat ++ List.replicate (N.length - ds.length) Slot.un)[i]? = some q → q = .un ∨ ∃ d, ds[i]? = some d ∧ q = .dat d := fun {i q} h => by
    by_cases hi : i < ds.length
    · rw [List.getElem?_append_left (by simpa using hi), List.getElem?_map] at h
      cases e : ds[i]? with
      | none =>
            rw [e] at h; cases h
      | some d => rw [e] at h; cases h; exact .inr ⟨d, rfl, rfl⟩
    · rw [List.getElem?_append_right (by simpa using hi), List.getElem?_replicate] at h
      split at h
      · cases h; exact .inl rfl
      · cases h
  refine ⟨fun _ => 0, wd, Stp.refl, by simp [L2.start, enOf, ra.length], fun i d h => ?_, fun i ds' h => ?_, fun i j ds' es h => ?_⟩
  · rcases dat h with e | ⟨d', hd, e⟩
    · cases e
    · cases e
      obtain ⟨v, hv, rv⟩ := ra.get hd
      refine ⟨v, ?_, rv⟩
      unfold L2.start
      rw [List.getElem?_append_left (by rw [List.length_map]; exact (List.getElem?_eq_some_iff.mp hv).1), List.getElem?_map, hv]
      rfl
  · rcases dat h with e | ⟨d', hd, e⟩ <;> cases e
  · rcases dat h with e | ⟨d', hd, e⟩ <;> cases e
/-- THE RULE for a def whose arguments and answer are data -/
theorem fnD {x qual : Str} {st : Stmt} {f : Addr} {fd : FuncData} {N ps : List Str} {k : Nat} {wf : Wc} (F : Fun K x qual st f fd) (S : FnScope N ps (defScope st)) (len : ∀ ds k Q x, wf ds k Q x → ds.length = ps.length)
    (body : ∀ (cdv : Value) (A : Around) (outer : List Env) (s : Shared) (H : Hp) (E : XK) (p : Option Addr) (G : Hp), A.guards = some [] → Room k (A.deeper (envOfC qual (defScope st) s.heap.objs.size f cdv)) →
      ∃ ws, DSs (cxOf (L2.CX P w) P w K mg base N qual (defScope st) f cdv A outer s H E) ⟨p, G, H, fun cls d _ H' => E cls d H'⟩ (defBody st) ws ∧ ∀ ds n Q x, wf ds n Q x → ws (enOf N ds n) (defEnds Q x)) :
    FnG P w K mg base (k + 1) f fd ps (spD K wf) := by
  refine fnG_of F S (fun vs H Q E ⟨p, G, ds, n, _, ra, q⟩ => by rw [ra.length]; exact len ds n _ _ q) fun cdv A outer s H vs Q E hg hr ⟨p, G, ds, n, wd, ra, q⟩ => ?_
  obtain ⟨ws, h, hq⟩ := body cdv A outer s H E p G hg hr
  refine ⟨_, h.run, enOf N ds n, G, Rl.start wd ra, h.mono _ _ _ ⟨?_, ?_, ?_, ?_, ?_⟩ (hq ds n _ _ q)⟩
  · exact fun e' z σ' G' H' _ r => by obtain ⟨α, r'⟩ := id r; exact z _ G' H' r'.st r'.w .non
  · exact fun d e' z v σ' G' H' _ r rv => by obtain ⟨α, r'⟩ := id r; exact z v G' H' r'.st r'.w rv
  · exact fun _ z => z.elim
  · exact fun _ z => z.elim
  · exact fun y e' z C σ' G' H' _ r ec => by obtain ⟨α, r'⟩ := id r; exact z C G' H' r'.st r'.w ec
end
/-! ### the law's call -/
/-- the law is true -/
def spTrue (K : PySem.W.Frag) : Sp := fun vs H Q _ => ∃ (a : Addr) (ns : List Int), vs = [.ref a] ∧ SqL K H a (ns.map V.int) ∧ ns.length ≤ 63 ∧ ∀ H', Q (.bl true) H'
section
variable {P : Program} {w : World} {K : PySem.W.Frag} {mg mb : Str → Option Value} {k : Nat} {fa a : Addr} {fd : FuncData} {x : Str} {s₁ : Shared} {vs : List Value} {ns : List Int}
/-- what may be tracked at the start: nothing, or the script as it stands -/
inductive Script (K : PySem.W.Frag) (a : Addr) (vs : List Value) (ns : List Int) : Hp → Prop where
  | top {o : Obj} : K.lookup a = some o → Script K a vs ns (fun _ => none)
  | own : K.lookup a = none → Script K a vs ns (fun b => if b = a then some (.frz { cls := .type "list", data := .seq vs.toArray } (.lst (ns.map V.int))) else none)
theorem Script.at {H : Hp} (h : Script K a vs ns H) : ∀ b o, H b = some o → b = a ∧ K.lookup a = none ∧ o = .frz { cls := .type "list", data := .seq vs.toArray } (.lst (ns.map V.int)) := by
  intro b o e
  cases h with
  | top _ => cases e
  | own hk =>
    dsimp only at e
    by_cases hb : b = a
    · rw [if_pos hb] at e; cases e; exact ⟨hb, hk, rfl⟩
    · rw [if_neg hb] at e; cases e
theorem law_callG (KX : K.In s₁.heap) (hns : s₁.heap.Ns mainGlobals mg) (hb : s₁.heap.Ns builtinsNs mb) (hbb : ∀ x : Str, x ≠ "__name__" → mb x = bootBuiltins x) (hlim : s₁.heap.NoLimit) (hgn : s₁.gens = #[])
    (ha : s₁.heap.get? a = some { cls := .type "list", data := .seq vs.toArray }) (hi : IntsAre vs ns) (hl : ns.length ≤ 63) (hr : Room k callerA)
    (F : ∀ base : Heap, K.In base → base.Ns mainGlobals mg → FnG P w K mg base k fa fd [x] (spTrue K)) (hbind : ∀ (s : Shared) (u : Value), BindsTo s fd ⟨[u], []⟩ [(x, u)]) :
    codeAny (model P w) callerA (.call (.ref fa) ⟨[.ref a], []⟩) (fun r s' =>
          r = .ok (.ret (.bool true)) ∧ OldK s₁.heap s'.heap ∧ s'.os = s₁.os ∧ AllBare s'.gens) s₁ := by
  have rv := vals_ints hi
  have lv : vs.length = ns.length := hi.length
  have line : ns.length ≤ sizeLine := Nat.le_trans hl (by decide)
  have pick : ∃ H : Hp, Script K a vs ns H ∧ SqL K H a (ns.map V.int) := by
    cases hk : K.lookup a with
    | some o =>
      have e := KX a o hk
      rw [ha] at e
      cases e
      exact ⟨_, .top hk, .inr ⟨_, vs.toArray, _, hk, rfl, rfl, rfl, by rw [List.size_toArray, lv]; exact line, by simpa using rv⟩⟩
    | none => exact ⟨_, .own hk, .inl (.inr ⟨_, if_pos rfl⟩)⟩
  obtain ⟨H, hS, hq⟩ := pick
  have free : ∀ {b : Addr} {o : Obj}, s₁.heap.get? b = some o → (∀ t, o ≠ { cls := .type "list", data := .seq vs.toArray, slots := t }) → H b = none := by
    intro b o e d
    cases z : H b with
    | none => rfl
    | some u =>
      obtain ⟨eb, _, _⟩ := hS.at b u z
      rw [eb, ha] at e
      cases e
      exact absurd rfl (d _)
  have nsK : ∀ {b : Addr} {m : Str → Option Value}, s₁.heap.Ns b m → (hidT s₁.heap H).Ns b m := by
    intro b m h
    obtain ⟨o, es, ep, e, d, r⟩ := h
    refine ⟨o, es, ep, hidT_get e (free e fun t z => ?_), d, r⟩
    rw [z] at d
    cases d
  have kin : K.In (hidT s₁.heap H) := by
    intro b o e
    refine hidT_get (KX b o e) ?_
    cases z : H b with
    | none => rfl
    | some u =>
      obtain ⟨eb, hk, _⟩ := hS.at b u z
      rw [eb, hk] at e; cases e
  have hok : HOk P w H s₁.heap := by
    intro b u z
    obtain ⟨rfl, _, rfl⟩ := hS.at b u z
    exact ⟨ha, by rw [List.length_map]; exact line, vs, _, rv, ha⟩
  obtain ⟨mc, l1, l2⟩ := hlim
  have e0 : Env0 P w K mg (hidT s₁.heap H) callerA [] s₁ H := ⟨rfl, ⟨kin, nsK hns, ⟨mb, nsK hb, hbb⟩, ⟨mc, nsK l1, l2⟩⟩, fun b o e => of_hidT e, Nat.le_of_eq (hidT_size _ _), trivial, (by intro b z; cases z), hok, .of_eq hgn⟩
  refine codeAny_mono ((F _ kin (nsK hns)).run callerA [] s₁ H ⟨[.ref a], []⟩ [.ref a] [.ref a] (fun v _ => v = .bl true) (fun _ _ _ => False) rfl hr e0 (hbind s₁ (.ref a)) (.cons rfl .nil) ⟨a, ns, rfl, hq, hl, fun _ => rfl⟩) ?_
  intro r s' h
  cases r with
  | error e => obtain ⟨_, _, _, _, _, _, _, _, _, _, _, _, z⟩ := h; exact z.elim
  | ok fl =>
    cases fl with
    | next => exact h.elim
    | brk => exact h.elim
    | cont => exact h.elim
    | ret u =>
      obtain ⟨v, H', os, bare,
            un, hok', r', q⟩ := h
      cases q
      cases r'
      refine ⟨rfl, OldK.of_keep fun b o e =>
            ?_, os, bare⟩
      cases q : H b with
      | none => exact un.keep b o e q (by intro z; cases z) (by intro z; cases z)
      | some u =>
        obtain ⟨_, _, rfl⟩ := hS.at b u q
        obtain ⟨e1, _⟩ := hok b _ q
        obtain ⟨e2, _⟩ := hok' b _ (un.frzs b _ _ q)
        rw [e] at e1
        cases e1
        exact e2
end
theorem walk_G {l : PySem.W.OpenLaw} {k : Nat} {q : Program} {loose : List Str} {XP : (Str → Option Value) → Heap → Prop} {YP : World → Heap → Prop} {d : DefRec} {K : Params → PySem.W.Frag} {x : Str} (hn : l.most = some 63) (hdf : d.params.defaults = []) (hr : Room k callerA)
    (hY : ∀ (w : World) (h : Heap),
          YP w h → (K w.params).In h)
    (F : ∀ (w : World) (mg : Str → Option Value) (fa : Addr) (h : Heap),
          (K w.params).In h → h.Ns mainGlobals mg → mg d.name = some (.ref fa) →
      ∃ fd : FuncData, (∀ (s : Shared) (u : Value), BindsTo s fd ⟨[u], []⟩ [(x, u)]) ∧ ∀ base : Heap, (K w.params).In base → base.Ns mainGlobals mg → FnG l.prog w (K w.params) mg base k fa fd [x] (spTrue (K w.params))) :
    PySem.W.WalkO q loose XP YP l.row.toRowW d [] (fun f vs =>
          PySem.call f vs) := by
  apply Att.attach_call hn hdf
  intro w s₀ s₁ mg mb fa o pm cd doc a vs ns G Y ho hd hcd hmg hobj hints hlen hg
  obtain ⟨fd, hb, hF⟩ := F w mg fa _ (hY w _ Y) G.T.g hmg
  exact law_callG (hY w _ Y) G.T.g G.T.b G.T.builtins G.T.nolimit hg hobj hints hlen hr hF hb
end L2.DL
set_option
      maxHeartbeats 1000000
namespace L2.DL
open PySem PySem.Spec
      PyProof.Rows
/-! ### methods of lists that change nothing -/
def wMt (f : B2) (wa wb : WEx) : WEx := fun e Q x => wa e (fun d1 e1 => (∃ xs, d1 = .list xs) ∧ wb e1 (fun d2 e2 => f d1 d2 fun d => Q d e2) x) x
def FitsM (K : PySem.W.Frag) (f : B2) (r : V → List V → Hp → VK → Prop) : Prop := ∀ (p : Option Addr) (G₀ H₀ G H : Hp) (σ : L2.St) (e : En) (x y : V) (a b : D) (P : D → Prop) (Q : VK),
  Rl K p G₀ H₀ G H σ e → R K p G x a → R K p G y b → f a b P → (∀ d, P d → ∀ v G' H', Same G G' → Rl K p G₀ H₀ G' H' σ e → R K p G' v d → Q v H') → r x [y] H Q
/-- how many of the bools are b; where the first is -/
def cntD : B2
  | .list xs, .bool b, P => ∃ bs : List Bool, xs = bs.map PyData.bool ∧ P (.int (bs.count b))
  | _, _, _ => False
def posD : B2
  | .list xs, .bool b, P => ∃ (bs : List Bool) (j : Nat), xs = bs.map PyData.bool ∧ bs[j]? = some b ∧ (∀ m, m < j → bs[m]? ≠ some b) ∧ P (.int j)
  | _, _, _ => False
theorem cntD.mono : B2.Mono cntD := by
  intro a b P P' h q
  unfold cntD at q ⊢
  split at q
  · obtain ⟨bs, e, z⟩ := q; exact ⟨bs, e, h _ z⟩
  · exact q.elim
theorem posD.mono : B2.Mono posD := by
  intro a b P P' h q
  unfold posD at q ⊢
  split at q
  · obtain ⟨bs, j, e, i1, i2, z⟩ := q; exact ⟨bs, j, e, i1, i2, h _ z⟩
  · exact q.elim
section
variable {K : PySem.W.Frag} {F : Fx} {σ : L2.St} {H : Hp} {X : Cx} {pos : Pos} {a b : Expr} {es : List Expr} {wa wb : WEx} {wr : WAx}
theorem wMt.mono {f : B2} (hf : f.Mono) (ma : Mono wa) (mb : Mono wb) : Mono (wMt f wa wb) := fun e Q Q' x x' h1 h2 q =>
  ma e _ _ _ _ (fun d1 e1 q1 => ⟨q1.1, mb e1 _ _ _ _ (fun d2 e2 q2 => hf d1 d2 _ _ (fun d q3 => h1 d e2 q3) q2) h2 q1.2⟩) h2 q
theorem de_mt {name : Str} {id : String} {f : B2} {r : V → List V → Hp → VK → Prop} {ap : Pos} (hf : f.Mono) (ft : FitsM X.K f r) (slot : PySem.Slot "list" name id) (hty : typeOf (.builtin id) = pure (.type "method_descriptor")) (hm : MtR X id r) (ha : DE X F a wa) (hb : DE X F b wb)
    (hbase : attributeBase a name X.env (eval a X.env) = eval a X.env := by rfl) (hs : starEach [b] X.env = (false, eval b X.env) :: starEach [] X.env := by rfl)
    (hfew : ((backTo pos (starEach [b] X.env)).all (fun x => !x.1) && (backToKw pos (keywordEach [] X.env)).all (fun x => x.1.isSome) && decide ([b].length + ([] : List Keyword).length + (if ([] : List Keyword).isEmpty then 0 else 1) < 30)) = true := by rfl)
    (hline : (ap.endLine == pos.line) = true := by rfl) (hplain : (backTo pos (starEach [] X.env)).any (·.1) = false := by rfl) : DE X F (.Call (.Attribute a name ap) [b] [] pos) (wMt f wa wb) :=
  de_of (pe_bm PySem.F.plainAttrs_list slot hty hm ha.run (pa_cons hb.run pa_nil hs) hbase hfew hline hs hplain) (wMt.mono hf ha.mono hb.mono) fun σ H Q ⟨e, G, r, q⟩ => by
    refine tE.mono ha.mono (fun v H1 z => ?_) (tE.any ha.mono r q)
    obtain ⟨e1, G1, d, s1, r1, rv, ⟨xs, ed⟩, z⟩ := z
    subst ed
    obtain ⟨l, ys, ev, g1, ra⟩ := rv.lst_inv
    subst ev
    refine ⟨.inl ⟨rfl, _, .inl (.inl (r1.same _ _ g1))⟩, ?_⟩
    refine tE.mono hb.mono (fun v' H2 z => ?_) (tE.any hb.mono r1 (hb.mono e1 _ _ _ _ (fun _ _ z => z) (fun _ _ => PX.mono s1) z))
    obtain ⟨e2, G2, d', s2, r2, rv', y⟩ := z
    exact ft F.p F.G₀ F.H₀ G2 H2 σ e2 _ v' _ d' _ Q r2 (rv.mono s2) rv' y fun d z v G' H' s r' rv => z v G' H' (s1.trans (s2.trans s)) r' rv
theorem RA.ofBools {p : Option Addr} {G : Hp} : ∀ {ns : List Bool} {xs : List V}, RA K p G xs (ns.map PyData.bool) → xs = ns.map V.bl
  | [], _, h => by cases h; rfl
  | n :: ns, _, h => by
    cases h with
    | cons h t => rw [RA.ofBools t, h.bl_inv]; rfl
def rCntB (K : PySem.W.Frag) : V → List V → Hp → VK → Prop := fun x xs H Q => ∃ (p : Addr) (bs : List Bool) (b : Bool), x = .ref p ∧ xs = [.bl b] ∧ SqL K H p (bs.map V.bl) ∧ Q (.int (bs.count b : Nat)) H
theorem countB {b : Bool} : ∀ bs : List Bool, (bs.map Value.bool).countP (eqU (.bl b)) = bs.count b
  | [] => rfl
  | c :: bs => by
    rw [List.map_cons, List.countP_cons, countB bs, List.count_cons]
    cases b <;> cases c <;> rfl
theorem mt_cntB : MtR X "list.count" (rCntB X.K) := by
  intro pins s σ H x
        xs v us Q I rx rxs h
  obtain ⟨p, bs, b, rfl, rfl, hs, q⟩ := h
  cases rx
  obtain ⟨u, rfl,
        ru⟩ := rxs.one
  cases ru
  obtain ⟨its, rv, ⟨⟨cls, dd, data, sl⟩,
        n, ho, hc, hdn, hd⟩, hlen⟩ := I.list hs
  simp only at hc hd
  subst hc hd
  have eb := rv.bls
  subst eb
  refine call_meets PySem.F.slot_list_count ⟨_, ho, rfl⟩ PySem.F.entry_list_count (PySem.F.args_list_count_2 _ _) (SeqAt.list_countAt p _ n dd sl (.bool b) (eqU (.bl b))) ⟨ho, fun y hy => ?_, ?_⟩
  · exact mem_eqAt (x := .bl b) (v := .bool b) rfl rfl rv (by simp [flatV]) y (by simpa using hy)
  · refine ⟨.int (bs.count b : Nat), H, I.tok _, ⟨s.toks, ?_⟩, q⟩
    rw [← countB bs]
theorem fitsCnt : FitsM K cntD (rCntB K) := by
  intro p G₀ H₀ G H σ e x y a b P Q r ra rb q k
  unfold cntD at q
  split at q
  · obtain ⟨l, xs, rfl, h1, r1⟩ := ra.lst_inv
    cases rb.bl_inv
    obtain ⟨bs, e1, z⟩ := q
    subst e1
    have ey := r1.ofBools
    subst ey
    exact ⟨l, bs, _, rfl, rfl, SqL.of (r.same _ _ h1), ans r (.int _) k z⟩
  · exact q.elim
theorem fitsPos : FitsM K posD (rIndex K) := by
  intro p G₀ H₀ G H σ e x y a b P Q r ra rb q k
  unfold posD at q
  split at q
  · obtain ⟨l, xs, rfl, h1, r1⟩ := ra.lst_inv
    cases rb.bl_inv
    rename_i b
    obtain ⟨bs, j, e1, i1, i2, z⟩ := q
    subst e1
    have ey := r1.ofBools
    subst ey
    refine ⟨l, bs.map V.bl, .bl b, j, .bl b, rfl, rfl, SqL.of (r.same _ _ h1), rfl, by simp [flatV], by rw [List.getElem?_map, i1]; rfl, by simp [eqV], fun m z' hm hz => ?_, ans r (.int _) k z⟩
    rw [List.getElem?_map] at hz
    cases ec : bs[m]? with
    | none => rw [ec] at hz; cases hz
    | some c =>
      rw [ec] at hz
      cases hz
      have n := i2 m hm
      rw [ec] at n
      show (c == b) = false
      exact beq_eq_false_iff_ne.mpr fun z => n (by rw [z])
  · exact q.elim
/-! ### short forms -/
theorem ds_append {i : Nat} {x : Str} {p1 p2 p3 : Pos} (h : DE X F a wa) (hv : PE X (.Name x p1) (tVar i)) (hs : starEach [a] X.env = (false, eval a X.env) :: starEach [] X.env := by rfl)
    (hbase : attributeBase (.Name x p1) "append" X.env (eval (.Name x p1) X.env) = eval (.Name x p1) X.env := by rfl)
    (hfew : ((backTo p3 (starEach [a] X.env)).all (fun x => !x.1) && (backToKw p3 (keywordEach [] X.env)).all (fun x => x.1.isSome) && decide ([a].length + ([] : List Keyword).length + (if ([] : List Keyword).isEmpty then 0 else 1) < 30)) = true := by rfl)
    (hline : (p2.endLine == p3.line) = true := by rfl) (hplain : (backTo p3 (starEach [] X.env)).any (·.1) = false := by rfl) (hsw : swapsWith (.Call (.Attribute (.Name x p1) "append" p2) [a] [] p3) none pos.line X.env = pure false := by rfl) :
    DS X F (.Expr (.Call (.Attribute (.Name x p1) "append" p2) [a] [] p3) pos) (wApp i wa) :=
  ds_app h hv hs (pe_bm PySem.F.plainAttrs_list PySem.F.slot_list_append PySem.F.type_list_append mt_append hv (pa_cons h.run pa_nil hs) hbase hfew hline hs hplain) hsw
theorem ds_insert {i : Nat} {x : Str} {p1 p2 p3 : Pos} (hk : DE X F b wb) (h : DE X F a wa) (hv : PE X (.Name x p1) (tVar i)) (hs : starEach [b, a] X.env = (false, eval b X.env) :: starEach [a] X.env := by rfl) (hs2 : starEach [a] X.env = (false, eval a X.env) :: starEach [] X.env := by rfl)
    (hbase : attributeBase (.Name x p1) "insert" X.env (eval (.Name x p1) X.env) = eval (.Name x p1) X.env := by rfl)
    (hfew : ((backTo p3 (starEach [b, a] X.env)).all (fun x => !x.1) && (backToKw p3 (keywordEach [] X.env)).all (fun x => x.1.isSome) && decide ([b, a].length + ([] : List Keyword).length + (if ([] : List Keyword).isEmpty then 0 else 1) < 30)) = true := by rfl)
    (hline : (p2.endLine == p3.line) = true := by rfl) (hplain : (backTo p3 (starEach [a] X.env)).any (·.1) = false := by rfl) (hsw : swapsWith (.Call (.Attribute (.Name x p1) "insert" p2) [b, a] [] p3) none pos.line X.env = pure false := by rfl) :
    DS X F (.Expr (.Call (.Attribute (.Name x p1) "insert" p2) [b, a] [] p3) pos) (wIns i wb wa) :=
  ds_ins hk h (fun l xs k y H Q h1 h2 h3 h4 q => ⟨l, xs, k, y, rfl, rfl, h1, h2, h3, h4, q⟩) (pe_bm PySem.F.plainAttrs_list PySem.F.slot_list_insert PySem.F.type_list_insert mt_insert hv (pa_cons hk.run (pa_cons h.run pa_nil hs2) hs) hbase hfew hline hs hplain) hsw
end
/-! ### the text's defs -/
def FunAt (K : PySem.W.Frag) (mg : Str → Option Value) (x : Str) (st : Stmt) (ps : List Str) : Prop := ∃ f fd, Fun K x x st f fd ∧ mg x = some (.ref f) ∧ Binds K fd ps []
def Def (P : Program) (w : World) (K : PySem.W.Frag) (mg : Str → Option Value) (base : Heap) (x : Str) (k : Nat) (ps : List Str) (wf : Wc) : Prop :=
  ∃ f fd, FnG P w K mg base k f fd ps (spD K wf) ∧ mg x = some (.ref f) ∧ PySem.W.keepIn K (.ref f) = true ∧ Binds K fd ps []
section
variable {P : Program} {w : World} {K :
      PySem.W.Frag} {mg : Str → Option Value} {base : Heap}
theorem defD {x : Str} {st : Stmt} {N ps : List Str} {k : Nat} {wf : Wc} (F : FunAt K mg x st ps) (S : FnScope N ps (defScope st)) (len : ∀ ds k Q x, wf ds k Q x → ds.length = ps.length)
    (body : ∀ (f : Addr) (cdv : Value) (A : Around) (outer : List Env) (s : Shared) (H : Hp) (E : XK) (p : Option Addr) (G : Hp), A.guards = some [] → Room k (A.deeper (envOfC x (defScope st) s.heap.objs.size f cdv)) →
      ∃ ws, DSs (cxOf (L2.CX P w) P w K mg base N x (defScope st) f cdv A outer s H E) ⟨p, G, H, fun cls d _ H' => E cls d H'⟩ (defBody st) ws ∧ ∀ ds n Q x, wf ds n Q x → ws (enOf N ds n) (defEnds Q x)) : Def P w K mg base x (k + 1) ps wf := by
  obtain ⟨f, fd, h1, h2, h3⟩ := F
  exact ⟨f, fd, fnD h1 S len (body f), h2, h1.kp, h3⟩
theorem Def.mono {x : Str} {j k : Nat} {ps : List Str} {wf : Wc} (h : Def P w K mg base x j ps wf) (l : j ≤ k) : Def P w K mg base x k ps wf := by
  obtain ⟨f, fd, h1, h2⟩ := h
  exact ⟨f, fd, h1.mono l, h2⟩
end
section
variable {X : Cx} {F : Fx} {pos : Pos} {a : Expr} {es : List Expr} {wr : WAx}
theorem de_fn {wf : Wc} {j k : Nat} {ps : List Str} {x : Str} {p : Pos} (d : Def X.prog X.w X.K X.mg X.base x j ps wf) (mf : wf.Mono) (hgd : X.A.guards = some []) (hr : Room k X.A) (tk : Takes X F.W) (ha : DA X F (a :: es) wr) (hj : j ≤ k := by decide) (hg : Gl X x := by rfl) (hdb : (x == ("__debug__" : Str)) = false := by decide)
    (he : starEach (a :: es) X.env = (false, eval a X.env) :: starEach es X.env := by rfl) (hpl : (backTo pos (starEach es X.env)).any (·.1) = false := by rfl) : DE X F (.Call (.Name x p) (a :: es) [] pos) (wCall wf wr) := by
  obtain ⟨f, fd, h1, h2, h3, h4⟩ := d
  exact de_call h1 mf hgd (hr.mono hj) h2 h3 h4 tk ha hg hdb he hpl
theorem de_const {x : Str} {i : Int} {t : Tok} {p : Pos} (hm : X.mg x = some (.int i t)) (hg : Gl X x := by rfl) (hdb : (x == ("__debug__" : Str)) = false := by decide) : DE X F (.Name x p) (wC (.int i)) := de_c (pe_glob (v := .int i) hg hm ⟨t, rfl⟩ hdb) fun _ _ _ => .int i
end
theorem hr65 {k : Nat} {A : Around} (hr : Room k A) : A.units + 65 < cLine := by have := hr.un; omega
theorem dss_never {X : Cx} {F : Fx} {sts : List Stmt} : DSs X F sts (fun _ _ => False) := dss_of pss_never (fun _ _ _ _ z => z) fun D σ H ⟨_, _, _, z⟩ => z
end L2.DL
set_option
      maxHeartbeats 1000000
namespace L2.DL
open PySem PySem.Spec
      PyProof.Rows
/-! ### loops by a word over what is left -/
theorem wLoop.ind {g : WG} {wb : WSt} {B : DEnds} (I : List D → En → Prop) (hn : ∀ e, I [] e → B.nx e)
    (hs : ∀ d ds e, (∀ e', I ds e' → wLoop g wb B ds e') → I (d :: ds) e → g d e fun e1 => wb e1 { B with nx := fun e2 => wLoop g wb B ds e2, ct := fun e2 => wLoop g wb B ds e2, bk := B.nx }) : ∀ {ds : List D} {e : En}, I ds e → wLoop g wb B ds e
  | [], e, h => hn e h
  | d :: ds, e, h => hs d ds e (fun e' h' => wLoop.ind I hn hs h') h
theorem lcLoop.ind {g : WG} {wt : WTx} {we : WEx} {e₀ : En} {P : List D → Nat → Prop} (I : List D → List D → Nat → Prop) (hn : ∀ acc k, I acc [] k → P acc k)
    (hs : ∀ d ds acc k, (∀ acc' k', I acc' ds k' → lcLoop g wt we e₀ acc' ds k' P) → I acc (d :: ds) k →
      g d { e₀ with k := k } fun e1 => wt e1 (fun b e2 => if b = true then we e2 (fun y e3 => acc.length < 1000 ∧ lcLoop g wt we e₀ (acc ++ [y]) ds e3.k P) noX else lcLoop g wt we e₀ acc ds e2.k P) noX) : ∀ {ds acc : List D} {k : Nat}, I acc ds k → lcLoop g wt we e₀ acc ds k P
  | [], acc, k, h => hn acc k h
  | d :: ds, acc, k, h => hs d ds acc k (fun acc' k' h' => lcLoop.ind I hn hs h') h
/-! ### promises of one, two, three arguments, whose answer is a function's -/
def w1 (pre : D → Prop) (f : D → D) : Wc := fun ds k Q _ => ∃ a, ds = [a] ∧ pre a ∧ Q (f a) k
def w2 (pre : D → D → Prop) (f : D → D → D) : Wc := fun ds k Q _ => ∃ a b, ds = [a, b] ∧ pre a b ∧ Q (f a b) k
def w3 (pre : D → D → D → Prop) (f : D → D → D → D) : Wc := fun ds k Q _ => ∃ a b c, ds = [a, b, c] ∧ pre a b c ∧ Q (f a b c) k
theorem w1.mono {pre : D → Prop} {f : D → D} : Wc.Mono (w1 pre f) := fun ds k Q Q' x x' h _ ⟨a, e, p, q⟩ => ⟨a, e, p, h _ _ q⟩
theorem w2.mono {pre : D → D → Prop} {f : D → D → D} : Wc.Mono (w2 pre f) := fun ds k Q Q' x x' h _ ⟨a, b, e, p, q⟩ => ⟨a, b, e, p, h _ _ q⟩
theorem w3.mono {pre : D → D → D → Prop} {f : D → D → D → D} : Wc.Mono (w3 pre f) := fun ds k Q Q' x x' h _ ⟨a, b, c, e, p, q⟩ => ⟨a, b, c, e, p, h _ _ q⟩
theorem w1.len {pre : D → Prop} {f : D → D} {ds k Q x} (h : w1 pre f ds k Q x) : ds.length = 1 := by obtain ⟨a, e, _⟩ := h; rw [e]; rfl
theorem w2.len {pre : D → D → Prop} {f : D → D → D} {ds k Q x} (h : w2 pre f ds k Q x) : ds.length = 2 := by obtain ⟨a, b, e, _⟩ := h; rw [e]; rfl
theorem w3.len {pre : D → D → D → Prop} {f : D → D → D → D} {ds k Q x} (h : w3 pre f ds k Q x) : ds.length = 3 := by obtain ⟨a, b, c, e, _⟩ := h; rw [e]; rfl
/-! ### types -/
def isI : D → Bool
  | .int _ => true
  | .bool _ => true
  | _ => false
def isB : D → Bool
  | .bool _ => true
  | _ => false
def isT : D → Bool
  | .tuple _ => true
  | _ => false
def isInt : D → Bool
  | .int _ => true
  | _ => false
theorem fine.nd {d : D} (h : DL.fine d = true) : ∀ kv, d ≠ .dict kv := fun kv e => by rw [e] at h; simp only [DL.fine] at h; cases h
theorem kit_int {d : D} (h : DL.fine d = true) : kitB (tyN d) "int" = some (isI d) := by
  cases d with
  | none => exact (by decide +kernel : kitB "NoneType" "int" = some false)
  | bool _ => exact (by decide +kernel : kitB "bool" "int" = some true)
  | int _ => exact (by decide +kernel : kitB "int" "int" = some true)
  | str _ => exact (by decide +kernel : kitB "str" "int" = some false)
  | list _ => exact (by decide +kernel : kitB "list" "int" = some false)
  | tuple _ => exact (by decide +kernel : kitB "tuple" "int" = some false)
  | dict kv => exact absurd rfl (fine.nd h kv)
theorem kit_bool {d : D} (h : DL.fine d = true) : kitB (tyN d) "bool" = some (isB d) := by
  cases d with
  | none => exact (by decide +kernel : kitB "NoneType" "bool" = some false)
  | bool _ => exact (by decide +kernel : kitB "bool" "bool" = some true)
  | int _ => exact (by decide +kernel : kitB "int" "bool" = some false)
  | str _ => exact (by decide +kernel : kitB "str" "bool" = some false)
  | list _ => exact (by decide +kernel : kitB "list" "bool" = some false)
  | tuple _ => exact (by decide +kernel : kitB "tuple" "bool" = some false)
  | dict kv => exact absurd rfl (fine.nd h kv)
theorem kit_tuple {d : D} (h : DL.fine d = true) : kitB (tyN d) "tuple" = some (isT d) := by
  cases d with
  | none => exact (by decide +kernel : kitB "NoneType" "tuple" = some false)
  | bool _ => exact (by decide +kernel : kitB "bool" "tuple" = some false)
  | int _ => exact (by decide +kernel : kitB "int" "tuple" = some false)
  | str _ => exact (by decide +kernel : kitB "str" "tuple" = some false)
  | list _ => exact (by decide +kernel : kitB "list" "tuple" = some false)
  | tuple _ => exact (by decide +kernel : kitB "tuple" "tuple" = some true)
  | dict kv => exact absurd rfl (fine.nd h kv)
/-! ### small data -/
theorem fineAll.at {xs : List D} (h : fineAll xs = true) : ∀ d ∈ xs, fine d = true := by
  induction xs with
  | nil => intro d hd; cases hd
  | cons a r ih =>
    unfold fineAll at h
    rw [Bool.and_eq_true] at h
    intro d hd
    rcases List.mem_cons.mp
          hd with rfl | hd
    · exact h.1
    · exact ih h.2 d hd
theorem fineAll_of {xs : List D} (h : ∀ d ∈ xs, fine d = true) : fineAll xs = true := by
  induction xs with
  | nil => rfl
  | cons a r ih =>
    unfold fineAll
    rw [Bool.and_eq_true]
    exact ⟨h a List.mem_cons_self, ih fun d hd => h d (List.mem_cons_of_mem _ hd)⟩
theorem wtAll_mem {xs : List D} : ∀ d ∈ xs, wt d ≤ wtAll xs := by
  induction xs with
  | nil => intro d hd; cases hd
  | cons a r ih =>
    intro d hd
    unfold wtAll
    rcases List.mem_cons.mp
          hd with rfl | hd
    · omega
    · have := ih d hd; omega
theorem depthAll_mem {xs : List D} : ∀ d ∈ xs, d.depth ≤ PyData.depthAll xs := by
  induction xs with
  | nil => intro d hd; cases hd
  | cons a r ih =>
    intro d hd
    unfold PyData.depthAll
    rcases List.mem_cons.mp
          hd with rfl | hd
    · omega
    · have := ih d hd; omega
theorem depthAll_le {xs : List D} {m : Nat} (h : ∀ d ∈ xs, d.depth ≤ m) : PyData.depthAll xs ≤ m := by
  induction xs with
  | nil => simp [PyData.depthAll]
  | cons a r ih =>
    unfold PyData.depthAll
    have h1 := h a List.mem_cons_self
    have h2 := ih fun d hd => h d (List.mem_cons_of_mem _ hd)
    omega
theorem wtAll_le {xs : List D} {m : Nat} (h : ∀ d ∈ xs, wt d ≤ m) : wtAll xs ≤ xs.length * m := by
  induction xs with
  | nil => simp [wtAll]
  | cons a r ih =>
    unfold wtAll
    have h1 := h a List.mem_cons_self
    have h2 := ih fun d hd => h d (List.mem_cons_of_mem _ hd)
    rw [List.length_cons, Nat.succ_mul]
    omega
theorem Ok.tuple {n m k : Nat} {xs : List D} (h : ∀ d ∈ xs, Ok n m d) (hk : xs.length ≤ k) : Ok (k * n + 1) (m + 1) (.tuple xs) where
  f := by simp only [fine]; exact fineAll_of fun d hd => (h d hd).f
  w := by
    simp only [wt]
    have := wtAll_le fun d hd => (h d hd).w
    have := Nat.mul_le_mul_right n hk
    omega
  d := by simp only [PyData.depth]; have := depthAll_le fun d hd => (h d hd).d; omega
theorem Ok.list {n m k : Nat} {xs : List D} (h : ∀ d ∈ xs, Ok n m d) (hk : xs.length ≤ k) : Ok (k * n + 1) (m + 1) (.list xs) where
  f := by simp only [fine]; exact fineAll_of fun d hd => (h d hd).f
  w := by
    simp only [wt]
    have := wtAll_le fun d hd => (h d hd).w
    have := Nat.mul_le_mul_right n hk
    omega
  d := by simp only [PyData.depth]; have := depthAll_le fun d hd => (h d hd).d; omega
theorem Ok.mono {n m n' m' : Nat} {d : D} (h : Ok n m d) (hn : n ≤ n') (hm : m ≤ m') : Ok n' m' d := ⟨h.f, Nat.le_trans h.w hn, Nat.le_trans h.d hm⟩
theorem Ok.int {i : Int} (h : i.natAbs < 2 ^ 120) : Ok 1 0 (.int i) := ⟨by simp only [fine]; exact decide_eq_true h, by simp [wt], by simp [PyData.depth]⟩
theorem Ok.none : Ok 1 0 .none := ⟨rfl, Nat.le_refl _, Nat.le_refl _⟩
theorem Ok.bool {b : Bool} : Ok 1 0 (.bool b) := ⟨rfl, Nat.le_refl _, Nat.le_refl _⟩
theorem Ok.good {n m : Nat} {d : D} (h : Ok n m d) (hn : n ≤ 8000 := by decide) (hm : m ≤ 50 := by decide) : Good d := h.mono hn hm
theorem Ok.in_tuple {n m : Nat} {xs : List D} (h : Ok n m (.tuple xs)) : ∀ d ∈ xs, Ok n m d := fun d hd => by
  have f := h.f
  have w := h.w
  have dd := h.d
  simp only [fine, wt, PyData.depth] at f w dd
  have := wtAll_mem d hd
  have := depthAll_mem d hd
  exact ⟨fineAll.at f d hd, by omega, by omega⟩
/-- by reckoning -/
theorem good_of {d : D} (h : (fine d && decide (wt d ≤ 8000) && decide (d.depth ≤ 50)) = true) : Good d := by
  simp only [Bool.and_eq_true,
        decide_eq_true_eq] at h
  exact ⟨h.1.1, h.1.2, h.2⟩
end L2.DL
set_option
      maxHeartbeats 1000000
namespace L2.DL
open PySem PySem.Spec
      PyProof.Rows
theorem eqv_len (a b : Nat) : PyData.eqv (.int a) (.int b) = decide (a = b) := by
  rw [Bool.eq_iff_iff]
  simp only [PyData.eqv, beq_iff_eq, decide_eq_true_eq]
  omega
theorem atI_pos {xs : List D} {i : Int} (h0 : 0 ≤ i) (h1 : i < xs.length) : atI xs i = some (xs.getD i.toNat .none) := by
  obtain ⟨j, rfl⟩ :=
        Int.eq_ofNat_of_zero_le h0
  have hj : j < xs.length := by omega
  exact atI_nat (by simp [hj])
theorem getD_mem {xs : List D} {i : Int} (h0 : 0 ≤ i) (h1 : i < xs.length) : xs.getD i.toNat .none ∈ xs := by
  have hj : i.toNat < xs.length := by omega
  rw [List.getD_eq_getElem?_getD, List.getElem?_eq_getElem hj]
  exact List.getElem_mem hj
/-! #### a list made of parts of another -/
theorem wtAll_map {f : D → D} : ∀ {xs : List D}, (∀ d ∈ xs, wt (f d) ≤ wt d) → wtAll (xs.map f) ≤ wtAll xs
  | [], _ => Nat.le_refl _
  | d :: xs, h => by
    have h1 := h d List.mem_cons_self
    have h2 := wtAll_map fun d hd => h d (List.mem_cons_of_mem _ hd)
    simp only [List.map_cons, wtAll]
    omega
theorem Ok.mapL {n m : Nat} {f : D → D} {xs : List D} (h : Ok n m (.tuple xs)) (hf : ∀ d ∈ xs, fine (f d) = true ∧ wt (f d) ≤ wt d ∧ (f d).depth ≤ d.depth) : Ok n m (.list (xs.map f)) where
  f := by
    simp only [fine]
    refine fineAll_of fun d hd => ?_
    obtain ⟨e, he, rfl⟩ := List.mem_map.mp hd
    exact (hf e he).1
  w := by
    have w := h.w
    simp only [wt] at w ⊢
    have := wtAll_map fun d hd => (hf d hd).2.1
    omega
  d := by
    have d := h.d
    simp only [PyData.depth] at d ⊢
    have : PyData.depthAll (xs.map f) ≤ PyData.depthAll xs := depthAll_le fun d hd => by
      obtain ⟨e, he, rfl⟩ := List.mem_map.mp hd
      exact Nat.le_trans (hf e he).2.2 (depthAll_mem e he)
    omega
theorem Ok.part {n m : Nat} {xs : List D} (h : Ok n m (.tuple xs)) : ∀ d ∈ xs, fine d = true ∧ wt d ≤ wt (.tuple xs) ∧ d.depth ≤ (PyData.tuple xs).depth := fun d hd => by
  refine ⟨(h.in_tuple d hd).f, ?_, ?_⟩
  · simp only [wt]; have := wtAll_mem d hd; omega
  · simp only [PyData.depth]; have := depthAll_mem d hd; omega
theorem fmap_some {f : D → D} : ∀ ds : List D, ds.filterMap (fun d => some (f d)) = ds.map f
  | [] => rfl
  | d :: ds => by rw [List.filterMap_cons_some (f := fun d => some (f d)) (a := d) (b := f d) rfl, List.map_cons, fmap_some ds]
theorem rngD_succ {lo : Int} {n : Nat} : rngD lo (n + 1) = .int lo :: rngD (lo + 1) n := by
  unfold rngD
  rw [List.range_succ_eq_map,
        List.map_cons, List.map_map]
  refine congr (congrArg _ ?_) ?_
  · simp
  · refine List.map_congr_left fun i _ => ?_
    simp only [Function.comp_apply, PyData.int.injEq]
    omega
theorem insI {ns : List Int} {r : Nat} {j : Int} : ((ns.map PyData.int).take r ++ [.int j] ++ (ns.map PyData.int).drop r) = (ns.take r ++ j :: ns.drop r).map PyData.int := by
  simp
theorem insP {ns : List Int} {r : Nat} {j : Int} : (ns.take r ++ j :: ns.drop r).Perm (j :: ns) := by
  have := List.perm_middle (a := j) (l₁ := ns.take r) (l₂ := ns.drop r)
  rwa [List.take_append_drop] at this
theorem ixN_pos {n : Nat} {i : Int} (h0 : 0 ≤ i) (h1 : i < n) : ixN n i = some i.toNat := by
  unfold ixN
  rw [if_pos h0, if_pos h1]
/-! ### a comprehension that draws nothing -/
theorem lcLoop.fm {g : WG} {wt : WTx} {we : WEx} {e₀ : En} {n : Nat} (f : D → Option D) {P : List D → Nat → Prop} : ∀ {ds acc : List D},
    (∀ d ∈ ds, ∀ (A : D → Nat → Prop) (B : Nat → Prop), (f d = none → B n) → (∀ y, f d = some y → A y n) → g d { e₀ with k := n } fun e1 => wt e1 (fun b e2 => if b = true then we e2 (fun y e3 => A y e3.k) noX else B e2.k) noX) →
    acc.length + ds.length ≤ 1000 → P (acc ++ ds.filterMap f) n → lcLoop g wt we e₀ acc ds n P
  | [], acc, _, _, q => by rw [List.filterMap_nil, List.append_nil] at q; exact q
  | d :: ds, acc, hs, hl, q => by
    rw [List.length_cons] at hl
    refine hs d List.mem_cons_self (fun y k => acc.length < 1000 ∧ lcLoop g wt we e₀ (acc ++ [y]) ds k P) (fun k => lcLoop g wt we e₀ acc ds k P) (fun h => ?_) (fun y h => ?_)
    · rw [List.filterMap_cons_none h] at q
      exact lcLoop.fm f (fun d hd => hs d (List.mem_cons_of_mem _ hd)) (by omega) q
    · rw [List.filterMap_cons_some h] at q
      exact ⟨by omega, lcLoop.fm f (fun d hd => hs d (List.mem_cons_of_mem _ hd)) (by rw [List.length_append, List.length_singleton]; omega) (by rw [List.append_assoc]; exact q)⟩
/-! ### the pen: what is read of it is any number, what is written is forgotten but for the count -/
section
variable {K : PySem.W.Frag} {F : Fx} {σ : L2.St} {H : Hp} {X : Cx} {pos : Pos} {a b : Expr} {wa wb : WEx} {p : Option Addr} {G₀ H₀ G : Hp} {e : En}
def penAt (i : Nat) (e : En) : Prop := e.s[i]? = some (.dat penD)
theorem Rl.pen {i : Nat} (r : Rl K p G₀ H₀ G H σ e) (h : penAt i e) : ∃ q c, ∃ (xs : List Int) (j s : Int), σ[i]? = some (some (.ref q)) ∧ p = some q ∧ G q = none ∧ H q = some (.lst [.ref c, .int j, .int s]) ∧ G c = some (.lst (xs.map V.int)) ∧ xs.length ≤ 12 ∧ 0 ≤ j ∧ j + (e.k : Int) ≤ most := by
  obtain ⟨α, r'⟩ := id r
  obtain ⟨v, h1, h2⟩ := r'.dat i _ h
  obtain ⟨q, rfl, hp⟩ := h2.pen_inv
  obtain ⟨h3, c, xs, j, s, h4, h5⟩ := r'.w.pen q hp
  exact ⟨q, c, xs, j, s, h1, hp, h3, h4, h5⟩
theorem Rl.penSet {q c : Addr} {j s j' s' : Int} {k' : Nat} (r : Rl K p G₀ H₀ G H σ e) (hp : p = some q) (hH : H q = some (.lst [.ref c, .int j, .int s])) (h0 : 0 ≤ j') (hm : j' + (k' : Int) ≤ most) : Rl K p G₀ H₀ G (L2.upd H q (.lst [.ref c, .int j', .int s'])) σ { e with k := k' } := by
  obtain ⟨α, r⟩ := r
  obtain ⟨gq, c', xs, j2, s2, h2, h3, h4, _⟩ := r.w.pen q hp
  have ec : c' = c := by rw [hH] at h2; injection h2 with h2; injection h2 with h2; injection h2 with h2 _; injection h2 with h2; exact h2.symm
  subst ec
  refine ⟨α, ⟨fun b u z => ?_, fun b ea => ?_⟩, ⟨r.st.gg, fun b u z n => ?_, r.st.nn, fun b d ea h => ?_⟩, r.len, r.dat, fun i ds h => ?_, r.sep⟩
  · rw [upd_ne (ne_of_none z gq)]; exact r.w.same _ _ z
  · rw [hp] at ea; cases ea
    exact ⟨gq, _, xs, j', s', upd_same, h3, h4, h0, hm⟩
  · rw [upd_ne (fun z => n (by rw [hp, z]))]; exact r.st.hh b u z n
  · rw [hp] at ea; cases ea
    obtain ⟨i, t, z⟩ := r.st.pc _ d hp h
    rw [hH] at z
    cases z
    exact ⟨j', s', upd_same⟩
  · obtain ⟨ys, q1, q2, q3, q4, q5, q6⟩ := r.own i ds h
    exact ⟨ys, q1, by rw [upd_ne (fun z => q5 (by rw [hp, z]))]; exact q2, q3, q4, q5, q6⟩
/-- the cells that the pen draws from -/
def PenIs (F : Fx) (xs : List Int) : Prop := xs.length ≤ 12 ∧ ∀ a, F.p = some a → ∃ c, HasC F.H₀ a c ∧ F.G₀ c = some (.lst (xs.map V.int))
def wPen0 (xs : List Int) (i : Nat) : WEx := fun e Q _ => penAt i e ∧ Q (.list (xs.map PyData.int)) e
def wPen1 (i : Nat) : WEx := fun e Q _ => penAt i e ∧ ∀ j : Int, 0 ≤ j → j + (e.k : Int) ≤ most → Q (.int j) e
def wPen2 (i : Nat) : WEx := fun e Q _ => penAt i e ∧ ∀ s : Int, Q (.int s) e
variable {x : Str} {i jj : Nat} {p1 p2 p3 : Pos}
theorem de_pen0 {xs : List Int} (hP : PenIs F xs) (hv : PE X (.Name x p1) (tVar i)) (hs : PlainIx (.Constant (.int 0) jj p2) := by intro _ _; rfl) : DE X F (.Subscript (.Name x p1) (.Constant (.int 0) jj p2) p3) (wPen0 xs i) :=
  de_of (pe_ix (ix_list.or ix_tup) hv pe_int hs) (fun e Q Q' x x' h _ q => ⟨q.1, h _ _ q.2⟩) fun σ H Q ⟨e, G, r, h, q⟩ => by
    obtain ⟨a, c, ys, j, s, h1, hp, h3, h4, h5, h6, h7, h8⟩ := r.pen h
    obtain ⟨c', g1, g2⟩ := hP.2 a hp
    obtain ⟨α, r'⟩ := id r
    obtain ⟨i', t', g3⟩ := r'.st.pc a c' hp g1
    have ec : c' = c := by rw [h4] at g3; injection g3 with g3; injection g3 with g3; injection g3 with g3 _; injection g3 with g3; exact g3.symm
    subst ec
    exact ⟨_, h1, .inl ⟨a, _, 0, .ref c', rfl, rfl, SqL.of h4, rfl, q _ G H (Same.refl G) r (.lst (r'.st.gg _ _ g2) (RA.toInts xs))⟩⟩
theorem de_pen1 (hv : PE X (.Name x p1) (tVar i)) (hs : PlainIx (.Constant (.int 1) jj p2) := by intro _ _; rfl) : DE X F (.Subscript (.Name x p1) (.Constant (.int 1) jj p2) p3) (wPen1 i) :=
  de_of (pe_ix (ix_list.or ix_tup) hv pe_int hs) (fun e Q Q' x x' h _ q => ⟨q.1, fun j l m => h _ _ (q.2 j l m)⟩) fun σ H Q ⟨e, G, r, h, q⟩ => by
    obtain ⟨a, c, xs, j, s, h1, hp, h3, h4, h5, h6, h7, h8⟩ := r.pen h
    exact ⟨_, h1, .inl ⟨a, _, 1, .int j, rfl, rfl, SqL.of h4, rfl, q j h7 h8 _ G H (Same.refl G) r (.int j)⟩⟩
theorem de_pen2 (hv : PE X (.Name x p1) (tVar i)) (hs : PlainIx (.Constant (.int 2) jj p2) := by intro _ _; rfl) : DE X F (.Subscript (.Name x p1) (.Constant (.int 2) jj p2) p3) (wPen2 i) :=
  de_of (pe_ix (ix_list.or ix_tup) hv pe_int hs) (fun e Q Q' x x' h _ q => ⟨q.1, fun j => h _ _ (q.2 j)⟩) fun σ H Q ⟨e, G, r, h, q⟩ => by
    obtain ⟨a, c, xs, j, s, h1, hp, h3, h4, h5, h6, h7, h8⟩ := r.pen h
    exact ⟨_, h1, .inl ⟨a, _, 2, .int s, rfl, rfl, SqL.of h4, rfl, q s _ G H (Same.refl G) r (.int s)⟩⟩
def wPenS1 (i : Nat) (w : WEx) : WSt := fun e D => w e (fun d e1 => ∃ (j : Int) (k' : Nat), d = .int j ∧ penAt i e1 ∧ 0 ≤ j ∧ j + (k' : Int) ≤ most ∧ D.nx { e1 with k := k' }) D.ex
def wPenS2 (i : Nat) (w : WEx) : WSt := fun e D => w e (fun d e1 => ∃ j, d = .int j ∧ penAt i e1 ∧ D.nx e1) D.ex
theorem ds_pen1 (h : DE X F a wa) (hv : PE X (.Name x p1) (tVar i))
    (ha : ∀ v, assign (.Subscript (.Name x p1) (.Constant (.int 1) jj p3) p2) X.env v = (do
      let ov ← holding [v] (eval (.Name x p1) X.env)
      let iv ← holding [v, ov] (eval (.Constant (.int 1) jj p3) X.env)
      standAt p2
      holding [v, ov,
            iv] (setItem ov iv v)
      release [v, ov, iv] []) := by intro _; rfl)
    (hs : swapsWithSole [.Subscript (.Name x p1) (.Constant (.int 1) jj p3) p2] a pos.line X.env = pure false := by rfl) (hw : swappedStores [.Subscript (.Name x p1) (.Constant (.int 1) jj p3) p2] a X.env = pure none := by rfl) (h1 : (assignEach [.Subscript (.Name x p1) (.Constant (.int 1) jj p3) p2] X.env).map (·.2) = [assign (.Subscript (.Name x p1) (.Constant (.int 1) jj p3) p2) X.env] := by rfl) :
    DS X F (.Assign [.Subscript (.Name x p1) (.Constant (.int 1) jj p3) p2] a pos) (wPenS1 i wa) :=
  ds_of (ps_asg h.run (pg_sub hv pe_int set_list ha) hs hw h1) (fun e A B l q => h.mono e _ _ _ _ (fun d e1 ⟨j, k', i1, i2, i3, i4, y⟩ => ⟨j, k', i1, i2, i3, i4, l.nx _ y⟩) l.ex q) fun D σ H ⟨e, G, r, q⟩ => by
    refine tE.mono h.mono (fun v H1 z => ?_) (tE.any h.mono r (h.mono e _ _ _ _ (fun _ _ z => z) (fun y e' z C G' H' s r' ec => z C σ G' H' s r' ec) q))
    obtain ⟨e1, G1, d, s1, r1, rv, j', k', ed, pa, j0, jm, z⟩ := z
    subst ed
    cases rv.int_inv
    obtain ⟨a, c, xs, j, s, g1, hp, h3, h4, h5, h6, h7, h8⟩ := r1.pen pa
    exact ⟨_, g1, a, _, 1, 1, rfl, rfl, h4, rfl, z σ G1 _ s1 (r1.penSet hp h4 j0 jm)⟩
theorem ds_pen2 (h : DE X F a wa) (hv : PE X (.Name x p1) (tVar i))
    (ha : ∀ v, assign (.Subscript (.Name x p1) (.Constant (.int 2) jj p3) p2) X.env v = (do
      let ov ← holding [v] (eval (.Name x p1) X.env)
      let iv ← holding [v, ov] (eval (.Constant (.int 2) jj p3) X.env)
      standAt p2
      holding [v, ov,
            iv] (setItem ov iv v)
      release [v, ov, iv] []) := by intro _; rfl)
    (hs : swapsWithSole [.Subscript (.Name x p1) (.Constant (.int 2) jj p3) p2] a pos.line X.env = pure false := by rfl) (hw : swappedStores [.Subscript (.Name x p1) (.Constant (.int 2) jj p3) p2] a X.env = pure none := by rfl) (h1 : (assignEach [.Subscript (.Name x p1) (.Constant (.int 2) jj p3) p2] X.env).map (·.2) = [assign (.Subscript (.Name x p1) (.Constant (.int 2) jj p3) p2) X.env] := by rfl) :
    DS X F (.Assign [.Subscript (.Name x p1) (.Constant (.int 2) jj p3) p2] a pos) (wPenS2 i wa) :=
  ds_of (ps_asg h.run (pg_sub hv pe_int set_list ha) hs hw h1) (fun e A B l q => h.mono e _ _ _ _ (fun d e1 ⟨j, i1, i2, y⟩ => ⟨j, i1, i2, l.nx _ y⟩) l.ex q) fun D σ H ⟨e, G, r, q⟩ => by
    refine tE.mono h.mono (fun v H1 z => ?_) (tE.any h.mono r (h.mono e _ _ _ _ (fun _ _ z => z) (fun y e' z C G' H' s r' ec => z C σ G' H' s r' ec) q))
    obtain ⟨e1, G1, d, s1, r1, rv, j', ed, pa, z⟩ := z
    subst ed
    cases rv.int_inv
    obtain ⟨a, c, xs, j, s, g1, hp, h3, h4, h5, h6, h7, h8⟩ := r1.pen pa
    exact ⟨_, g1, a, _, 2, 2, rfl, rfl, h4, rfl, z σ G1 _ s1 (r1.penSet hp h4 h7 h8)⟩
/-! ### tests that compare -/
variable {op : CmpOp}
theorem toTest {w : WEx} (m : Mono w) {Q : Bool → Hp → Prop} (q : tT K F (wTest w) σ H Q) : tE K F w σ H (fun x H' => ∃ k, x = .bl k ∧ Q k H') := by
  obtain ⟨e, G, r, q⟩ := q
  exact ⟨e, G, r, m e _ _ _ _ (fun d e1 ⟨k, ek, z⟩ v G' H' s r' rv => by
    subst ek
    exact ⟨k, rv.bl_inv, z G' H' s r'⟩) (fun _ _ z => z) q⟩
theorem dt_cmp {f : B2} {r : R2} (ho : OpR X (compareOp op) r) (hf : f.Mono) (ft : Fits X.K f r) (ha : DE X F a wa) (hb : DE X F b wb) (hm : behindInMarks op b = false := by first | exact nomark _ (by decide) (by decide) | rfl) : DT X F (.Compare a [op] [b] pos) (wTest (wBin f wa wb)) :=
  dt_of (pt_cmpR ho ha.run hb.run hm) (wTest.mono (wBin.mono hf ha.mono hb.mono)) fun σ H Q q => tE.two hf ft ha.mono hb.mono (toTest (wBin.mono hf ha.mono hb.mono) q)
theorem dt_isN {j} {p2 : Pos} (ha : DE X F a wa) : DT X F (.Compare a [.Is] [.Constant .none j p2] pos) (wTest (wIsN wa)) :=
  dt_of (pt_cmp (pc_isN ha.run) rfl) (wTest.mono (wIsN.mono ha.mono)) fun σ H Q q => by
    obtain ⟨e, G, r, q⟩ := toTest (wIsN.mono ha.mono) q
    exact ⟨e, G, r, ha.mono e _ _ _ _ (fun d e1 z v G' H' s r' rv => by
      obtain ⟨k, e1, e2⟩ := z _ G' H' s r' (.bl _)
      refine ⟨k, ?_, e2⟩
      rw [← e1, rv.isN]) (fun _ _ z => z) q⟩
theorem dt_notN {j} {p2 : Pos} (ha : DE X F a wa) : DT X F (.Compare a [.IsNot] [.Constant .none j p2] pos) (wTest (wNotN wa)) :=
  dt_of (pt_cmp (pc_notN ha.run) rfl) (wTest.mono (wNotN.mono ha.mono)) fun σ H Q q => by
    obtain ⟨e, G, r, q⟩ := toTest (wNotN.mono ha.mono) q
    exact ⟨e, G, r, ha.mono e _ _ _ _ (fun d e1 z v G' H' s r' rv => by
      obtain ⟨k, e1, e2⟩ := z _ G' H' s r' (.bl _)
      refine ⟨k, ?_, e2⟩
      rw [← e1, rv.isN]) (fun _ _ z => z) q⟩
end
/-! ### a def that reads the pen's cells -/
section
variable {P : Program} {w : World} {K :
      PySem.W.Frag} {mg : Str → Option Value} {base : Heap}
theorem defDp {x : Str} {st : Stmt} {N ps : List Str} {k : Nat} {wf : Wc} (F : FunAt K mg x st ps) (S : FnScope N ps (defScope st)) (len : ∀ ds k Q x, wf ds k Q x → ds.length = ps.length)
    (body : ∀ (f : Addr) (cdv : Value) (A : Around) (outer : List Env) (s : Shared) (H : Hp) (E : XK) (p : Option Addr) (G : Hp) (xs : List Int), A.guards = some [] → Room k (A.deeper (envOfC x (defScope st) s.heap.objs.size f cdv)) → PenIs ⟨p, G, H, fun cls d _ H' => E cls d H'⟩ xs →
      ∃ ws, DSs (cxOf (L2.CX P w) P w K mg base N x (defScope st) f cdv A outer s H E) ⟨p, G, H, fun cls d _ H' => E cls d H'⟩ (defBody st) ws ∧ ∀ ds n Q x, wf ds n Q x → ws (enOf N ds n) (defEnds Q x)) : Def P w K mg base x (k + 1) ps wf := by
  obtain ⟨f, fd, h1, h2, h3⟩ := F
  refine ⟨f, fd, ?_, h2, h1.kp, h3⟩
  refine fnG_of h1 S (fun vs H Q E ⟨p, G, ds, n, _, ra, q⟩ => by rw [ra.length]; exact len ds n _ _ q) fun cdv A outer s H vs Q E hg hr ⟨p, G, ds, n, wd, ra, q⟩ => ?_
  have hx : ∃ xs, PenIs ⟨p, G, H, fun cls d _ H' => E cls d H'⟩ xs := by
    cases p with
    | none => exact ⟨[], by decide, fun _ z => nomatch z⟩
    | some a =>
      obtain ⟨_, c, xs, i, r, g1, g2, g3, _⟩ := wd.pen a rfl
      exact ⟨xs, g3, fun b eb => by cases eb; exact ⟨c, ⟨i, r, g1⟩, g2⟩⟩
  obtain ⟨xs, hx⟩ := hx
  obtain ⟨ws, h, hq⟩ := body f cdv A outer s H E p G xs hg hr hx
  refine ⟨_, h.run, enOf N ds n, G, Rl.start wd ra, h.mono _ _ _ ⟨?_, ?_, ?_, ?_, ?_⟩ (hq ds n _ _ q)⟩
  · exact fun e' z σ' G' H' _ r => by obtain ⟨α, r'⟩ := id r; exact z _ G' H' r'.st r'.w .non
  · exact fun d e' z v σ' G' H' _ r rv => by obtain ⟨α, r'⟩ := id r; exact z v G' H' r'.st r'.w rv
  · exact fun _ z => z.elim
  · exact fun _ z => z.elim
  · exact fun y e' z C σ' G' H' _ r ec => by obtain ⟨α, r'⟩ := id r; exact z C G' H' r'.st r'.w ec
end
end L2.DL
set_option
      maxHeartbeats 1000000
namespace L2.DL
open PySem PySem.Spec
      PyProof.Rows
/-! ### the law's script is cut; a fresh list is given back; a pair of which one is a list of ours -/
def wSlS (wa : WEx) (wl wh : WOx) : WEx := fun e Q x => wa e (fun d e1 => wl e1 (fun lo e2 => wh e2 (fun hi e3 => ∃ ns : List Int, d = scrD ns ∧ Q (.list (cutD (ns.map PyData.int) lo hi)) e3) x) x) x
section
variable {K : PySem.W.Frag} {F : Fx} {σ : L2.St} {H : Hp} {X : Cx} {pos : Pos} {a b : Expr} {wa wb : WEx} {wl wh : WOx} {lo hi : Option Expr} {wr : WAx}
theorem de_slS {p2 : Pos} (ha : DE X F a wa) (hl : DO X F lo wl) (hh : DO X F hi wh) : DE X F (.Subscript a (.Slice lo hi none p2) pos) (wSlS wa wl wh) := by
  refine de_of (pe_slice (sl_list.or sl_tupA) ha.run hl.run hh.run) (fun e Q Q' x x' h1 h2 q => ha.mono e _ _ _ _ (fun d e1 q1 => hl.mono e1 _ _ _ _ (fun o e2 q2 => hh.mono e2 _ _ _ _ (fun u e3 ⟨ns, ed, q3⟩ => ⟨ns, ed, h1 _ _ q3⟩) h2 q2) h2 q1) h2 q) fun σ H Q q => ?_
  obtain ⟨e, G, r, q⟩ := q
  refine tE.mono ha.mono (fun v H1 z => ?_) (tE.any ha.mono r q)
  obtain ⟨e1, G1, d, s1, r1, rv, z⟩ := z
  refine ⟨e1, G1, r1, hl.mono e1 _ _ _ _ (fun o e2 z2 G2 H2 s2 r2 => ?_) (fun _ _ => PX.mono s1) z⟩
  refine ⟨e2, G2, r2, hh.mono e2 _ _ _ _ (fun u e3 z3 G3 H3 s3 r3 => ?_) (fun _ _ => PX.mono (s1.trans s2)) z2⟩
  have rv3 := rv.mono (s2.trans s3)
  have s13 := s1.trans (s2.trans s3)
  obtain ⟨ns, ed, z3⟩ := z3
  subst ed
  obtain ⟨l, rfl, g1⟩ := rv3.scr_inv
  exact .inl ⟨l, _, rfl, r3.same.seq g1, fun p hp => z3 _ (upd G3 p (.lst (cutV (ns.map V.int) o u))) _ (s13.trans (sameNew r3.same hp)) (r3.new hp) (.lst upd_same (((RA.toInts ns).cut o u).mono (sameNew r3.same hp)))⟩
/-- a, b = x, [..] where b is ours -/
def wParO (i j : Nat) (wa : WEx) (wr : WAx) : WSt := fun e D => wa e (fun d e1 => wr e1 (fun ds e2 => D.nx (put (put e2 i (.dat d)) j (.own ds))) D.ex) D.ex
def wAddF (wa wb : WEx) : WAx := fun e Q x => wa e (fun d e1 => wb e1 (fun d' e2 => ∃ xs ys, d = .list xs ∧ d' = .list ys ∧ xs.length + ys.length ≤ sizeLine ∧ Q (xs ++ ys) e2) x) x
theorem df_add (ha : DE X F a wa) (hb : DE X F b wb) : DF X F (.BinOp a .Add b pos) (wAddF wa wb) :=
  df_of (pe_op op_cat ha.run hb.run) (fun e Q Q' x x' h1 h2 q => ha.mono e _ _ _ _ (fun d e1 z => hb.mono e1 _ _ _ _ (fun d' e2 ⟨xs, ys, i1, i2, i3, y⟩ => ⟨xs, ys, i1, i2, i3, h1 _ _ y⟩) h2 z) h2 q) fun σ H Q ⟨e, G, r, q⟩ => by
    refine tE.mono ha.mono (fun v H1 z => ?_) (tE.any ha.mono r q)
    obtain ⟨e1, G1, d, s1, r1, rd, z⟩ := z
    refine tE.mono hb.mono (fun v' H2 z => ?_) (tE.any hb.mono r1 (hb.mono e1 _ _ _ _ (fun _ _ z => z) (fun _ _ => PX.mono s1) z))
    obtain ⟨e2, G2, d', s2, r2, rd', xs, ys, i1, i2, i3, y⟩ := z
    rw [i1] at rd
    rw [i2] at rd'
    obtain ⟨l, vs, ev, h1, ra⟩ := (rd.mono s2).lst_inv
    obtain ⟨m, ws, ew, h2, rb⟩ := rd'.lst_inv
    exact ⟨l, m, vs, ws, ev, ew, r2.same _ _ h1, r2.same _ _ h2, by rw [ra.length, rb.length]; exact i3, fun p hp => y p _ G2 H2 (s1.trans s2) r2 hp (ra.append rb)⟩
/-- the lists of ours are let go, an expression gives a fresh list -/
theorem Rl.lent (r : ∃ α, Rel K F.p F.G₀ F.H₀ G H σ e α) : ∃ G', Same G G' ∧ Rl K F.p F.G₀ F.H₀ G' H σ (lendE e) := by
  obtain ⟨α, r⟩ := r
  obtain ⟨s, r'⟩ := r.plus
  exact ⟨_, s, r'⟩
end
end L2.DL
set_option
      maxHeartbeats 1000000
namespace L2.DL
open PySem PySem.Spec
      PyProof.Rows
/-! ### a tuple turned round by a slice -/
section
variable {prog : Program} {w : World} {A :
      Around} {E : Value → Shared → Prop} {s : Shared}
theorem turn_places (n : Nat) : Builtin.Slice.slicePlaces ((n : Int) - 1) (-1) (-1) = n := by
  unfold
    Builtin.Slice.slicePlaces
  rw [if_neg (by decide)]
  by_cases h : (n
        : Int) - 1 > -1
  · rw [if_pos h, show (-(-1) : Int) = 1 by decide, Int.ediv_one]
    omega
  · rw [if_neg h]
    omega
theorem fm_all {f : Nat → Option Value} {g : Nat → Value} : ∀ {l : List Nat}, (∀ m ∈ l, f m = some (g m)) → l.filterMap f = l.map g
  | [], _ => rfl
  | m :: l, h => by rw [List.filterMap_cons_some (h m List.mem_cons_self), List.map_cons, fm_all fun y hy => h y (List.mem_cons_of_mem _ hy)]
theorem turn_pick (xs : List Value) : ((List.range xs.length).filterMap fun (m : Nat) => xs.toArray[(((xs.length : Int) - 1) + (m : Int) * (-1)).toNat]?) = xs.reverse := by
  rw [fm_all (g := fun m => xs.reverse.getD m .none) fun m hm => ?_]
  · apply List.ext_getElem?
    intro i
    rw [List.getElem?_map]
    by_cases hi : i < xs.length
    · rw [List.getElem?_range hi, List.getElem?_eq_getElem (by rw [List.length_reverse]; exact hi)]
      simp [List.getD_eq_getElem?_getD, List.getElem?_eq_getElem, hi]
    · rw [List.getElem?_eq_none (by simp; omega), List.getElem?_eq_none (by simp; omega)]
      rfl
  · rw [List.mem_range] at hm
    have : (((xs.length : Int) - 1) + (m : Int) * (-1)).toNat = xs.length - 1 - m := by omega
    simp only [this, List.getElem?_toArray]
    rw [List.getD_eq_getElem?_getD, List.getElem?_reverse hm, List.getElem?_eq_getElem (by omega)]
    rfl
theorem turn_applied {sl : Addr} {t : Tok} {n : Nat} {Q : Int × Int × Nat → Shared → Prop} {vs : Value} (hs : s.heap.IsSliceOf sl .none .none vs) (pv : IsPart vs (some (-1)))
    (h : Q ((n : Int) - 1, -1, n) s) : wpAny (model prog w) A (Builtin.Slice.sliceApplied (.ref sl) (pure (n : Int))) Q E s := by
  obtain ⟨os, hos,
        hcs, hds⟩ := id hs
  unfold Builtin.Slice.sliceApplied
        Builtin.Slice.sliceFields
  refine wpAny_bind (wpAny_bind (wpAny_field hos hds (x := .none) rfl (wpAny_bind (wpAny_field hos hds (x := .none) rfl (wpAny_bind (wpAny_field hos hds (x := vs) rfl (wpAny_pure ?_)))))))
  refine wpAny_bind (HT.slicePart_ pv ?_)
  show wpAny _ _ (if ((-1 : Int) == 0) = true then _ else _) _ _ s
  rw [if_neg (by decide)]
  refine wpAny_bind (HT.slicePart_ .none (wpAny_bind (HT.slicePart_ .none (wpAny_bind (wpAny_pure ?_)))))
  show wpAny _ _ (pure (((n : Int) - 1), (-1 : Int), Builtin.Slice.slicePlaces ((n : Int) - 1) (-1) (-1))) _ _ s
  rw [turn_places]
  exact wpAny_pure h
theorem turn_tuple_ {t sl : Addr} {items : List Value} {vs : Value} {Q : Value → Shared → Prop} (ht : IsTup s.heap t items.toArray) (hs : s.heap.IsSliceOf sl .none .none vs) (pv : IsPart vs (some (-1)))
    (h : Q (.ref s.heap.objs.size) { s with heap := s.heap.push { cls := .type "tuple", data := .seq items.reverse.toArray } })
    (hsz : items.length ≤ sizeLine) : wpAny (model prog w) A (getItem (.ref t) (.ref sl)) Q E s := by
  have htake : sizeOk (.seq items.reverse.toArray) := by
    show items.reverse.toArray.size ≤ sizeLine
    rw [List.size_toArray, List.length_reverse]
    exact hsz
  obtain ⟨os, hos,
        hcs, hds⟩ := id hs
  have hTs : s.TypeIs (.ref sl) "slice" :=
        ⟨os, hos, hcs⟩
  unfold getItem
  try with_reducible
        refine wpAny_holding ?_
  try (refine wpAny_bind (wpAny_pure ?_))
  refine wpAny_bind (wpAny_sequenceKey
        ht.typeIs (by decide) ?_)
  refine wpAny_bind (wpAny_callSpecial?_slot (name :=
        Str.ofString "__getitem__") ht.typeIs PyProof.Rows.slot_tuple_getitem
    (wpAny_call_entry PyProof.Rows.slot_tuple_getitem
          ht.typeIs entry_tuple_getitem ?_ (args_tuple_getitem _ _)))
  show wpAny _ _ (Builtin.Tuple.tupleItemsOf
        (.ref t) >>= _) _ _ s
  refine wpAny_bind
        (tupleItemsOf_ ht ?_)
  refine wpAny_bind
        (wpAny_typeOf hTs ?_)
  rw [if_pos (by decide), List.size_toArray]
  refine wpAny_bind (turn_applied (t := 0) hs pv ?_)
  have hno : ¬ ((((items.length : Int) - 1 == 0) && ((-1 : Int) == 1) && (items.length == items.length)) = true) := by
    intro q
    rw [Bool.and_eq_true,
          Bool.and_eq_true] at q
    exact absurd q.1.2 (by decide)
  show wpAny _ _ (if (((items.length : Int) - 1 == 0) && ((-1 : Int) == 1) && (items.length == items.length)) = true then _ else _) _ _ s
  rw [if_neg hno, turn_pick]
  first
    | exact wpAny_bind (m := Builtin.Tuple.tupleExact _) (wpAny_newObj_type (wpAny_pure ⟨_,
          rfl, wpAny_pure h⟩) htake)
    | exact wpAny_bind (m := Builtin.Tuple.tupleExact _) (wpAny_newObj_type
          (wpAny_bind (wpAny_pure (wpAny_pure ⟨_, rfl, wpAny_pure h⟩))) htake)
    | exact wpAny_bind (wpAny_bind (m :=
          Builtin.Tuple.tupleExact _) (wpAny_newObj_type (wpAny_pure (wpAny_pure ⟨_, rfl, wpAny_pure h⟩)) htake))
    | exact wpAny_bind (wpAny_bind (m :=
          Builtin.Tuple.tupleExact _) (wpAny_newObj_type (wpAny_pure ⟨_, rfl, wpAny_pure h⟩) htake))
end
def tRevT (K : PySem.W.Frag) (te : TE) : TE := fun σ H Q => te σ H fun x H1 => ∃ a xs, x = .ref a ∧ SqT K H1 a xs ∧ ∀ p, H1 p = none → Q (.ref p) (upd H1 p (.tup xs.reverse))
section
variable {X : Cx} {F : Fx} {wa : WEx}
theorem pe_revT {e : Expr} {te : TE} {k : Nat} {p1 p2 p3 pos : Pos} (he : PE X e te) : PE X (.Subscript e (.Slice none none (some (.UnaryOp .USub (.Constant (.int 1) k p1) p2)) p3) pos) (tRevT X.K te) := by
  refine ⟨fun pins s σ H Q I h =>
        ?_⟩
  refine Subscript_ (thn (he.run pins s σ H _ I h) fun v s1 ⟨x,
        H1, I1, r1, q1⟩ => ?_)
  obtain ⟨a, xs,
        ex, hx, q⟩ := q1
  subst ex
  cases r1
  have hst : PO X (some (.UnaryOp .USub (.Constant (.int 1) k p1) p2)) (tPart (tUn (rU fun i =>
        .int (-i)) (tC (.int 1)))) := po_some (pe_un un_neg pe_int)
  refine wpAny_Slice (thn (po_none.run pins s1 σ H1 (fun o H2 =>
        o = none ∧ H2 = H1) I1 ⟨rfl, rfl⟩) fun vl s2 ⟨l, H2, I2, pl, el, e2⟩ => ?_)
  subst el e2
  refine thn (po_none.run pins s2 σ H2 (fun o H3 =>
        o = none ∧ H3 = H2) I2 ⟨rfl, rfl⟩) fun vu s3 ⟨u, H3, I3, pu, eu, e3⟩ => ?_
  subst eu e3
  refine thn (hst.run pins s3 σ H3 (fun o H4 => o = some (-1) ∧ H4 = H3) I3 ⟨1,
        rfl, -1, rfl, rfl, rfl⟩) fun vs s4 ⟨o, H4, I4, ps, eo, e4⟩ => ?_
  subst eo e4
  have J5 : Inv X pins σ H4 { s4 with heap := s4.heap.push { cls := .type "slice", data := .fields #[vl, vu, vs] } } := I4.kept (t' := s4.toks) fun b ob q => Heap.get?_push_of_some _ q
  obtain ⟨its, r, ht, hz⟩ := J5.tuple hx
  cases pl
  cases pu
  show wpAny (model X.prog X.w) X.A (subscriptTail e (.Slice none none (some (.UnaryOp .USub (.Constant (.int 1) k p1) p2)) p3) (.ref a) (.ref s4.heap.objs.size)) (EP X pins σ Q) X.xe { s4 with heap := s4.heap.push { cls := .type "slice", data := .fields #[.none, .none, vs] } }
  refine tail_any (ops := [.ref a, .ref s4.heap.objs.size]) ht.typeIs (PyProof.Rows.slot_tuple_getitem.lookup) ?_ (by with_unfolding_all rfl)
  refine turn_tuple_ ht (Heap.IsSliceOf.new _ .none .none vs) ps ?_ (by have := r.length; omega)
  refine ⟨.ref _, _, J5.laid (t' := s4.toks) (o := .tup xs.reverse) (fun b ob q => Heap.get?_push_of_some _ q) (Nat.le_refl _) ?_, rfl, q _ (J5.hok.fresh (Nat.le_refl _))⟩
  exact ⟨by rw [List.length_reverse]; exact hz, _, r.reverse, IsTup.new _ _⟩
/-- xs[::-1], xs a tuple -/
def wRevT (w : WEx) : WEx := fun e Q x => w e (fun d e1 => ∃ ds, d = .tuple ds ∧ Q (.tuple ds.reverse) e1) x
theorem de_rev {e : Expr} {k : Nat} {p1 p2 p3 pos : Pos} (h : DE X F e wa) : DE X F (.Subscript e (.Slice none none (some (.UnaryOp .USub (.Constant (.int 1) k p1) p2)) p3) pos) (wRevT wa) :=
  de_of (pe_revT h.run) (fun e Q Q' x x' h1 h2 q => h.mono e _ _ _ _ (fun d e1 ⟨ds, ed, z⟩ => ⟨ds, ed, h1 _ _ z⟩) h2 q) fun σ H Q ⟨e, G, r, q⟩ =>
    ⟨e, G, r, h.mono e _ _ _ _ (fun d e1 ⟨ds, ed, z⟩ v G' H' s r' rv => by
      subst ed
      obtain ⟨a, xs, rfl, g, ra⟩ := rv.tup_inv
      exact ⟨a, xs, rfl, sameT r'.same g, fun p hp => z _ (upd G' p (.tup xs.reverse)) _ (s.trans (sameNew r'.same hp)) (r'.new hp) (.tup (SqT.of upd_same) (ra.reverse.mono (sameNew r'.same hp)))⟩) (fun _ _ z => z) q⟩
end
end L2.DL
set_option
      maxHeartbeats 1000000
namespace L2.DL
open PySem PySem.Spec
      PyProof.Rows
/-! ### sorted(set(t)), t a tuple of ints -/
def wSortedSet (w : WEx) : WEx := fun e Q x => w e (fun d e1 => ∃ ns : List Int, d = .tuple (ns.map PyData.int) ∧ ns.length ≤ 60 ∧ ∀ ms : List Int, ms.Pairwise (· < ·) → (∀ k, k ∈ ms ↔ k ∈ ns) → ms.length ≤ ns.length → Q (.list (ms.map PyData.int)) e1) x
end L2.DL
set_option
      maxHeartbeats 1000000
namespace L2.DL
open PySem PySem.Spec
      PyProof.Rows
/-! ### all(list of bools), xs.extend(ys) -/
def allD : BL
  | [.list xs], P => ∃ bs : List Bool, xs = bs.map PyData.bool ∧ P (.bool (bs.all id))
  | _, _ => False
theorem allD.mono : BL.Mono allD := by
  intro a P P' h q
  unfold allD at q ⊢
  split at q
  · obtain ⟨bs, e, z⟩ := q; exact ⟨bs, e, h _ z⟩
  · exact q.elim
section
variable {K : PySem.W.Frag} {F : Fx} {X : Cx} {pos : Pos} {a : Expr} {wa : WEx}
def wExt (i : Nat) (w : WEx) : WSt := fun e D => (∃ ds, e.s[i]? = some (.own ds)) ∧ w e (fun d e1 => ∃ ds ys, e1.s[i]? = some (.own ds) ∧ d = .list ys ∧ ds.length + ys.length ≤ 1000 ∧ D.nx (put e1 i (.own (ds ++ ys)))) D.ex
end
end L2.DL
set_option
      maxHeartbeats 4000000
namespace L2.DL
open PySem PySem.Spec
      PyProof.Rows
/-! ### set(xs), xs a list of ints -/
/-- the object that set() lays -/
abbrev setNew (w : World) : Obj := { cls := .type "set", dict := none, data := .set #[] 0 (.fresh 0 0 (!w.params.followText "set-order")) }
/-- how the heap stands behind set(xs) -/
def SetDone (w : World) (ns : List Int) (s s2 : Shared) : Prop :=
  ∃ (g : Heap) (tk c : Nat), s2 = { s with heap := g, toks := tk } ∧ SetR w g s.heap.objs.size (fun j => decide (j ∈ ns)) c ∧ c ≤ ns.length ∧ ∀ b o, s.heap.get? b = some o → g.get? b = some o
section
variable {P : Program} {w : World} {A : Around}
      {E : Value → Shared → Prop} {s : Shared}
theorem init_listI {l : Addr} {xs : Array Value} (ns : List Int) (hh : A.handled = none) (hl : s.heap.IsList l xs) (hi : IntsAre xs.toList ns) (hb : ns.length + 1 < scanBound) :
    codeAny (model P w) A (.call (.builtin "set.__init__") ⟨[.ref s.heap.objs.size, .ref l], []⟩) (wants (fun r s2 => r = .none ∧ SetDone w ns s s2) E) { s with heap := s.heap.push (setNew w) } := by
  have at0 : (s.heap.push (setNew w)).get? s.heap.objs.size = some (setNew w) := Heap.get?_push_size _ rfl
  have hz : xs.size = ns.length := by
    have := IntsAre.length hi
    rwa [Array.length_toList] at this
  have up := hl.push (setNew w)
  have ty : Shared.TypeIs { s with heap := s.heap.push (setNew w) } (.ref s.heap.objs.size) "set" :=
    ⟨_, at0, rfl⟩
  refine codeAny_call_builtin F.called_set.init.plain F.entry_set_init (check_set_init_1 ty ?_)
  have up' := up
  obtain ⟨⟨c0, d0, e0, f0⟩, at1, k0, n0, x0⟩ := up'
  dsimp only at k0 x0
  cases k0
  cases x0
  have no1 := F.sub_list_set
  have no2 := F.sub_list_frozenset
  have no3 : (Value.type "list" == Value.type "dict") = false := by decide
  have below : l < s.heap.objs.size := by
    obtain ⟨o, e, _⟩ := hl
    exact Heap.lt_size e
  have quiet : A.in1.in1.handled = none := by simp [hh]
  have one : (s.heap.push (setNew w)).objs.size = s.heap.objs.size + 1 := Heap.size_push ..
  have away : l ≠ (s.heap.push (setNew w)).objs.size := by
    rw [one]
    exact Nat.ne_of_lt (Nat.lt_succ_of_lt below)
  have at2 : ((s.heap.push (setNew w)).push { cls := .type "list_iterator", data := .fields #[.ref l, .int 0 0] }).get? s.heap.objs.size = some (setNew w) := Heap.get?_push_of_some _ at0
  unfold Builtin.«set.__init__»
        noKeywords Builtin.Frozenset.updateFrom
  generalize hit : pyIter = it
  wp_walk
  subst hit
  refine wpAny_pyIter_list up (wpAny_bind (wpAny_runValue ?_))
  have sep : s.heap.objs.size ∉ [(s.heap.push (setNew w)).objs.size, l] := by
    rw [one]
    intro z
    rcases List.mem_cons.mp
          z with z | z
    · exact Nat.ne_of_lt (Nat.lt_succ_self _) z
    · exact Nat.ne_of_lt below (List.mem_singleton.mp z).symm
  refine set_update_ints (Walks.list quiet _ l away xs).toS s.heap.objs.size sep ns hz hb (fun i v hv => ?_) (xs.size - 0) 0 _ (by omega) (Nat.zero_le _) ?s0 ?st fun s2 c mv hc R => ?_
  case s0 => exact ⟨⟨_, Heap.get?_push_size _ rfl, rfl, rfl⟩, up.push _⟩
  case st => exact ⟨0, Nat.le_refl 0, setR_new_at at2⟩
  · have lt : i < ns.length := by
      rw [← hz]
      exact (Array.getElem?_eq_some_iff.mp hv).1
    obtain ⟨t, e⟩ := hi.int_at i v (by rw [Array.getElem?_toList]; exact hv)
    exact ⟨ns[i], t, List.getElem?_eq_getElem lt, by rw [e, List.getD_eq_getElem?_getD, List.getElem?_eq_getElem lt] <;> rfl⟩
  · obtain ⟨g, gn, dr, tk, os⟩ := s2
    cases (show gn = s.gens from mv.gens)
    cases (show dr = s.drawn from mv.drawn)
    cases (show os = s.os from mv.os)
    show wpAny _ _ _ _ _ _
    refine wpAny_pure ?_
    show wpAny _ _ (ret
          Value.none) _ _ _
    rw [hz] at hc
    refine wpAny_pure ⟨rfl, g, tk, c, rfl, R, hc, fun b o e => ?_⟩
    have lt := Heap.lt_size e
    refine mv.heap b o ?_ (Heap.get?_push_of_some _ (Heap.get?_push_of_some _ e))
    rw [one]
    intro z
    rcases List.mem_cons.mp
          z with z | z
    · exact Nat.ne_of_lt lt z
    · exact Nat.ne_of_lt (Nat.lt_succ_of_lt lt) (List.mem_singleton.mp z)
theorem call_set_listI {l : Addr} {xs : Array Value} (ns : List Int) {Q : Value → Shared → Prop} (hh : A.handled = none) (hl : s.heap.IsList l xs) (hi : IntsAre xs.toList ns) (hb : ns.length + 1 < scanBound)
    (h : ∀ s2, SetDone w ns s s2 → Q (.ref s.heap.objs.size) s2) : wpAny (model P w) A (call (.type "set") [.ref l]) Q E s := by
  obtain ⟨c, tl, mro⟩ := F.called_set.mro
  have k1 := F.called_set.made
  have k2 := F.called_set.sub
  have k3 := F.called_set.notType
  have k4 := F.called_set.canCreate
  have k5 := F.typeCall_set_1 (.ref l)
  have k6 := F.called_set.init.lookup
  have ty : Shared.TypeIs { s with heap := s.heap.push (setNew w) } (.ref s.heap.objs.size) "set" := ⟨_, Heap.get?_push_size _ rfl, rfl⟩
  refine wpAny_call
        (codeAny_of_tree ?_)
  show wpAny _ _ (callAny
        (.type "set") _) _ _ _
  refine wpAny_pure ⟨Code.quiet_builtin _ (by decide +kernel),
        codeAny_builtin F.entry_type_call ?_⟩
  rw [Around.under_plain (weight_type_call_type
        "set" [.ref l] []) rfl]
  repeat (any_goals (first
        | assumption | wp_step))
  refine codeAny_mono (code_set_led1 (.ref l) (E := E) (Q₁ := fun o s1 => o = .ref s.heap.objs.size ∧ s1 = { s with heap := s.heap.push (setNew w) }) ⟨rfl, rfl⟩) fun r s1 z => ?_
  rcases r with e | (_ | _ | _ | o)
  · exact z
  iterate 3 exact z.elim
  · obtain ⟨rfl, rfl⟩ := z
    have k7 := F.called_set.init.bind (.ref s.heap.objs.size)
    repeat (any_goals (first
          | assumption | wp_step))
    refine codeAny_mono (init_listI (E := E) ns (by simp [hh]) hl hi hb) fun r s2 z => ?_
    rcases r with e | (_ | _ | _ | o)
    · exact z
    iterate 3 exact z.elim
    · obtain ⟨rfl, d⟩ := z
      repeat (any_goals (first
            | assumption | wp_step))
      exact h _ d
end
/-- sorted(set(xs)), xs a list that nothing else holds -/
def wSortedSetL (w : WEx) : WEx := fun e Q x => w e (fun d e1 => ∃ ns : List Int, d = .list (ns.map PyData.int) ∧ ns.length ≤ 60 ∧ ∀ ms : List Int, ms.Pairwise (· < ·) → (∀ k, k ∈ ms ↔ k ∈ ns) → ms.length ≤ ns.length → Q (.list (ms.map PyData.int)) e1) x
end L2.DL
set_option
      maxHeartbeats 2000000
namespace L2.DL
open PySem PySem.Spec
      PyProof.Rows
/-! ### try: body, several clauses without a name -/
/-- what the clauses wish of an error -/
def wHs (K : PySem.W.Frag) : List (Value × WSt) → DEnds → D → En → Prop
  | [], D, y, e => D.ex y e
  | (c, ws) :: r, D, y, e => ∃ C b, y = excD C ∧ PySem.W.exmOne K (.ref C) c = some b ∧ (b = true → ws e D) ∧ (b = false → wHs K r D y e)
inductive DHs (X : Cx) (F : Fx) : List ExceptHandler → List (Value × WSt) → Prop
  | nil : DHs X F [] []
  | cons {x : Str} {c : Value} {ws : WSt} {b₀ : Stmt} {suite : List Stmt} {np pos' : Pos} {hds : List ExceptHandler} {l : List (Value × WSt)} (hc : Names X x c)
      (hsu : ∀ (a : Addr) (oe : Obj) (pn : List (Addr × Obj)), DSs (X.suite a ((a, oe) :: pn)) F (b₀ :: suite) ws) (r : DHs X F hds l) :
      DHs X F (.ExceptHandler (some (.Name x np)) none (b₀ :: suite) pos' :: hds) ((c, ws) :: l)
def wTryM (K : PySem.W.Frag) (l : List (Value × WSt)) (wb : WSt) : WSt := fun e D => wb e { D with ex := fun y e' => wHs K l D y e' }
section
variable {X : Cx} {F : Fx} {hds : List ExceptHandler} {l : List (Value × WSt)}
theorem DHs.ok (h : DHs X F hds l) : HdsOk X hds (l.map fun p => (p.1, fun _ _ _ => tS X.K F p.2)) := by
  induction h with
  | nil => exact .nil
  | cons hc hsu _ ih => exact .cons hc (fun a oe _ _ pn _ _ => (hsu a oe pn).run) ih
theorem DHs.mono (h : DHs X F hds l) : ∀ {A B : DEnds} {y : D} {e : En}, DEnds.le A B → wHs X.K l A y e → wHs X.K l B y e := by
  induction h with
  | nil => exact fun l q => l.ex _ _ q
  | cons hc hsu _ ih =>
    intro A B y e le ⟨C, b, e1, e2, q1, q2⟩
    exact ⟨C, b, e1, e2, fun hb => (hsu 0 { cls := .type "int", dict := none, data := .seq #[] } []).mono e _ _ le (q1 hb), fun hb => ih le (q2 hb)⟩
theorem DHs.to (h : DHs X F hds l) {G : Hp} {D : Ends} {C : Addr} {e : En} : wHs X.K l (endsOf X.K F G D) (excD C) e → ∀ σ' G' H', Same G G' → Rl X.K F.p F.G₀ F.H₀ G' H' σ' e → wMany X.K F.W D (l.map fun p => (p.1, fun _ _ _ => tS X.K F p.2)) (.ref C) none σ' H' := by
  induction h with
  | nil => exact fun q σ' G' H' s r => q C σ' G' H' s r rfl
  | cons hc hsu _ ih =>
    intro ⟨C', b, e1, e2, q1, q2⟩ σ' G' H' s r
    have ec := excD_inj e1
    subst ec
    exact ⟨b, e2, fun hb a _ => ⟨e, G', r, (hsu 0 { cls := .type "int", dict := none, data := .seq #[] } []).mono e _ _ (endsOf.le s) (q1 hb)⟩, fun hb => ih (q2 hb) σ' G' H' s r⟩
end
end L2.DL
set_option
      maxHeartbeats 2000000
namespace L2.DL
open PySem PySem.Spec
      PyProof.Rows
/-! ### defs whose answer is a list that nothing else holds -/
abbrev Wo := List D → Nat → (List D → Nat → Prop) → (D → Nat → Prop) → Prop
def Wo.Mono (w : Wo) : Prop := ∀ ds k Q Q' x x', (∀ es k, Q es k → Q' es k) → (∀ d k, x d k → x' d k) → w ds k Q x → w ds k Q' x'
def spO (K : PySem.W.Frag) (w : Wo) : Sp := fun vs H Q E => ∃ p G ds k, Wd K p k G H ∧ RA K p G vs ds ∧
  w ds k (fun es k' => ∀ a xs G' H', Stp p G H G' H' → Wd K p k' G' H' → H' a = none → RA K p G' xs es → Q (.ref a) (L2.upd H' a (.lst xs))) (fun x k' => ∀ C G' H', Stp p G H G' H' → Wd K p k' G' H' → x = excD C → E (.ref C) none H')
/-- the answer, as data -/
def plainO (w : Wo) : Wc := fun ds k Q x => w ds k (fun es k' => Q (.list es) k') x
theorem plainO.mono {w : Wo} (m : w.Mono) : (plainO w).Mono := fun ds k Q Q' x x' h1 h2 q => m ds k _ _ _ _ (fun es k => h1 _ _) h2 q
def DefO (P : Program) (w : World) (K : PySem.W.Frag) (mg : Str → Option Value) (base : Heap) (x : Str) (k : Nat) (ps : List Str) (wf : Wo) : Prop :=
  ∃ f fd, FnG P w K mg base k f fd ps (spO K wf) ∧ mg x = some (.ref f) ∧ PySem.W.keepIn K (.ref f) = true ∧ Binds K fd ps []
section
variable {P : Program} {w : World} {K :
      PySem.W.Frag} {mg : Str → Option Value} {base : Heap}
theorem DefO.plain {x : Str} {k : Nat} {ps : List Str} {wf : Wo} (h : DefO P w K mg base x k ps wf) (m : wf.Mono) : Def P w K mg base x k ps (plainO wf) := by
  obtain ⟨f, fd, h1, h2⟩ := h
  refine ⟨f, fd, h1.imp fun vs H Q E ⟨p, G, ds, n, wd, ra, q⟩ => ⟨p, G, ds, n, wd, ra, m ds n _ _ _ _ (fun es k' z a xs G' H' st wd' ha rx => ?_) (fun _ _ z => z) q⟩, h2⟩
  have r : Rl K p G H G' H' [] ⟨[], k'⟩ := ⟨fun _ => 0, wd', st, rfl, fun i d h => by simp at h, fun i ds h => by simp at h, fun i j ds es h => by simp at h⟩
  obtain ⟨α, r'⟩ := r.new (o := .lst xs) ha
  exact z (.ref a) _ _ r'.st r'.w (.lst upd_same (rx.mono (sameNew wd'.same ha)))
end
/-- a call of such a def gives a new list -/
def wCallF (wf : Wo) (wa : WAx) : WAx := fun e Q x => wa e (fun ds e1 => wf ds e1.k (fun es k' => Q es { e1 with k := k' }) (fun y k' => x y { e1 with k := k' })) x
section
variable {X : Cx} {F : Fx} {pos : Pos} {a : Expr} {es : List Expr} {wr : WAx}
theorem wCallF.mono {wf : Wo} (mf : wf.Mono) (m : MonoA wr) : MonoA (wCallF wf wr) := fun e Q Q' x x' h1 h2 q => m e _ _ _ _ (fun ds e1 z => mf ds e1.k _ _ _ _ (fun d k => h1 _ _) (fun d k => h2 _ _) z) h2 q
end
/-! #### blocks that end with the return of such a list -/
abbrev WOs := En → (List D → En → Prop) → (D → En → Prop) → Prop
def RO (K : PySem.W.Frag) (F : Fx) (G : Hp) (D : Ends) : List PyData → En → Prop := fun ds e' => ∀ a xs σ' G' H', Same G G' → Rl K F.p F.G₀ F.H₀ G' H' σ' e' → H' a = none → RA K F.p G' xs ds → D.rt (.ref a) (L2.upd H' a (.lst xs))
theorem RO.mono {K : PySem.W.Frag} {F : Fx} {G G' : Hp} {D : Ends} (s : Same G G') : ∀ ds e, RO K F G D ds e → RO K F G' D ds e := fun ds e h a xs σ' G2 H' s2 => h a xs σ' G2 H' (s.trans s2)
section
variable {X : Cx} {F : Fx} {pos : Pos} {a : Expr} {st : Stmt} {rest : List Stmt} {wr : WAx} {w1 : WSt} {w2 : WOs}
def wSeqO (w1 : WSt) (w2 : WOs) : WOs := fun e Q x => w1 e ⟨fun e' => w2 e' Q x, fun _ _ => False, fun _ => False, fun _ => False, x⟩
end
end L2.DL
set_option
      maxHeartbeats 4000000
namespace L2.DL
open PySem PySem.Spec
      PyProof.Rows
/-! ### the empty tuple, some times: itself -/
/-- times, of a tuple that may be empty -/
def mulE : B2
  | .tuple xs, .int k, P => 1 ≤ k ∧ k ≤ 1000 ∧ xs.length ≤ 1000 ∧ P (.tuple (List.replicate k.toNat xs).flatten)
  | _, _, _ => False
theorem mulE.mono : B2.Mono mulE := by
  intro a b P P' h q
  unfold mulE at q ⊢
  split at q
  · exact ⟨q.1, q.2.1, q.2.2.1, h _ q.2.2.2⟩
  · exact q.elim
end L2.DL
set_option
      maxHeartbeats 2000000
namespace L2.DL
open PySem PySem.Spec
      PyProof.Rows
/-! ### enumerate(t), t a tuple -/
abbrev itOf (l : Addr) : Obj := { cls := .type "tuple_iterator", data := .fields #[.ref l, .int 0 0] }
abbrev enOfT (i : Addr) : Obj := { cls := .type "enumerate", data := .fields #[.none, .bool false, .ref i, rawInt 0, .none, .none] }
open AutoSeq1 in
theorem enum_newT (l : Addr) (xs : Array Value) (n : Nat) (dd : Option Addr) (sl : Array (Option Value)) :
    Meets (Builtin.«enumerate.__new__» ⟨[.type "enumerate", .ref l], []⟩) (fun _ R s => s.heap.get? l = some { cls := .type "tuple", dict := dd, data := .seq xs n, slots := sl } ∧
      R (.ok (.ret (.ref (s.heap.push (itOf l)).objs.size))) { s with heap := (s.heap.push (itOf l)).push (enOfT s.heap.objs.size) }) :=
  .of_wp fun P
        w A R s h => by
    obtain ⟨hp, g,
          d, tk, os⟩ := s
    obtain ⟨hl, h⟩ := h
    have sub := sub_enumerate
    have ht : Heap.IsTuple (Shared.heap ⟨hp, g, d, tk, os⟩) l xs :=
      ⟨_, hl, rfl, n, rfl⟩
    wp_walk using
          wpAny_loadPart' hl
    refine wpAny_stack_any fun st =>
      wpAny_pure ?_
    split
    · rename_i c _ _ _ _ _
      rcases Bool.eq_false_or_eq_true (c == Value.type "enumerate") with e | e <;> rw [e]
      all_goals
        wp_walk using
          wpAny_loadPart' hl, wpAny_pyIter_tuple ht
        exact ⟨_, rfl, h⟩
    · wp_walk using
          wpAny_loadPart' hl, wpAny_pyIter_tuple ht
      exact ⟨_, rfl, h⟩
section
variable {P : Program} {w : World} {A : Around}
      {E : Value → Shared → Prop} {s : Shared}
theorem call_enumT {l : Addr} {xs : Array Value} {Q : Value → Shared → Prop} (ht : s.heap.IsTuple l xs)
    (h : ∀ g, IsEnum g (s.heap.objs.size + 1) s.heap.objs.size 0 .none → g.IsTupleIter s.heap.objs.size l 0 → (∀ b o, s.heap.get? b = some o → g.get? b = some o) → Q (.ref (s.heap.objs.size + 1)) { s with heap := g }) :
    wpAny (model P w) A (call (.type "enumerate") [.ref l]) Q E s := by
  obtain ⟨⟨c, dd, dt, sl⟩, hl, hc, n, hd⟩ := ht
  dsimp only at hc hd
  cases hc
  cases hd
  refine callType_new F.called_enumerate (by decide) (F.typeCall_enumerate_1 _) (F.newCall_enumerate_1 _) (fun obj => F.args_object_init_2 obj _) F.entry_enumerate_new (enum_newT l xs n dd sl) ⟨hl, ?_⟩
  have z : (s.heap.push (itOf l)).objs.size = s.heap.objs.size + 1 := Heap.size_push ..
  show _ ∧ _
  rw [z]
  have he : IsEnum ((s.heap.push (itOf l)).push (enOfT s.heap.objs.size)) (s.heap.objs.size + 1) s.heap.objs.size 0 .none := by
    have q := Heap.get?_push_size (s.heap.push (itOf l)) (o := enOfT s.heap.objs.size) rfl
    rwa [z] at q
  exact ⟨⟨_, he, rfl⟩, h _ he ⟨_, Heap.get?_push_of_some _ (Heap.get?_push_size _ rfl), rfl, rfl⟩ fun b o x => Heap.get?_push_of_some _ (Heap.get?_push_of_some _ x)⟩
end
/-- the tuple at a, each item in a new pair -/
def IteT (K : PySem.W.Frag) (a : Addr) : It :=
  ⟨fun i H => ∃ (xs : List V) (x : V), SqT K H a xs ∧ xs[i]? = some x, fun i H v H' => ∃ T x, v = .ref T ∧ H T = none ∧ H' = L2.upd H T (.tup [.int (i : Nat), x]) ∧ ∀ xs, SqT K H a xs → xs[i]? = some x, fun i H => ∃ xs : List V, SqT K H a xs ∧ xs.length ≤ i⟩
theorem turn_enumT {P : Program} {w : World} {K : PySem.W.Frag} {elts : List Expr} {kk : Nat} {tpos : Pos} (a e it : Addr) :
    Turn P w K (.Tuple elts kk tpos) (IteT K a) [e, it] e (fun i h => (∃ old, IsEnum h e it ((i : Nat) : Int) old) ∧ h.IsTupleIter it a i ∧ e ≠ it) where
  mem := List.mem_cons_self
  obj := by
    rintro i h ⟨⟨old, he⟩, ⟨o, ho, hc, hd⟩, _⟩ b hb
    rcases List.mem_cons.mp
          hb with rfl | hb
    · exact ⟨_, he, fun v q => nomatch q⟩
    · rw [List.mem_singleton.mp
          hb]
      exact ⟨o, ho, fun v q => by rw [hd] at q; cases q⟩
  keep := by
    rintro i h h' ⟨⟨old, he⟩, hi, ne⟩ k
    exact ⟨⟨old, k e List.mem_cons_self _ he⟩, hi.at fun o q => k it (by simp) o q, ne⟩
  item := by
    intro X hP hw hK hc i
          pins s σ H E I hf st hg
    subst hP hw hK
    obtain ⟨⟨old, he⟩, hit, ne⟩ := st
    obtain ⟨xs, x, hq, hx⟩ := hg
    obtain ⟨its, rv, pt, hz⟩ := I.tuple hq
    obtain ⟨u, hu,
          ru⟩ := rv.get hx
    have le : e < s.heap.objs.size := Heap.lt_size he
    have li : it < s.heap.objs.size := by
      obtain ⟨_, q, _⟩ := hit
      exact Heap.lt_size q
    have ai : a ≠ it := fun z => by
      obtain ⟨o, h1, h2, _⟩ := pt
      obtain ⟨o', h3, h4, _⟩ := hit
      rw [z, h3] at h1
      cases h1
      rw [h4] at h2
      injection h2 with h2
      exact absurd h2 (by decide)
    have ae : a ≠ e := fun z => by
      obtain ⟨o, h1, h2, _⟩ := pt
      rw [z, he] at h1
      cases h1
      injection h2 with h2
      exact absurd h2 (by decide)
    have D := Draws.tuple (prog := X.prog) (w := X.w) (A := X.A.in1) (by simp [I.ok.hd hc]) it a ai its.toArray
    refine wpAny_pyNext_enum_itemD D he ⟨hit, pt⟩ (by simpa using (List.getElem?_eq_some_iff.mp hu).1) ne (by simp [ne, Ne.symm ae]) fun y g tk hy ho hs hT hsz hk => ?_
    have ey : y = u := by
      have q : its.toArray[i]? = some y := hy
      simp [hu] at q
      exact q.symm
    subst ey
    refine ⟨_, rfl, wpAny_letOwnedTupleGo_enum (s := { s with heap := g, toks := tk + 1 }) ho fun g2 he2 sb => ?_⟩
    have hT2 : g2.get? s.heap.objs.size = some { cls := .type "tuple", data := .seq #[.int i tk, y] } := (sb.2 _ (Nat.ne_of_gt le)).trans hT
    have new : ObjOk X.prog X.w (L2.upd H s.heap.objs.size (.tup [.int (i : Nat), x])) g2 s.heap.objs.size (.tup [.int (i : Nat), x]) :=
      ⟨by show 2 ≤ sizeLine; decide, [.int i tk, y], .cons ⟨_, rfl⟩ (.cons ru .nil), ⟨_, hT2, rfl, _, rfl⟩⟩
    have I1 : Inv X pins σ (L2.upd H s.heap.objs.size (.tup [.int (i : Nat), x])) { s with heap := g2, toks := tk + 1 } :=
      I.turnedNew (ch := [e, it]) (fun b ob hb q => (sb.2 b (fun z => hb (by simp [z]))).trans (hk b ob (fun z =>
            hb (by simp [z])) (fun z => hb (by simp [z])) q)) hf (Nat.le_refl _) new
    refine ⟨.ref s.heap.objs.size, _, I1, rfl, ⟨_, x, rfl, I.hok.fresh (Nat.le_refl _), rfl, fun ys hy => by rw [I.tuple_inj hy hq]; exact hx⟩, ⟨⟨y, ?_⟩, hs.1.at fun o q => (sb.2 it (Ne.symm ne)).trans q, ne⟩, fun b hb => ?_⟩
    · rw [show ((i + 1 : Nat) : Int) = (i : Int) + 1 by omega]
      exact he2
    · have lb : b < s.heap.objs.size := by
        rcases List.mem_cons.mp
              hb with rfl | hb
        · exact le
        · rw [List.mem_singleton.mp
              hb]
          exact li
      rw [upd_ne (Nat.ne_of_lt lb)]
      exact (hf b hb).1
  done := by
    intro X hP hw hK hc i
          pins s σ H E I hf st hg
    subst hP hw hK
    obtain ⟨⟨old, he⟩, hit, ne⟩ := st
    obtain ⟨xs, hq, hx⟩ := hg
    obtain ⟨its, rv, pt, hz⟩ := I.tuple hq
    obtain ⟨f0, f1, f2, f3,
          f4, f5⟩ := hf it (by simp)
    have nn : its.toArray[i]? = none := by
      have := rv.length
      rw [List.getElem?_toArray]
      exact List.getElem?_eq_none (by omega)
    have hh : X.A.in1.handled = none := by simp [I.ok.hd hc]
    have D : Draws X.prog X.w X.A.in1 it [it, a] i (fun _ _ => False) (fun j h => j = i ∧ h.IsTupleIter it a i ∧ h.IsTuple a its.toArray) :=
      { live := fun j h st => by
          obtain ⟨_, ⟨o, ho, _⟩, _⟩ := st
          exact ⟨o, ho⟩
        frame := fun j h h' st k => ⟨st.1, st.2.1.at fun o q => k it (by simp) o q, st.2.2.at fun o q => k a (by simp) o q⟩
        item := fun j s Q E hj st _ => absurd st.1 (Nat.ne_of_lt hj)
        done := fun s Q E st hE => wpAny_nextOf_tuple_end hh st.2.1 st.2.2 nn hE }
    exact wpAny_pyNext_enum_endD D he ⟨rfl, hit, pt⟩ fun g eb => ⟨rfl, I.turned (t' := s.toks) (fun b o hb q => eb b o hb q) f0 f1 f3 f4 f5⟩
  self := by
    rintro A i s Q E ⟨⟨_, he⟩, _⟩ h
    exact wpAny_pyIter_enum he h
def iEnumT (K : PySem.W.Frag) (ta : TA) : TI := fun σ H R => ta σ H fun vs H1 => ∃ a xs, vs = [.ref a] ∧ SqT K H1 a xs ∧ R (IteT K a) H1
theorem pi_enumT {X : Cx} {e : Expr} {ta : TA} {p pos tpos : Pos} {elts : List Expr} {kk : Nat} (hg : Gl X "enumerate") (hm : X.mg "enumerate" = none) (ha : PA X [e] ta) (hs : starEach [e] X.env = [(false, eval e X.env)] := by rfl) :
    PI X (.Tuple elts kk tpos) (.Call (.Name "enumerate" p) [e] [] pos) (iEnumT X.K ta) := by
  refine ⟨fun pins s σ H R I h =>
        ?_⟩
  refine Call_ (ld_blt I hg hm boot_enumerate (callWith_type1 (thn (ha.run pos pins s σ H _ I h) fun us s1 ⟨vs, H1, I1, r1, q1⟩ => ?_) hs rfl))
  obtain ⟨a, xs,
        ex, hq, q⟩ := q1
  subst ex
  rw [Vals.ref1 r1]
  obtain ⟨its, rv, pt,
        hz⟩ := I1.tuple hq
  refine call_enumT pt fun g he hit hk => wpAny_pyIter_enum he ?_
  have I2 : Inv X pins σ H1 { s1 with heap := g } := I1.kept (t' := s1.toks) hk
  refine ⟨s1.heap.objs.size + 1, [s1.heap.objs.size + 1, s1.heap.objs.size], _, _, H1, rfl, I2, turn_enumT a (s1.heap.objs.size + 1) s1.heap.objs.size, ⟨⟨.none, he⟩, hit, Nat.succ_ne_self _⟩, fun b hb => ?_, q⟩
  have le : s1.heap.objs.size ≤ b := by
    rcases List.mem_cons.mp
          hb with rfl | hb
    · exact Nat.le_succ _
    · exact Nat.le_of_eq (List.mem_singleton.mp hb).symm
  exact I1.fpOk le (I1.hok.fresh le)
section
variable {K : PySem.W.Frag} {p : Option Addr} {G : Hp} {X : Cx} {F : Fx} {pos : Pos} {a : Expr} {wa : WEx}
theorem walkD_enumT {l : Addr} {xs : List V} {ds : List D} (h : SqT K G l xs) (r : RA K p G xs ds) : WalkD K p (IteT K l) (pairs (rngD 0 ds.length) ds) G where
  goes := fun i H hi s => by
    rw [pairs_length, rngD_length, Nat.min_self] at hi
    have lt : i < xs.length := by rw [r.length]; exact hi
    exact ⟨xs, xs[i], sameT s h, List.getElem?_eq_getElem lt⟩
  stops := fun H s => ⟨xs, sameT s h, by rw [pairs_length, rngD_length, Nat.min_self, r.length]; exact Nat.le_refl _⟩
  yields := fun i H x H' d hd s y => by
    obtain ⟨d1, d2, h1, h2, rfl⟩ := pairs_at hd
    obtain ⟨_, rfl⟩ := rngD_at h1
    obtain ⟨v, hv, rv⟩ := r.get h2
    obtain ⟨T, z, e1, e2, e3, e4⟩ := y
    have e5 := e4 xs (sameT s h)
    rw [hv] at e5
    cases e5
    exact .inr ⟨T, _, _, e1, e2, e3, rfl, .cons (by rw [Int.zero_add]; exact .int _) (.cons rv .nil)⟩
def wEnumT (wa : WEx) : WAx := fun e Q x => wa e (fun d e1 => ∃ ds, d = .tuple ds ∧ Q (pairs (rngD 0 ds.length) ds) e1) x
theorem wEnumT.mono (ma : Mono wa) : MonoA (wEnumT wa) := fun e Q Q' x x' h1 h2 q => ma e _ _ _ _ (fun d e1 ⟨ds, i, z⟩ => ⟨ds, i, h1 _ _ z⟩) h2 q
theorem di_enumT {q tp : Pos} {elts : List Expr} {kk : Nat} (h : DE X F a wa) (hm : X.mg "enumerate" = none) (hg : Gl X "enumerate" := by rfl) (hs : starEach [a] X.env = [(false, eval a X.env)] := by rfl) : DI X F (.Tuple elts kk tp) (.Call (.Name "enumerate" q) [a] [] pos) (wEnumT wa) :=
  di_of (pi_enumT hg hm (pa_cons h.run pa_nil hs) hs) (wEnumT.mono h.mono) fun σ H R ⟨e, G, r, z⟩ => by
    refine tE.mono h.mono (fun v H1 z => ?_) (tE.any h.mono r z)
    obtain ⟨e1, G1, d, s1, r1, rd, ds, rfl, z⟩ := z
    obtain ⟨l, xs, rfl, g1, ra⟩ := rd.tup_inv
    exact ⟨l, xs, rfl, sameT r1.same g1, z _ G1 H1 s1 r1 (walkD_enumT g1 ra)⟩
end
end L2.DL
set_option
      maxHeartbeats 1000000
namespace L2.DL
open PySem PySem.Spec
      PyProof.Rows
/-! ### a dict whose keys are ints, made in a loop, of which the keys are asked for -/
def noOwnB : List Slot → Bool
  | [] => true
  | .own _ :: _ => false
  | .un :: r => noOwnB r
  | .dat _ :: r => noOwnB r
theorem noOwnB.at : ∀ {s : List Slot}, noOwnB s = true → ∀ (i : Nat) ds, s[i]? ≠ some (.own ds)
  | [], _, i, ds => by simp
  | .own _ :: _, h, _, _ => nomatch h
  | .un :: r, h, 0, ds => by simp
  | .dat _ :: r, h, 0, ds => by simp
  | .un :: r, h, i + 1, ds => by
    rw [List.getElem?_cons_succ]
    exact noOwnB.at (s := r) h i ds
  | .dat _ :: r, h, i + 1, ds => by
    rw [List.getElem?_cons_succ]
    exact noOwnB.at (s := r) h i ds
theorem NoOwn.un {e : En} {j : Nat} (h : NoOwn e) : NoOwn (putUn e j) := by
  intro i ds q
  have q : (e.s.set j .un)[i]? = some (.own ds) := q
  by_cases hj : j = i
  · subst hj
    by_cases hl : j < e.s.length
    · rw [List.getElem?_set_self hl] at q; cases q
    · rw [List.getElem?_eq_none (by simpa using hl)] at q; cases q
  · rw [List.getElem?_set_ne hj] at q
    exact h i ds q
/-- an expression that gives an int -/
def weI (we : WEx) : WEx := fun e Q x => we e (fun y e1 => ∃ n : Int, y = .int n ∧ Q y e1) x
theorem weI.mono {we : WEx} (m : Mono we) : Mono (weI we) := fun e Q Q' x x' h1 h2 q => m e _ _ _ _ (fun y e1 ⟨n, a, b⟩ => ⟨n, a, h1 _ _ b⟩) h2 q
def wKeys (j : Nat) (wi : WAx) (g : WG) (wt : WTx) (we : WEx) (vs : List Nat) : WSt := fun e B => noOwnB e.s = true ∧ j < e.s.length ∧ wi (putUn e j) (fun ds e1 => lcLoop g wt (weI we) (wipeE (putUn e j) vs) [] ds e1.k fun acc k =>
  ∃ ns : List Int, acc = ns.map PyData.int ∧ ns.length < 64 ∧ ∀ ms : List Int, ms.Pairwise (· < ·) → (∀ m, m ∈ ms ↔ m ∈ ns) → ms.length ≤ ns.length → B.rt (.list (ms.map PyData.int)) { wipeE (putUn e j) vs with k := k }) noX
theorem wKeys.mono {j : Nat} {wi : WAx} {g : WG} {wt : WTx} {we : WEx} {vs : List Nat} (mi : MonoA wi) (mg : MonoG g) (mt : MonoT wt) (me : Mono we) : MonoS (wKeys j wi g wt we vs) := fun e A B l ⟨no, hl, q⟩ =>
  ⟨no, hl, mi _ _ _ _ _ (fun ds e1 z => lcLoop.mono mg mt (weI.mono me) (fun acc k ⟨ns, a, b, c⟩ => ⟨ns, a, b, fun ms h1 h2 h3 => l.rt _ _ (c ms h1 h2 h3)⟩) z) (fun _ _ z => z) q⟩
theorem Rl.less {K : PySem.W.Frag} {p : Option Addr} {G₀ H₀ G H : Hp} {σ : L2.St} {e : En} {vs : List Nat} (r : Rl K p G₀ H₀ G H σ e) : Rl K p G₀ H₀ G H σ (wipeE e vs) := by
  obtain ⟨α, r⟩ := r
  refine ⟨α, r.w, r.st, ?_, fun i d h => r.dat i d (wipeE_dat h).2, fun i ds h => absurd h (wipeE_own i ds), fun i j ds es h => absurd h (wipeE_own i ds)⟩
  rw [r.len]
  unfold wipeE
  simp
end L2.DL
set_option
      maxHeartbeats 4000000
namespace L2.DL
open PySem PySem.Spec
      PyProof.Rows
/-! ### set(xs), xs a list of tuples of ints of which few are different -/
def FewT (ks : List (Addr × List Int)) : Prop := ∀ L : List (Addr × List Int), (L.map (·.2)).Nodup → (∀ p ∈ L, p ∈ ks) → L.length < 63
abbrev tupI (t : List Int) : PyData := .tuple (t.map PyData.int)
/-- few different ones among ts -/
def FewI (ts : List (List Int)) : Prop := ∀ L : List (List Int), L.Nodup → (∀ t ∈ L, t ∈ ts) → L.length < 63
theorem FewI.ks {ks : List (Addr × List Int)} (h : FewI (ks.map (·.2))) : FewT ks := fun L nd sub => by
  have := h (L.map (·.2)) nd fun t ht => by
    obtain ⟨p, hp, e⟩ := List.mem_map.mp ht
    exact List.mem_map.mpr ⟨p, sub p hp, e⟩
  rwa [List.length_map] at this
theorem RA.tups {K : PySem.W.Frag} {p : Option Addr} {G : Hp} : ∀ {ts : List (List Int)} {xs : List V}, RA K p G xs (ts.map tupI) → ∃ ks : List (Addr × List Int), xs = ks.map (fun q => V.ref q.1) ∧ ks.map (·.2) = ts ∧ ∀ q ∈ ks, SqT K G q.1 (q.2.map V.int)
  | [], _, .nil => ⟨[], rfl, rfl, fun q h => nomatch h⟩
  | t :: ts, _, .cons r rs => by
    obtain ⟨ks, e1, e2, h⟩ := RA.tups (ts := ts) rs
    obtain ⟨l, ys, rfl, g, ra⟩ := R.tup_inv r
    have ex := ra.ofInts
    subst ex
    refine ⟨(l, t) :: ks, by rw [e1, List.map_cons], by rw [List.map_cons, e2], fun q hq => ?_⟩
    rcases List.mem_cons.mp hq with z | z
    · rw [z]; exact g
    · exact h q z
/-- sorted(set(xs)), xs a list of tuples of so many ints -/
def wSortedSetT (w : WEx) : WEx := fun e Q x => w e (fun d e1 => ∃ (ts : List (List Int)) (n : Nat) (B : Int), d = .list (ts.map tupI) ∧ 1 ≤ n ∧ (∀ t ∈ ts, t.length = n ∧ TS.Bd B t) ∧ FewI ts ∧
  ∀ us : List (List Int), us.Nodup → (∀ t, t ∈ us ↔ t ∈ ts) → us.Pairwise (fun a b => TS.code B a ≤ TS.code B b) → Q (.list (us.map tupI)) e1) x
end L2.DL
set_option
      maxHeartbeats 1000000
namespace L2.DL
open PySem PySem.Spec
      PyProof.Rows
/-! ### sorted(t), t a tuple of ints -/
def sortedTD : BL
  | [.tuple xs], P => ∃ ns : List Int, xs = ns.map PyData.int ∧ ns.length < 64 ∧ ∀ ns' : List Int, ns'.Perm ns → ns'.Pairwise (· ≤ ·) → P (.list (ns'.map PyData.int))
  | _, _ => False
theorem sortedTD.mono : BL.Mono sortedTD := by
  intro a P P' h q
  unfold sortedTD at q ⊢
  split at q
  · obtain ⟨ns, e, f, z⟩ := q
    exact ⟨ns, e, f, fun ns' p1 p2 => h _ (z ns' p1 p2)⟩
  · exact q.elim
end L2.DL
set_option
      maxHeartbeats 1000000
namespace L2.DL
open PySem PySem.Spec
      PyProof.Rows
/-! ### while: a word over the slots, with a number that falls -/
def wWhile (c : WTx) (wb : WSt) : WSt := fun e B => ∃ I : Nat → En → Prop, (∃ m, I m e) ∧ ∀ m e1, I m e1 →
  c e1 (fun k e2 => if k = true then wb e2 { B with nx := fun e3 => ∃ m', m' < m ∧ I m' e3, ct := fun e3 => ∃ m', m' < m ∧ I m' e3, bk := B.nx } else B.nx e2) B.ex
section
variable {X : Cx} {F : Fx} {pos : Pos} {c : Expr} {body : List Stmt} {cw : WTx} {wb : WSt}
theorem wWhile.mono (mc : MonoT cw) (mb : MonoS wb) : MonoS (wWhile cw wb) := fun e A B l ⟨I, h0, h⟩ => ⟨I, h0, fun m e1 i => mc e1 _ _ _ _ (fun k e2 z => by
  cases k with
  | true => exact mb e2 { A with nx := fun e3 => ∃ m', m' < m ∧ I m' e3, ct := fun e3 => ∃ m', m' < m ∧ I m' e3, bk := A.nx } _ ⟨fun _ y => y, l.rt, fun _ y => l.nx _ y, fun _ y => y, l.ex⟩ z
  | false => exact l.nx _ z) l.ex (h m e1 i)⟩
end
end L2.DL
set_option
      maxHeartbeats 2000000
namespace L2.DL
open PySem PySem.Spec
      PyProof.Rows
/-! ### answers: data, a list that nothing else holds, a tuple whose first item is such a list -/
inductive Ans where
  | dat (d : D) | own (ds : List D) | tup (ds rest : List D)
def Ans.data : Ans → D
  | .dat d => d
  | .own ds => .list ds
  | .tup ds rest => .tuple (.list ds :: rest)
def PAns (K : PySem.W.Frag) (p : Option Addr) (Q : VK) : Ans → Hp → Hp → Prop
  | .dat d, G, H => ∀ v, R K p G v d → Q v H
  | .own ds, G, H => ∀ a xs, H a = none → RA K p G xs ds → Q (.ref a) (L2.upd H a (.lst xs))
  | .tup ds rest, G, H => ∀ a xs T vs, H a = none → RA K p G xs ds → H T = none → a ≠ T → RA K p G vs rest → Q (.ref T) (L2.upd (L2.upd H T (.tup (.ref a :: vs))) a (.lst xs))
theorem upd_flip {H : Hp} {a b : Addr} {o u : HO} (h : a ≠ b) : L2.upd (L2.upd H a o) b u = L2.upd (L2.upd H b u) a o := by
  funext c
  by_cases e1 : c = a
  · subst e1
    rw [upd_ne h, upd_same, upd_same]
  · rw [upd_ne e1]
    by_cases e2 : c = b
    · subst e2
      rw [upd_same, upd_same]
    · rw [upd_ne e2, upd_ne e1, upd_ne e2]
abbrev Wa := List D → Nat → (Ans → Nat → Prop) → (D → Nat → Prop) → Prop
def Wa.Mono (w : Wa) : Prop := ∀ ds k Q Q' x x', (∀ es k, Q es k → Q' es k) → (∀ d k, x d k → x' d k) → w ds k Q x → w ds k Q' x'
def spA (K : PySem.W.Frag) (w : Wa) : Sp := fun vs H Q E => ∃ p G ds k, Wd K p k G H ∧ RA K p G vs ds ∧
  w ds k (fun an k' => ∀ G' H', Stp p G H G' H' → Wd K p k' G' H' → PAns K p Q an G' H') (fun x k' => ∀ C G' H', Stp p G H G' H' → Wd K p k' G' H' → x = excD C → E (.ref C) none H')
def plainA (w : Wa) : Wc := fun ds k Q x => w ds k (fun an k' => Q an.data k') x
theorem plainA.mono {w : Wa} (m : w.Mono) : (plainA w).Mono := fun ds k Q Q' x x' h1 h2 q => m ds k _ _ _ _ (fun es k => h1 _ _) h2 q
def DefA (P : Program) (w : World) (K : PySem.W.Frag) (mg : Str → Option Value) (base : Heap) (x : Str) (k : Nat) (ps : List Str) (wf : Wa) : Prop :=
  ∃ f fd, FnG P w K mg base k f fd ps (spA K wf) ∧ mg x = some (.ref f) ∧ PySem.W.keepIn K (.ref f) = true ∧ Binds K fd ps []
section
variable {P : Program} {w : World} {K :
      PySem.W.Frag} {mg : Str → Option Value} {base : Heap}
theorem DefA.plain {x : Str} {k : Nat} {ps : List Str} {wf : Wa} (h : DefA P w K mg base x k ps wf) (m : wf.Mono) : Def P w K mg base x k ps (plainA wf) := by
  obtain ⟨f, fd, h1, h2⟩ := h
  refine ⟨f, fd, h1.imp fun vs H Q E ⟨p, G, ds, n, wd, ra, q⟩ => ⟨p, G, ds, n, wd, ra, m ds n _ _ _ _ (fun an k' z G' H' st wd' => ?_) (fun _ _ z => z) q⟩, h2⟩
  have r : Rl K p G H G' H' [] ⟨[], k'⟩ := ⟨fun _ => 0, wd', st, rfl, fun i d h => by simp at h, fun i ds h => by simp at h, fun i j ds es h => by simp at h⟩
  cases an with
  | dat d => exact fun v rv => z v _ _ st wd' rv
  | own es =>
    intro a xs ha rx
    obtain ⟨α, r'⟩ := r.new (o := .lst xs) ha
    exact z (.ref a) _ _ r'.st r'.w (.lst upd_same (rx.mono (sameNew wd'.same ha)))
  | tup es rest =>
    intro a xs T vs' ha rx hT ne rr
    have r1 := r.new (o := .lst xs) ha
    have hT' : L2.upd H' a (.lst xs) T = none := by rw [upd_ne ne.symm]; exact hT
    obtain ⟨α, r'⟩ := r1.new (o := .tup (.ref a :: vs')) hT'
    have s1 := sameNew (o := .lst xs) wd'.same ha
    have s2 := sameNew (o := .tup (.ref a :: vs')) r1.same hT'
    rw [upd_flip ne.symm]
    exact z (.ref T) _ _ r'.st r'.w (.tup (SqT.of upd_same) (.cons (.lst (s2 _ _ upd_same) (rx.mono (s1.trans s2))) (rr.mono (s1.trans s2))))
end
/-! #### expressions that give an answer -/
abbrev WAn := En → (Ans → En → Prop) → PD → Prop
def MonoAn (w : WAn) : Prop := ∀ e Q Q' x x', (∀ b e, Q b e → Q' b e) → (∀ d e, x d e → x' d e) → w e Q x → w e Q' x'
section
variable {X : Cx} {F : Fx} {pos : Pos} {a : Expr} {es : List Expr} {wr : WAx} {wa : WAn} {wd : WEx}
/-- a call of a def that gives an answer -/
def wCallA (wf : Wa) (wa : WAx) : WAn := fun e Q x => wa e (fun ds e1 => wf ds e1.k (fun an k' => Q an { e1 with k := k' }) (fun y k' => x y { e1 with k := k' })) x
theorem wCallA.mono {wf : Wa} (mf : wf.Mono) (m : MonoA wr) : MonoAn (wCallA wf wr) := fun e Q Q' x x' h1 h2 q => m e _ _ _ _ (fun ds e1 z => mf ds e1.k _ _ _ _ (fun d k => h1 _ _) (fun d k => h2 _ _) z) h2 q
/-- the first item of such a tuple -/
def wIdx0 (w : WAn) : WAn := fun e Q x => w e (fun an e1 => ∃ ds rest, an = .tup ds rest ∧ Q (.own ds) e1) x
/-- an answer that is a list of its own -/
def wAnF (w : WAn) : WAx := fun e Q x => w e (fun an e1 => ∃ ds, an = .own ds ∧ Q ds e1) x
/-! #### statements -/
/-- x = such an answer: data, or a list of its own -/
def wSetA (i : Nat) (w : WAn) : WSt := fun e D => w e (fun an e1 => match an with
  | .dat d => D.nx (put e1 i (.dat d))
  | .own ds => D.nx (put e1 i (.own ds))
  | .tup _ _ => False) D.ex
/-- x, y, .. = such a tuple -/
def wUnA (is : List Nat) (w : WAn) : WSt := fun e D => w e (fun an e1 => match an with
  | .dat d => ∃ ds, d = .tuple ds ∧ ds.length = is.length ∧ D.nx (puts e1 is ds)
  | .own _ => False
  | .tup ds rest => ∃ i js, is = i :: js ∧ rest.length = js.length ∧ D.nx (puts (put e1 i (.own ds)) js rest)) D.ex
end
/-! #### blocks that end with the return of an answer -/
abbrev WOa := En → (Ans → En → Prop) → (D → En → Prop) → Prop
def RAn (K : PySem.W.Frag) (F : Fx) (G : Hp) (D : Ends) : Ans → En → Prop := fun an e' => ∀ σ' G' H', Same G G' → Rl K F.p F.G₀ F.H₀ G' H' σ' e' → PAns K F.p D.rt an G' H'
theorem RAn.mono {K : PySem.W.Frag} {F : Fx} {G G' : Hp} {D : Ends} (s : Same G G') : ∀ an e, RAn K F G D an e → RAn K F G' D an e := fun an e h σ' G2 H' s2 => h σ' G2 H' (s.trans s2)
section
variable {X : Cx} {F : Fx} {pos : Pos} {a : Expr} {st : Stmt} {rest : List Stmt} {es : List Expr} {wr : WAx} {wa : WAn} {w1 : WSt} {w2 : WOa}
def wSeqA (w1 : WSt) (w2 : WOa) : WOa := fun e Q x => w1 e ⟨fun e' => w2 e' Q x, fun d e' => Q (.dat d) e', fun _ => False, fun _ => False, x⟩
end
end L2.DL
set_option
      maxHeartbeats 1000000
namespace L2.DL
open PySem PySem.Spec
      PyProof.Rows
/-! ### what repr gives is data, too -/
def okS (x : Str) : Prop := PyData.strOk x = true
theorem okS.app {a b : Str} (ha : okS a) (hb : okS b) : okS (a ++ b) := by
  unfold okS PyData.strOk at *
  show (a.cps ++ b.cps).all _ = true
  rw [Array.all_append, ha, hb]
  rfl
theorem chr_lt (d : Char) : d.toNat < 0x110000 := by
  have := d.valid
  rcases this with h | h
  · have : d.toNat < 0xd800 := h
    omega
  · exact h.2
theorem okS.mk {l : List Nat} (h : ∀ c ∈ l, c < 0x110000) : okS ⟨l.toArray⟩ := by
  unfold okS PyData.strOk
  rw [Array.all_eq_true_iff_forall_mem]
  intro c hc
  exact decide_eq_true (h c (by simpa using hc))
theorem okS.of (s : String) : okS (s : Str) := by
  show okS (PySem.Str.ofString s)
  rewrite [PySem.Str.ofString_eq_toList s]
  exact .mk fun c hc => by
    obtain ⟨d, _, rfl⟩ := List.mem_map.mp hc
    exact chr_lt d
theorem okS.inv {x : Str} (h : okS x) : ∀ c ∈ x.cps.toList, c < 0x110000 := fun c hc => by
  unfold okS PyData.strOk at h
  rw [Array.all_eq_true_iff_forall_mem] at h
  exact of_decide_eq_true (h c (by simpa using hc))
theorem reprChar_lt {q c : Nat} (hc : c < 0x110000) : ∀ d ∈ PySem.Builtin.Str.reprChar q c, d < 0x110000 := fun d hd => by
  have hx : ∀ w : Nat, ∀ d ∈ List.replicate (w - ((Nat.toDigits 16 c).map Char.toNat).length) 48 ++ (Nat.toDigits 16 c).map Char.toNat, d < 0x110000 := fun w d hd => by
    rcases List.mem_append.mp hd with h | h
    · rw [(List.mem_replicate.mp h).2]
      decide
    · obtain ⟨e, _, rfl⟩ := List.mem_map.mp h
      exact chr_lt e
  have two : ∀ {a b d : Nat}, d ∈ [a, b] → a < 0x110000 → b < 0x110000 → d < 0x110000 := fun h ha hb => by
    rcases List.mem_cons.mp
          h with rfl | h
    · exact ha
    · rw [List.mem_singleton.mp h]; exact hb
  unfold PySem.Builtin.Str.reprChar at hd
  dsimp only at hd
  split at hd
  · exact two hd (by decide) hc
  split at hd
  · exact two hd (by decide) (by decide)
  split at hd
  · exact two hd (by decide) (by decide)
  split at hd
  · exact two hd (by decide) (by decide)
  split at hd
  · rw [List.mem_singleton.mp hd]; exact hc
  split at hd
  · rcases List.mem_append.mp hd with h | h
    · exact two h (by decide) (by decide)
    · exact hx _ _ h
  split at hd
  · rcases List.mem_append.mp hd with h | h
    · exact two h (by decide) (by decide)
    · exact hx _ _ h
  · rcases List.mem_append.mp hd with h | h
    · exact two h (by decide) (by decide)
    · exact hx _ _ h
theorem okS.repr {x : Str} (h : okS x) : okS (reprText x) := by
  have hq : reprQuote x < 0x110000 := by
    unfold reprQuote
    split <;> decide
  have hf : ∀ (l : List Nat) (o : Array Nat), (∀ c ∈ l, c < 0x110000) → (∀ c ∈ o.toList, c < 0x110000) → ∀ c ∈ (l.foldl (fun out c => out ++ (PySem.Builtin.Str.reprChar (reprQuote x) c).toArray) o).toList, c < 0x110000 := by
    intro l
    induction l with
    | nil => exact fun o _ ho => ho
    | cons a l ih =>
      intro o hl ho
      refine ih _ (fun c hc => hl c (List.mem_cons_of_mem _ hc)) fun c hc => ?_
      rw [Array.toList_append] at hc
      rcases List.mem_append.mp
            hc with h | h
      · exact ho c h
      · exact reprChar_lt (hl a List.mem_cons_self) c (by simpa using h)
  unfold okS PyData.strOk reprText
  rw [Array.all_eq_true_iff_forall_mem]
  intro c hc
  refine decide_eq_true ?_
  rcases Array.mem_push.mp hc with h1 | h1
  · refine hf x.cps.toList #[reprQuote x] h.inv (fun c hc => ?_) c ?_
    · simp at hc
      rw [hc]
      exact hq
    · rw [Array.foldl_toList]
      exact Array.mem_toList_iff.mpr h1
  · rw [h1]
    exact hq
theorem okS.join : ∀ {ts : List Str}, (∀ t ∈ ts, okS t) → okS (PySem.Str.join ", " ts)
  | [], _ => by
    show okS PySem.Str.empty
    unfold okS
    decide +kernel
  | [x], h => h x List.mem_cons_self
  | x :: y :: r, h => ((h x List.mem_cons_self).app (.of ", ")).app (okS.join fun t ht => h t (List.mem_cons_of_mem _ ht))
theorem okS.textFrom : ∀ (ts : List Str) (k : Nat) (acc : Str), okS acc → (∀ t ∈ ts, okS t) → okS (PySem.textFrom k acc ts)
  | [], _, _, ha, _ => ha
  | t :: ts, k, acc, ha, h => by
    show okS (PySem.textFrom (k + 1) (acc ++ ((if k > 0 then ", " else "" : String) : Str) ++ t) ts)
    exact okS.textFrom ts (k + 1) _ ((ha.app (.of _)).app (h t List.mem_cons_self)) fun u hu => h u (List.mem_cons_of_mem _ hu)
mutual
theorem fine.okS : ∀ d : D, fine d = true → okS d.shown
  | .none, _ => by simp only [PyData.shown]; exact .of _
  | .bool b, _ => by simp only [PyData.shown]; split <;> exact .of _
  | .int i, _ => by simp only [PyData.shown]; exact .of _
  | .str x, h => by
    simp only [PyData.shown]
    exact okS.repr (by unfold fine at h; exact h)
  | .list xs, h => by
    simp only [PyData.shown]
    unfold listText
    exact (okS.textFrom _ 0 _ (.of _) (fineAll.okS xs (by simpa only [fine] using h))).app (.of _)
  | .tuple xs, h => by
    simp only [PyData.shown]
    unfold tupleText
    exact ((okS.of _).app (okS.join (fineAll.okS xs (by simpa only [fine] using h)))).app (by split <;> exact .of _)
  | .dict _, h => by simp [fine] at h
theorem fineAll.okS : ∀ ds : List D, fineAll ds = true → ∀ t ∈ PyData.shownAll ds, okS t
  | [], _, t, ht => by simp only [PyData.shownAll] at ht; cases ht
  | d :: ds, h, t, ht => by
    unfold fineAll at h
    rw [Bool.and_eq_true] at h
    simp only [PyData.shownAll] at ht
    rcases List.mem_cons.mp ht with rfl | ht
    · exact fine.okS d h.1
    · exact fineAll.okS ds h.2 t ht
end
/-- the text that repr gives is data -/
theorem Ok.shown {n m : Nat} {d : D} (h : Ok n m d) : Ok (20 * n + 1) 0 (.str d.shown) := by
  refine ⟨?_, ?_, by simp [PyData.depth]⟩
  · unfold fine
    exact fine.okS d h.f
  · have a := fine.len d h.f
    have b := h.w
    simp only [wt]
    omega
end L2.DL
set_option
      maxHeartbeats 1000000
namespace L2.DL
open PySem PySem.Spec
      PyProof.Rows
/-! ### the law's body behind its pen -/
/-- what the law's body must come to: it returns True -/
abbrev lawE : DEnds := ⟨fun _ => False, fun d _ => d = .bool true, fun _ => False, fun _ => False, fun _ _ => False⟩
theorem pss_law {X : Cx} {W : WX} {sts : List Stmt} {ws : WSt} (h : ∀ q G H, DSs X ⟨some q, G, H, W⟩ sts ws) :
    PSs X sts (fun D σ H => ∃ q G' H' e, Rl X.K (some q) G' H' G' H σ e ∧ (∀ H1, D.rt (.bl true) H1) ∧ ws e lawE) :=
  ⟨fun pins s σ H D I ⟨q, G', H', e, r, hq, z⟩ => (h q G' H').run.run pins s σ H D I ⟨e, G', r, (h q G' H').mono e lawE _ ⟨fun _ z => z.elim, fun d e1 z v σ' G2 H2 _ _ rv => by
    subst z
    cases rv.bl_inv
    exact hq _, fun _ z => z.elim, fun _ z => z.elim, fun _ _ z => z.elim⟩ z⟩⟩
theorem rl_pen {K : PySem.W.Frag} {q : Addr} {k n : Nat} {G H : Hp} {σ : L2.St} (wd : Wd K (some q) k G H) (hl : σ.length = n + 2) (hs : σ[1]? = some (some (.ref q))) : Rl K (some q) G H G H σ ⟨.un :: .dat penD :: List.replicate n .un, k⟩ := by
  have no : ∀ (i : Nat) (z : Slot), (Slot.un :: .dat penD :: List.replicate n .un)[i]? = some z → z ≠ .un → i = 1 ∧ z = .dat penD := fun i z h hz => by
    match i, h with
    | 0, h => cases h; exact absurd rfl hz
    | 1, h => cases h; exact ⟨rfl, rfl⟩
    | i + 2, h =>
      have m := List.mem_of_getElem? (show (List.replicate n Slot.un)[i]? = some z from h)
      rw [List.mem_replicate] at m
      exact absurd m.2 hz
  refine ⟨fun _ => 0, wd, Stp.refl, by simp [hl], fun i d h => ?_, fun i ds h => ?_, fun i j ds es h => ?_⟩
  · obtain ⟨rfl, e⟩ := no i _ h (fun z => nomatch z)
    cases e
    exact ⟨_, hs, .pen rfl rfl⟩
  · obtain ⟨_, e⟩ := no i _ h (fun z => nomatch z)
    cases e
  · obtain ⟨_, e⟩ := no i _ h (fun z => nomatch z)
    cases e
end L2.DL
set_option
      maxHeartbeats 2000000
namespace L2.DL
open PySem PySem.Spec
      PyProof.Rows
/-! ### objects that do not change once they are made, as data -/
section
variable {K : PySem.W.Frag} {p : Option Addr} {G : Hp}
theorem RF.zip : ∀ {ns : List Str} {vs : List V} {ds : List D}, RA K p G vs ds → RF K p G (ns.zip vs) (ns.zip ds)
  | [], _, _, _ => .nil
  | _ :: _, _, _, .nil => .nil
  | n :: ns, _, _, .cons r t => .cons r (RF.zip t)
end
/-! #### reading a field -/
def wFld (K : PySem.W.Frag) (f : Str) (w : WEx) : WEx := fun e Q x => w e (fun d e1 => ∃ C fs v, d = objD C fs ∧ L2.Cls K C ∧ NoAttr K C f ∧ fs.lookup f = some v ∧ Q v e1) x
section
variable {X : Cx} {F : Fx} {pos : Pos} {a : Expr} {es : List Expr} {wa : WEx} {wr : WAx}
def wFldO (C : Addr) (f : Str) (w : WEx) : WEx := fun e Q x => w e (fun d e1 => ∃ fs v, d = objD C fs ∧ fs.lookup f = some v ∧ Q v e1) x
/-! #### making an object -/
def wMake (C : Addr) (ns : List Str) (w : WAx) : WEx := fun e Q x => w e (fun ds e1 => ds.length = ns.length ∧ Q (objD C (ns.zip ds)) e1) x
end
end L2.DL
set_option
      maxHeartbeats 2000000
namespace L2.DL
open PySem PySem.Spec
      PyProof.Rows
/-! ### list(range(n)) -/
def wLRg (w : WEx) : WEx := fun e Q x => w e (fun d e1 => ∃ j : Nat, d = .int j ∧ j ≤ 1000 ∧ Q (.list (rngD 0 j)) e1) x
/-! ### loops by the number of the turn -/
theorem wLoop.idx {g : WG} {wb : WSt} {B : DEnds} (xs : List D) (I : Nat → En → Prop) (hs : ∀ j d e, xs[j]? = some d → I j e → (∀ e', I (j + 1) e' → wLoop g wb B (xs.drop (j + 1)) e') →
    g d e fun e1 => wb e1 { B with nx := fun e2 => wLoop g wb B (xs.drop (j + 1)) e2, ct := fun e2 => wLoop g wb B (xs.drop (j + 1)) e2, bk := B.nx }) (hn : ∀ e, I xs.length e → B.nx e) {e : En} (h0 : I 0 e) : wLoop g wb B xs e := by
  have all : ∀ k j e, j + k = xs.length → I j e → wLoop g wb B (xs.drop j) e := by
    intro k
    induction k with
    | zero =>
      intro j e hj hi
      rw [List.drop_of_length_le (by omega)]
      have : j = xs.length := by omega
      subst this
      exact hn e hi
    | succ k ih =>
      intro j e hj hi
      have lt : j < xs.length := by omega
      rw [List.drop_eq_getElem_cons lt]
      exact hs j _ e (List.getElem?_eq_getElem lt) hi fun e' hi' => ih (j + 1) e' (by omega) hi'
  have z := all xs.length 0 e (by omega) h0
  rw [List.drop_zero] at z
  exact z
theorem wLoop.rng {g : WG} {wb : WSt} {B : DEnds} (m : Nat) (I : Nat → En → Prop) (hs : ∀ j e, j < m → I j e → ∀ N : En → Prop, (∀ e', I (j + 1) e' → N e') → g (.int (j : Int)) e fun e1 => wb e1 { B with nx := N, ct := N, bk := B.nx }) (hn : ∀ e, I m e → B.nx e) {e : En} (h0 : I 0 e) : wLoop g wb B (rngD 0 m) e := by
  refine wLoop.idx (rngD 0 m) I (fun j d e hd hi nx => ?_) (fun e hi => hn e (by rw [rngD_length] at hi; exact hi)) h0
  obtain ⟨lt, rfl⟩ := rngD_at hd
  rw [Int.zero_add]
  exact hs j e lt hi _ nx
/-- a walk over items: what is to come stays hidden -/
theorem wLoop.its {g : WG} {wb : WSt} {B : DEnds} (xs : List D) (I : Nat → En → Prop) (hs : ∀ j d e, xs[j]? = some d → I j e → ∀ N : En → Prop, (∀ e', I (j + 1) e' → N e') → g d e fun e1 => wb e1 { B with nx := N, ct := N, bk := B.nx }) (hn : ∀ e, I xs.length e → B.nx e) {e : En} (h0 : I 0 e) : wLoop g wb B xs e :=
  wLoop.idx xs I (fun j d e hd hi nx => hs j d e hd hi _ nx) hn h0
end L2.DL
set_option
      maxHeartbeats 2000000
namespace L2.DL
open PySem PySem.Spec
      PyProof.Rows
/-! ### several things one after another, each is data or a list of ours; several targets -/
inductive Itm where
  | d (x : PyData)
  | o (ds : List PyData)
/-- the lists of ours float: nothing speaks of them but what follows -/
def Fl (K : PySem.W.Frag) (p : Option Addr) (G₀ G H : Hp) (σ : L2.St) (e : En) : Hp → List Itm → List V → Prop
  | H₀, [], [] => Rl K p G₀ H₀ G H σ e
  | H₀, .d x :: is, v :: vs => R K p G v x ∧ Fl K p G₀ G H σ e H₀ is vs
  | H₀, .o ds :: is, v :: vs => ∃ q xs, v = .ref q ∧ H₀ q = none ∧ G₀ q = none ∧ p ≠ some q ∧ RA K p G xs ds ∧ Fl K p G₀ G H σ e (L2.upd H₀ q (.lst xs)) is vs
  | _, _, _ => False
def putsI : En → List Nat → List Itm → En
  | e, i :: is, .d x :: ds => putsI (put e i (.dat x)) is ds
  | e, i :: is, .o x :: ds => putsI (put e i (.own x)) is ds
  | e, _, _ => e
section
variable {K : PySem.W.Frag} {p : Option Addr} {G₀ H₀ G H : Hp} {σ : L2.St} {e : En}
/-- a floating list is given to a slot -/
theorem Rl.catch {i : Nat} {q : Addr} {xs : List V} {ds : List PyData} (r : Rl K p G₀ (L2.upd H₀ q (.lst xs)) G H σ e) (h0 : H₀ q = none) (g0 : G₀ q = none) (np : p ≠ some q) (ra : RA K p G xs ds) : Rl K p G₀ H₀ G H (σ.set i (some (.ref q))) (DL.put e i (.own ds)) := by
  obtain ⟨α, r⟩ := r
  have hq : H q = some (.lst xs) := r.st.hh q _ upd_same np
  have gq : G q = none := r.st.nn q _ upd_same g0
  have an : ∀ (j : Nat) es, e.s[j]? = some (.own es) → α j ≠ q := fun j es h => by
    obtain ⟨ys, q1, q2, q3, q4, q5, q6⟩ := r.own j es h
    intro ez
    rw [ez, upd_same] at q4
    cases q4
  have up : ∀ {b : Addr} {o : HO}, H₀ b = some o → L2.upd H₀ q (.lst xs) b = some o := fun {b o} z => by
    rw [upd_ne (ne_of_none z h0)]; exact z
  refine ⟨fun j => if j = i then q else α j, r.w, ⟨r.st.gg, fun b u z n => r.st.hh b u (up z) n, fun b u z n => r.st.nn b u (up z) n, fun a c ea h => ?_⟩, by simpa [DL.put] using r.len, fun j d h => ?_, fun j es h => ?_, fun j k es fs h1 h2 hjk => ?_⟩
  · obtain ⟨i, t, z⟩ := h
    exact r.st.pc a c ea ⟨i, t, up z⟩
  · obtain ⟨hj, h'⟩ := own_dat h
    rw [List.getElem?_set_ne (Ne.symm hj)]
    exact r.dat j d h'
  · rcases own_ne h with ⟨rfl, hl, rfl⟩ | ⟨hj, h'⟩
    · simp only [if_true]
      exact ⟨xs, List.getElem?_set_self (by rw [r.len]; exact hl), hq, gq, h0, np, ra⟩
    · obtain ⟨ys, q1, q2, q3, q4, q5, q6⟩ := r.own j es h'
      simp only [if_neg hj]
      exact ⟨ys, by rw [List.getElem?_set_ne (Ne.symm hj)]; exact q1, q2, q3, by rw [upd_ne (an j es h')] at q4; exact q4, q5, q6⟩
  · rcases own_ne h1 with ⟨rfl, _, rfl⟩ | ⟨hj, h1'⟩
    · rcases own_ne h2 with ⟨rfl, _, rfl⟩ | ⟨hk, h2'⟩
      · exact absurd rfl hjk
      · simp only [if_true, if_neg hk]
        exact Ne.symm (an k fs h2')
    · rcases own_ne h2 with ⟨rfl, _, rfl⟩ | ⟨hk, h2'⟩
      · simp only [if_true, if_neg hj]
        exact an j es h1'
      · simp only [if_neg hj, if_neg hk]
        exact r.sep j k es fs h1' h2' hjk
theorem Fl.putD {i : Nat} {v : V} {x : PyData} (rv : R K p G v x) : ∀ {its : List Itm} {vs : List V} {H₀ : Hp}, Fl K p G₀ G H σ e H₀ its vs → Fl K p G₀ G H (σ.set i (some v)) (DL.put e i (.dat x)) H₀ its vs
  | [], [], _, h => Rl.put h rv
  | .d y :: is, w :: vs, _, h => ⟨h.1, Fl.putD rv h.2⟩
  | .o ds :: is, w :: vs, _, ⟨q, xs, h1, h2, h3, h4, h5, h6⟩ => ⟨q, xs, h1, h2, h3, h4, h5, Fl.putD rv h6⟩
  | [], _ :: _, _, h => h.elim
  | .d _ :: _, [], _, h => h.elim
  | .o _ :: _, [], _, h => h.elim
theorem Fl.putO {i : Nat} {q : Addr} {xs : List V} {ds : List PyData} (g0 : G₀ q = none) (np : p ≠ some q) (ra : RA K p G xs ds) : ∀ {its : List Itm} {vs : List V} {H₀ : Hp}, H₀ q = none → Fl K p G₀ G H σ e (L2.upd H₀ q (.lst xs)) its vs → Fl K p G₀ G H (σ.set i (some (.ref q))) (DL.put e i (.own ds)) H₀ its vs
  | [], [], _, h0, h => Rl.catch h h0 g0 np ra
  | .d y :: is, w :: vs, _, h0, h => ⟨h.1, Fl.putO g0 np ra h0 h.2⟩
  | .o fs :: is, w :: vs, H₀, h0, ⟨b, ys, h1, h2, h3, h4, h5, h6⟩ => by
    have hb : b ≠ q := fun ez => by rw [ez, upd_same] at h2; cases h2
    rw [upd_ne hb] at h2
    refine ⟨b, ys, h1, h2, h3, h4, h5, Fl.putO g0 np ra (by rw [upd_ne hb.symm]; exact h0) ?_⟩
    rw [upd_flip hb]
    exact h6
  | [], _ :: _, _, _, h => h.elim
  | .d _ :: _, [], _, _, h => h.elim
  | .o _ :: _, [], _, _, h => h.elim
theorem Fl.land : ∀ {is : List Nat} {its : List Itm} {vs : List V} {σ : L2.St} {e : En} {H₀ : Hp}, Fl K p G₀ G H σ e H₀ its vs → its.length = is.length → Rl K p G₀ H₀ G H (setsV σ is vs) (putsI e is its)
  | [], [], [], _, _, _, h, _ => h
  | i :: is, .d x :: its, v :: vs, _, _, _, h, hl => by
    unfold setsV putsI
    exact Fl.land (Fl.putD h.1 h.2) (Nat.succ.inj hl)
  | i :: is, .o ds :: its, v :: vs, _, _, _, h, hl => by
    obtain ⟨q, xs, rfl, h2, h3, h4, h5, h6⟩ := h
    unfold setsV putsI
    exact Fl.land (Fl.putO h3 h4 h5 h2 h6) (Nat.succ.inj hl)
  | _, [], _ :: _, _, _, _, h, _ => h.elim
  | _, .d _ :: _, [], _, _, _, h, _ => h.elim
  | _, .o _ :: _, [], _, _, _, h, _ => h.elim
  | _ :: _, [], [], _, _, _, _, hl => nomatch hl
  | [], .d _ :: _, _ :: _, _, _, _, _, hl => nomatch hl
  | [], .o _ :: _, _ :: _, _, _, _, _, hl => nomatch hl
theorem Fl.length : ∀ {its : List Itm} {vs : List V} {H₀ : Hp}, Fl K p G₀ G H σ e H₀ its vs → vs.length = its.length
  | [], [], _, _ => rfl
  | .d _ :: is, _ :: vs, _, h => congrArg Nat.succ (Fl.length h.2)
  | .o _ :: is, _ :: vs, _, ⟨_, _, _, _, _, _, _, h⟩ => congrArg Nat.succ (Fl.length h)
  | [], _ :: _, _, h => h.elim
  | .d _ :: _, [], _, h => h.elim
  | .o _ :: _, [], _, h => h.elim
end
abbrev WMs := En → (List Itm → En → Prop) → PD → Prop
def wmD (w : WEx) (wr : WMs) : WMs := fun e Q x => w e (fun d e1 => wr e1 (fun its e2 => Q (.d d :: its) e2) x) x
def wmO (w : WAx) (wr : WMs) : WMs := fun e Q x => w e (fun ds e1 => wr e1 (fun its e2 => Q (.o ds :: its) e2) noX) x
section
variable {K : PySem.W.Frag} {F : Fx} {σ : L2.St} {H : Hp} {X : Cx} {pos : Pos} {a b : Expr} {es : List Expr} {wa wb : WEx} {wr : WAx} {wm : WMs}
def wMul (is : List Nat) (w : WMs) : WSt := fun e D => w e (fun its e1 => its.length = is.length ∧ is.length ≤ 1000 ∧ D.nx (putsI e1 is its)) D.ex
/-- x += n -/
def wAug (i : Nat) (w : WEx) : WSt := fun e D => (∃ d, e.s[i]? = some (.dat d)) ∧ w e (fun d e1 => ∃ m n : Int, e.s[i]? = some (.dat (.int m)) ∧ d = .int n ∧ D.nx (put e1 i (.dat (.int (m + n))))) D.ex
end
end L2.DL
set_option
      maxHeartbeats 2000000
namespace L2.DL
open PySem PySem.Spec
      PyProof.Rows
/-! ### try: body, except C as n: return isinstance(n, D) -/
def wTryIs (K : PySem.W.Frag) (CR cv : Value) (i : Nat) (wb : WSt) : WSt := fun e D => wb e { D with ex := fun y e' => ∃ C b, y = excD C ∧ PySem.W.exmOne K (.ref C) CR = some true ∧ ExcC K C ∧ PySem.W.kitOne K (.ref C) cv = some b ∧ i < e'.s.length ∧ D.rt (.bool b) e' }
end L2.DL
set_option
      maxHeartbeats 2000000
namespace L2.DL
open PySem PySem.Spec
      PyProof.Rows
/-! ### int of a truth -/
def intBD : BL
  | [.bool b], P => P (.int (if b then 1 else 0))
  | _, _ => False
theorem intBD.mono : BL.Mono intBD := by
  intro a P P' h q
  unfold intBD at q ⊢
  split at q <;> first | exact h _ q | exact q.elim
/-! ### no times a tuple -/
/-- times, zero allowed -/
def mulZ : B2
  | .tuple xs, .int k, P => xs ≠ [] ∧ 0 ≤ k ∧ k ≤ 1000 ∧ xs.length ≤ 1000 ∧ P (.tuple (List.replicate k.toNat xs).flatten)
  | _, _, _ => False
theorem mulZ.mono : B2.Mono mulZ := by
  intro a b P P' h q
  unfold mulZ at q ⊢
  split at q
  · exact ⟨q.1, q.2.1, q.2.2.1, q.2.2.2.1, h _ q.2.2.2.2⟩
  · exact q.elim
end L2.DL
set_option
      maxHeartbeats 2000000
namespace CmbKit
open PySem PySem.Spec
open Sem (wp)
theorem sub_self : isSubtype (.type "itertools.combinations") (.type "itertools.combinations") = pure true := by rw [isSubtype_type]; kernel_rfl
/-- the indices behind these -/
def nextC (n : Nat) (indices : List Nat) : Option (List Nat) :=
  match (List.range indices.length).reverse.find? fun i => indices.getD i 0 != i + n - indices.length with
  | none => none
  | some i => some (indices.take i ++ (List.range (indices.length - i)).map (indices.getD i 0 + 1 + ·))
end CmbKit
set_option
      maxHeartbeats 4000000
namespace CmbKit
open PySem PySem.Spec
      PyProof.Rows L2
open Sem (wp)
end CmbKit
set_option
      maxHeartbeats 4000000
namespace L2
open PySem PySem.Spec PyProof.Rows CmbKit
end L2
set_option
      maxHeartbeats 4000000
namespace L2
open PySem PySem.Spec PyProof.Rows CmbKit
end L2
set_option
      maxHeartbeats 4000000
namespace L2.DL
open PySem PySem.Spec PyProof.Rows CmbKit
/-! ### for x in combinations(range(n), k) -/
def cmbFrom (n : Nat) : Nat → List Nat → List (List Nat)
  | 0, _ => []
  | f + 1, ix => ix :: match nextC n ix with
    | none => []
    | some j => cmbFrom n f j
def cmbs (n r : Nat) : List (List Nat) := cmbFrom n 130 (List.range r)
def cmD (ix : List Nat) : D := .tuple (ix.map fun (i : Nat) => PyData.int (i : Int))
def wCmb (wa wb : WEx) : WAx := fun e Q x => wa e (fun d e1 => ∃ n : Nat, d = .int (n : Int) ∧ n ≤ 8 ∧ wb e1 (fun d' e2 => ∃ k : Nat, d' = .int (k : Int) ∧ k ≤ n ∧ Q ((cmbs n k).map cmD) e2) x) x
section
variable {X : Cx} {F : Fx} {tg a b : Expr} {wa wb : WEx}
theorem wCmb.mono (m : Mono wa) (m' : Mono wb) : MonoA (wCmb wa wb) := fun e Q Q' x x' h1 h2 q => m e _ _ _ _ (fun d e1 ⟨n, i1, i2, z⟩ => ⟨n, i1, i2, m' e1 _ _ _ _ (fun d' e2 ⟨k, j1, j2, z⟩ => ⟨k, j1, j2, h1 _ _ z⟩) h2 z⟩) h2 q
end
/-! ### any(list of bools) -/
def anyD : BL
  | [.list xs], P => ∃ bs : List Bool, xs = bs.map PyData.bool ∧ P (.bool (bs.any id))
  | _, _ => False
theorem anyD.mono : BL.Mono anyD := by
  intro a P P' h q
  unfold anyD at q ⊢
  split at q
  · obtain ⟨bs, e, z⟩ := q; exact ⟨bs, e, h _ z⟩
  · exact q.elim
/-! ### tuple(range(n)) -/
end L2.DL
namespace L2.DL
open PySem PySem.Spec
      PyProof.Rows
/-! ### sorted(xs), xs a list of data that are alike -/
abbrev srtD (ds : List D) : List D := ds.mergeSort (PySem.W.dataLe false id)
/-- what is alike to itself and to the others -/
def sortData : BL
  | [.list ds], P => Good (.list ds) ∧ PySem.W.AllAlike ds ∧ PySem.W.Sortable ds ∧ P (.list (srtD ds))
  | _, _ => False
theorem sortData.mono : BL.Mono sortData := by
  intro a P P' h q
  unfold sortData at q ⊢
  split at q
  · obtain ⟨g, e, f, z⟩ := q
    exact ⟨g, e, f, h _ z⟩
  · exact q.elim
/-! ### max(t), min(t), t a tuple or a list of ints -/
def mostD (f : Int → List Int → Int) : BL
  | [d], P => ∃ (n : Int) (ns : List Int), items d = some ((n :: ns).map PyData.int) ∧ P (.int (f n ns))
  | _, _ => False
theorem mostD.mono {f : Int → List Int → Int} : BL.Mono (mostD f) := by
  intro a P P' h q
  unfold mostD at q ⊢
  split at q
  · obtain ⟨n, ns, e, z⟩ := q
    exact ⟨n, ns, e, h _ z⟩
  · exact q.elim
end L2.DL
namespace L2.DL
open PySem PySem.Spec
      PyProof.Rows
/-! ### data without truths: equal are the same -/
/-! ### x or y, x None or a list or a tuple -/
def truD : D → Option Bool
  | .none => some false
  | .bool b => some b
  | .list xs => some (!xs.isEmpty)
  | .tuple xs => some (!xs.isEmpty)
  | _ => none
def wOrD (wa wb : WEx) : WEx := fun e Q x => wa e (fun d e1 => ∃ c, truD d = some c ∧ if c = true then Q d e1 else wb e1 Q x) x
section
variable {X : Cx} {F : Fx} {pos : Pos} {a b : Expr} {rest : List Expr} {wa wb : WEx}
theorem wOrD.mono (ma : Mono wa) (mb : Mono wb) : Mono (wOrD wa wb) := fun e Q Q' x x' h1 h2 q => ma e _ _ _ _ (fun d e1 ⟨c, ec, z⟩ => ⟨c, ec, by
  cases c with
  | true => exact h1 _ _ z
  | false => exact mb e1 _ _ _ _ h1 h2 z⟩) h2 q
end
end L2.DL
namespace ZipList
open PySem PySem.Spec
open Sem (wp)
/-- a zip whose last tuple is still held -/
abbrev ZipAt (h : Heap) (z TI TO : Addr) (f : Value) (b : Bool) : Prop := h.get? z = some { cls := .type "zip", data := .fields #[f, .bool b, .bool false, .ref TI, .ref TO] }
section
variable {prog : Program} {w : World} {A : Around} {E : Value → Shared → Prop} {s : Shared} {z TI TO i1 i2 T S : Addr} {fp1 fp2 : List Addr} {n1 n2 i : Nat} {P1 P2 : Nat → Value → Prop} {St1 St2 : Nat → Heap → Prop} {b : Bool}
/-- how far the zip is, whose tuples the list at S holds -/
structure Zst (S z TI TO i1 i2 : Addr) (St1 St2 : Nat → Heap → Prop) (i : Nat) (h : Heap) : Prop where
  m : (i = 0 ∧ IsZip h z TI TO .none ∧ ∃ a1 a2, IsTupOf2 h TO a1 a2) ∨ ∃ (T : Addr) (b : Bool), ZipAt h z TI TO (rawInt T) b ∧ (∃ o, h.get? T = some o) ∧ T ≠ S
  ti : IsTupOf2 h TI (.ref i1) (.ref i2)
  to : ∃ o, h.get? TO = some o
  s1 : St1 i h
  s2 : St2 i h
structure Off (S z TI TO : Addr) (fp1 fp2 : List Addr) : Prop where
  z : S ≠ z
  ti : S ≠ TI
  to : S ≠ TO
  f1 : S ∉ fp1
  f2 : S ∉ fp2
theorem Zst.keep (Z : Zst S z TI TO i1 i2 St1 St2 i s.heap) (D1 : Draws prog w A i1 fp1 n1 P1 St1) (D2 : Draws prog w A i2 fp2 n2 P2 St2) (O : Off S z TI TO fp1 fp2) {h' : Heap} (k : ∀ c o, c ≠ S → s.heap.get? c = some o → h'.get? c = some o) : Zst S z TI TO i1 i2 St1 St2 i h' where
  m := Z.m.elim (fun ⟨e, h1, a1, a2, h2⟩ => .inl ⟨e, k _ _ O.z.symm h1, a1, a2, k _ _ O.to.symm h2⟩) fun ⟨T, b, h1, ⟨o, h2⟩, h3⟩ => .inr ⟨T, b, k _ _ O.z.symm h1, ⟨o, k _ _ h3 h2⟩, h3⟩
  ti := k _ _ O.ti.symm Z.ti
  to := let ⟨o, e⟩ := Z.to; ⟨o, k _ _ O.to.symm e⟩
  s1 := D1.frame _ _ _ Z.s1 fun c hc o e => k c o (fun q => O.f1 (q ▸ hc)) e
  s2 := D2.frame _ _ _ Z.s2 fun c hc o e => k c o (fun q => O.f2 (q ▸ hc)) e
end
end ZipList
namespace L2.DL
open PySem PySem.Spec
      PyProof.Rows
/-! ### list(zip(a, b)), a and b lists or tuples -/
/-! #### over data -/
def lzD : B2 := fun d d' P => ∃ xs ys, items d = some xs ∧ items d' = some ys ∧ P (.list (pairs xs ys))
theorem lzD.mono : B2.Mono lzD := fun _ _ _ _ h ⟨xs, ys, e1, e2, q⟩ => ⟨xs, ys, e1, e2, h _ q⟩
end L2.DL
namespace L2.DL
open PySem PySem.Spec
      PyProof.Rows
/-! ### {k1: v1, k2: v2}[x], texts and ints -/
end L2.DL
namespace L2.DL
open PySem PySem.Spec
      PyProof.Rows
/-! ### a test that reads lists that a slot alone holds -/
def wLendT (w : WTx) : WTx := fun e Q x => w (lendE e) (fun b e' => Q b { e with k := e'.k }) noX
theorem wLendT.mono {w : WTx} (m : MonoT w) : MonoT (wLendT w) := fun e Q Q' x x' h1 h2 q => m _ _ _ _ _ (fun d e1 z => h1 _ _ z) (fun _ _ z => z) q
end L2.DL
namespace L2.DL
open PySem PySem.Spec
      PyProof.Rows
/-! ### between two statements -/
theorem cutSeq {a b : WSt} {e : En} {D' : DEnds} (Inv : En → Prop) (h2 : ∀ e', Inv e' → b e' D') (h1 : ∀ Z : En → Prop, (∀ e', Inv e' → Z e') → a e { D' with nx := Z }) : wSeq a b e D' := h1 _ h2
/-! ### xs.pop(), of a list that a slot alone holds -/
def wPop (i : Nat) : WEx := fun e Q _ => ∃ ds d, e.s[i]? = some (.own (ds ++ [d])) ∧ Q d (put e i (.own ds))
theorem wPop.mono {i : Nat} : Mono (wPop i) := fun e Q Q' x x' h1 _ ⟨ds, d, hi, q⟩ => ⟨ds, d, hi, h1 _ _ q⟩
section
variable {K : PySem.W.Frag} {F : Fx} {X : Cx}
theorem RA.last {p : Option Addr} {G : Hp} : ∀ {ds : List D} {d : D} {xs : List V}, RA K p G xs (ds ++ [d]) → ∃ ys y, xs = ys ++ [y] ∧ RA K p G ys ds ∧ R K p G y d
  | [], d, _, .cons (v := v) h t => by
    cases t
    exact ⟨[], v, rfl, .nil, h⟩
  | d' :: ds, d, _, .cons (v := v) h t => by
    obtain ⟨ys, y, rfl, a, b⟩ := RA.last (ds := ds) t
    exact ⟨v :: ys, y, rfl, .cons h a, b⟩
end
end L2.DL
/-! DL43: a def whose last parameter has a default, called without it. -/
namespace L2.DL
open PySem PySem.Spec
      PyProof.Rows
/-- what a call without the last argument asks -/
def dflt (i : Int) (wf : Wc) : Wc := fun ds k Q x => wf (ds ++ [.int i]) k Q x
theorem dflt.mono {i : Int} {wf : Wc} (m : wf.Mono) : (dflt i wf).Mono := fun ds k Q Q' x x' h1 h2 q => m _ _ _ _ _ _ h1 h2 q
/-! ### xs.extend(ys), of long lists -/
end L2.DL
/-! DL44: a comprehension's list that one slot alone holds. -/
namespace L2.DL
open PySem PySem.Spec
      PyProof.Rows
def wLcF (wi : WAx) (g : WG) (wt : WTx) (we : WEx) (vs : List Nat) : WAx := fun e Q x => wi e (fun ds e1 => lcLoop g wt we (wipeE e1 vs) [] ds e1.k fun acc k => Q acc { e1 with k := k }) x
section
variable {K : PySem.W.Frag} {F : Fx} {σ : L2.St} {H : Hp} {g : WG} {wt : WTx} {we : WEx} {wi : WAx} {vs : List Nat}
theorem wLcF.mono (mi : MonoA wi) (mg : MonoG g) (mt : MonoT wt) (me : Mono we) : MonoA (wLcF wi g wt we vs) := fun e Q Q' x x' h1 h2 q => mi e _ _ _ _ (fun ds e1 z => lcLoop.mono mg mt me (fun a k y => h1 _ _ y) z) h2 q
theorem PF.mono {G G' : Hp} {Q : VK} {ds : List D} {e : En} (s : Same G G') (h : PF K F G σ Q ds e) : PF K F G' σ Q ds e := fun a xs G2 H2 s2 => h a xs G2 H2 (s.trans s2)
end
end L2.DL
/-! DL45: a def with a default, as it stands behind the top. -/
namespace L2.DL
open PySem PySem.Spec
      PyProof.Rows
end L2.DL
/-! DL46: different data have different texts (data of nothing, truths, numbers from 0 on, lists and tuples). -/
namespace L2.DL
open PySem PySem.Spec PyProof.Rows TL
mutual
def plain : D → Bool
  | .none => true
  | .bool _ => true
  | .int i => decide (0 ≤ i)
  | .list xs => plains xs
  | .tuple xs => plains xs
  | _ => false
def plains : List D → Bool
  | [] => true
  | d :: ds => plain d && plains ds
end
/-- what may stand behind a text -/
def dl (r : List Nat) : Prop := r = [] ∨ ∃ c t, r = c :: t ∧ (c = 44 ∨ c = 41 ∨ c = 93)
end L2.DL
namespace CmbKit
open PySem PySem.Spec
      PyProof.Rows L2
open Sem (wp)
end CmbKit
namespace L2
open PySem PySem.Spec PyProof.Rows CmbKit
end L2
namespace L2.DL
open PySem PySem.Spec PyProof.Rows CmbKit
/-! ### for x in combinations(xs, k) -/
def pkD (es : List D) (ix : List Nat) : D := .tuple (ix.map fun i => es.getD i .none)
def wCmbS (wa wb : WEx) : WAx := fun e Q x => wa e (fun d e1 => ∃ ds, items d = some ds ∧ ds.length ≤ 8 ∧ wb e1 (fun d' e2 => ∃ k : Nat, d' = .int (k : Int) ∧ k ≤ ds.length ∧ Q ((cmbs ds.length k).map (pkD ds)) e2) x) x
section
variable {X : Cx} {F : Fx} {tg a b : Expr} {wa wb : WEx}
theorem wCmbS.mono (m : Mono wa) (m' : Mono wb) : MonoA (wCmbS wa wb) := fun e Q Q' x x' h1 h2 q => m e _ _ _ _ (fun d e1 ⟨ds, i1, i2, z⟩ => ⟨ds, i1, i2, m' e1 _ _ _ _ (fun d' e2 ⟨k, j1, j2, z⟩ => ⟨k, j1, j2, h1 _ _ z⟩) h2 z⟩) h2 q
end
end L2.DL
namespace L2.DL
open PySem PySem.Spec
      PyProof.Rows
/-! ### sorted(xs), also of a list of one -/
def sortDataS : BL
  | [.list ds], P => (ds.length < 2 ∧ P (.list ds)) ∨ (Good (.list ds) ∧ PySem.W.AllAlike ds ∧ PySem.W.Sortable ds ∧ P (.list (srtD ds)))
  | _, _ => False
theorem sortDataS.mono : BL.Mono sortDataS := by
  intro a P P' h q
  unfold sortDataS at q ⊢
  split at q
  · exact q.imp (fun z => ⟨z.1, h _ z.2⟩) fun ⟨g, e, f, z⟩ => ⟨g, e, f, h _ z⟩
  · exact q.elim
end L2.DL
namespace L2.DL
open PySem PySem.Spec
      PyProof.Rows
end L2.DL
namespace L2.DL
open PySem PySem.Spec
      PyProof.Rows
/-! ### t < u, t and u of ints -/
def ltTD : B2
  | .int i, .int j, P => P (.bool (decide (i < j)))
  | .tuple xs, .tuple ys, P => ∃ ns ms : List Int, xs = ns.map PyData.int ∧ ys = ms.map PyData.int ∧ P (.bool (HT.lexLt ns ms))
  | _, _, _ => False
theorem ltTD.mono : B2.Mono ltTD := by
  intro a b P P' h q
  unfold ltTD at q ⊢
  split at q
  · exact h _ q
  · obtain ⟨ns, ms, e1, e2, z⟩ := q
    exact ⟨ns, ms, e1, e2, h _ z⟩
  · exact q.elim
end L2.DL
namespace L2.DL
open PySem PySem.Spec
      PyProof.Rows
/-! ### min(m, n), max(m, n) -/
def twoI (f : Int → Int → Int) : BL
  | [.int i, .int j], P => P (.int (f i j))
  | _, _ => False
theorem twoI.mono {f : Int → Int → Int} : BL.Mono (twoI f) := by
  intro a P P' h q
  unfold twoI at q ⊢
  split at q
  · exact h _ q
  · exact q.elim
def rTwo (f : Int → Int → Int) : List V → Hp → VK → Prop := fun xs H Q => ∃ i j, xs = [.int i, .int j] ∧ Q (.int (f i j)) H
theorem fitsTwo {K : PySem.W.Frag} {f : Int → Int → Int} : FitsL K (twoI f) (rTwo f) := by
  intro p G₀ H₀ G H σ e xs ds P Q r ra q k
  unfold twoI at q
  split at q
  · cases ra with
    | cons r1 ra =>
      cases ra with
      | cons r2 ra =>
        cases ra
        cases r1.int_inv
        cases r2.int_inv
        exact ⟨_, _, rfl, k _ q _ G H (Same.refl G) r (.int _)⟩
  · exact q.elim
theorem call_minT {X : Cx} (hc : X.calm = true) : CallR X (.builtin "min") (rTwo fun i j => if j < i then j else i) := call_min2 hc
/-! ### a, b, c = x, y, z -/
def wPar3 (i j l : Nat) (wa wb wc : WEx) : WSt := fun e D => wa e (fun d e1 => wb e1 (fun d' e2 => wc e2 (fun d'' e3 => D.nx (put (put (put e3 i (.dat d)) j (.dat d')) l (.dat d''))) D.ex) D.ex) D.ex
end L2.DL
namespace L2.DL
open PySem PySem.Spec
      PyProof.Rows
/-! ### len(set(xs)), xs a tuple or a list of ints -/
def tLenS (K : PySem.W.Frag) (ta : TE) : TE := fun σ H Q => ta σ H fun x H1 => ∃ (l : Addr) (ns : List Int), x = .ref l ∧ (SqT K H1 l (ns.map V.int) ∨ SqL K H1 l (ns.map V.int)) ∧ ns.length ≤ 1000 ∧ ∀ L : List Int, L.Nodup → (∀ k, k ∈ L ↔ k ∈ ns) → Q (.int (L.length : Nat)) H1
theorem pe_lenS {X : Cx} {a : Expr} {ta : TE} {p p2 q pos : Pos} (hc : X.calm = true) (hg : Gl X "len") (hm : X.mg "len" = none) (hg2 : Gl X "set") (hm2 : X.mg "set" = none) (ha : PE X a ta)
    (na : starEach [a] X.env = (false, eval a X.env) :: starEach [] X.env := by rfl) : PE X (.Call (.Name "len" p) [.Call (.Name "set" p2) [a] [] q] [] pos) (tLenS X.K ta) := by
  refine ⟨fun pins s σ H Q I h =>
        ?_⟩
  refine Call_ (ld_blt I
        hg hm PySem.boot_len ?_)
  refine PyProof.Rows.callWith_builtin1
        (PyProof.Rows.args_cons ?_ rfl) rfl rfl
  refine Call_ (ld_blt I hg2
        hm2 PyProof.Rows.boot_set ?_)
  refine PyProof.Rows.callWith_type1 (PyProof.Rows.args_cons (thn (ha.run pins s σ H _ I h) fun v s1 ⟨x,
        H1, I1, r1, q1⟩ => PyProof.Rows.args_nil ?_) na) na rfl
  obtain ⟨l, ns, rfl, hq, h1, q1⟩ := q1
  cases r1
  have fin : ∀ (h' : Heap) (tk c : Nat), SetR X.w h' s1.heap.objs.size (fun j => decide (j ∈ ns)) c → c ≤ ns.length → (∀ b o, s1.heap.get? b = some o → h'.get? b = some o) → wpAny (model X.prog X.w) X.A (call (.builtin "len") [.ref s1.heap.objs.size]) (EP X pins σ Q) X.xe { s1 with heap := h', toks := tk } := by
    intro h' tk c R hcn hk
    obtain ⟨o, es, ep, t, ho, hex, hd, _, hnd, hS, hlt, hf, hn, _⟩ := R
    have I2 : Inv X pins σ H1 { s1 with heap := h', toks := tk } := I1.kept fun b o e => hk b o e
    have e : (es.toList.map keyOf).length = es.size := by rw [List.length_map, Array.length_toList]
    refine call_len_set ho hex hd hf (by rw [hn]; omega) ⟨.int ((es.toList.map keyOf).length : Nat), H1, I2.tok _, ⟨_, by rw [e]⟩, q1 _ hnd fun k => by rw [← hS k]; exact decide_eq_true_iff⟩
  rcases hq with hq | hq
  · obtain ⟨its, rv, pt, hz⟩ := I1.tuple hq
    refine call_set_tupI ns (I1.ok.hd hc) (show s1.heap.IsTuple l its.toArray from pt) (ints_of_vals rv) (by unfold scanBound; omega) fun h' tk c R hcn hk => ?_
    refine PyProof.Rows.args_nil ?_
    exact fin h' tk c R hcn hk
  · obtain ⟨its, rv, pl, hz⟩ := I1.list hq
    refine call_set_listI ns (I1.ok.hd hc) pl.isList (ints_of_vals rv) (by unfold scanBound; omega) fun s2 ⟨h', tk, c, e, R, hcn, hk⟩ => ?_
    subst e
    refine PyProof.Rows.args_nil ?_
    exact fin h' tk c R hcn hk
def wLenS (w : WEx) : WEx := fun e Q x => w e (fun d e1 => ∃ ns : List Int, (d = .tuple (ns.map PyData.int) ∨ d = .list (ns.map PyData.int)) ∧ ns.length ≤ 1000 ∧ ∀ L : List Int, L.Nodup → (∀ k, k ∈ L ↔ k ∈ ns) → Q (.int (L.length : Nat)) e1) x
section
variable {X : Cx} {F : Fx} {pos : Pos} {a : Expr} {wa : WEx}
theorem de_lenS {p1 p2 q : Pos} (hc : X.calm = true) (h : DE X F a wa) (hm : X.mg "len" = none) (hm2 : X.mg "set" = none) (hg : Gl X "len" := by rfl) (hg2 : Gl X "set" := by rfl)
    (hs : starEach [a] X.env = (false, eval a X.env) :: starEach [] X.env := by rfl) :
    DE X F (.Call (.Name "len" p1) [.Call (.Name "set" p2) [a] [] q] [] pos) (wLenS wa) :=
  de_of (pe_lenS hc hg hm hg2 hm2 h.run hs)
    (fun e Q Q' x x' h1 h2 q => h.mono e _ _ _ _ (fun d e1 ⟨ns, ed, hl, z⟩ => ⟨ns, ed, hl, fun L p1 p2 => h1 _ _ (z L p1 p2)⟩) h2 q) fun σ H Q ⟨e, G, r, q⟩ =>
    ⟨e, G, r, h.mono e _ _ _ _ (fun d e1 ⟨ns, ed, hl, z⟩ v G' H' s r' rv => by
      rcases ed with ed | ed
      · subst ed
        obtain ⟨l, xs, rfl, g, ra⟩ := rv.tup_inv
        have ex := ra.ofInts
        subst ex
        exact ⟨l, ns, rfl, .inl (sameT r'.same g), by omega, fun L p1 p2 => z L p1 p2 _ _ _ s r' (.int _)⟩
      · subst ed
        obtain ⟨l, xs, rfl, g, ra⟩ := rv.lst_inv
        have ex := ra.ofInts
        subst ex
        exact ⟨l, ns, rfl, .inr (SqL.of (r'.same _ _ g)), by omega, fun L p1 p2 => z L p1 p2 _ _ _ s r' (.int _)⟩) (fun _ _ z => z) q⟩
end
/-! ### how many different -/
theorem dup_less : ∀ {ns : List Int}, ¬ ns.Nodup → ∃ ms : List Int, ms.length < ns.length ∧ ∀ k ∈ ns, k ∈ ms
  | [], h => absurd List.nodup_nil h
  | x :: t, h => by
    by_cases hx : x ∈ t
    · exact ⟨t, by simp, fun k hk => (List.mem_cons.mp hk).elim (fun e => e ▸ hx) id⟩
    · have ht : ¬ t.Nodup := fun z => h (List.nodup_cons.mpr ⟨hx, z⟩)
      obtain ⟨ms, h1, h2⟩ := dup_less ht
      refine ⟨x :: ms, by rw [List.length_cons, List.length_cons]; omega, fun k hk => ?_⟩
      rcases List.mem_cons.mp hk with rfl | hk
      · exact List.mem_cons_self
      · exact List.mem_cons_of_mem _ (h2 k hk)
theorem sub_len : ∀ {L ns : List Int}, L.Nodup → (∀ k ∈ L, k ∈ ns) → L.length ≤ ns.length
  | [], _, _, _ =>
        Nat.zero_le _
  | x :: L, ns, h, e => by
    obtain ⟨hx, hL⟩ := List.nodup_cons.mp h
    have hm := e x List.mem_cons_self
    have := sub_len (L := L) (ns := ns.erase x) hL fun k hk => (List.mem_erase_of_ne (fun z : k = x => hx (z ▸ hk))).mpr (e k (List.mem_cons_of_mem _ hk))
    rw [List.length_erase_of_mem hm] at this
    have : 0 < ns.length := List.length_pos_of_mem hm
    rw [List.length_cons]
    omega
theorem lenS_le {L ns : List Int} (h : L.Nodup) (e : ∀ k, k ∈ L ↔ k ∈ ns) : L.length ≤ ns.length := sub_len h fun k hk => (e k).mp hk
theorem lenS_nodup {L ns : List Int} (h : L.Nodup) (e : ∀ k, k ∈ L ↔ k ∈ ns) : L.length = ns.length ↔ ns.Nodup := by
  constructor
  · intro hl
    by_cases hn : ns.Nodup
    · exact hn
    · obtain ⟨ms, h1, h2⟩ := dup_less hn
      have := sub_len h (ns := ms) fun k hk => h2 k ((e k).mp hk)
      omega
  · intro hn
    have h1 := lenS_le h e
    have h2 := sub_len hn fun k hk => (e k).mpr hk
    omega
theorem lenS_one {L ns : List Int} (h : L.Nodup) (e : ∀ k, k ∈ L ↔ k ∈ ns) : L.length = 1 ↔ ns ≠ [] ∧ ∀ a ∈ ns, ∀ b ∈ ns, a = b := by
  match L, h, e with
  | [], h, e =>
    refine ⟨fun z => by simp at z, fun ⟨z, _⟩ => ?_⟩
    obtain ⟨a, ha⟩ := List.exists_mem_of_ne_nil _ z
    exact absurd ((e a).mpr ha) (by simp)
  | [y], h, e =>
    refine ⟨fun _ => ⟨fun z => ?_, fun a ha b hb => ?_⟩, fun _ => rfl⟩
    · have := (e y).mp List.mem_cons_self
      rw [z] at this
      cases this
    · have h1 := List.mem_singleton.mp ((e a).mpr ha)
      have h2 := List.mem_singleton.mp ((e b).mpr hb)
      rw [h1, h2]
  | y :: z :: l, h, e =>
    refine ⟨fun c => by simp at c, fun ⟨_, c⟩ => ?_⟩
    have := c y ((e y).mp (by simp)) z ((e z).mp (by simp))
    rw [this] at h
    exact absurd (List.mem_cons_self) (List.nodup_cons.mp h).1
end L2.DL
namespace L2.DL.K30
open PySem PySem.Spec
      PyProof.Rows
def topS (i : Nat) : Stmt := PySem.Challenge.pw_whererules_k30_views_and_their_rows.main.body.getD i (.Pass ⟨0, 0, 0, 0⟩)
abbrev s_law_open : Stmt := topS 47
theorem sc_law_open : FnScope ["_law_script", "_law_cells", "_law_k", "_law_cell"] ["_law_script"] (defScope s_law_open) := ⟨rfl, rfl, rfl, by decide +kernel, rfl, by decide +kernel, by decide +kernel⟩
abbrev s_law_spread : Stmt := topS 46
theorem sc_law_spread : FnScope ["_law_cell", "_law_at", "_law_primes", "_law_mixed", "_law_one_here", "_law_rest", "_law_two", "_law_three"] ["_law_cell", "_law_at"] (defScope s_law_spread) := ⟨rfl, rfl, rfl, by decide +kernel, rfl, by decide +kernel, by decide +kernel⟩
abbrev s_law_take : Stmt := topS 49
theorem sc_law_take : FnScope ["_law_pen", "_law_many", "_law_at", "_law_cell", "_law_found"] ["_law_pen", "_law_many"] (defScope s_law_take) := ⟨rfl, rfl, rfl, by decide +kernel, rfl, by decide +kernel, by decide +kernel⟩
abbrev s_law_one : Stmt := topS 50
theorem sc_law_one : FnScope ["_law_pen", "_law_some"] ["_law_pen", "_law_some"] (defScope s_law_one) := ⟨rfl, rfl, rfl, by decide +kernel, rfl, by decide +kernel, by decide +kernel⟩
abbrev s_law_columns : Stmt := topS 53
theorem sc_law_columns : FnScope ["_law_pen", "_law_most", "_law_found", "_law_step", "_law_some"] ["_law_pen", "_law_most"] (defScope s_law_columns) := ⟨rfl, rfl, rfl, by decide +kernel, rfl, by decide +kernel, by decide +kernel⟩
abbrev s_law_drawn : Stmt := topS 51
theorem sc_law_drawn : FnScope ["_law_pen", "_law_many", "_law_found", "_law_k"] ["_law_pen", "_law_many"] (defScope s_law_drawn) := ⟨rfl, rfl, rfl, by decide +kernel, rfl, by decide +kernel, by decide +kernel⟩
abbrev s_law_value : Stmt := topS 54
theorem sc_law_value : FnScope ["_law_pen", "_law_column", "_law_some"] ["_law_pen", "_law_column"] (defScope s_law_value) := ⟨rfl, rfl, rfl, by decide +kernel, rfl, by decide +kernel, by decide +kernel⟩
abbrev s_law_view : Stmt := topS 62
theorem sc_law_view : FnScope ["_law_pen", "_law_columns_here", "_law_most", "_law_wide", "_law_found", "_law_step", "_law_chosen", "_law_k", "_law_one_here"] ["_law_pen", "_law_columns_here", "_law_most"] (defScope s_law_view) := ⟨rfl, rfl, rfl, by decide +kernel, rfl, by decide +kernel, by decide +kernel⟩
abbrev s_law_anew : Stmt := topS 48
theorem sc_law_anew : FnScope ["_law_pen"] ["_law_pen"] (defScope s_law_anew) := ⟨rfl, rfl, rfl, by decide +kernel, rfl, by decide +kernel, by decide +kernel⟩
abbrev s_law_bad_columns : Stmt := topS 65
theorem sc_law_bad_columns : FnScope ["_law_pen", "_law_columns_here", "_law_some"] ["_law_pen", "_law_columns_here"] (defScope s_law_bad_columns) := ⟨rfl, rfl, rfl, by decide +kernel, rfl, by decide +kernel, by decide +kernel⟩
abbrev s_law_lacking : Stmt := topS 66
theorem sc_law_lacking : FnScope ["_law_pen", "_law_columns_here", "_law_many", "_law_least", "_law_own", "_law_found", "_law_k", "_law_lack", "_law_value_here", "_law_j"] ["_law_pen", "_law_columns_here"] (defScope s_law_lacking) := ⟨rfl, rfl, rfl, by decide +kernel, rfl, by decide +kernel, by decide +kernel⟩
abbrev s_law_bad : Stmt := topS 67
theorem sc_law_bad : FnScope ["_law_pen", "_law_columns_here", "_law_sort", "_law_many", "_law_wrong", "_law_lacking_here", "_law_good", "_law_rule", "_law_some", "_law_near"] ["_law_pen", "_law_columns_here", "_law_sort"] (defScope s_law_bad) := ⟨rfl, rfl, rfl, by decide +kernel, rfl, by decide +kernel, by decide +kernel⟩
abbrev s_is_integer : Stmt := topS 24
theorem sc_is_integer : FnScope ["value"] ["value"] (defScope s_is_integer) := ⟨rfl, rfl, rfl, by decide +kernel, rfl, by decide +kernel, by decide +kernel⟩
abbrev s_is_closed : Stmt := topS 27
theorem sc_is_closed : FnScope ["value", "last", "one"] ["value"] (defScope s_is_closed) := ⟨rfl, rfl, rfl, by decide +kernel, rfl, by decide +kernel, by decide +kernel⟩
abbrev s_is_columns : Stmt := topS 28
theorem sc_is_columns : FnScope ["value", "closed", "column"] ["value"] (defScope s_is_columns) := ⟨rfl, rfl, rfl, by decide +kernel, rfl, by decide +kernel, by decide +kernel⟩
abbrev s_check_columns : Stmt := topS 31
theorem sc_check_columns : FnScope ["columns"] ["columns"] (defScope s_check_columns) := ⟨rfl, rfl, rfl, by decide +kernel, rfl, by decide +kernel, by decide +kernel⟩
abbrev s_is_number : Stmt := topS 25
theorem sc_is_number : FnScope ["value", "limit"] ["value", "limit"] (defScope s_is_number) := ⟨rfl, rfl, rfl, by decide +kernel, rfl, by decide +kernel, by decide +kernel⟩
abbrev s_kept_is_right : Stmt := topS 43
theorem sc_kept_is_right : FnScope ["columns", "value", "k"] ["columns", "value"] (defScope s_kept_is_right) := ⟨rfl, rfl, rfl, by decide +kernel, rfl, by decide +kernel, by decide +kernel⟩
abbrev s_is_value_of : Stmt := topS 26
theorem sc_is_value_of : FnScope ["column", "value"] ["column", "value"] (defScope s_is_value_of) := ⟨rfl, rfl, rfl, by decide +kernel, rfl, by decide +kernel, by decide +kernel⟩
abbrev s_entry_is_right : Stmt := topS 35
theorem sc_entry_is_right : FnScope ["columns", "value"] ["columns", "value"] (defScope s_entry_is_right) := ⟨rfl, rfl, rfl, by decide +kernel, rfl, by decide +kernel, by decide +kernel⟩
abbrev s_given_is_right : Stmt := topS 36
theorem sc_given_is_right : FnScope ["columns", "value", "last", "entry"] ["columns", "value"] (defScope s_given_is_right) := ⟨rfl, rfl, rfl, by decide +kernel, rfl, by decide +kernel, by decide +kernel⟩
abbrev s_branch_is_right : Stmt := topS 42
theorem sc_branch_is_right : FnScope ["columns", "value", "chosen", "kept", "entry"] ["columns", "value"] (defScope s_branch_is_right) := ⟨rfl, rfl, rfl, by decide +kernel, rfl, by decide +kernel, by decide +kernel⟩
abbrev s_view_is_right : Stmt := topS 41
theorem sc_view_is_right : FnScope ["columns", "value", "branch"] ["columns", "value"] (defScope s_view_is_right) := ⟨rfl, rfl, rfl, by decide +kernel, rfl, by decide +kernel, by decide +kernel⟩
abbrev s_check_view : Stmt := topS 44
theorem sc_check_view : FnScope ["columns", "view"] ["columns", "view"] (defScope s_check_view) := ⟨rfl, rfl, rfl, by decide +kernel, rfl, by decide +kernel, by decide +kernel⟩
abbrev s_row_is_right : Stmt := topS 29
theorem sc_row_is_right : FnScope ["columns", "value", "column", "one"] ["columns", "value"] (defScope s_row_is_right) := ⟨rfl, rfl, rfl, by decide +kernel, rfl, by decide +kernel, by decide +kernel⟩
abbrev s_table_is_right : Stmt := topS 30
theorem sc_table_is_right : FnScope ["columns", "value", "row"] ["columns", "value"] (defScope s_table_is_right) := ⟨rfl, rfl, rfl, by decide +kernel, rfl, by decide +kernel, by decide +kernel⟩
abbrev s_check_table : Stmt := topS 32
theorem sc_check_table : FnScope ["columns", "table"] ["columns", "table"] (defScope s_check_table) := ⟨rfl, rfl, rfl, by decide +kernel, rfl, by decide +kernel, by decide +kernel⟩
abbrev s_has_given : Stmt := topS 34
theorem sc_has_given : FnScope ["given", "row", "column", "value"] ["given", "row"] (defScope s_has_given) := ⟨rfl, rfl, rfl, by decide +kernel, rfl, by decide +kernel, by decide +kernel⟩
abbrev s_view_rows : Stmt := topS 40
theorem sc_view_rows : FnScope ["columns", "view", "table", "rows", "chosen", "kept", "row", "column"] ["columns", "view", "table"] (defScope s_view_rows) := ⟨rfl, rfl, rfl, by decide +kernel, rfl, by decide +kernel, by decide +kernel⟩
abbrev s_law_refusal : Stmt := topS 68
theorem sc_law_refusal : FnScope ["_law_caught", "_law_plain", "_law_some", "_law_words", "_law_word"] ["_law_caught"] (defScope s_law_refusal) := ⟨rfl, rfl, rfl, by decide +kernel, rfl, by decide +kernel, by decide +kernel⟩
abbrev s_law_told : Stmt := topS 70
theorem sc_law_told : FnScope ["_law_columns_here", "_law_view_here", "_law_table", "_law_caught", "_law_found", "_law_kept", "e"] ["_law_columns_here", "_law_view_here", "_law_table"] (defScope s_law_told) := ⟨rfl, rfl, rfl, by decide +kernel, rfl, by decide +kernel, by decide +kernel⟩
abbrev s_law_changed : Stmt := topS 64
theorem sc_law_changed : FnScope ["_law_pen", "_law_value_here", "_law_some", "_law_at", "_law_sort"] ["_law_pen", "_law_value_here"] (defScope s_law_changed) := ⟨rfl, rfl, rfl, by decide +kernel, rfl, by decide +kernel, by decide +kernel⟩
abbrev s_is_view : Stmt := topS 39
theorem sc_is_view : FnScope ["columns", "value"] ["columns", "value"] (defScope s_is_view) := ⟨rfl, rfl, rfl, by decide +kernel, rfl, by decide +kernel, by decide +kernel⟩
abbrev s_law_asked : Stmt := topS 71
theorem sc_law_asked : FnScope ["_law_columns_here", "_law_value_here", "_law_caught", "_law_found", "_law_kept", "e"] ["_law_columns_here", "_law_value_here"] (defScope s_law_asked) := ⟨rfl, rfl, rfl, by decide +kernel, rfl, by decide +kernel, by decide +kernel⟩
abbrev s_law_is_integer : Stmt := topS 52
theorem sc_law_is_integer : FnScope ["_law_value_here"] ["_law_value_here"] (defScope s_law_is_integer) := ⟨rfl, rfl, rfl, by decide +kernel, rfl, by decide +kernel, by decide +kernel⟩
abbrev s_law_is_value : Stmt := topS 56
theorem sc_law_is_value : FnScope ["_law_column", "_law_value_here"] ["_law_column", "_law_value_here"] (defScope s_law_is_value) := ⟨rfl, rfl, rfl, by decide +kernel, rfl, by decide +kernel, by decide +kernel⟩
abbrev s_law_is_given : Stmt := topS 57
theorem sc_law_is_given : FnScope ["_law_columns_here", "_law_value_here", "_law_last", "_law_entry"] ["_law_columns_here", "_law_value_here"] (defScope s_law_is_given) := ⟨rfl, rfl, rfl, by decide +kernel, rfl, by decide +kernel, by decide +kernel⟩
abbrev s_law_is_view : Stmt := topS 69
theorem sc_law_is_view : FnScope ["_law_columns_here", "_law_value_here", "_law_sizes", "_law_one_here", "_law_entry", "_law_k"] ["_law_columns_here", "_law_value_here"] (defScope s_law_is_view) := ⟨rfl, rfl, rfl, by decide +kernel, rfl, by decide +kernel, by decide +kernel⟩
abbrev s_law_row : Stmt := topS 55
theorem sc_law_row : FnScope ["_law_pen", "_law_columns_here", "_law_column"] ["_law_pen", "_law_columns_here"] (defScope s_law_row) := ⟨rfl, rfl, rfl, by decide +kernel, rfl, by decide +kernel, by decide +kernel⟩
abbrev s_law_matches : Stmt := topS 59
theorem sc_law_matches : FnScope ["_law_given", "_law_row_here", "_law_entry"] ["_law_given", "_law_row_here"] (defScope s_law_matches) := ⟨rfl, rfl, rfl, by decide +kernel, rfl, by decide +kernel, by decide +kernel⟩
abbrev s_law_view_rows : Stmt := topS 63
theorem sc_law_view_rows : FnScope ["_law_view_here", "_law_table", "_law_found", "_law_chosen", "_law_kept", "_law_row_here", "_law_k"] ["_law_view_here", "_law_table"] (defScope s_law_view_rows) := ⟨rfl, rfl, rfl, by decide +kernel, rfl, by decide +kernel, by decide +kernel⟩
abbrev s_law : Stmt := topS 72
theorem sc_law : FnScope ["_law_script", "_law_pen", "_law_turn", "_law_columns_here", "_law_view_here", "_law_values", "_law_step", "_law_value_here", "_law_many", "_law_table", "_law_k", "_law_bad_here", "_law_odd", "_law_at", "_law_lack", "_law_worse", "_law_poor", "_law_found"] ["_law_script"] (defScope s_law) := ⟨rfl, rfl, rfl, by decide +kernel, rfl, by decide +kernel, by decide +kernel⟩
/-- where the classes stand -/
structure Cls where
  AtWar : Addr
  Broken : Addr
  Full : Addr
  InvalidCells : Addr
  InvalidColumns : Addr
  InvalidGiven : Addr
  InvalidMark : Addr
  InvalidNumber : Addr
  InvalidRow : Addr
  InvalidRule : Addr
  InvalidRules : Addr
  InvalidSettled : Addr
  InvalidTable : Addr
  InvalidValue : Addr
  InvalidView : Addr
  NotACertificate : Addr
  NotAtPeace : Addr
  RuleError : Addr
structure Txt (K : PySem.W.Frag) (mg : Str → Option Value) (A : Cls) : Prop where
  z_ValueError : mg "ValueError" = none
  z_bool : mg "bool" = none
  z_enumerate : mg "enumerate" = none
  z_int : mg "int" = none
  z_isinstance : mg "isinstance" = none
  z_len : mg "len" = none
  z_list : mg "list" = none
  z_min : mg "min" = none
  z_range : mg "range" = none
  z_repr : mg "repr" = none
  z_set : mg "set" = none
  z_sorted : mg "sorted" = none
  z_tuple : mg "tuple" = none
  z_zip : mg "zip" = none
  c_MOST_BRANCHES : ∃ t, mg "MOST_BRANCHES" = some (.int 3 t)
  c_MOST_CLOSED : ∃ t, mg "MOST_CLOSED" = some (.int 2 t)
  c_MOST_COLUMNS : ∃ t, mg "MOST_COLUMNS" = some (.int 4 t)
  c_MOST_ROWS : ∃ t, mg "MOST_ROWS" = some (.int 8 t)
  c_MOST_VALUES : ∃ t, mg "MOST_VALUES" = some (.int 3 t)
  g_AtWar : mg "AtWar" = some (.ref A.AtWar)
  g_Broken : mg "Broken" = some (.ref A.Broken)
  g_Full : mg "Full" = some (.ref A.Full)
  g_InvalidCells : mg "InvalidCells" = some (.ref A.InvalidCells)
  g_InvalidColumns : mg "InvalidColumns" = some (.ref A.InvalidColumns)
  g_InvalidGiven : mg "InvalidGiven" = some (.ref A.InvalidGiven)
  g_InvalidMark : mg "InvalidMark" = some (.ref A.InvalidMark)
  g_InvalidNumber : mg "InvalidNumber" = some (.ref A.InvalidNumber)
  g_InvalidRow : mg "InvalidRow" = some (.ref A.InvalidRow)
  g_InvalidRule : mg "InvalidRule" = some (.ref A.InvalidRule)
  g_InvalidRules : mg "InvalidRules" = some (.ref A.InvalidRules)
  g_InvalidSettled : mg "InvalidSettled" = some (.ref A.InvalidSettled)
  g_InvalidTable : mg "InvalidTable" = some (.ref A.InvalidTable)
  g_InvalidValue : mg "InvalidValue" = some (.ref A.InvalidValue)
  g_InvalidView : mg "InvalidView" = some (.ref A.InvalidView)
  g_NotACertificate : mg "NotACertificate" = some (.ref A.NotACertificate)
  g_NotAtPeace : mg "NotAtPeace" = some (.ref A.NotAtPeace)
  g_RuleError : mg "RuleError" = some (.ref A.RuleError)
  k_InvalidColumns : PySem.W.keepIn K (.ref A.InvalidColumns) = true
  x_InvalidColumns : PySem.W.excIn K A.InvalidColumns [.type "ValueError", .type "Exception", .type "BaseException", .type "object"] "ValueError.__new__" = true
  s_InvalidColumns : PySem.W.subIn K (.ref A.InvalidColumns) (.type "BaseException") = some true
  t_InvalidColumns : PySem.W.typeIn K (.ref A.InvalidColumns) = some (.type "type")
  e_InvalidColumns : ExcC K A.InvalidColumns
  m_InvalidColumns_RuleError : PySem.W.exmOne K (.ref A.InvalidColumns) (.ref A.RuleError) = some true
  i_InvalidColumns_AtWar : PySem.W.kitOne K (.ref A.InvalidColumns) (.ref A.AtWar) = some false
  i_InvalidColumns_Broken : PySem.W.kitOne K (.ref A.InvalidColumns) (.ref A.Broken) = some false
  i_InvalidColumns_Full : PySem.W.kitOne K (.ref A.InvalidColumns) (.ref A.Full) = some false
  i_InvalidColumns_InvalidCells : PySem.W.kitOne K (.ref A.InvalidColumns) (.ref A.InvalidCells) = some false
  i_InvalidColumns_InvalidColumns : PySem.W.kitOne K (.ref A.InvalidColumns) (.ref A.InvalidColumns) = some true
  i_InvalidColumns_InvalidGiven : PySem.W.kitOne K (.ref A.InvalidColumns) (.ref A.InvalidGiven) = some false
  i_InvalidColumns_InvalidMark : PySem.W.kitOne K (.ref A.InvalidColumns) (.ref A.InvalidMark) = some false
  i_InvalidColumns_InvalidNumber : PySem.W.kitOne K (.ref A.InvalidColumns) (.ref A.InvalidNumber) = some false
  i_InvalidColumns_InvalidRow : PySem.W.kitOne K (.ref A.InvalidColumns) (.ref A.InvalidRow) = some false
  i_InvalidColumns_InvalidRule : PySem.W.kitOne K (.ref A.InvalidColumns) (.ref A.InvalidRule) = some false
  i_InvalidColumns_InvalidRules : PySem.W.kitOne K (.ref A.InvalidColumns) (.ref A.InvalidRules) = some false
  i_InvalidColumns_InvalidSettled : PySem.W.kitOne K (.ref A.InvalidColumns) (.ref A.InvalidSettled) = some false
  i_InvalidColumns_InvalidTable : PySem.W.kitOne K (.ref A.InvalidColumns) (.ref A.InvalidTable) = some false
  i_InvalidColumns_InvalidValue : PySem.W.kitOne K (.ref A.InvalidColumns) (.ref A.InvalidValue) = some false
  i_InvalidColumns_InvalidView : PySem.W.kitOne K (.ref A.InvalidColumns) (.ref A.InvalidView) = some false
  i_InvalidColumns_NotACertificate : PySem.W.kitOne K (.ref A.InvalidColumns) (.ref A.NotACertificate) = some false
  i_InvalidColumns_NotAtPeace : PySem.W.kitOne K (.ref A.InvalidColumns) (.ref A.NotAtPeace) = some false
  i_InvalidColumns_RuleError : PySem.W.kitOne K (.ref A.InvalidColumns) (.ref A.RuleError) = some true
  i_InvalidColumns_ValueError : PySem.W.kitOne K (.ref A.InvalidColumns) (.type "ValueError") = some true
  k_InvalidTable : PySem.W.keepIn K (.ref A.InvalidTable) = true
  x_InvalidTable : PySem.W.excIn K A.InvalidTable [.type "ValueError", .type "Exception", .type "BaseException", .type "object"] "ValueError.__new__" = true
  s_InvalidTable : PySem.W.subIn K (.ref A.InvalidTable) (.type "BaseException") = some true
  t_InvalidTable : PySem.W.typeIn K (.ref A.InvalidTable) = some (.type "type")
  e_InvalidTable : ExcC K A.InvalidTable
  m_InvalidTable_RuleError : PySem.W.exmOne K (.ref A.InvalidTable) (.ref A.RuleError) = some true
  i_InvalidTable_AtWar : PySem.W.kitOne K (.ref A.InvalidTable) (.ref A.AtWar) = some false
  i_InvalidTable_Broken : PySem.W.kitOne K (.ref A.InvalidTable) (.ref A.Broken) = some false
  i_InvalidTable_Full : PySem.W.kitOne K (.ref A.InvalidTable) (.ref A.Full) = some false
  i_InvalidTable_InvalidCells : PySem.W.kitOne K (.ref A.InvalidTable) (.ref A.InvalidCells) = some false
  i_InvalidTable_InvalidColumns : PySem.W.kitOne K (.ref A.InvalidTable) (.ref A.InvalidColumns) = some false
  i_InvalidTable_InvalidGiven : PySem.W.kitOne K (.ref A.InvalidTable) (.ref A.InvalidGiven) = some false
  i_InvalidTable_InvalidMark : PySem.W.kitOne K (.ref A.InvalidTable) (.ref A.InvalidMark) = some false
  i_InvalidTable_InvalidNumber : PySem.W.kitOne K (.ref A.InvalidTable) (.ref A.InvalidNumber) = some false
  i_InvalidTable_InvalidRow : PySem.W.kitOne K (.ref A.InvalidTable) (.ref A.InvalidRow) = some false
  i_InvalidTable_InvalidRule : PySem.W.kitOne K (.ref A.InvalidTable) (.ref A.InvalidRule) = some false
  i_InvalidTable_InvalidRules : PySem.W.kitOne K (.ref A.InvalidTable) (.ref A.InvalidRules) = some false
  i_InvalidTable_InvalidSettled : PySem.W.kitOne K (.ref A.InvalidTable) (.ref A.InvalidSettled) = some false
  i_InvalidTable_InvalidTable : PySem.W.kitOne K (.ref A.InvalidTable) (.ref A.InvalidTable) = some true
  i_InvalidTable_InvalidValue : PySem.W.kitOne K (.ref A.InvalidTable) (.ref A.InvalidValue) = some false
  i_InvalidTable_InvalidView : PySem.W.kitOne K (.ref A.InvalidTable) (.ref A.InvalidView) = some false
  i_InvalidTable_NotACertificate : PySem.W.kitOne K (.ref A.InvalidTable) (.ref A.NotACertificate) = some false
  i_InvalidTable_NotAtPeace : PySem.W.kitOne K (.ref A.InvalidTable) (.ref A.NotAtPeace) = some false
  i_InvalidTable_RuleError : PySem.W.kitOne K (.ref A.InvalidTable) (.ref A.RuleError) = some true
  i_InvalidTable_ValueError : PySem.W.kitOne K (.ref A.InvalidTable) (.type "ValueError") = some true
  k_InvalidView : PySem.W.keepIn K (.ref A.InvalidView) = true
  x_InvalidView : PySem.W.excIn K A.InvalidView [.type "ValueError", .type "Exception", .type "BaseException", .type "object"] "ValueError.__new__" = true
  s_InvalidView : PySem.W.subIn K (.ref A.InvalidView) (.type "BaseException") = some true
  t_InvalidView : PySem.W.typeIn K (.ref A.InvalidView) = some (.type "type")
  e_InvalidView : ExcC K A.InvalidView
  m_InvalidView_RuleError : PySem.W.exmOne K (.ref A.InvalidView) (.ref A.RuleError) = some true
  i_InvalidView_AtWar : PySem.W.kitOne K (.ref A.InvalidView) (.ref A.AtWar) = some false
  i_InvalidView_Broken : PySem.W.kitOne K (.ref A.InvalidView) (.ref A.Broken) = some false
  i_InvalidView_Full : PySem.W.kitOne K (.ref A.InvalidView) (.ref A.Full) = some false
  i_InvalidView_InvalidCells : PySem.W.kitOne K (.ref A.InvalidView) (.ref A.InvalidCells) = some false
  i_InvalidView_InvalidColumns : PySem.W.kitOne K (.ref A.InvalidView) (.ref A.InvalidColumns) = some false
  i_InvalidView_InvalidGiven : PySem.W.kitOne K (.ref A.InvalidView) (.ref A.InvalidGiven) = some false
  i_InvalidView_InvalidMark : PySem.W.kitOne K (.ref A.InvalidView) (.ref A.InvalidMark) = some false
  i_InvalidView_InvalidNumber : PySem.W.kitOne K (.ref A.InvalidView) (.ref A.InvalidNumber) = some false
  i_InvalidView_InvalidRow : PySem.W.kitOne K (.ref A.InvalidView) (.ref A.InvalidRow) = some false
  i_InvalidView_InvalidRule : PySem.W.kitOne K (.ref A.InvalidView) (.ref A.InvalidRule) = some false
  i_InvalidView_InvalidRules : PySem.W.kitOne K (.ref A.InvalidView) (.ref A.InvalidRules) = some false
  i_InvalidView_InvalidSettled : PySem.W.kitOne K (.ref A.InvalidView) (.ref A.InvalidSettled) = some false
  i_InvalidView_InvalidTable : PySem.W.kitOne K (.ref A.InvalidView) (.ref A.InvalidTable) = some false
  i_InvalidView_InvalidValue : PySem.W.kitOne K (.ref A.InvalidView) (.ref A.InvalidValue) = some false
  i_InvalidView_InvalidView : PySem.W.kitOne K (.ref A.InvalidView) (.ref A.InvalidView) = some true
  i_InvalidView_NotACertificate : PySem.W.kitOne K (.ref A.InvalidView) (.ref A.NotACertificate) = some false
  i_InvalidView_NotAtPeace : PySem.W.kitOne K (.ref A.InvalidView) (.ref A.NotAtPeace) = some false
  i_InvalidView_RuleError : PySem.W.kitOne K (.ref A.InvalidView) (.ref A.RuleError) = some true
  i_InvalidView_ValueError : PySem.W.kitOne K (.ref A.InvalidView) (.type "ValueError") = some true
end L2.DL.K30
namespace L2.DL.K30
open PySem PySem.Spec
      PyProof.Rows
section
variable {P : Program} {w : World} {K : PySem.W.Frag} {mg : Str → Option Value} {base : Heap} {A : Cls}
/-! ### is_integer, is_number -/
abbrev w_is_integer : Wc := w1 (fun d => fine d = true) fun d => .bool (isInt d)
abbrev m_is_integer : Wc.Mono w_is_integer := w1.mono
theorem d_is_integer (T : Txt K mg A) (F : FunAt K mg "is_integer" s_is_integer ["value"]) : Def P w K mg base "is_integer" 1 ["value"] w_is_integer := by
  refine defD F sc_is_integer (fun ds k Q x h => w1.len h) fun f cdv A outer s H E p G hg hr => ⟨_, (dss_one (ds_ret (de_and (de_isi (T := "int") (de_var (pv 0)) T.z_isinstance T.z_int (by decide +kernel)) (de_one (de_not (de_isi (T := "bool") (de_var (pv 0)) T.z_isinstance T.z_bool (by decide +kernel))))))), ?_⟩
  rintro ds n Q x ⟨a, rfl, ha, q⟩
  simp only [wRet, wSet, wSeq, wNext, wDrop, wIfS, wTest, wAnd, wOr, wNot, wIf, wBin, wVar, wC, wAndV, wOrV, wNotV, wIsN, wNotN, wNeg, wChain, wNil, wCons, wTup, wLst, wBi, wCall, wIsi, wSl, wSo, wNo, wSeqI, wFor, gNm, gTp, puts, wAsg, wPar, wMul, wmD, wmO, putsI, wAug, wTryIs, wRng1, wRng2, wEnum, wEnumT, wZip, wLc, wYes, wLend, wRel, wOwn, wApp, wIns, wSetIx, wLstF, wListF, wRepF, wAddF, wSlS, wParO, wRevT, wSortedSet, wSortedSetL, wSortedSetT, wKeys, weI, wExt, allD, wMt, wRaise, wSeqO, wCallF, plainO, wCallA, wIdx0, wAnF, wSetA, wUnA, wSeqA, plainA, wFld, wFldO, wMake, wLRg, Ans.data, Ans.own.injEq, Ans.tup.injEq, Ans.dat.injEq, wTry, wTryM, wHs, wIsC, enOf, put, putUn, defEnds, lendE, lend, wipeE, hide, lenD, intD, listD, tupleD, reprD, wPen0, wPen1, wPen2, wPenS1, wPenS2, penAt, List.map_cons, List.map_nil, List.length_cons, List.length_nil, List.nil_append, List.cons_append, Nat.reduceAdd, Nat.reduceSub, Nat.reduceLeDiff, Nat.zero_add, List.replicate_zero, List.replicate_succ, List.getElem?_cons_zero, List.getElem?_cons_succ, List.set_cons_zero, List.set_cons_succ, Option.some.injEq, Slot.dat.injEq, Slot.own.injEq, PyData.bool.injEq, PyData.int.injEq, PyData.tuple.injEq, PyData.list.injEq, exists_eq_left', exists_eq_left, and_true, true_and, if_true, if_false, Bool.false_eq_true, reduceCtorEq, List.mapIdx_cons, List.mapIdx_nil, kit_int ha, kit_bool ha]
  cases a <;> first | exact ⟨fine.nd ha, fine.nd ha, q⟩ | exact ⟨fine.nd ha, q⟩
def numB (d m : D) : Bool := match d, m with | .int v, .int n => decide (0 ≤ v) && decide (v < n) | _, _ => false
abbrev w_is_number : Wc := w2 (fun d m => fine d = true ∧ ∃ i, m = .int i) fun d m => .bool (numB d m)
abbrev m_is_number : Wc.Mono w_is_number := w2.mono
theorem d_is_number (d_is_integer : Def P w K mg base "is_integer" 1 ["value"] w_is_integer) (F : FunAt K mg "is_number" s_is_number ["value", "limit"]) : Def P w K mg base "is_number" 2 ["value", "limit"] w_is_number := by
  refine defD F sc_is_number (fun ds k Q x h => w2.len h) fun f cdv A outer s H E p G hg hr => ⟨_, (dss_one (ds_ret (de_and (de_fn d_is_integer m_is_integer hg hr (takes_of rfl rfl rfl rfl) (da_cons (de_var (pv 0)) da_nil)) (de_one (de_chain op_le op_lt cmpD.mono cmpD.mono fitsCmp fitsCmp de_int (de_var (pv 0)) (de_var (pv 1))))))), ?_⟩
  rintro ds n Q x ⟨a, b, rfl, ⟨ha, i, rfl⟩, q⟩
  simp only [wRet, wSet, wSeq, wNext, wDrop, wIfS, wTest, wAnd, wOr, wNot, wIf, wBin, wVar, wC, wAndV, wOrV, wNotV, wIsN, wNotN, wNeg, wChain, wNil, wCons, wTup, wLst, wBi, wCall, wIsi, wSl, wSo, wNo, wSeqI, wFor, gNm, gTp, puts, wAsg, wPar, wMul, wmD, wmO, putsI, wAug, wTryIs, wRng1, wRng2, wEnum, wEnumT, wZip, wLc, wYes, wLend, wRel, wOwn, wApp, wIns, wSetIx, wLstF, wListF, wRepF, wAddF, wSlS, wParO, wRevT, wSortedSet, wSortedSetL, wSortedSetT, wKeys, weI, wExt, allD, wMt, wRaise, wSeqO, wCallF, plainO, wCallA, wIdx0, wAnF, wSetA, wUnA, wSeqA, plainA, wFld, wFldO, wMake, wLRg, Ans.data, Ans.own.injEq, Ans.tup.injEq, Ans.dat.injEq, wTry, wTryM, wHs, wIsC, enOf, put, putUn, defEnds, lendE, lend, wipeE, hide, lenD, intD, listD, tupleD, reprD, wPen0, wPen1, wPen2, wPenS1, wPenS2, penAt, List.map_cons, List.map_nil, List.length_cons, List.length_nil, List.nil_append, List.cons_append, Nat.reduceAdd, Nat.reduceSub, Nat.reduceLeDiff, Nat.zero_add, List.replicate_zero, List.replicate_succ, List.getElem?_cons_zero, List.getElem?_cons_succ, List.set_cons_zero, List.set_cons_succ, Option.some.injEq, Slot.dat.injEq, Slot.own.injEq, PyData.bool.injEq, PyData.int.injEq, PyData.tuple.injEq, PyData.list.injEq, exists_eq_left', exists_eq_left, and_true, true_and, if_true, if_false, Bool.false_eq_true, reduceCtorEq, List.mapIdx_cons, List.mapIdx_nil]
  refine ⟨a, rfl, ha, ?_⟩
  cases a with
  | int v =>
    simp only [isInt, cmpD, numB] at q ⊢
    refine ⟨true, rfl, ?_⟩
    simp only [if_true]
    refine ⟨_, rfl, ?_⟩
    by_cases h : 0 ≤ v
    · simp only [h, decide_true, Bool.true_and, if_true] at q ⊢
      exact q
    · simp only [h, decide_false, Bool.false_and, if_false] at q ⊢
      exact q
  | _ => exact ⟨false, rfl, q⟩
/-! ### is_value_of -/
def inCol (c v : D) : Bool := match c with | .none => true | .tuple xs => inB v xs | _ => false
def valB (c v : D) : Bool := match v with | .int i => decide (0 ≤ i) && inCol c v | _ => false
/-- a column, or near one -/
def colish (c : D) : Prop := c = .none ∨ ∃ xs, c = .tuple xs ∧ Good c
abbrev w_is_value_of : Wc := w2 (fun c v => colish c ∧ Good v) fun c v => .bool (valB c v)
abbrev m_is_value_of : Wc.Mono w_is_value_of := w2.mono
theorem d_is_value_of (d_is_integer : Def P w K mg base "is_integer" 1 ["value"] w_is_integer) (F : FunAt K mg "is_value_of" s_is_value_of ["column", "value"]) : Def P w K mg base "is_value_of" 2 ["column", "value"] w_is_value_of := by
  refine defD F sc_is_value_of (fun ds k Q x h => w2.len h) fun f cdv A outer s H E p G hg hr => ⟨_, (dss_cons (ds_if (DW.dt (dw_or (dt_not (dt_val (de_fn d_is_integer m_is_integer hg hr (takes_of rfl rfl rfl rfl) (da_cons (de_var (pv 1)) da_nil)))) (dw_or1 (dt_cmp op_lt cmpD.mono fitsCmp (de_var (pv 1)) de_int))))
    (dss_one (ds_ret de_bl))
    dss_nil)
    (dss_one (ds_ret (de_or (de_isN (de_var (pv 0))) (de_one (de_cmp (op_inA (hr65 hr)) inD.mono fitsIn (de_var (pv 1)) (de_var (pv 0)))))))), ?_⟩
  rintro ds n Q x ⟨a, b, rfl, ⟨hc, hv⟩, q⟩
  simp only [wRet, wSet, wSeq, wNext, wDrop, wIfS, wTest, wAnd, wOr, wNot, wIf, wBin, wVar, wC, wAndV, wOrV, wNotV, wIsN, wNotN, wNeg, wChain, wNil, wCons, wTup, wLst, wBi, wCall, wIsi, wSl, wSo, wNo, wSeqI, wFor, gNm, gTp, puts, wAsg, wPar, wMul, wmD, wmO, putsI, wAug, wTryIs, wRng1, wRng2, wEnum, wEnumT, wZip, wLc, wYes, wLend, wRel, wOwn, wApp, wIns, wSetIx, wLstF, wListF, wRepF, wAddF, wSlS, wParO, wRevT, wSortedSet, wSortedSetL, wSortedSetT, wKeys, weI, wExt, allD, wMt, wRaise, wSeqO, wCallF, plainO, wCallA, wIdx0, wAnF, wSetA, wUnA, wSeqA, plainA, wFld, wFldO, wMake, wLRg, Ans.data, Ans.own.injEq, Ans.tup.injEq, Ans.dat.injEq, wTry, wTryM, wHs, wIsC, enOf, put, putUn, defEnds, lendE, lend, wipeE, hide, lenD, intD, listD, tupleD, reprD, wPen0, wPen1, wPen2, wPenS1, wPenS2, penAt, List.map_cons, List.map_nil, List.length_cons, List.length_nil, List.nil_append, List.cons_append, Nat.reduceAdd, Nat.reduceSub, Nat.reduceLeDiff, Nat.zero_add, List.replicate_zero, List.replicate_succ, List.getElem?_cons_zero, List.getElem?_cons_succ, List.set_cons_zero, List.set_cons_succ, Option.some.injEq, Slot.dat.injEq, Slot.own.injEq, PyData.bool.injEq, PyData.int.injEq, PyData.tuple.injEq, PyData.list.injEq, exists_eq_left', exists_eq_left, and_true, true_and, if_true, if_false, Bool.false_eq_true, reduceCtorEq, List.mapIdx_cons, List.mapIdx_nil]
  refine ⟨b, rfl, hv.f, ?_⟩
  cases b with
  | int v =>
    simp only [isInt, cmpD, valB, Bool.not_true] at q ⊢
    refine ⟨true, rfl, ?_⟩
    simp only [Bool.not_true, if_false, Bool.false_eq_true]
    refine ⟨_, rfl, ?_⟩
    by_cases h : v < 0
    · have h' : ¬ 0 ≤ v := by omega
      simp only [h, h', decide_true, decide_false, Bool.false_and, if_true] at q ⊢
      exact q
    · have h' : 0 ≤ v := by omega
      simp only [h, h', decide_true, decide_false, Bool.true_and, if_false, Bool.false_eq_true] at q ⊢
      rcases hc with rfl | ⟨xs, rfl, g⟩
      · exact q
      · exact ⟨hv, g, xs, rfl, q⟩
  | _ => exact ⟨false, rfl, q⟩
end
end L2.DL.K30
namespace L2.DL.K30
open PySem PySem.Spec
      PyProof.Rows
section
variable {P : Program} {w : World} {K : PySem.W.Frag} {mg : Str → Option Value} {base : Heap} {A : Cls}
/-! ### is_closed -/
def ascB : Int → List D → Bool
  | _, [] => true
  | l, .int i :: r => decide (l < i) && ascB i r
  | _, _ :: _ => false
def closedB : D → Bool
  | .tuple xs => decide (1 ≤ xs.length) && decide (xs.length ≤ 3) && ascB (-1) xs
  | _ => false
abbrev w_is_closed : Wc := w1 (fun d => Good d) fun d => .bool (closedB d)
abbrev m_is_closed : Wc.Mono w_is_closed := w1.mono
theorem d_is_closed (T : Txt K mg A) (d_is_integer : Def P w K mg base "is_integer" 1 ["value"] w_is_integer) (F : FunAt K mg "is_closed" s_is_closed ["value"]) : Def P w K mg base "is_closed" 2 ["value"] w_is_closed := by
  obtain ⟨_, cc_MOST_VALUES⟩ := T.c_MOST_VALUES
  refine defD F sc_is_closed (fun ds k Q x h => w1.len h) fun f cdv Ar outer s H E p G hg hr => ⟨_, (dss_cons (ds_if (DW.dt (dw_or (dt_not (dt_val (de_isi (T := "tuple") (de_var (pv 0)) T.z_isinstance T.z_tuple (by decide +kernel)))) (dw_or1 (dt_not (dt_chain op_le op_le cmpD.mono cmpD.mono fitsCmp fitsCmp de_int (de_bi lenD.mono fitsLen call_len_seq (da_cons (de_var (pv 0)) da_nil) T.z_len) (de_const cc_MOST_VALUES))))))
    (dss_one (ds_ret de_bl))
    dss_nil)
    (dss_cons (ds_set (i := 1) (de_neg de_int) sc_is_closed.nd)
    (dss_cons (ds_for (passes_of rfl) rfl (di_seq (de_var (pv 0))) (dg_nm (i := 2) sc_is_closed.nd)
    (dss_cons (ds_if (DW.dt (dw_or (dt_not (dt_val (de_fn d_is_integer m_is_integer hg hr (takes_of rfl rfl rfl rfl) (da_cons (de_var (pv 2)) da_nil)))) (dw_or1 (dt_cmp op_le cmpD.mono fitsCmp (de_var (pv 2)) (de_var (pv 1))))))
    (dss_one (ds_ret de_bl))
    dss_nil)
    (dss_one (ds_set (i := 1) (de_var (pv 2)) sc_is_closed.nd))))
    (dss_one (ds_ret de_bl))))), ?_⟩
  rintro ds n Q x ⟨a, rfl, ha, q⟩
  simp only [wRet, wSet, wSeq, wNext, wDrop, wIfS, wTest, wAnd, wOr, wNot, wIf, wBin, wVar, wC, wAndV, wOrV, wNotV, wIsN, wNotN, wNeg, wChain, wNil, wCons, wTup, wLst, wBi, wCall, wIsi, wSl, wSo, wNo, wSeqI, wFor, gNm, gTp, puts, wAsg, wPar, wMul, wmD, wmO, putsI, wAug, wTryIs, wRng1, wRng2, wEnum, wEnumT, wZip, wLc, wYes, wLend, wRel, wOwn, wApp, wIns, wSetIx, wLstF, wListF, wRepF, wAddF, wSlS, wParO, wRevT, wSortedSet, wSortedSetL, wSortedSetT, wKeys, weI, wExt, allD, wMt, wRaise, wSeqO, wCallF, plainO, wCallA, wIdx0, wAnF, wSetA, wUnA, wSeqA, plainA, wFld, wFldO, wMake, wLRg, Ans.data, Ans.own.injEq, Ans.tup.injEq, Ans.dat.injEq, wTry, wTryM, wHs, wIsC, enOf, put, putUn, defEnds, lendE, lend, wipeE, hide, lenD, intD, listD, tupleD, reprD, wPen0, wPen1, wPen2, wPenS1, wPenS2, penAt, List.map_cons, List.map_nil, List.length_cons, List.length_nil, List.nil_append, List.cons_append, Nat.reduceAdd, Nat.reduceSub, Nat.reduceLeDiff, Nat.zero_add, List.replicate_zero, List.replicate_succ, List.getElem?_cons_zero, List.getElem?_cons_succ, List.set_cons_zero, List.set_cons_succ, Option.some.injEq, Slot.dat.injEq, Slot.own.injEq, PyData.bool.injEq, PyData.int.injEq, PyData.tuple.injEq, PyData.list.injEq, exists_eq_left', exists_eq_left, and_true, true_and, if_true, if_false, Bool.false_eq_true, reduceCtorEq, List.mapIdx_cons, List.mapIdx_nil, kit_tuple ha.f]
  refine ⟨fine.nd ha.f, ?_⟩
  cases a with
  | tuple xs =>
    simp only [isT, Bool.not_true, if_false, Bool.false_eq_true, closedB, cmpD] at q ⊢
    by_cases h1 : 1 ≤ xs.length
    · have h1' : (1 : Int) ≤ xs.length := by omega
      refine ⟨_, rfl, ?_⟩
      simp only [h1, h1', decide_true, Bool.true_and, if_true] at q ⊢
      refine ⟨_, rfl, ?_⟩
      by_cases h3 : xs.length ≤ 3
      · have h3' : (xs.length : Int) ≤ 3 := by omega
        simp only [h3, h3', decide_true, Bool.true_and, Bool.not_true, if_false, Bool.false_eq_true] at q ⊢
        refine ⟨xs, rfl, ?_⟩
        refine wLoop.ind (fun ds e => ∃ l u, e = ⟨[.dat (.tuple xs), .dat (.int l), u], n⟩ ∧ Q (.bool (ascB l ds)) n ∧ ∀ d ∈ ds, fine d = true) ?_ ?_ ⟨-1, .un, rfl, q, fun d hd => (ha.in_tuple d hd).f⟩
        · rintro e ⟨l, u, rfl, q, _⟩
          exact q
        · rintro d ds e ih ⟨l, u, rfl, q, hf⟩
          simp only [wRet, wSet, wSeq, wNext, wDrop, wIfS, wTest, wAnd, wOr, wNot, wIf, wBin, wVar, wC, wAndV, wOrV, wNotV, wIsN, wNotN, wNeg, wChain, wNil, wCons, wTup, wLst, wBi, wCall, wIsi, wSl, wSo, wNo, wSeqI, wFor, gNm, gTp, puts, wAsg, wPar, wMul, wmD, wmO, putsI, wAug, wTryIs, wRng1, wRng2, wEnum, wEnumT, wZip, wLc, wYes, wLend, wRel, wOwn, wApp, wIns, wSetIx, wLstF, wListF, wRepF, wAddF, wSlS, wParO, wRevT, wSortedSet, wSortedSetL, wSortedSetT, wKeys, weI, wExt, allD, wMt, wRaise, wSeqO, wCallF, plainO, wCallA, wIdx0, wAnF, wSetA, wUnA, wSeqA, plainA, wFld, wFldO, wMake, wLRg, Ans.data, Ans.own.injEq, Ans.tup.injEq, Ans.dat.injEq, wTry, wTryM, wHs, wIsC, enOf, put, putUn, defEnds, lendE, lend, wipeE, hide, lenD, intD, listD, tupleD, reprD, wPen0, wPen1, wPen2, wPenS1, wPenS2, penAt, List.map_cons, List.map_nil, List.length_cons, List.length_nil, List.nil_append, List.cons_append, Nat.reduceAdd, Nat.reduceSub, Nat.reduceLeDiff, Nat.zero_add, List.replicate_zero, List.replicate_succ, List.getElem?_cons_zero, List.getElem?_cons_succ, List.set_cons_zero, List.set_cons_succ, Option.some.injEq, Slot.dat.injEq, Slot.own.injEq, PyData.bool.injEq, PyData.int.injEq, PyData.tuple.injEq, PyData.list.injEq, exists_eq_left', exists_eq_left, and_true, true_and, if_true, if_false, Bool.false_eq_true, reduceCtorEq, List.mapIdx_cons, List.mapIdx_nil]
          have hd := hf d List.mem_cons_self
          refine ⟨d, rfl, hd, ?_⟩
          cases d with
          | int v =>
            simp only [isInt, cmpD, ascB] at q ⊢
            refine ⟨_, rfl, ?_⟩
            simp only [Bool.not_true, if_false, Bool.false_eq_true]
            refine ⟨_, rfl, ?_⟩
            by_cases hv : v ≤ l
            · have hv' : ¬ l < v := by omega
              simp only [hv, hv', decide_true, decide_false, Bool.false_and, if_true] at q ⊢
              exact q
            · have hv' : l < v := by omega
              simp only [hv, hv', decide_true, decide_false, Bool.true_and, if_false, Bool.false_eq_true] at q ⊢
              exact ih _ ⟨v, _, rfl, q, fun d hd => hf d (List.mem_cons_of_mem _ hd)⟩
          | _ => exact ⟨_, rfl, q⟩
      · have h3' : ¬ (xs.length : Int) ≤ 3 := by omega
        simp only [h3, h3', decide_false, Bool.false_and, Bool.not_false, if_true] at q ⊢
        exact q
    · have h1' : ¬ (1 : Int) ≤ xs.length := by omega
      refine ⟨_, rfl, ?_⟩
      simp only [h1, h1', decide_false, Bool.false_and, Bool.not_false, if_true, if_false, Bool.false_eq_true] at q ⊢
      exact q
  | _ => exact q
end
end L2.DL.K30
namespace L2.DL.K30
open PySem PySem.Spec
      PyProof.Rows
section
variable {P : Program} {w : World} {K : PySem.W.Frag} {mg : Str → Option Value} {base : Heap} {A : Cls}
/-! ### is_columns -/
def colsB : D → Bool
  | .tuple xs => decide (1 ≤ xs.length) && decide (xs.length ≤ 4) && ((xs.filterMap fun d => if isN d = true then none else some d).all closedB && decide ((xs.filterMap fun d => if isN d = true then none else some d).length ≤ 2))
  | _ => false
abbrev w_is_columns : Wc := w1 (fun d => Good d) fun d => .bool (colsB d)
abbrev m_is_columns : Wc.Mono w_is_columns := w1.mono
theorem d_is_columns (T : Txt K mg A) (d_is_closed : Def P w K mg base "is_closed" 2 ["value"] w_is_closed) (F : FunAt K mg "is_columns" s_is_columns ["value"]) : Def P w K mg base "is_columns" 3 ["value"] w_is_columns := by
  obtain ⟨_, cc_MOST_COLUMNS⟩ := T.c_MOST_COLUMNS
  obtain ⟨_, cc_MOST_CLOSED⟩ := T.c_MOST_CLOSED
  refine defD F sc_is_columns (fun ds k Q x h => w1.len h) fun f cdv Ar outer s H E p G hg hr => ⟨_, (dss_cons (ds_if (DW.dt (dw_or (dt_not (dt_val (de_isi (T := "tuple") (de_var (pv 0)) T.z_isinstance T.z_tuple (by decide +kernel)))) (dw_or1 (dt_not (dt_chain op_le op_le cmpD.mono cmpD.mono fitsCmp fitsCmp de_int (de_bi lenD.mono fitsLen call_len_seq (da_cons (de_var (pv 0)) da_nil) T.z_len) (de_const cc_MOST_COLUMNS))))))
    (dss_one (ds_ret de_bl))
    dss_nil)
    (dss_cons (ds_setLc (i := 1) (own := [("column", 2)]) rfl sc_is_columns.nd (di_seq (de_var (pv 0))) (blkOk_by (N := ["value", "closed", "column"]) (sc := defScope s_is_columns) (by decide +kernel)) (fun _ _ _ _ _ _ _ => (dgc_nm (i := 2) sc_is_columns.nd (by decide))) (fun _ _ _ _ _ _ _ => (dts_one (dt_notN (de_var (pv 2))))) (fun _ _ _ _ _ _ _ => (de_var (pv 2))) (sw_true rfl rfl rfl (by decide +kernel)))
    (dss_cons (ds_for (passes_of rfl) rfl (di_seq (de_var (pv 1))) (dg_nm (i := 2) sc_is_columns.nd)
    (dss_one (ds_if (dt_not (dt_val (de_fn d_is_closed m_is_closed hg hr (takes_of rfl rfl rfl rfl) (da_cons (de_var (pv 2)) da_nil))))
    (dss_one (ds_ret de_bl))
    dss_nil)))
    (dss_one (ds_ret (de_cmp op_le cmpD.mono fitsCmp (de_bi lenD.mono fitsLen call_len_seq (da_cons (de_var (pv 1)) da_nil) T.z_len) (de_const cc_MOST_CLOSED))))))), ?_⟩
  rintro ds n Q x ⟨a, rfl, ha, q⟩
  simp only [wRet, wSet, wSeq, wNext, wDrop, wIfS, wTest, wAnd, wOr, wNot, wIf, wBin, wVar, wC, wAndV, wOrV, wNotV, wIsN, wNotN, wNeg, wChain, wNil, wCons, wTup, wLst, wBi, wCall, wIsi, wSl, wSo, wNo, wSeqI, wFor, gNm, gTp, puts, wAsg, wPar, wMul, wmD, wmO, putsI, wAug, wTryIs, wRng1, wRng2, wEnum, wEnumT, wZip, wLc, wYes, wLend, wRel, wOwn, wApp, wIns, wSetIx, wLstF, wListF, wRepF, wAddF, wSlS, wParO, wRevT, wSortedSet, wSortedSetL, wSortedSetT, wKeys, weI, wExt, allD, wMt, wRaise, wSeqO, wCallF, plainO, wCallA, wIdx0, wAnF, wSetA, wUnA, wSeqA, plainA, wFld, wFldO, wMake, wLRg, Ans.data, Ans.own.injEq, Ans.tup.injEq, Ans.dat.injEq, wTry, wTryM, wHs, wIsC, enOf, put, putUn, defEnds, lendE, lend, wipeE, hide, lenD, intD, listD, tupleD, reprD, wPen0, wPen1, wPen2, wPenS1, wPenS2, penAt, List.map_cons, List.map_nil, List.length_cons, List.length_nil, List.nil_append, List.cons_append, Nat.reduceAdd, Nat.reduceSub, Nat.reduceLeDiff, Nat.zero_add, List.replicate_zero, List.replicate_succ, List.getElem?_cons_zero, List.getElem?_cons_succ, List.set_cons_zero, List.set_cons_succ, Option.some.injEq, Slot.dat.injEq, Slot.own.injEq, PyData.bool.injEq, PyData.int.injEq, PyData.tuple.injEq, PyData.list.injEq, exists_eq_left', exists_eq_left, and_true, true_and, if_true, if_false, Bool.false_eq_true, reduceCtorEq, List.mapIdx_cons, List.mapIdx_nil, kit_tuple ha.f]
  refine ⟨fine.nd ha.f, ?_⟩
  cases a with
  | tuple xs =>
    simp only [isT, Bool.not_true, if_false, Bool.false_eq_true, colsB, cmpD] at q ⊢
    by_cases h1 : 1 ≤ xs.length
    · have h1' : (1 : Int) ≤ xs.length := by omega
      refine ⟨_, rfl, ?_⟩
      simp only [h1, h1', decide_true, Bool.true_and, if_true] at q ⊢
      refine ⟨_, rfl, ?_⟩
      by_cases h3 : xs.length ≤ 4
      · have h3' : (xs.length : Int) ≤ 4 := by omega
        simp only [h3, h3', decide_true, Bool.true_and, Bool.not_true, if_false, Bool.false_eq_true] at q ⊢
        refine ⟨xs, rfl, ?_⟩
        refine lcLoop.fm (fun d => if isN d = true then none else some d) (fun d hd A B h1 h2 => ?_) (by simp only [List.length_nil]; omega) ?_
        · simp only [wRet, wSet, wSeq, wNext, wDrop, wIfS, wTest, wAnd, wOr, wNot, wIf, wBin, wVar, wC, wAndV, wOrV, wNotV, wIsN, wNotN, wNeg, wChain, wNil, wCons, wTup, wLst, wBi, wCall, wIsi, wSl, wSo, wNo, wSeqI, wFor, gNm, gTp, puts, wAsg, wPar, wMul, wmD, wmO, putsI, wAug, wTryIs, wRng1, wRng2, wEnum, wEnumT, wZip, wLc, wYes, wLend, wRel, wOwn, wApp, wIns, wSetIx, wLstF, wListF, wRepF, wAddF, wSlS, wParO, wRevT, wSortedSet, wSortedSetL, wSortedSetT, wKeys, weI, wExt, allD, wMt, wRaise, wSeqO, wCallF, plainO, wCallA, wIdx0, wAnF, wSetA, wUnA, wSeqA, plainA, wFld, wFldO, wMake, wLRg, Ans.data, Ans.own.injEq, Ans.tup.injEq, Ans.dat.injEq, wTry, wTryM, wHs, wIsC, enOf, put, putUn, defEnds, lendE, lend, wipeE, hide, lenD, intD, listD, tupleD, reprD, wPen0, wPen1, wPen2, wPenS1, wPenS2, penAt, List.map_cons, List.map_nil, List.length_cons, List.length_nil, List.nil_append, List.cons_append, Nat.reduceAdd, Nat.reduceSub, Nat.reduceLeDiff, Nat.zero_add, List.replicate_zero, List.replicate_succ, List.getElem?_cons_zero, List.getElem?_cons_succ, List.set_cons_zero, List.set_cons_succ, Option.some.injEq, Slot.dat.injEq, Slot.own.injEq, PyData.bool.injEq, PyData.int.injEq, PyData.tuple.injEq, PyData.list.injEq, exists_eq_left', exists_eq_left, and_true, true_and, if_true, if_false, Bool.false_eq_true, reduceCtorEq, List.mapIdx_cons, List.mapIdx_nil]
          cases hn : isN d with
          | true => exact h1 (by rw [hn]; rfl)
          | false => exact h2 d (by rw [hn]; rfl)
        · simp only [wRet, wSet, wSeq, wNext, wDrop, wIfS, wTest, wAnd, wOr, wNot, wIf, wBin, wVar, wC, wAndV, wOrV, wNotV, wIsN, wNotN, wNeg, wChain, wNil, wCons, wTup, wLst, wBi, wCall, wIsi, wSl, wSo, wNo, wSeqI, wFor, gNm, gTp, puts, wAsg, wPar, wMul, wmD, wmO, putsI, wAug, wTryIs, wRng1, wRng2, wEnum, wEnumT, wZip, wLc, wYes, wLend, wRel, wOwn, wApp, wIns, wSetIx, wLstF, wListF, wRepF, wAddF, wSlS, wParO, wRevT, wSortedSet, wSortedSetL, wSortedSetT, wKeys, weI, wExt, allD, wMt, wRaise, wSeqO, wCallF, plainO, wCallA, wIdx0, wAnF, wSetA, wUnA, wSeqA, plainA, wFld, wFldO, wMake, wLRg, Ans.data, Ans.own.injEq, Ans.tup.injEq, Ans.dat.injEq, wTry, wTryM, wHs, wIsC, enOf, put, putUn, defEnds, lendE, lend, wipeE, hide, lenD, intD, listD, tupleD, reprD, wPen0, wPen1, wPen2, wPenS1, wPenS2, penAt, List.map_cons, List.map_nil, List.length_cons, List.length_nil, List.nil_append, List.cons_append, Nat.reduceAdd, Nat.reduceSub, Nat.reduceLeDiff, Nat.zero_add, List.replicate_zero, List.replicate_succ, List.getElem?_cons_zero, List.getElem?_cons_succ, List.set_cons_zero, List.set_cons_succ, Option.some.injEq, Slot.dat.injEq, Slot.own.injEq, PyData.bool.injEq, PyData.int.injEq, PyData.tuple.injEq, PyData.list.injEq, exists_eq_left', exists_eq_left, and_true, true_and, if_true, if_false, Bool.false_eq_true, reduceCtorEq, List.mapIdx_cons, List.mapIdx_nil]
          refine ⟨_, rfl, ?_⟩
          have hg' : ∀ d ∈ xs.filterMap (fun d => if isN d = true then none else some d), Good d := fun d hd => by
            obtain ⟨e, he, h⟩ := List.mem_filterMap.mp hd
            split at h
            · cases h
            · cases h; exact ha.in_tuple _ he
          generalize xs.filterMap (fun d => if isN d = true then none else some d) = cs at q hg' ⊢
          refine wLoop.ind (fun ds e => ∃ u, e = ⟨[.dat (.tuple xs), .dat (.list cs), u], n⟩ ∧ Q (.bool (ds.all closedB && decide (cs.length ≤ 2))) n ∧ ∀ d ∈ ds, Good d) ?_ ?_ ⟨.un, rfl, q, hg'⟩
          · rintro e ⟨u, rfl, q, _⟩
            simp only [wRet, wSet, wSeq, wNext, wDrop, wIfS, wTest, wAnd, wOr, wNot, wIf, wBin, wVar, wC, wAndV, wOrV, wNotV, wIsN, wNotN, wNeg, wChain, wNil, wCons, wTup, wLst, wBi, wCall, wIsi, wSl, wSo, wNo, wSeqI, wFor, gNm, gTp, puts, wAsg, wPar, wMul, wmD, wmO, putsI, wAug, wTryIs, wRng1, wRng2, wEnum, wEnumT, wZip, wLc, wYes, wLend, wRel, wOwn, wApp, wIns, wSetIx, wLstF, wListF, wRepF, wAddF, wSlS, wParO, wRevT, wSortedSet, wSortedSetL, wSortedSetT, wKeys, weI, wExt, allD, wMt, wRaise, wSeqO, wCallF, plainO, wCallA, wIdx0, wAnF, wSetA, wUnA, wSeqA, plainA, wFld, wFldO, wMake, wLRg, Ans.data, Ans.own.injEq, Ans.tup.injEq, Ans.dat.injEq, wTry, wTryM, wHs, wIsC, enOf, put, putUn, defEnds, lendE, lend, wipeE, hide, lenD, intD, listD, tupleD, reprD, wPen0, wPen1, wPen2, wPenS1, wPenS2, penAt, List.map_cons, List.map_nil, List.length_cons, List.length_nil, List.nil_append, List.cons_append, Nat.reduceAdd, Nat.reduceSub, Nat.reduceLeDiff, Nat.zero_add, List.replicate_zero, List.replicate_succ, List.getElem?_cons_zero, List.getElem?_cons_succ, List.set_cons_zero, List.set_cons_succ, Option.some.injEq, Slot.dat.injEq, Slot.own.injEq, PyData.bool.injEq, PyData.int.injEq, PyData.tuple.injEq, PyData.list.injEq, exists_eq_left', exists_eq_left, and_true, true_and, if_true, if_false, Bool.false_eq_true, reduceCtorEq, List.mapIdx_cons, List.mapIdx_nil, cmpD]
            simp only [List.all_nil, Bool.true_and] at q
            have e1 : decide ((cs.length : Int) ≤ 2) = decide (cs.length ≤ 2) := by
              by_cases h : cs.length ≤ 2
              · rw [decide_eq_true h, decide_eq_true (by omega)]
              · rw [decide_eq_false h, decide_eq_false (by omega)]
            rw [e1]
            exact q
          · rintro d ds e ih ⟨u, rfl, q, hf⟩
            simp only [wRet, wSet, wSeq, wNext, wDrop, wIfS, wTest, wAnd, wOr, wNot, wIf, wBin, wVar, wC, wAndV, wOrV, wNotV, wIsN, wNotN, wNeg, wChain, wNil, wCons, wTup, wLst, wBi, wCall, wIsi, wSl, wSo, wNo, wSeqI, wFor, gNm, gTp, puts, wAsg, wPar, wMul, wmD, wmO, putsI, wAug, wTryIs, wRng1, wRng2, wEnum, wEnumT, wZip, wLc, wYes, wLend, wRel, wOwn, wApp, wIns, wSetIx, wLstF, wListF, wRepF, wAddF, wSlS, wParO, wRevT, wSortedSet, wSortedSetL, wSortedSetT, wKeys, weI, wExt, allD, wMt, wRaise, wSeqO, wCallF, plainO, wCallA, wIdx0, wAnF, wSetA, wUnA, wSeqA, plainA, wFld, wFldO, wMake, wLRg, Ans.data, Ans.own.injEq, Ans.tup.injEq, Ans.dat.injEq, wTry, wTryM, wHs, wIsC, enOf, put, putUn, defEnds, lendE, lend, wipeE, hide, lenD, intD, listD, tupleD, reprD, wPen0, wPen1, wPen2, wPenS1, wPenS2, penAt, List.map_cons, List.map_nil, List.length_cons, List.length_nil, List.nil_append, List.cons_append, Nat.reduceAdd, Nat.reduceSub, Nat.reduceLeDiff, Nat.zero_add, List.replicate_zero, List.replicate_succ, List.getElem?_cons_zero, List.getElem?_cons_succ, List.set_cons_zero, List.set_cons_succ, Option.some.injEq, Slot.dat.injEq, Slot.own.injEq, PyData.bool.injEq, PyData.int.injEq, PyData.tuple.injEq, PyData.list.injEq, exists_eq_left', exists_eq_left, and_true, true_and, if_true, if_false, Bool.false_eq_true, reduceCtorEq, List.mapIdx_cons, List.mapIdx_nil]
            have hd := hf d List.mem_cons_self
            refine ⟨d, rfl, hd, ?_⟩
            refine ⟨_, rfl, ?_⟩
            rw [List.all_cons] at q
            cases hc : closedB d with
            | true =>
              rw [hc] at q
              simp only [Bool.not_true, if_false, Bool.false_eq_true, Bool.true_and] at q ⊢
              exact ih _ ⟨_, rfl, q, fun d hd => hf d (List.mem_cons_of_mem _ hd)⟩
            | false =>
              rw [hc] at q
              exact q
      · have h3' : ¬ (xs.length : Int) ≤ 4 := by omega
        simp only [h3, h3', decide_false, Bool.false_and, Bool.not_false, if_true] at q ⊢
        exact q
    · have h1' : ¬ (1 : Int) ≤ xs.length := by omega
      refine ⟨_, rfl, ?_⟩
      simp only [h1, h1', decide_false, Bool.false_and, Bool.not_false, if_true, if_false, Bool.false_eq_true] at q ⊢
      exact q
  | _ => exact q
/-! ### row_is_right -/
def rowB (cs : List D) : D → Bool
  | .tuple xs => decide (xs.length = cs.length) && (pairs cs xs).all fun | .tuple [c, v] => valB c v | _ => false
  | _ => false
abbrev w_row_is_right : Wc := w2 (fun c v => ∃ cs, c = .tuple cs ∧ (∀ d ∈ cs, colish d) ∧ Good v) fun c v => .bool (match c with | .tuple cs => rowB cs v | _ => false)
abbrev m_row_is_right : Wc.Mono w_row_is_right := w2.mono
theorem d_row_is_right (T : Txt K mg A) (d_is_value_of : Def P w K mg base "is_value_of" 2 ["column", "value"] w_is_value_of) (F : FunAt K mg "row_is_right" s_row_is_right ["columns", "value"]) : Def P w K mg base "row_is_right" 3 ["columns", "value"] w_row_is_right := by
  refine defD F sc_row_is_right (fun ds k Q x h => w2.len h) fun f cdv Ar outer s H E p G hg hr => ⟨_, (dss_cons (ds_if (DW.dt (dw_or (dt_not (dt_val (de_isi (T := "tuple") (de_var (pv 1)) T.z_isinstance T.z_tuple (by decide +kernel)))) (dw_or1 (dt_cmp (op_neA hr.units) neD.mono fitsNe (de_bi lenD.mono fitsLen call_len_seq (da_cons (de_var (pv 1)) da_nil) T.z_len) (de_bi lenD.mono fitsLen call_len_seq (da_cons (de_var (pv 0)) da_nil) T.z_len)))))
    (dss_one (ds_ret de_bl))
    dss_nil)
    (dss_cons (ds_for (passes_of rfl) rfl (di_zip (de_var (pv 0)) (de_var (pv 1)) T.z_zip) (dg_tp rfl (dgs_cons (i := 2) sc_row_is_right.nd (dgs_cons (i := 3) sc_row_is_right.nd dgs_nil)))
    (dss_one (ds_if (dt_not (dt_val (de_fn d_is_value_of m_is_value_of hg hr (takes_of rfl rfl rfl rfl) (da_cons (de_var (pv 2)) (da_cons (de_var (pv 3)) da_nil)))))
    (dss_one (ds_ret de_bl))
    dss_nil)))
    (dss_one (ds_ret de_bl)))), ?_⟩
  rintro ds n Q x ⟨a, b, rfl, ⟨cs, rfl, hc, hv⟩, q⟩
  simp only [wRet, wSet, wSeq, wNext, wDrop, wIfS, wTest, wAnd, wOr, wNot, wIf, wBin, wVar, wC, wAndV, wOrV, wNotV, wIsN, wNotN, wNeg, wChain, wNil, wCons, wTup, wLst, wBi, wCall, wIsi, wSl, wSo, wNo, wSeqI, wFor, gNm, gTp, puts, wAsg, wPar, wMul, wmD, wmO, putsI, wAug, wTryIs, wRng1, wRng2, wEnum, wEnumT, wZip, wLc, wYes, wLend, wRel, wOwn, wApp, wIns, wSetIx, wLstF, wListF, wRepF, wAddF, wSlS, wParO, wRevT, wSortedSet, wSortedSetL, wSortedSetT, wKeys, weI, wExt, allD, wMt, wRaise, wSeqO, wCallF, plainO, wCallA, wIdx0, wAnF, wSetA, wUnA, wSeqA, plainA, wFld, wFldO, wMake, wLRg, Ans.data, Ans.own.injEq, Ans.tup.injEq, Ans.dat.injEq, wTry, wTryM, wHs, wIsC, enOf, put, putUn, defEnds, lendE, lend, wipeE, hide, lenD, intD, listD, tupleD, reprD, wPen0, wPen1, wPen2, wPenS1, wPenS2, penAt, List.map_cons, List.map_nil, List.length_cons, List.length_nil, List.nil_append, List.cons_append, Nat.reduceAdd, Nat.reduceSub, Nat.reduceLeDiff, Nat.zero_add, List.replicate_zero, List.replicate_succ, List.getElem?_cons_zero, List.getElem?_cons_succ, List.set_cons_zero, List.set_cons_succ, Option.some.injEq, Slot.dat.injEq, Slot.own.injEq, PyData.bool.injEq, PyData.int.injEq, PyData.tuple.injEq, PyData.list.injEq, exists_eq_left', exists_eq_left, and_true, true_and, if_true, if_false, Bool.false_eq_true, reduceCtorEq, List.mapIdx_cons, List.mapIdx_nil, kit_tuple hv.f]
  refine ⟨fine.nd hv.f, ?_⟩
  cases b with
  | tuple xs =>
    simp only [isT, Bool.not_true, if_false, Bool.false_eq_true, rowB, neD, twoInts, true_or, true_and] at q ⊢
    refine ⟨_, rfl, ?_⟩
    rw [eqv_len]
    by_cases hl : xs.length = cs.length
    · simp only [hl, decide_true, Bool.true_and, Bool.not_true, if_false, Bool.false_eq_true] at q ⊢
      refine ⟨cs, xs, .inr ⟨rfl, rfl⟩, ?_⟩
      have hp : ∀ d ∈ pairs cs xs, ∃ c v, d = .tuple [c, v] ∧ colish c ∧ Good v := fun d hd => by
        obtain ⟨i, hi⟩ := List.mem_iff_getElem?.mp hd
        obtain ⟨c, v, h1, h2, h3⟩ := pairs_at hi
        exact ⟨c, v, h3, hc c (List.mem_of_getElem? h1), hv.in_tuple v (List.mem_of_getElem? h2)⟩
      refine wLoop.ind (fun ds e => ∃ u v, e = ⟨[.dat (.tuple cs), .dat (.tuple xs), u, v], n⟩ ∧ Q (.bool (ds.all fun | .tuple [c, v] => valB c v | _ => false)) n ∧ ∀ d ∈ ds, ∃ c v, d = .tuple [c, v] ∧ colish c ∧ Good v) ?_ ?_ ⟨.un, .un, rfl, q, hp⟩
      · rintro e ⟨u, v, rfl, q, _⟩
        exact q
      · rintro d ds e ih ⟨u, v, rfl, q, hf⟩
        obtain ⟨c, y, rfl, h1, h2⟩ := hf d List.mem_cons_self
        simp only [wRet, wSet, wSeq, wNext, wDrop, wIfS, wTest, wAnd, wOr, wNot, wIf, wBin, wVar, wC, wAndV, wOrV, wNotV, wIsN, wNotN, wNeg, wChain, wNil, wCons, wTup, wLst, wBi, wCall, wIsi, wSl, wSo, wNo, wSeqI, wFor, gNm, gTp, puts, wAsg, wPar, wMul, wmD, wmO, putsI, wAug, wTryIs, wRng1, wRng2, wEnum, wEnumT, wZip, wLc, wYes, wLend, wRel, wOwn, wApp, wIns, wSetIx, wLstF, wListF, wRepF, wAddF, wSlS, wParO, wRevT, wSortedSet, wSortedSetL, wSortedSetT, wKeys, weI, wExt, allD, wMt, wRaise, wSeqO, wCallF, plainO, wCallA, wIdx0, wAnF, wSetA, wUnA, wSeqA, plainA, wFld, wFldO, wMake, wLRg, Ans.data, Ans.own.injEq, Ans.tup.injEq, Ans.dat.injEq, wTry, wTryM, wHs, wIsC, enOf, put, putUn, defEnds, lendE, lend, wipeE, hide, lenD, intD, listD, tupleD, reprD, wPen0, wPen1, wPen2, wPenS1, wPenS2, penAt, List.map_cons, List.map_nil, List.length_cons, List.length_nil, List.nil_append, List.cons_append, Nat.reduceAdd, Nat.reduceSub, Nat.reduceLeDiff, Nat.zero_add, List.replicate_zero, List.replicate_succ, List.getElem?_cons_zero, List.getElem?_cons_succ, List.set_cons_zero, List.set_cons_succ, Option.some.injEq, Slot.dat.injEq, Slot.own.injEq, PyData.bool.injEq, PyData.int.injEq, PyData.tuple.injEq, PyData.list.injEq, exists_eq_left', exists_eq_left, and_true, true_and, if_true, if_false, Bool.false_eq_true, reduceCtorEq, List.mapIdx_cons, List.mapIdx_nil]
        refine ⟨c, y, rfl, ⟨h1, h2⟩, ?_⟩
        refine ⟨_, rfl, ?_⟩
        rw [List.all_cons] at q
        dsimp only at q
        cases hc : valB c y with
        | true =>
          rw [hc] at q
          simp only [Bool.not_true, if_false, Bool.false_eq_true, Bool.true_and] at q ⊢
          exact ih _ ⟨_, _, rfl, q, fun d hd => hf d (List.mem_cons_of_mem _ hd)⟩
        | false =>
          rw [hc] at q
          exact q
    · simp only [hl, decide_false, Bool.false_and, Bool.not_false, if_true] at q ⊢
      exact q
  | _ => exact q
end
end L2.DL.K30
namespace L2.DL.K30
open PySem PySem.Spec
      PyProof.Rows
section
variable {P : Program} {w : World} {K : PySem.W.Frag} {mg : Str → Option Value} {base : Heap} {A : Cls}
/-! ### entry_is_right -/
def entB (cs : List D) : D → Bool
  | .tuple [.int i, b] => decide (0 ≤ i) && decide (i < cs.length) && (isN b || valB (cs.getD i.toNat .none) b)
  | _ => false
def colsish (c : D) : Prop := ∃ cs, c = .tuple cs ∧ (∀ d ∈ cs, colish d) ∧ cs.length ≤ 100
def onCols (f : List D → D → Bool) (c v : D) : D := .bool (match c with | .tuple cs => f cs v | _ => false)
abbrev w_entry_is_right : Wc := w2 (fun c v => colsish c ∧ Good v) (onCols entB)
abbrev m_entry_is_right : Wc.Mono w_entry_is_right := w2.mono
theorem d_entry_is_right (T : Txt K mg A) (d_is_number : Def P w K mg base "is_number" 2 ["value", "limit"] w_is_number) (d_is_value_of : Def P w K mg base "is_value_of" 2 ["column", "value"] w_is_value_of) (F : FunAt K mg "entry_is_right" s_entry_is_right ["columns", "value"]) : Def P w K mg base "entry_is_right" 3 ["columns", "value"] w_entry_is_right := by
  refine defD F sc_entry_is_right (fun ds k Q x h => w2.len h) fun f cdv Ar outer s H E p G hg hr => ⟨_, (dss_cons (ds_if (DW.dt (dw_or (dt_not (dt_val (de_isi (T := "tuple") (de_var (pv 1)) T.z_isinstance T.z_tuple (by decide +kernel)))) (dw_or1 (dt_cmp (op_neA hr.units) neD.mono fitsNe (de_bi lenD.mono fitsLen call_len_seq (da_cons (de_var (pv 1)) da_nil) T.z_len) de_int))))
    (dss_one (ds_ret de_bl))
    dss_nil)
    (dss_cons (ds_if (dt_not (dt_val (de_fn d_is_number m_is_number hg hr (takes_of rfl rfl rfl rfl) (da_cons (de_idx (de_var (pv 1)) de_int) (da_cons (de_bi lenD.mono fitsLen call_len_seq (da_cons (de_var (pv 0)) da_nil) T.z_len) da_nil)))))
    (dss_one (ds_ret de_bl))
    dss_nil)
    (dss_one (ds_ret (de_or (de_isN (de_idx (de_var (pv 1)) de_int)) (de_one (de_fn d_is_value_of m_is_value_of hg hr (takes_of rfl rfl rfl rfl) (da_cons (de_idx (de_var (pv 0)) (de_idx (de_var (pv 1)) de_int)) (da_cons (de_idx (de_var (pv 1)) de_int) da_nil))))))))), ?_⟩
  rintro ds n Q x ⟨a, b, rfl, ⟨⟨cs, rfl, hc, hcl⟩, hv⟩, q⟩
  simp only [wRet, wSet, wSeq, wNext, wDrop, wIfS, wTest, wAnd, wOr, wNot, wIf, wBin, wVar, wC, wAndV, wOrV, wNotV, wIsN, wNotN, wNeg, wChain, wNil, wCons, wTup, wLst, wBi, wCall, wIsi, wSl, wSo, wNo, wSeqI, wFor, gNm, gTp, puts, wAsg, wPar, wMul, wmD, wmO, putsI, wAug, wTryIs, wRng1, wRng2, wEnum, wEnumT, wZip, wLc, wYes, wLend, wRel, wOwn, wApp, wIns, wSetIx, wLstF, wListF, wRepF, wAddF, wSlS, wParO, wRevT, wSortedSet, wSortedSetL, wSortedSetT, wKeys, weI, wExt, allD, wMt, wRaise, wSeqO, wCallF, plainO, wCallA, wIdx0, wAnF, wSetA, wUnA, wSeqA, plainA, wFld, wFldO, wMake, wLRg, Ans.data, Ans.own.injEq, Ans.tup.injEq, Ans.dat.injEq, wTry, wTryM, wHs, wIsC, enOf, put, putUn, defEnds, lendE, lend, wipeE, hide, lenD, intD, listD, tupleD, reprD, wPen0, wPen1, wPen2, wPenS1, wPenS2, penAt, List.map_cons, List.map_nil, List.length_cons, List.length_nil, List.nil_append, List.cons_append, Nat.reduceAdd, Nat.reduceSub, Nat.reduceLeDiff, Nat.zero_add, List.replicate_zero, List.replicate_succ, List.getElem?_cons_zero, List.getElem?_cons_succ, List.set_cons_zero, List.set_cons_succ, Option.some.injEq, Slot.dat.injEq, Slot.own.injEq, PyData.bool.injEq, PyData.int.injEq, PyData.tuple.injEq, PyData.list.injEq, exists_eq_left', exists_eq_left, and_true, true_and, if_true, if_false, Bool.false_eq_true, reduceCtorEq, List.mapIdx_cons, List.mapIdx_nil, kit_tuple hv.f, onCols] at q ⊢
  refine ⟨fine.nd hv.f, ?_⟩
  cases b with
  | tuple xs =>
    simp only [isT, Bool.not_true, if_false, Bool.false_eq_true, neD, twoInts, true_or, true_and] at q ⊢
    have e1 : PyData.eqv (.int (xs.length : Int)) (.int 2) = decide (xs.length = 2) := eqv_len xs.length 2
    refine ⟨_, rfl, ?_⟩
    rw [e1]
    match xs, q, hv with
    | [], q, hv => exact q
    | [_], q, hv => simpa [entB] using q
    | _ :: _ :: _ :: _, q, hv => simpa [entB] using q
    | [x0, y], q, hv =>
      have hx := hv.in_tuple x0 (by simp)
      have hy := hv.in_tuple y (by simp)
      simp only [List.length_cons, List.length_nil, Nat.reduceAdd, decide_true, Bool.not_true, if_false, Bool.false_eq_true]
      have z0 : ∀ P : D → Prop, P x0 → idxD (.tuple [x0, y]) (.int 0) P := fun P h => ⟨x0, rfl, h⟩
      have z1 : ∀ P : D → Prop, P y → idxD (.tuple [x0, y]) (.int 1) P := fun P h => ⟨y, rfl, h⟩
      refine z0 _ ⟨_, _, rfl, ⟨hx.f, _, rfl⟩, ?_⟩
      cases x0 with
      | int i =>
        simp only [numB, entB] at q ⊢
        refine ⟨_, rfl, ?_⟩
        by_cases h0 : 0 ≤ i
        · by_cases h1 : i < cs.length
          · simp only [h0, h1, decide_true, Bool.true_and, Bool.not_true, if_false, Bool.false_eq_true] at q ⊢
            refine z1 _ ?_
            cases hn : isN y with
            | true => rw [hn] at q; exact q
            | false =>
              rw [hn] at q
              refine z0 _ ⟨_, atI_pos h0 h1, z1 _ ⟨_, _, rfl, ⟨hc _ (getD_mem h0 h1), hy⟩, q⟩⟩
          · simp only [h0, h1, decide_true, decide_false, Bool.true_and, Bool.false_and, Bool.not_false, if_true] at q ⊢
            exact q
        · simp only [h0, decide_false, Bool.false_and, Bool.not_false, if_true] at q ⊢
          exact q
      | _ => exact ⟨_, rfl, q⟩
  | _ => exact q
/-! ### given_is_right -/
def givL (cs : List D) : Int → List D → Bool
  | _, [] => true
  | l, e :: r => entB cs e && match e with | .tuple (.int i :: _) => decide (l < i) && givL cs i r | _ => false
def givB (cs : List D) : D → Bool
  | .tuple es => givL cs (-1) es
  | _ => false
theorem entB_inv {cs : List D} {e : D} (h : entB cs e = true) : ∃ i b, e = .tuple [.int i, b] ∧ 0 ≤ i ∧ i < cs.length ∧ (isN b || valB (cs.getD i.toNat .none) b) = true := by
  unfold entB at h
  split at h
  · simp only [Bool.and_eq_true,
        decide_eq_true_eq] at h
    exact ⟨_, _, rfl, h.1.1, h.1.2, h.2⟩
  · cases h
abbrev w_given_is_right : Wc := w2 (fun c v => colsish c ∧ Good v) (onCols givB)
abbrev m_given_is_right : Wc.Mono w_given_is_right := w2.mono
theorem d_given_is_right (T : Txt K mg A) (d_entry_is_right : Def P w K mg base "entry_is_right" 3 ["columns", "value"] w_entry_is_right) (F : FunAt K mg "given_is_right" s_given_is_right ["columns", "value"]) : Def P w K mg base "given_is_right" 4 ["columns", "value"] w_given_is_right := by
  refine defD F sc_given_is_right (fun ds k Q x h => w2.len h) fun f cdv Ar outer s H E p G hg hr => ⟨_, (dss_cons (ds_if (dt_not (dt_val (de_isi (T := "tuple") (de_var (pv 1)) T.z_isinstance T.z_tuple (by decide +kernel))))
    (dss_one (ds_ret de_bl))
    dss_nil)
    (dss_cons (ds_set (i := 2) (de_neg de_int) sc_given_is_right.nd)
    (dss_cons (ds_for (passes_of rfl) rfl (di_seq (de_var (pv 1))) (dg_nm (i := 3) sc_given_is_right.nd)
    (dss_cons (ds_if (DW.dt (dw_or (dt_not (dt_val (de_fn d_entry_is_right m_entry_is_right hg hr (takes_of rfl rfl rfl rfl) (da_cons (de_var (pv 0)) (da_cons (de_var (pv 3)) da_nil))))) (dw_or1 (dt_cmp op_le cmpD.mono fitsCmp (de_idx (de_var (pv 3)) de_int) (de_var (pv 2))))))
    (dss_one (ds_ret de_bl))
    dss_nil)
    (dss_one (ds_set (i := 2) (de_idx (de_var (pv 3)) de_int) sc_given_is_right.nd))))
    (dss_one (ds_ret de_bl))))), ?_⟩
  rintro ds n Q x ⟨a, b, rfl, ⟨⟨cs, rfl, hc, hcl⟩, hv⟩, q⟩
  simp only [wRet, wSet, wSeq, wNext, wDrop, wIfS, wTest, wAnd, wOr, wNot, wIf, wBin, wVar, wC, wAndV, wOrV, wNotV, wIsN, wNotN, wNeg, wChain, wNil, wCons, wTup, wLst, wBi, wCall, wIsi, wSl, wSo, wNo, wSeqI, wFor, gNm, gTp, puts, wAsg, wPar, wMul, wmD, wmO, putsI, wAug, wTryIs, wRng1, wRng2, wEnum, wEnumT, wZip, wLc, wYes, wLend, wRel, wOwn, wApp, wIns, wSetIx, wLstF, wListF, wRepF, wAddF, wSlS, wParO, wRevT, wSortedSet, wSortedSetL, wSortedSetT, wKeys, weI, wExt, allD, wMt, wRaise, wSeqO, wCallF, plainO, wCallA, wIdx0, wAnF, wSetA, wUnA, wSeqA, plainA, wFld, wFldO, wMake, wLRg, Ans.data, Ans.own.injEq, Ans.tup.injEq, Ans.dat.injEq, wTry, wTryM, wHs, wIsC, enOf, put, putUn, defEnds, lendE, lend, wipeE, hide, lenD, intD, listD, tupleD, reprD, wPen0, wPen1, wPen2, wPenS1, wPenS2, penAt, List.map_cons, List.map_nil, List.length_cons, List.length_nil, List.nil_append, List.cons_append, Nat.reduceAdd, Nat.reduceSub, Nat.reduceLeDiff, Nat.zero_add, List.replicate_zero, List.replicate_succ, List.getElem?_cons_zero, List.getElem?_cons_succ, List.set_cons_zero, List.set_cons_succ, Option.some.injEq, Slot.dat.injEq, Slot.own.injEq, PyData.bool.injEq, PyData.int.injEq, PyData.tuple.injEq, PyData.list.injEq, exists_eq_left', exists_eq_left, and_true, true_and, if_true, if_false, Bool.false_eq_true, reduceCtorEq, List.mapIdx_cons, List.mapIdx_nil, kit_tuple hv.f, onCols] at q ⊢
  refine ⟨fine.nd hv.f, ?_⟩
  cases b with
  | tuple xs =>
    simp only [isT, Bool.not_true, if_false, Bool.false_eq_true, givB] at q ⊢
    refine ⟨xs, rfl, ?_⟩
    refine wLoop.ind (fun ds e => ∃ l u, e = ⟨[.dat (.tuple cs), .dat (.tuple xs), .dat (.int l), u], n⟩ ∧ Q (.bool (givL cs l ds)) n ∧ ∀ d ∈ ds, Good d) ?_ ?_ ⟨-1, .un, rfl, q, hv.in_tuple⟩
    · rintro e ⟨l, u, rfl, q, _⟩
      exact q
    · rintro d ds e ih ⟨l, u, rfl, q, hf⟩
      simp only [wRet, wSet, wSeq, wNext, wDrop, wIfS, wTest, wAnd, wOr, wNot, wIf, wBin, wVar, wC, wAndV, wOrV, wNotV, wIsN, wNotN, wNeg, wChain, wNil, wCons, wTup, wLst, wBi, wCall, wIsi, wSl, wSo, wNo, wSeqI, wFor, gNm, gTp, puts, wAsg, wPar, wMul, wmD, wmO, putsI, wAug, wTryIs, wRng1, wRng2, wEnum, wEnumT, wZip, wLc, wYes, wLend, wRel, wOwn, wApp, wIns, wSetIx, wLstF, wListF, wRepF, wAddF, wSlS, wParO, wRevT, wSortedSet, wSortedSetL, wSortedSetT, wKeys, weI, wExt, allD, wMt, wRaise, wSeqO, wCallF, plainO, wCallA, wIdx0, wAnF, wSetA, wUnA, wSeqA, plainA, wFld, wFldO, wMake, wLRg, Ans.data, Ans.own.injEq, Ans.tup.injEq, Ans.dat.injEq, wTry, wTryM, wHs, wIsC, enOf, put, putUn, defEnds, lendE, lend, wipeE, hide, lenD, intD, listD, tupleD, reprD, wPen0, wPen1, wPen2, wPenS1, wPenS2, penAt, List.map_cons, List.map_nil, List.length_cons, List.length_nil, List.nil_append, List.cons_append, Nat.reduceAdd, Nat.reduceSub, Nat.reduceLeDiff, Nat.zero_add, List.replicate_zero, List.replicate_succ, List.getElem?_cons_zero, List.getElem?_cons_succ, List.set_cons_zero, List.set_cons_succ, Option.some.injEq, Slot.dat.injEq, Slot.own.injEq, PyData.bool.injEq, PyData.int.injEq, PyData.tuple.injEq, PyData.list.injEq, exists_eq_left', exists_eq_left, and_true, true_and, if_true, if_false, Bool.false_eq_true, reduceCtorEq, List.mapIdx_cons, List.mapIdx_nil, onCols]
      refine ⟨_, _, rfl, ⟨⟨cs, rfl, hc, hcl⟩, hf d List.mem_cons_self⟩, ?_⟩
      simp only [wRet, wSet, wSeq, wNext, wDrop, wIfS, wTest, wAnd, wOr, wNot, wIf, wBin, wVar, wC, wAndV, wOrV, wNotV, wIsN, wNotN, wNeg, wChain, wNil, wCons, wTup, wLst, wBi, wCall, wIsi, wSl, wSo, wNo, wSeqI, wFor, gNm, gTp, puts, wAsg, wPar, wMul, wmD, wmO, putsI, wAug, wTryIs, wRng1, wRng2, wEnum, wEnumT, wZip, wLc, wYes, wLend, wRel, wOwn, wApp, wIns, wSetIx, wLstF, wListF, wRepF, wAddF, wSlS, wParO, wRevT, wSortedSet, wSortedSetL, wSortedSetT, wKeys, weI, wExt, allD, wMt, wRaise, wSeqO, wCallF, plainO, wCallA, wIdx0, wAnF, wSetA, wUnA, wSeqA, plainA, wFld, wFldO, wMake, wLRg, Ans.data, Ans.own.injEq, Ans.tup.injEq, Ans.dat.injEq, wTry, wTryM, wHs, wIsC, enOf, put, putUn, defEnds, lendE, lend, wipeE, hide, lenD, intD, listD, tupleD, reprD, wPen0, wPen1, wPen2, wPenS1, wPenS2, penAt, List.map_cons, List.map_nil, List.length_cons, List.length_nil, List.nil_append, List.cons_append, Nat.reduceAdd, Nat.reduceSub, Nat.reduceLeDiff, Nat.zero_add, List.replicate_zero, List.replicate_succ, List.getElem?_cons_zero, List.getElem?_cons_succ, List.set_cons_zero, List.set_cons_succ, Option.some.injEq, Slot.dat.injEq, Slot.own.injEq, PyData.bool.injEq, PyData.int.injEq, PyData.tuple.injEq, PyData.list.injEq, exists_eq_left', exists_eq_left, and_true, true_and, if_true, if_false, Bool.false_eq_true, reduceCtorEq, List.mapIdx_cons, List.mapIdx_nil, onCols, givL] at q ⊢
      cases he : entB cs d with
      | false =>
        rw [he] at q
        exact q
      | true =>
        rw [he] at q
        obtain ⟨i, b, rfl, h0, h1, _⟩ := entB_inv he
        simp only [Bool.not_true, if_false, Bool.false_eq_true, Bool.true_and] at q ⊢
        refine ⟨_, rfl, ?_⟩
        simp only [cmpD]
        refine ⟨_, rfl, ?_⟩
        by_cases hl : i ≤ l
        · have hl' : ¬ l < i := by omega
          simp only [hl, hl', decide_true, decide_false, Bool.false_and, if_true] at q ⊢
          exact q
        · have hl' : l < i := by omega
          simp only [hl, hl', decide_true, decide_false, Bool.true_and, if_false, Bool.false_eq_true] at q ⊢
          exact ⟨_, rfl, ih _ ⟨i, _, rfl, q, fun d hd => hf d (List.mem_cons_of_mem _ hd)⟩⟩
  | _ => exact q
end
end L2.DL.K30
namespace L2.DL.K30
open PySem PySem.Spec
      PyProof.Rows
section
variable {P : Program} {w : World} {K : PySem.W.Frag} {mg : Str → Option Value} {base : Heap} {A : Cls}
/-! ### rule_is_right -/
def fstD : D → D
  | .tuple (a :: _) => a
  | _ => .none
def sndD : D → D
  | .tuple (_ :: b :: _) => b
  | _ => .none
def valAt (cs : List D) : D → D → Bool
  | .int i, w => valB (cs.getD i.toNat .none) w
  | _, _ => false
def rulB (cs : List D) : D → Bool
  | .tuple [.tuple es, c, w] => givL cs (-1) es && (numB c (.int cs.length) && (!inB c (es.map fstD) && (isN w || (!inB .none (es.map sndD) && valAt cs c w))))
  | _ => false
theorem givL_inv {cs : List D} : ∀ {es : List D} {l : Int}, givL cs l es = true → ∀ e ∈ es, ∃ i b, e = .tuple [.int i, b] ∧ l < i ∧ 0 ≤ i ∧ i < cs.length ∧ (isN b || valB (cs.getD i.toNat .none) b) = true
  | [], _, _, e, he => by cases he
  | d :: es, l, h, e, he => by
    unfold givL at h
    rw [Bool.and_eq_true] at h
    obtain ⟨i, b, rfl, h0, h1, h2⟩ := entB_inv h.1
    have h3 := h.2
    simp only [Bool.and_eq_true,
          decide_eq_true_eq] at h3
    rcases List.mem_cons.mp
          he with rfl | he
    · exact ⟨i, b, rfl, h3.1, h0, h1, h2⟩
    · obtain ⟨j, b', rfl, g1, g2⟩ := givL_inv h3.2 e he
      exact ⟨j, b', rfl, by omega, g2⟩
theorem givL_len {cs : List D} : ∀ {es : List D} {l : Int}, givL cs l es = true → l + 1 ≤ cs.length → (es.length : Int) + l + 1 ≤ cs.length
  | [], _, _, h => by simpa using h
  | d :: es, l, h, hl => by
    unfold givL at h
    rw [Bool.and_eq_true] at h
    obtain ⟨i, b, rfl, h0, h1, h2⟩ := entB_inv h.1
    have h3 := h.2
    simp only [Bool.and_eq_true,
          decide_eq_true_eq] at h3
    have := givL_len h3.2 (by omega)
    rw [List.length_cons]
    omega
theorem numB_inv {c : D} {m : Int} (h : numB c (.int m) = true) : ∃ i, c = .int i ∧ 0 ≤ i ∧ i < m := by
  unfold numB at h
  split at h
  · rename_i e
    cases e
    simp only [Bool.and_eq_true,
          decide_eq_true_eq] at h
    exact ⟨_, rfl, h⟩
  · cases h
end
end L2.DL.K30
namespace L2.DL.K30
open PySem PySem.Spec
      PyProof.Rows
section
variable {P : Program} {w : World} {K : PySem.W.Frag} {mg : Str → Option Value} {base : Heap} {A : Cls}
/-! ### check_columns, check_row, check_rule -/
def wChk1 (C : Addr) (pre : D → Prop) (f : D → Bool) : Wc := fun ds k Q x => ∃ a, ds = [a] ∧ pre a ∧ (f a = true → Q .none k) ∧ (f a = false → x (excD C) k)
def wChk2 (C : Addr) (pre : D → D → Prop) (f : List D → D → Bool) : Wc := fun ds k Q x => ∃ cs b, ds = [.tuple cs, b] ∧ pre (.tuple cs) b ∧ (f cs b = true → Q .none k) ∧ (f cs b = false → x (excD C) k)
theorem wChk1.mono {C : Addr} {pre : D → Prop} {f : D → Bool} : Wc.Mono (wChk1 C pre f) := fun ds k Q Q' x x' h1 h2 ⟨a, e, p, q1, q2⟩ => ⟨a, e, p, fun z => h1 _ _ (q1 z), fun z => h2 _ _ (q2 z)⟩
theorem wChk2.mono {C : Addr} {pre : D → D → Prop} {f : List D → D → Bool} : Wc.Mono (wChk2 C pre f) := fun ds k Q Q' x x' h1 h2 ⟨a, b, e, p, q1, q2⟩ => ⟨a, b, e, p, fun z => h1 _ _ (q1 z), fun z => h2 _ _ (q2 z)⟩
abbrev w_check_columns (A : Cls) : Wc := wChk1 A.InvalidColumns (fun a => Good a) colsB
abbrev m_check_columns {A : Cls} : Wc.Mono (w_check_columns A) := wChk1.mono
theorem d_check_columns (T : Txt K mg A) (d_is_columns : Def P w K mg base "is_columns" 3 ["value"] w_is_columns) (F : FunAt K mg "check_columns" s_check_columns ["columns"]) : Def P w K mg base "check_columns" 4 ["columns"] (w_check_columns A) := by
  refine defD F sc_check_columns (fun ds k Q x ⟨a, e, _⟩ => by rw [e]; rfl) fun f cdv Ar outer s H E p G hg hr => ⟨_, (dss_one (ds_if (dt_not (dt_val (de_fn d_is_columns m_is_columns hg hr (takes_of rfl rfl rfl rfl) (da_cons (de_var (pv 0)) da_nil))))
    (dss_one (ds_raise (C := A.InvalidColumns) rfl (takes_of rfl rfl rfl rfl) PySem.F.excBase_ValueError T.x_InvalidColumns T.g_InvalidColumns T.k_InvalidColumns (raises_own T.s_InvalidColumns T.t_InvalidColumns)))
    dss_nil)), ?_⟩
  rintro ds n Q x ⟨a, rfl, ha, q1, q2⟩
  simp only [wRet, wSet, wSeq, wNext, wDrop, wIfS, wTest, wAnd, wOr, wNot, wIf, wBin, wVar, wC, wAndV, wOrV, wNotV, wIsN, wNotN, wNeg, wChain, wNil, wCons, wTup, wLst, wBi, wCall, wIsi, wSl, wSo, wNo, wSeqI, wFor, gNm, gTp, puts, wAsg, wPar, wMul, wmD, wmO, putsI, wAug, wTryIs, wRng1, wRng2, wEnum, wEnumT, wZip, wLc, wYes, wLend, wRel, wOwn, wApp, wIns, wSetIx, wLstF, wListF, wRepF, wAddF, wSlS, wParO, wRevT, wSortedSet, wSortedSetL, wSortedSetT, wKeys, weI, wExt, allD, wMt, wRaise, wSeqO, wCallF, plainO, wCallA, wIdx0, wAnF, wSetA, wUnA, wSeqA, plainA, wFld, wFldO, wMake, wLRg, Ans.data, Ans.own.injEq, Ans.tup.injEq, Ans.dat.injEq, wTry, wTryM, wHs, wIsC, enOf, put, putUn, defEnds, lendE, lend, wipeE, hide, lenD, intD, listD, tupleD, reprD, wPen0, wPen1, wPen2, wPenS1, wPenS2, penAt, List.map_cons, List.map_nil, List.length_cons, List.length_nil, List.nil_append, List.cons_append, Nat.reduceAdd, Nat.reduceSub, Nat.reduceLeDiff, Nat.zero_add, List.replicate_zero, List.replicate_succ, List.getElem?_cons_zero, List.getElem?_cons_succ, List.set_cons_zero, List.set_cons_succ, Option.some.injEq, Slot.dat.injEq, Slot.own.injEq, PyData.bool.injEq, PyData.int.injEq, PyData.tuple.injEq, PyData.list.injEq, exists_eq_left', exists_eq_left, and_true, true_and, if_true, if_false, Bool.false_eq_true, reduceCtorEq, List.mapIdx_cons, List.mapIdx_nil]
  refine ⟨a, rfl, ha, _, rfl, ?_⟩
  rcases Bool.eq_false_or_eq_true (colsB a) with h | h
  · simp only [h, Bool.not_true, if_false, Bool.false_eq_true]
    exact q1 h
  · simp only [h, Bool.not_false, if_true]
    exact q2 h
/-! ### has_given -/
def hasB (es xs : List D) : Bool := es.all fun | .tuple [.int i, b] => isN b || PyData.eqv (xs.getD i.toNat .none) b | _ => false
def entsOk (es : List D) (m : Nat) : Prop := ∀ e ∈ es, ∃ i b, e = .tuple [.int i, b] ∧ 0 ≤ i ∧ i < m ∧ Good b
abbrev w_has_given : Wc := w2 (fun g r => ∃ es xs, g = .tuple es ∧ r = .tuple xs ∧ entsOk es xs.length ∧ ∀ d ∈ xs, Good d) fun g r => .bool (match g, r with | .tuple es, .tuple xs => hasB es xs | _, _ => false)
abbrev m_has_given : Wc.Mono w_has_given := w2.mono
theorem d_has_given (T : Txt K mg A) (F : FunAt K mg "has_given" s_has_given ["given", "row"]) : Def P w K mg base "has_given" 1 ["given", "row"] w_has_given := by
  refine defD F sc_has_given (fun ds k Q x h => w2.len h) fun f cdv Ar outer s H E p G hg hr => ⟨_, (dss_cons (ds_for (passes_of rfl) rfl (di_seq (de_var (pv 0))) (dg_tp rfl (dgs_cons (i := 2) sc_has_given.nd (dgs_cons (i := 3) sc_has_given.nd dgs_nil)))
    (dss_one (ds_if (DW.dt (dw_and (dt_notN (de_var (pv 3))) (dw_and1 (dt_cmp (op_neA hr.units) neD.mono fitsNe (de_idx (de_var (pv 1)) (de_var (pv 2))) (de_var (pv 3))))))
    (dss_one (ds_ret de_bl))
    dss_nil)))
    (dss_one (ds_ret de_bl))), ?_⟩
  rintro ds n Q x ⟨g, r, rfl, ⟨es, xs, rfl, rfl, he, hx⟩, q⟩
  simp only [wRet, wSet, wSeq, wNext, wDrop, wIfS, wTest, wAnd, wOr, wNot, wIf, wBin, wVar, wC, wAndV, wOrV, wNotV, wIsN, wNotN, wNeg, wChain, wNil, wCons, wTup, wLst, wBi, wCall, wIsi, wSl, wSo, wNo, wSeqI, wFor, gNm, gTp, puts, wAsg, wPar, wMul, wmD, wmO, putsI, wAug, wTryIs, wRng1, wRng2, wEnum, wEnumT, wZip, wLc, wYes, wLend, wRel, wOwn, wApp, wIns, wSetIx, wLstF, wListF, wRepF, wAddF, wSlS, wParO, wRevT, wSortedSet, wSortedSetL, wSortedSetT, wKeys, weI, wExt, allD, wMt, wRaise, wSeqO, wCallF, plainO, wCallA, wIdx0, wAnF, wSetA, wUnA, wSeqA, plainA, wFld, wFldO, wMake, wLRg, Ans.data, Ans.own.injEq, Ans.tup.injEq, Ans.dat.injEq, wTry, wTryM, wHs, wIsC, enOf, put, putUn, defEnds, lendE, lend, wipeE, hide, lenD, intD, listD, tupleD, reprD, wPen0, wPen1, wPen2, wPenS1, wPenS2, penAt, List.map_cons, List.map_nil, List.length_cons, List.length_nil, List.nil_append, List.cons_append, Nat.reduceAdd, Nat.reduceSub, Nat.reduceLeDiff, Nat.zero_add, List.replicate_zero, List.replicate_succ, List.getElem?_cons_zero, List.getElem?_cons_succ, List.set_cons_zero, List.set_cons_succ, Option.some.injEq, Slot.dat.injEq, Slot.own.injEq, PyData.bool.injEq, PyData.int.injEq, PyData.tuple.injEq, PyData.list.injEq, exists_eq_left', exists_eq_left, and_true, true_and, if_true, if_false, Bool.false_eq_true, reduceCtorEq, List.mapIdx_cons, List.mapIdx_nil] at q ⊢
  refine ⟨es, rfl, ?_⟩
  refine wLoop.ind (fun ds e => ∃ u v, e = ⟨[.dat (.tuple es), .dat (.tuple xs), u, v], n⟩ ∧ Q (.bool (hasB ds xs)) n ∧ entsOk ds xs.length) ?_ ?_ ⟨.un, .un, rfl, q, he⟩
  · rintro e ⟨u, v, rfl, q, _⟩
    exact q
  · rintro d ds e ih ⟨u, v, rfl, q, hf⟩
    obtain ⟨i, b, rfl, h0, h1, hb⟩ := hf d List.mem_cons_self
    have hf' : entsOk ds xs.length := fun d hd => hf d (List.mem_cons_of_mem _ hd)
    simp only [wRet, wSet, wSeq, wNext, wDrop, wIfS, wTest, wAnd, wOr, wNot, wIf, wBin, wVar, wC, wAndV, wOrV, wNotV, wIsN, wNotN, wNeg, wChain, wNil, wCons, wTup, wLst, wBi, wCall, wIsi, wSl, wSo, wNo, wSeqI, wFor, gNm, gTp, puts, wAsg, wPar, wMul, wmD, wmO, putsI, wAug, wTryIs, wRng1, wRng2, wEnum, wEnumT, wZip, wLc, wYes, wLend, wRel, wOwn, wApp, wIns, wSetIx, wLstF, wListF, wRepF, wAddF, wSlS, wParO, wRevT, wSortedSet, wSortedSetL, wSortedSetT, wKeys, weI, wExt, allD, wMt, wRaise, wSeqO, wCallF, plainO, wCallA, wIdx0, wAnF, wSetA, wUnA, wSeqA, plainA, wFld, wFldO, wMake, wLRg, Ans.data, Ans.own.injEq, Ans.tup.injEq, Ans.dat.injEq, wTry, wTryM, wHs, wIsC, enOf, put, putUn, defEnds, lendE, lend, wipeE, hide, lenD, intD, listD, tupleD, reprD, wPen0, wPen1, wPen2, wPenS1, wPenS2, penAt, List.map_cons, List.map_nil, List.length_cons, List.length_nil, List.nil_append, List.cons_append, Nat.reduceAdd, Nat.reduceSub, Nat.reduceLeDiff, Nat.zero_add, List.replicate_zero, List.replicate_succ, List.getElem?_cons_zero, List.getElem?_cons_succ, List.set_cons_zero, List.set_cons_succ, Option.some.injEq, Slot.dat.injEq, Slot.own.injEq, PyData.bool.injEq, PyData.int.injEq, PyData.tuple.injEq, PyData.list.injEq, exists_eq_left', exists_eq_left, and_true, true_and, if_true, if_false, Bool.false_eq_true, reduceCtorEq, List.mapIdx_cons, List.mapIdx_nil]
    rcases Bool.eq_false_or_eq_true (isN b) with hn | hn
    · simp only [hasB, List.all_cons, hn, Bool.true_or, Bool.true_and, Bool.not_true, if_false, Bool.false_eq_true] at q ⊢
      exact ih _ ⟨_, _, rfl, q, hf'⟩
    · simp only [hasB, List.all_cons, hn, Bool.false_or, Bool.not_false, if_true] at q ⊢
      refine ⟨_, atI_pos h0 h1, .inr ⟨hx _ (getD_mem h0 h1), hb⟩, ?_⟩
      refine ⟨_, rfl, ?_⟩
      rcases Bool.eq_false_or_eq_true (PyData.eqv (xs.getD i.toNat .none) b) with hq | hq
      · simp only [hq, Bool.true_and, Bool.not_true, if_false, Bool.false_eq_true] at q ⊢
        exact ih _ ⟨_, _, rfl, q, hf'⟩
      · simp only [hq, Bool.false_and, Bool.not_false, if_true] at q ⊢
        exact q
/-! ### matches -/
theorem cols_ish {c : D} (h : Good c) (hb : colsB c = true) : colsish c := by
  cases c with
  | tuple cs =>
    simp only [colsB, Bool.and_eq_true, decide_eq_true_eq] at hb
    refine ⟨cs, rfl, fun d hd => ?_, by omega⟩
    rcases Bool.eq_false_or_eq_true (isN d) with hn | hn
    · cases d <;> first | exact .inl rfl | cases hn
    · have := List.all_eq_true.mp hb.2.1 d (List.mem_filterMap.mpr ⟨d, hd, by simp [hn]⟩)
      cases d with
      | tuple xs => exact .inr ⟨xs, rfl, h.in_tuple _ hd⟩
      | _ => cases this
  | _ => cases hb
end
end L2.DL.K30
namespace L2.DL.K30
open PySem PySem.Spec
      PyProof.Rows
section
variable {P : Program} {w : World} {K : PySem.W.Frag} {mg : Str → Option Value} {base : Heap} {A : Cls}
/-! ### the pen -/
def w_law_spread : Wc := fun ds k Q _ => ∃ c a : Int, ds = [.int c, .int a] ∧ 0 ≤ a ∧ a ≤ most ∧ ∀ r : Int, Q (.int r) k
theorem m_law_spread : Wc.Mono w_law_spread := fun ds k Q Q' x x' h1 _ ⟨c, a, e, p1, p2, q⟩ => ⟨c, a, e, p1, p2, fun r => h1 _ _ (q r)⟩
def posI : D → Bool
  | .int q => decide (0 < q) && decide (q < 2147483648)
  | _ => false
theorem pick13 {xs : List D} (hl : xs.length = 13) (hp : xs.all posI = true) (i : Int) : ∃ q : Int, atI xs (i % 13) = some (.int q) ∧ 0 < q ∧ q < 2147483648 := by
  have h0 : 0 ≤ i % 13 := Int.emod_nonneg _ (by decide)
  have h1 : i % 13 < xs.length := by have := Int.emod_lt_of_pos i (show (0 : Int) < 13 by decide); rw [hl]; exact this
  have m := List.all_eq_true.mp hp _ (getD_mem h0 h1)
  rw [atI_pos h0 h1]
  generalize xs.getD (i % 13).toNat .none = d at m
  cases d with
  | int q =>
    simp only [posI, Bool.and_eq_true, decide_eq_true_eq] at m
    exact ⟨q, rfl, m.1, m.2⟩
  | _ => cases m
theorem mulB {a b m n : Int} (a0 : 0 ≤ a) (b0 : 0 ≤ b) (ha : a ≤ m) (hb : b ≤ n) : 0 ≤ a * b ∧ a * b ≤ m * n :=
  ⟨Int.mul_nonneg a0 b0, Int.mul_le_mul ha hb b0 (Int.le_trans a0 ha)⟩
theorem d_law_spread (T : Txt K mg A) (F : FunAt K mg "_law_spread" s_law_spread ["_law_cell", "_law_at"]) : Def P w K mg base "_law_spread" 1 ["_law_cell", "_law_at"] w_law_spread := by
  refine defD F sc_law_spread (fun ds k Q x ⟨c, a, e, _⟩ => by rw [e]; rfl) fun f cdv Ar outer s H E p G hg hr => ⟨_, (dss_cons (ds_if (dt_cmp op_ge cmpD.mono fitsCmp (de_var (pv 0)) (de_bin op_pow powD.mono fitsPow de_int de_int))
    (dss_one (ds_ret (de_var (pv 0))))
    dss_nil)
    (dss_cons (ds_set (i := 2) (de_lst (da_cons de_int (da_cons de_int (da_cons de_int (da_cons de_int (da_cons de_int (da_cons de_int (da_cons de_int da_nil)))))))) sc_law_spread.nd)
    (dss_cons (ds_set (i := 2) (de_bin op_addA addD.mono fitsAdd (de_var (pv 2)) (de_lst (da_cons de_int (da_cons de_int (da_cons de_int (da_cons de_int (da_cons de_int (da_cons de_int da_nil)))))))) sc_law_spread.nd)
    (dss_cons (ds_set (i := 3) (de_bin op_addA addD.mono fitsAdd (de_bin op_addA addD.mono fitsAdd (de_bin op_mulA mulD.mono fitsMul (de_bin op_mod modD.mono fitsMod (de_bt intD.mono fitsInt call_int1 (da_cons (de_var (pv 0)) da_nil) T.z_int) de_int) (de_bin op_addA addD.mono fitsAdd (de_bin op_mulA mulD.mono fitsMul de_int (de_var (pv 1))) de_int)) (de_bin op_mulA mulD.mono fitsMul (de_var (pv 1)) de_int)) de_int) sc_law_spread.nd)
    (dss_cons (ds_set (i := 4) (de_bin op_mod modD.mono fitsMod (de_bt intD.mono fitsInt call_int1 (da_cons (de_bin op_pow powD.mono fitsPow (de_var (pv 3)) de_int) da_nil) T.z_int) (de_idx (de_var (pv 2)) (de_bin op_mod modD.mono fitsMod (de_bt intD.mono fitsInt call_int1 (da_cons (de_var (pv 1)) da_nil) T.z_int) de_int))) sc_law_spread.nd)
    (dss_cons (ds_set (i := 5) (de_bin op_addA addD.mono fitsAdd (de_bin op_mod modD.mono fitsMod (de_bt intD.mono fitsInt call_int1 (da_cons (de_var (pv 0)) da_nil) T.z_int) de_int) de_int) sc_law_spread.nd)
    (dss_cons (ds_set (i := 6) (de_bin op_mod modD.mono fitsMod (de_bt intD.mono fitsInt call_int1 (da_cons (de_bin op_pow powD.mono fitsPow (de_bin op_addA addD.mono fitsAdd (de_bin op_mulA mulD.mono fitsMul (de_var (pv 4)) (de_bin op_addA addD.mono fitsAdd (de_var (pv 1)) de_int)) (de_var (pv 5))) de_int) da_nil) T.z_int) (de_idx (de_var (pv 2)) (de_bin op_mod modD.mono fitsMod (de_bt intD.mono fitsInt call_int1 (da_cons (de_bin op_addA addD.mono fitsAdd (de_var (pv 1)) de_int) da_nil) T.z_int) de_int))) sc_law_spread.nd)
    (dss_cons (ds_set (i := 7) (de_bin op_mod modD.mono fitsMod (de_bt intD.mono fitsInt call_int1 (da_cons (de_bin op_pow powD.mono fitsPow (de_bin op_addA addD.mono fitsAdd (de_bin op_addA addD.mono fitsAdd (de_var (pv 6)) (de_bin op_mod modD.mono fitsMod (de_bt intD.mono fitsInt call_int1 (da_cons (de_var (pv 4)) da_nil) T.z_int) de_int)) (de_var (pv 1))) de_int) da_nil) T.z_int) (de_idx (de_var (pv 2)) (de_bin op_mod modD.mono fitsMod (de_bt intD.mono fitsInt call_int1 (da_cons (de_bin op_addA addD.mono fitsAdd (de_var (pv 1)) de_int) da_nil) T.z_int) de_int))) sc_law_spread.nd)
    (dss_one (ds_ret (de_bin op_addA addD.mono fitsAdd (de_bin op_mulA mulD.mono fitsMul (de_bin op_addA addD.mono fitsAdd (de_bin op_mulA mulD.mono fitsMul (de_var (pv 4)) de_int) (de_var (pv 6))) de_int) (de_var (pv 7))))))))))))), ?_⟩
  rintro ds n Q x ⟨c, a, rfl, a0, am, q⟩
  simp only [wRet, wSet, wSeq, wNext, wDrop, wIfS, wTest, wAnd, wOr, wNot, wIf, wBin, wVar, wC, wAndV, wOrV, wNotV, wIsN, wNotN, wNeg, wChain, wNil, wCons, wTup, wLst, wBi, wCall, wIsi, wSl, wSo, wNo, wSeqI, wFor, gNm, gTp, puts, wAsg, wPar, wMul, wmD, wmO, putsI, wAug, wTryIs, wRng1, wRng2, wEnum, wEnumT, wZip, wLc, wYes, wLend, wRel, wOwn, wApp, wIns, wSetIx, wLstF, wListF, wRepF, wAddF, wSlS, wParO, wRevT, wSortedSet, wSortedSetL, wSortedSetT, wKeys, weI, wExt, allD, wMt, wRaise, wSeqO, wCallF, plainO, wCallA, wIdx0, wAnF, wSetA, wUnA, wSeqA, plainA, wFld, wFldO, wMake, wLRg, Ans.data, Ans.own.injEq, Ans.tup.injEq, Ans.dat.injEq, wTry, wTryM, wHs, wIsC, enOf, put, putUn, defEnds, lendE, lend, wipeE, hide, lenD, intD, listD, tupleD, reprD, wPen0, wPen1, wPen2, wPenS1, wPenS2, penAt, List.map_cons, List.map_nil, List.length_cons, List.length_nil, List.nil_append, List.cons_append, Nat.reduceAdd, Nat.reduceSub, Nat.reduceLeDiff, Nat.zero_add, List.replicate_zero, List.replicate_succ, List.getElem?_cons_zero, List.getElem?_cons_succ, List.set_cons_zero, List.set_cons_succ, Option.some.injEq, Slot.dat.injEq, Slot.own.injEq, PyData.bool.injEq, PyData.int.injEq, PyData.tuple.injEq, PyData.list.injEq, exists_eq_left', exists_eq_left, and_true, true_and, if_true, if_false, Bool.false_eq_true, reduceCtorEq, List.mapIdx_cons, List.mapIdx_nil, cmpD, powD, modD, mulD, addD]
  refine ⟨⟨by decide, by decide, by decide⟩, ?_⟩
  by_cases hb : (10 : Int) ^ Int.toNat 18 ≤ c
  · rw [if_pos (decide_eq_true hb)]
    exact q c
  rw [if_neg (by rw [decide_eq_false hb]; decide)]
  have c0 : 0 ≤ c % 1000000007 := Int.emod_nonneg _ (by decide)
  have c1 : c % 1000000007 ≤ 1000000006 := by have := Int.emod_lt_of_pos c (show (0 : Int) < 1000000007 by decide); omega
  have am' : a ≤ 1000000 := am
  have r0 : 0 ≤ c % 65537 := Int.emod_nonneg _ (by decide)
  have r1 : c % 65537 ≤ 65536 := by have := Int.emod_lt_of_pos c (show (0 : Int) < 65537 by decide); omega
  obtain ⟨m0, m1⟩ := mulB c0 (show 0 ≤ 2 * a + 69069 by omega) c1 (show 2 * a + 69069 ≤ 2069069 by omega)
  refine ⟨by rw [sizeLine_eq]; decide, by decide, .inl ⟨by decide, by decide⟩, .inl ⟨by omega, by omega⟩, .inl ⟨by omega, by omega⟩, ⟨by decide, by decide, by omega⟩, by decide, ?_⟩
  obtain ⟨p1, e1, x0, x1⟩ := pick13 (xs := [PyData.int 2147483629, PyData.int 2147483587, PyData.int 2147483579, PyData.int 2147483563, PyData.int 2147483549, PyData.int 2147483543, PyData.int 2147483497, PyData.int 2147483489, PyData.int 2147483477, PyData.int 2147483423, PyData.int 2147483399, PyData.int 2147483353, PyData.int 2147483323]) rfl (by decide) a
  obtain ⟨p2, e2, y0, y1⟩ := pick13 (xs := [PyData.int 2147483629, PyData.int 2147483587, PyData.int 2147483579, PyData.int 2147483563, PyData.int 2147483549, PyData.int 2147483543, PyData.int 2147483497, PyData.int 2147483489, PyData.int 2147483477, PyData.int 2147483423, PyData.int 2147483399, PyData.int 2147483353, PyData.int 2147483323]) rfl (by decide) (a + 5)
  obtain ⟨p3, e3, z0, z1⟩ := pick13 (xs := [PyData.int 2147483629, PyData.int 2147483587, PyData.int 2147483579, PyData.int 2147483563, PyData.int 2147483549, PyData.int 2147483543, PyData.int 2147483497, PyData.int 2147483489, PyData.int 2147483477, PyData.int 2147483423, PyData.int 2147483399, PyData.int 2147483353, PyData.int 2147483323]) rfl (by decide) (a + 7)
  refine ⟨_, e1, x0, ?_⟩
  generalize (c % 1000000007 * (2 * a + 69069) + a * 40503 + 977) ^ Int.toNat 3 = u1
  have u0 : 0 ≤ u1 % p1 := Int.emod_nonneg _ (by omega)
  have u2 : u1 % p1 ≤ 2147483647 := by have := Int.emod_lt_of_pos u1 x0; omega
  generalize u1 % p1 = v1 at u0 u2
  obtain ⟨n0, n1⟩ := mulB u0 (show 0 ≤ a + 3 by omega) u2 (show a + 3 ≤ 1000003 by omega)
  refine ⟨by decide, .inl ⟨by omega, by omega⟩, ⟨by decide, by decide, by omega⟩, by decide, _, e2, y0, ?_⟩
  generalize (v1 * (a + 3) + (c % 65537 + 5)) ^ Int.toNat 5 = u3
  have w0 : 0 ≤ u3 % p2 := Int.emod_nonneg _ (by omega)
  have w2 : u3 % p2 ≤ 2147483647 := by have := Int.emod_lt_of_pos u3 y0; omega
  generalize u3 % p2 = v2 at w0 w2
  have t0 : 0 ≤ v1 % 1009 := Int.emod_nonneg _ (by decide)
  have t1 : v1 % 1009 ≤ 1009 := by have := Int.emod_lt_of_pos v1 (show (0 : Int) < 1009 by decide); omega
  refine ⟨by decide, ⟨by decide, by decide, by omega⟩, by decide, _, e3, z0, ?_⟩
  exact ⟨.inl ⟨by omega, by omega⟩, .inr ⟨by decide, by decide⟩, q _⟩
abbrev pen (pre : List D → Prop) (post : List D → D → Prop) (c : Nat) : Wc := fun ds k Q _ => ∃ es k', ds = penD :: es ∧ k = k' + c ∧ pre es ∧ ∀ r k'', k' ≤ k'' → post es r → Q r k''
theorem pen.mono {pre : List D → Prop} {post : List D → D → Prop} {c : Nat} : Wc.Mono (pen pre post c) := fun ds k Q Q' x x' h1 _ ⟨es, k', e, p1, p2, q⟩ => ⟨es, k', e, p1, p2, fun r k'' l z => h1 _ _ (q r k'' l z)⟩
/-- the next draw below m -/
def w_law_take : Wc := fun ds k Q _ => ∃ (m : Int) (k' : Nat), ds = [penD, .int m] ∧ k = k' + 1 ∧ 0 < m ∧ m.natAbs < 2 ^ 9000 ∧ ∀ r : Int, 0 ≤ r → r < m → ∀ k'', k' ≤ k'' → Q (.int r) k''
theorem m_law_take : Wc.Mono w_law_take := fun ds k Q Q' x x' h1 _ ⟨m, k', e, p1, p2, p3, q⟩ => ⟨m, k', e, p1, p2, p3, fun r z1 z2 k'' z3 => h1 _ _ (q r z1 z2 k'' z3)⟩
theorem d_law_take (T : Txt K mg A) (d_law_spread : Def P w K mg base "_law_spread" 1 ["_law_cell", "_law_at"] w_law_spread) (F : FunAt K mg "_law_take" s_law_take ["_law_pen", "_law_many"]) : Def P w K mg base "_law_take" 2 ["_law_pen", "_law_many"] w_law_take := by
  refine defDp F sc_law_take (fun ds k Q x ⟨c, a, e, _⟩ => by rw [e]; rfl) fun f cdv Ar outer s H E p G xs hg hr hP => ⟨_, (dss_cons (ds_if (dt_cmp op_lt cmpD.mono fitsCmp (de_pen2 (pv 0)) (de_var (pv 1)))
    (dss_cons (ds_set (i := 2) (de_pen1 (pv 0)) sc_law_take.nd)
    (dss_cons (ds_set (i := 3) de_int sc_law_take.nd)
    (dss_cons (ds_if (dt_cmp op_lt cmpD.mono fitsCmp (de_var (pv 2)) (de_bi lenD.mono fitsLen call_len_seq (da_cons (de_pen0 hP (pv 0)) da_nil) T.z_len))
    (dss_one (ds_set (i := 3) (de_idx (de_pen0 hP (pv 0)) (de_var (pv 2))) sc_law_take.nd))
    (dss_one (ds_if (dt_cmp op_gt cmpD.mono fitsCmp (de_bi lenD.mono fitsLen call_len_seq (da_cons (de_pen0 hP (pv 0)) da_nil) T.z_len) de_int)
    (dss_one (ds_set (i := 3) (de_bin op_mod modD.mono fitsMod (de_bt intD.mono fitsInt call_int1 (da_cons (de_idx (de_pen0 hP (pv 0)) (de_bin op_mod modD.mono fitsMod (de_bt intD.mono fitsInt call_int1 (da_cons (de_bin op_addA addD.mono fitsAdd (de_bin op_mulA mulD.mono fitsMul (de_var (pv 2)) de_int) de_int) da_nil) T.z_int) (de_bi lenD.mono fitsLen call_len_seq (da_cons (de_pen0 hP (pv 0)) da_nil) T.z_len))) da_nil) T.z_int) (de_bin op_addA addD.mono fitsAdd (de_bin op_pow powD.mono fitsPow de_int de_int) (de_var (pv 2)))) sc_law_take.nd))
    dss_nil)))
    (dss_cons (ds_pen1 (de_bin op_addA addD.mono fitsAdd (de_var (pv 2)) de_int) (pv 0))
    (dss_one (ds_pen2 (de_fn d_law_spread m_law_spread hg hr (takes_of rfl rfl rfl rfl) (da_cons (de_var (pv 3)) (da_cons (de_var (pv 2)) da_nil))) (pv 0)))))))
    dss_nil)
    (dss_cons (ds_set (i := 4) (de_bin op_mod modD.mono fitsMod (de_bt intD.mono fitsInt call_int1 (da_cons (de_pen2 (pv 0)) da_nil) T.z_int) (de_var (pv 1))) sc_law_take.nd)
    (dss_cons (ds_pen2 (de_bin op_fdivW divD.mono fitsDiv (de_pen2 (pv 0)) (de_var (pv 1))) (pv 0))
    (dss_one (ds_ret (de_var (pv 4))))))), ?_⟩
  rintro ds n Q x ⟨m, k', rfl, rfl, m0, m1, q⟩
  simp only [wRet, wSet, wSeq, wNext, wDrop, wIfS, wTest, wAnd, wOr, wNot, wIf, wBin, wVar, wC, wAndV, wOrV, wNotV, wIsN, wNotN, wNeg, wChain, wNil, wCons, wTup, wLst, wBi, wCall, wIsi, wSl, wSo, wNo, wSeqI, wFor, gNm, gTp, puts, wAsg, wPar, wMul, wmD, wmO, putsI, wAug, wTryIs, wRng1, wRng2, wEnum, wEnumT, wZip, wLc, wYes, wLend, wRel, wOwn, wApp, wIns, wSetIx, wLstF, wListF, wRepF, wAddF, wSlS, wParO, wRevT, wSortedSet, wSortedSetL, wSortedSetT, wKeys, weI, wExt, allD, wMt, wRaise, wSeqO, wCallF, plainO, wCallA, wIdx0, wAnF, wSetA, wUnA, wSeqA, plainA, wFld, wFldO, wMake, wLRg, Ans.data, Ans.own.injEq, Ans.tup.injEq, Ans.dat.injEq, wTry, wTryM, wHs, wIsC, enOf, put, putUn, defEnds, lendE, lend, wipeE, hide, lenD, intD, listD, tupleD, reprD, wPen0, wPen1, wPen2, wPenS1, wPenS2, penAt, List.map_cons, List.map_nil, List.length_cons, List.length_nil, List.nil_append, List.cons_append, Nat.reduceAdd, Nat.reduceSub, Nat.reduceLeDiff, Nat.zero_add, List.replicate_zero, List.replicate_succ, List.getElem?_cons_zero, List.getElem?_cons_succ, List.set_cons_zero, List.set_cons_succ, Option.some.injEq, Slot.dat.injEq, Slot.own.injEq, PyData.bool.injEq, PyData.int.injEq, PyData.tuple.injEq, PyData.list.injEq, exists_eq_left', exists_eq_left, and_true, true_and, if_true, if_false, Bool.false_eq_true, reduceCtorEq, List.mapIdx_cons, List.mapIdx_nil, cmpD, powD, modD, mulD, addD, divD]
  have fin : ∀ (s : Int) (k'' : Nat), k' ≤ k'' → Q (.int (s % m)) k'' := fun s k'' l => q _ (Int.emod_nonneg _ (by omega)) (Int.emod_lt_of_pos _ m0) k'' l
  have at_ : ∀ i : Int, 0 ≤ i → i < (xs.map PyData.int).length → ∃ v, atI (xs.map PyData.int) i = some (.int v) := fun i h0 h1 => by
    have z := getD_mem h0 h1
    obtain ⟨v, _, hv⟩ := List.mem_map.mp z
    exact ⟨v, by rw [atI_pos h0 h1, hv]⟩
  intro s
  by_cases hs : s < m
  · rw [if_pos (decide_eq_true hs)]
    intro j j0 jm
    have jm' : j + (k' + 1 : Nat) ≤ 1000000 := jm
    have go : ∀ (c : Int), ∃ (j_1 : Int) (k_1 : Nat), j + 1 = j_1 ∧ 0 ≤ j_1 ∧ j_1 + (k_1 : Int) ≤ (most : Int) ∧ w_law_spread [.int c, .int j] k_1 (fun d k_2 => ∃ j, d = PyData.int j ∧ ∀ s : Int, 0 < m ∧ ∀ (s_1 : Int), (0 < m ∧ m.natAbs < 2 ^ 9000) ∧ Q (PyData.int (s % m)) k_2) (fun y k_2 => x y k_2) := fun c =>
      ⟨_, k', rfl, by omega, by show j + 1 + (k' : Int) ≤ 1000000; omega, c, j, rfl, j0, by show j ≤ 1000000; omega, fun r => ⟨_, rfl, fun s => ⟨m0, fun s_1 => ⟨⟨m0, m1⟩, fin s k' (Nat.le_refl _)⟩⟩⟩⟩
    by_cases h1 : j < ((xs.map PyData.int).length : Int)
    · rw [if_pos (decide_eq_true h1)]
      obtain ⟨v, hv⟩ := at_ j j0 h1
      exact ⟨_, hv, go v⟩
    · rw [if_neg (by rw [decide_eq_false h1]; decide)]
      by_cases h2 : (0 : Int) < ((xs.map PyData.int).length : Int)
      · rw [if_pos (decide_eq_true h2)]
        obtain ⟨v, hv⟩ := at_ ((j * 5 + 3) % ((xs.map PyData.int).length : Int)) (Int.emod_nonneg _ (by omega)) (Int.emod_lt_of_pos _ h2)
        exact ⟨.inl ⟨by omega, by omega⟩, h2, _, hv, ⟨by decide, by decide, by decide⟩, Int.add_pos_of_pos_of_nonneg (show (0 : Int) < 10 ^ Int.toNat 17 by decide) j0, go _⟩
      · rw [if_neg (by rw [decide_eq_false h2]; decide)]
        exact go 0
  · rw [if_neg (by rw [decide_eq_false hs]; decide)]
    exact fun s => ⟨m0, fun s_1 => ⟨⟨m0, m1⟩, fin s _ (Nat.le_succ _)⟩⟩
def w_law_anew : Wc := fun ds k Q _ => ds = [penD] ∧ Q penD k
theorem m_law_anew : Wc.Mono w_law_anew := fun ds k Q Q' x x' h1 _ ⟨e, q⟩ => ⟨e, h1 _ _ q⟩
theorem d_law_anew (T : Txt K mg A) (F : FunAt K mg "_law_anew" s_law_anew ["_law_pen"]) : Def P w K mg base "_law_anew" 1 ["_law_pen"] w_law_anew := by
  refine defD F sc_law_anew (fun ds k Q x ⟨e, _⟩ => by rw [e]; rfl) fun f cdv Ar outer s H E p G hg hr => ⟨_, (dss_cons (ds_pen2 de_int (pv 0))
    (dss_one (ds_ret (de_var (pv 0))))), ?_⟩
  rintro ds n Q x ⟨rfl, q⟩
  simp only [wRet, wSet, wSeq, wNext, wDrop, wIfS, wTest, wAnd, wOr, wNot, wIf, wBin, wVar, wC, wAndV, wOrV, wNotV, wIsN, wNotN, wNeg, wChain, wNil, wCons, wTup, wLst, wBi, wCall, wIsi, wSl, wSo, wNo, wSeqI, wFor, gNm, gTp, puts, wAsg, wPar, wMul, wmD, wmO, putsI, wAug, wTryIs, wRng1, wRng2, wEnum, wEnumT, wZip, wLc, wYes, wLend, wRel, wOwn, wApp, wIns, wSetIx, wLstF, wListF, wRepF, wAddF, wSlS, wParO, wRevT, wSortedSet, wSortedSetL, wSortedSetT, wKeys, weI, wExt, allD, wMt, wRaise, wSeqO, wCallF, plainO, wCallA, wIdx0, wAnF, wSetA, wUnA, wSeqA, plainA, wFld, wFldO, wMake, wLRg, Ans.data, Ans.own.injEq, Ans.tup.injEq, Ans.dat.injEq, wTry, wTryM, wHs, wIsC, enOf, put, putUn, defEnds, lendE, lend, wipeE, hide, lenD, intD, listD, tupleD, reprD, wPen0, wPen1, wPen2, wPenS1, wPenS2, penAt, List.map_cons, List.map_nil, List.length_cons, List.length_nil, List.nil_append, List.cons_append, Nat.reduceAdd, Nat.reduceSub, Nat.reduceLeDiff, Nat.zero_add, List.replicate_zero, List.replicate_succ, List.getElem?_cons_zero, List.getElem?_cons_succ, List.set_cons_zero, List.set_cons_succ, Option.some.injEq, Slot.dat.injEq, Slot.own.injEq, PyData.bool.injEq, PyData.int.injEq, PyData.tuple.injEq, PyData.list.injEq, exists_eq_left', exists_eq_left, and_true, true_and, if_true, if_false, Bool.false_eq_true, reduceCtorEq, List.mapIdx_cons, List.mapIdx_nil]
  exact q
theorem small9 {i : Int} (h : i.natAbs ≤ 2 ^ 20) : i.natAbs < 2 ^ 9000 := Nat.lt_of_le_of_lt h (Nat.pow_lt_pow_right (by decide) (by decide))
theorem small9' {i : Int} (h : i.natAbs ≤ 2 ^ 120) : i.natAbs < 2 ^ 9000 := Nat.lt_of_le_of_lt h (Nat.pow_lt_pow_right (by decide) (by decide))
/-- any of some things -/
def w_law_one : Wc := fun ds k Q _ => ∃ (d : D) (xs : List D) (k' : Nat), ds = [penD, d] ∧ k = k' + 1 ∧ items d = some xs ∧ xs ≠ [] ∧ xs.length ≤ 1000000 ∧ ∀ r ∈ xs, ∀ k'', k' ≤ k'' → Q r k''
theorem m_law_one : Wc.Mono w_law_one := fun ds k Q Q' x x' h1 _ ⟨d, xs, k', e, p1, p2, p3, p4, q⟩ => ⟨d, xs, k', e, p1, p2, p3, p4, fun r z1 k'' z3 => h1 _ _ (q r z1 k'' z3)⟩
theorem d_law_one (T : Txt K mg A) (d_law_take : Def P w K mg base "_law_take" 2 ["_law_pen", "_law_many"] w_law_take) (F : FunAt K mg "_law_one" s_law_one ["_law_pen", "_law_some"]) : Def P w K mg base "_law_one" 3 ["_law_pen", "_law_some"] w_law_one := by
  refine defD F sc_law_one (fun ds k Q x ⟨d, xs, k', e, _⟩ => by rw [e]; rfl) fun f cdv Ar outer s H E p G hg hr => ⟨_, (dss_one (ds_ret (de_idx (de_var (pv 1)) (de_fn d_law_take m_law_take hg hr (takes_of rfl rfl rfl rfl) (da_cons (de_var (pv 0)) (da_cons (de_bi lenD.mono fitsLen call_len_seq (da_cons (de_var (pv 1)) da_nil) T.z_len) da_nil)))))), ?_⟩
  rintro ds n Q x ⟨d, xs, k', rfl, rfl, hd, hn, hl, q⟩
  simp only [wRet, wSet, wSeq, wNext, wDrop, wIfS, wTest, wAnd, wOr, wNot, wIf, wBin, wVar, wC, wAndV, wOrV, wNotV, wIsN, wNotN, wNeg, wChain, wNil, wCons, wTup, wLst, wBi, wCall, wIsi, wSl, wSo, wNo, wSeqI, wFor, gNm, gTp, puts, wAsg, wPar, wMul, wmD, wmO, putsI, wAug, wTryIs, wRng1, wRng2, wEnum, wEnumT, wZip, wLc, wYes, wLend, wRel, wOwn, wApp, wIns, wSetIx, wLstF, wListF, wRepF, wAddF, wSlS, wParO, wRevT, wSortedSet, wSortedSetL, wSortedSetT, wKeys, weI, wExt, allD, wMt, wRaise, wSeqO, wCallF, plainO, wCallA, wIdx0, wAnF, wSetA, wUnA, wSeqA, plainA, wFld, wFldO, wMake, wLRg, Ans.data, Ans.own.injEq, Ans.tup.injEq, Ans.dat.injEq, wTry, wTryM, wHs, wIsC, enOf, put, putUn, defEnds, lendE, lend, wipeE, hide, lenD, intD, listD, tupleD, reprD, wPen0, wPen1, wPen2, wPenS1, wPenS2, penAt, List.map_cons, List.map_nil, List.length_cons, List.length_nil, List.nil_append, List.cons_append, Nat.reduceAdd, Nat.reduceSub, Nat.reduceLeDiff, Nat.zero_add, List.replicate_zero, List.replicate_succ, List.getElem?_cons_zero, List.getElem?_cons_succ, List.set_cons_zero, List.set_cons_succ, Option.some.injEq, Slot.dat.injEq, Slot.own.injEq, PyData.bool.injEq, PyData.int.injEq, PyData.tuple.injEq, PyData.list.injEq, exists_eq_left', exists_eq_left, and_true, true_and, if_true, if_false, Bool.false_eq_true, reduceCtorEq, List.mapIdx_cons, List.mapIdx_nil]
  have pos : 0 < xs.length := List.length_pos_iff.mpr hn
  have fin : w_law_take [penD, .int xs.length] (k' + 1) (fun r k'' => idxD d r fun e => Q e k'') (fun y k_1 => x y k_1) :=
    ⟨xs.length, k', rfl, rfl, by omega, small9 (by omega), fun r r0 r1 k'' l => by
      have m := q _ (getD_mem r0 r1) k'' l
      cases d with
      | list ys => cases hd; exact ⟨_, atI_pos r0 r1, m⟩
      | tuple ys => cases hd; exact ⟨_, atI_pos r0 r1, m⟩
      | _ => cases hd⟩
  cases d with
  | list ys => cases hd; exact fin
  | tuple ys => cases hd; exact fin
  | _ => cases hd
/-- the numbers below m in any order -/
def w_law_drawn : Wc := fun ds k Q _ => ∃ (m k' : Nat), ds = [penD, .int m] ∧ k = k' + m ∧ m ≤ 100 ∧ ∀ ns : List Int, ns.length = m → ns.Nodup → (∀ i ∈ ns, 0 ≤ i ∧ i < m) → ∀ k'', k' ≤ k'' → Q (.list (ns.map PyData.int)) k''
theorem m_law_drawn : Wc.Mono w_law_drawn := fun ds k Q Q' x x' h1 _ ⟨m, k', e, p1, p2, q⟩ => ⟨m, k', e, p1, p2, fun r z1 z2 z3 k'' z4 => h1 _ _ (q r z1 z2 z3 k'' z4)⟩
theorem d_law_drawn (T : Txt K mg A) (d_law_take : Def P w K mg base "_law_take" 2 ["_law_pen", "_law_many"] w_law_take) (F : FunAt K mg "_law_drawn" s_law_drawn ["_law_pen", "_law_many"]) : Def P w K mg base "_law_drawn" 3 ["_law_pen", "_law_many"] w_law_drawn := by
  refine defD F sc_law_drawn (fun ds k Q x ⟨d, k', e, _⟩ => by rw [e]; rfl) fun f cdv Ar outer s H E p G hg hr => ⟨_, (dss_cons (ds_own (i := 2) (df_lst da_nil) sc_law_drawn.nd)
    (dss_cons (ds_for (passes_of rfl) rfl (di_rng1 (de_var (pv 1)) T.z_range) (dg_nm (i := 3) sc_law_drawn.nd)
    (dss_one (ds_insert (i := 2) (de_fn d_law_take m_law_take hg hr (takes_of rfl rfl rfl rfl) (da_cons (de_var (pv 0)) (da_cons (de_bin op_addA addD.mono fitsAdd (de_var (pv 3)) de_int) da_nil))) (de_var (pv 3)) (pv 2))))
    (dss_rel (dss_one (ds_ret (de_var (pv 2))))))), ?_⟩
  rintro ds n Q x ⟨m, k', rfl, rfl, hm, q⟩
  simp only [wRet, wSet, wSeq, wNext, wDrop, wIfS, wTest, wAnd, wOr, wNot, wIf, wBin, wVar, wC, wAndV, wOrV, wNotV, wIsN, wNotN, wNeg, wChain, wNil, wCons, wTup, wLst, wBi, wCall, wIsi, wSl, wSo, wNo, wSeqI, wFor, gNm, gTp, puts, wAsg, wPar, wMul, wmD, wmO, putsI, wAug, wTryIs, wRng1, wRng2, wEnum, wEnumT, wZip, wLc, wYes, wLend, wRel, wOwn, wApp, wIns, wSetIx, wLstF, wListF, wRepF, wAddF, wSlS, wParO, wRevT, wSortedSet, wSortedSetL, wSortedSetT, wKeys, weI, wExt, allD, wMt, wRaise, wSeqO, wCallF, plainO, wCallA, wIdx0, wAnF, wSetA, wUnA, wSeqA, plainA, wFld, wFldO, wMake, wLRg, Ans.data, Ans.own.injEq, Ans.tup.injEq, Ans.dat.injEq, wTry, wTryM, wHs, wIsC, enOf, put, putUn, defEnds, lendE, lend, wipeE, hide, lenD, intD, listD, tupleD, reprD, wPen0, wPen1, wPen2, wPenS1, wPenS2, penAt, List.map_cons, List.map_nil, List.length_cons, List.length_nil, List.nil_append, List.cons_append, Nat.reduceAdd, Nat.reduceSub, Nat.reduceLeDiff, Nat.zero_add, List.replicate_zero, List.replicate_succ, List.getElem?_cons_zero, List.getElem?_cons_succ, List.set_cons_zero, List.set_cons_succ, Option.some.injEq, Slot.dat.injEq, Slot.own.injEq, PyData.bool.injEq, PyData.int.injEq, PyData.tuple.injEq, PyData.list.injEq, exists_eq_left', exists_eq_left, and_true, true_and, if_true, if_false, Bool.false_eq_true, reduceCtorEq, List.mapIdx_cons, List.mapIdx_nil]
  refine ⟨by omega,
        by omega, ?_⟩
  rw [Int.toNat_natCast]
  refine wLoop.ind (fun ds e => ∃ (j : Nat) (ns : List Int) (u : Slot) (k : Nat), e = ⟨[.dat penD, .dat (.int m), .own (ns.map PyData.int), u], k⟩ ∧ j ≤ m ∧ ds = rngD j (m - j) ∧ ns.length = j ∧ ns.Nodup ∧ (∀ i ∈ ns, 0 ≤ i ∧ i < j) ∧ k' + (m - j) ≤ k) ?_ ?_
    ⟨0, [], .un, k' + m, rfl, Nat.zero_le _, rfl, rfl, List.nodup_nil, fun i hi => (nomatch hi), Nat.le_refl _⟩
  · rintro e ⟨j, ns, u, k, rfl, hj, hd, hl, hn, hr, hk⟩
    have ej : j = m := by
      have := congrArg List.length hd
      rw [rngD_length, List.length_nil] at this
      omega
    subst ej
    exact ⟨_, rfl, q ns hl hn hr k (by omega)⟩
  · rintro d ds e ih ⟨j, ns, u, k, rfl, hj, hd, hl, hn, hr, hk⟩
    obtain ⟨t, ht⟩ : ∃ t, m - j = t + 1 := by
      have := congrArg List.length hd
      rw [rngD_length, List.length_cons] at this
      exact ⟨ds.length, this.symm⟩
    rw [ht, rngD_succ] at hd
    injection hd with hd1 hd2
    subst hd1 hd2
    simp only [wRet, wSet, wSeq, wNext, wDrop, wIfS, wTest, wAnd, wOr, wNot, wIf, wBin, wVar, wC, wAndV, wOrV, wNotV, wIsN, wNotN, wNeg, wChain, wNil, wCons, wTup, wLst, wBi, wCall, wIsi, wSl, wSo, wNo, wSeqI, wFor, gNm, gTp, puts, wAsg, wPar, wMul, wmD, wmO, putsI, wAug, wTryIs, wRng1, wRng2, wEnum, wEnumT, wZip, wLc, wYes, wLend, wRel, wOwn, wApp, wIns, wSetIx, wLstF, wListF, wRepF, wAddF, wSlS, wParO, wRevT, wSortedSet, wSortedSetL, wSortedSetT, wKeys, weI, wExt, allD, wMt, wRaise, wSeqO, wCallF, plainO, wCallA, wIdx0, wAnF, wSetA, wUnA, wSeqA, plainA, wFld, wFldO, wMake, wLRg, Ans.data, Ans.own.injEq, Ans.tup.injEq, Ans.dat.injEq, wTry, wTryM, wHs, wIsC, enOf, put, putUn, defEnds, lendE, lend, wipeE, hide, lenD, intD, listD, tupleD, reprD, wPen0, wPen1, wPen2, wPenS1, wPenS2, penAt, List.map_cons, List.map_nil, List.length_cons, List.length_nil, List.nil_append, List.cons_append, Nat.reduceAdd, Nat.reduceSub, Nat.reduceLeDiff, Nat.zero_add, List.replicate_zero, List.replicate_succ, List.getElem?_cons_zero, List.getElem?_cons_succ, List.set_cons_zero, List.set_cons_succ, Option.some.injEq, Slot.dat.injEq, Slot.own.injEq, PyData.bool.injEq, PyData.int.injEq, PyData.tuple.injEq, PyData.list.injEq, exists_eq_left', exists_eq_left, and_true, true_and, if_true, if_false, Bool.false_eq_true, reduceCtorEq, List.mapIdx_cons, List.mapIdx_nil, addD]
    obtain ⟨k1, rfl⟩ : ∃ k1, k = k1 + 1 := ⟨k - 1, by omega⟩
    refine ⟨⟨_, rfl⟩, (j : Int) + 1, k1, rfl, rfl, by omega, small9 (by omega), fun r r0 r1 k'' l => ⟨_, r, rfl, rfl, r0, by omega, by rw [List.length_map]; omega, ?_⟩⟩
    have hp := insP (ns := ns) (r := r.toNat) (j := (j : Int))
    refine ih _ ⟨j + 1, ns.take r.toNat ++ (j : Int) :: ns.drop r.toNat, _, k'', by rw [insI], by omega, ?_, ?_, ?_, fun i hi => ?_, by omega⟩
    · have : m - (j + 1) = t := by omega
      rw [this]
      rfl
    · rw [hp.length_eq, List.length_cons, hl]
    · rw [hp.nodup_iff, List.nodup_cons]
      exact ⟨fun h => by have := (hr _ h).2; omega, hn⟩
    · rcases List.mem_cons.mp (hp.mem_iff.mp hi) with rfl | hi
      · omega
      · have := hr i hi; omega
end
end L2.DL.K30
namespace L2.DL.K30
open PySem PySem.Spec
      PyProof.Rows
/-! ### columns -/
def lessB : D → Bool
  | .tuple xs => xs.all fun | .int i => decide (i < 2 ^ 110) | _ => false
  | _ => false
def okCol (c : D) : Prop := c = .none ∨ ((closedB c = true ∧ lessB c = true) ∧ Ok 4 1 c)
def nonN (cs : List D) : List D := cs.filterMap fun d => if isN d = true then none else some d
def okCols (c : D) : Prop := ∃ cs, c = .tuple cs ∧ (∀ d ∈ cs, okCol d) ∧ 1 ≤ cs.length ∧ cs.length ≤ 4 ∧ (nonN cs).length ≤ 2
theorem okCol.ok {c : D} (h : okCol c) : Ok 4 1 c := by
  rcases h with rfl | ⟨_, h⟩
  · exact Ok.none.mono (by decide) (by decide)
  · exact h
theorem okCols.ok {c : D} (h : okCols c) : Ok 17 2 c := by
  obtain ⟨cs, rfl, h1, h2, h3, h4⟩ := h
  exact (Ok.tuple (fun d hd => (h1 d hd).ok) h3).mono (by decide) (by decide)
theorem okCols.b {c : D} (h : okCols c) : colsB c = true := by
  obtain ⟨cs, rfl, h1, h2, h3, h4⟩ := h
  simp only [colsB, Bool.and_eq_true, decide_eq_true_eq]
  refine ⟨⟨h2, h3⟩, List.all_eq_true.mpr fun d hd => ?_, h4⟩
  obtain ⟨e, he, hn⟩ := List.mem_filterMap.mp hd
  split at hn
  · cases hn
  · cases hn
    rcases h1 d he with rfl | ⟨h, _⟩
    · rename_i n; exact absurd rfl n
    · exact h.1
theorem nonN_cons {c : D} {cs : List D} : nonN (c :: cs) = if isN c = true then nonN cs else c :: nonN cs := by
  unfold nonN
  rw [List.filterMap_cons]
  cases isN c <;> rfl
theorem nonN_set {d : D} : ∀ {cs : List D} {j : Nat}, (nonN (cs.set j d)).length ≤ (nonN cs).length + 1
  | [], _ => by simp [nonN]
  | c :: cs, 0 => by
    rw [List.set_cons_zero, nonN_cons, nonN_cons]
    cases isN d <;> cases isN c <;> simp <;> omega
  | c :: cs, j + 1 => by
    have ih := nonN_set (d := d) (cs := cs) (j := j)
    rw [List.set_cons_succ, nonN_cons, nonN_cons]
    cases isN c <;> simp <;> omega
def okColB (d : D) : Bool := (closedB d && lessB d) && (fine d && decide (wt d ≤ 4) && decide (d.depth ≤ 1))
theorem okCol_of {d : D} (h : okColB d = true) : okCol d := by
  simp only [okColB, Bool.and_eq_true, decide_eq_true_eq] at h
  exact .inr ⟨h.1, h.2.1.1, h.2.1.2, h.2.2⟩
section
variable {P : Program} {w : World} {K : PySem.W.Frag} {mg : Str → Option Value} {base : Heap} {A : Cls}
abbrev w_law_columns : Wc := pen (fun es => es = [.int 4]) (fun _ r => okCols r) 6
abbrev m_law_columns : Wc.Mono w_law_columns := pen.mono
theorem d_law_columns (T : Txt K mg A) (d_law_take : Def P w K mg base "_law_take" 2 ["_law_pen", "_law_many"] w_law_take) (d_law_one : Def P w K mg base "_law_one" 3 ["_law_pen", "_law_some"] w_law_one) (F : FunAt K mg "_law_columns" s_law_columns ["_law_pen", "_law_most"]) : Def P w K mg base "_law_columns" 4 ["_law_pen", "_law_most"] w_law_columns := by
  refine defD F sc_law_columns (fun ds k Q x ⟨es, k', e, _, p, _⟩ => by rw [e, p]; rfl) fun f cdv Ar outer s H E p G hg hr => ⟨_, (dss_cons (ds_own (i := 2) (df_rep (de_lst (da_cons de_non da_nil)) (de_bin op_addA addD.mono fitsAdd de_int (de_fn d_law_take m_law_take hg hr (takes_of rfl rfl rfl rfl) (da_cons (de_var (pv 0)) (da_cons (de_var (pv 1)) da_nil))))) sc_law_columns.nd)
    (dss_cons (ds_for (passes_of rfl) rfl (di_rng1 (de_fn d_law_one m_law_one hg hr (takes_of rfl rfl rfl rfl) (da_cons (de_var (pv 0)) (da_cons (de_lst (da_cons de_int (da_cons de_int (da_cons de_int (da_cons de_int (da_cons de_int da_nil)))))) da_nil))) T.z_range) (dg_nm (i := 3) sc_law_columns.nd)
    (dss_cons (ds_set (i := 4) (de_lst (da_cons (de_tup (da_cons de_int da_nil)) (da_cons (de_tup (da_cons de_int (da_cons de_int da_nil))) (da_cons (de_tup (da_cons de_int (da_cons de_int da_nil))) (da_cons (de_tup (da_cons de_int (da_cons de_int da_nil))) (da_cons (de_tup (da_cons de_int (da_cons de_int da_nil))) (da_cons (de_tup (da_cons de_int (da_cons de_int (da_cons de_int da_nil)))) (da_cons (de_tup (da_cons de_int (da_cons de_int (da_cons de_int da_nil)))) (da_cons (de_tup (da_cons de_int da_nil)) da_nil))))))))) sc_law_columns.nd)
    (dss_cons (ds_set (i := 4) (de_bin op_addA addD.mono fitsAdd (de_var (pv 4)) (de_lst (da_cons (de_tup (da_cons de_int (da_cons de_int (da_cons (de_bin op_pow powD.mono fitsPow de_int de_int) da_nil)))) (da_cons (de_tup (da_cons de_int (da_cons (de_bin op_pow powD.mono fitsPow de_int de_int) da_nil))) (da_cons (de_tup (da_cons de_int (da_cons de_int (da_cons de_int da_nil)))) da_nil))))) sc_law_columns.nd)
    (dss_one (ds_setix (i := 2) (de_lend fun _ _ => (de_fn d_law_take m_law_take hg hr takes0 (da_cons (de_var (pv 0)) (da_cons (de_bi lenD.mono fitsLen call_len_seq (da_cons (de_var (pv 2)) da_nil) T.z_len) da_nil)))) (de_fn d_law_one m_law_one hg hr (takes_of rfl rfl rfl rfl) (da_cons (de_var (pv 0)) (da_cons (de_var (pv 4)) da_nil))) (pv 2))))))
    (dss_rel (dss_one (ds_ret (de_bt tupleD.mono fitsTuple call_tuple_of (da_cons (de_var (pv 2)) da_nil) T.z_tuple)))))), ?_⟩
  rintro ds n Q x ⟨es, k', rfl, rfl, rfl, q⟩
  simp only [wRet, wSet, wSeq, wNext, wDrop, wIfS, wTest, wAnd, wOr, wNot, wIf, wBin, wVar, wC, wAndV, wOrV, wNotV, wIsN, wNotN, wNeg, wChain, wNil, wCons, wTup, wLst, wBi, wCall, wIsi, wSl, wSo, wNo, wSeqI, wFor, gNm, gTp, puts, wAsg, wPar, wMul, wmD, wmO, putsI, wAug, wTryIs, wRng1, wRng2, wEnum, wEnumT, wZip, wLc, wYes, wLend, wRel, wOwn, wApp, wIns, wSetIx, wLstF, wListF, wRepF, wAddF, wSlS, wParO, wRevT, wSortedSet, wSortedSetL, wSortedSetT, wKeys, weI, wExt, allD, wMt, wRaise, wSeqO, wCallF, plainO, wCallA, wIdx0, wAnF, wSetA, wUnA, wSeqA, plainA, wFld, wFldO, wMake, wLRg, Ans.data, Ans.own.injEq, Ans.tup.injEq, Ans.dat.injEq, wTry, wTryM, wHs, wIsC, enOf, put, putUn, defEnds, lendE, lend, wipeE, hide, lenD, intD, listD, tupleD, reprD, wPen0, wPen1, wPen2, wPenS1, wPenS2, penAt, List.map_cons, List.map_nil, List.length_cons, List.length_nil, List.nil_append, List.cons_append, Nat.reduceAdd, Nat.reduceSub, Nat.reduceLeDiff, Nat.zero_add, List.replicate_zero, List.replicate_succ, List.getElem?_cons_zero, List.getElem?_cons_succ, List.set_cons_zero, List.set_cons_succ, Option.some.injEq, Slot.dat.injEq, Slot.own.injEq, PyData.bool.injEq, PyData.int.injEq, PyData.tuple.injEq, PyData.list.injEq, exists_eq_left', exists_eq_left, and_true, true_and, if_true, if_false, Bool.false_eq_true, reduceCtorEq, List.mapIdx_cons, List.mapIdx_nil, addD, mulD, powD]
  refine ⟨4, k' + 5, rfl, rfl, by decide, small9 (by decide), fun r r0 r4 k1 l1 => ⟨_, 1 + r, rfl, rfl, by omega, by omega, by decide, ?_⟩⟩
  obtain ⟨k2, rfl⟩ : ∃ k2, k1 = k2 + 1 := ⟨k1 - 1, by omega⟩
  refine ⟨_, _, k2, rfl, rfl, rfl, by simp, by simp, fun v hv k3 l3 => ?_⟩
  obtain ⟨j, rfl, j0, j1⟩ : ∃ j : Nat, v = .int j ∧ 0 ≤ j ∧ j ≤ 2 := by
    simp only [List.mem_cons, List.not_mem_nil, or_false] at hv
    rcases hv with rfl | rfl | rfl | rfl | rfl
    · exact ⟨0, rfl, by omega, by omega⟩
    · exact ⟨1, rfl, by omega, by omega⟩
    · exact ⟨1, rfl, by omega, by omega⟩
    · exact ⟨2, rfl, by omega, by omega⟩
    · exact ⟨2, rfl, by omega, by omega⟩
  refine ⟨j, rfl, by omega, by omega, ?_⟩
  rw [Int.toNat_natCast]
  have hlen : (List.replicate (1 + r).toNat [PyData.none]).flatten.length = (1 + r).toNat := by simp
  refine wLoop.ind (fun ds e => ∃ fs u v k, e = ⟨[.dat penD, .dat (.int 4), .own fs, u, v], k⟩ ∧ 1 ≤ fs.length ∧ fs.length ≤ 4 ∧ (∀ d ∈ fs, okCol d) ∧ (nonN fs).length + ds.length ≤ 2 ∧ k' + 2 * ds.length ≤ k) ?_ ?_
    ⟨_, _, _, _, rfl, by rw [hlen]; omega, by rw [hlen]; omega, fun d hd => ?_, ?_, by rw [rngD_length]; omega⟩
  · rintro e ⟨fs, u, v, k, rfl, f1, f4, fc, fn, fk⟩
    simp only [wRet, wSet, wSeq, wNext, wDrop, wIfS, wTest, wAnd, wOr, wNot, wIf, wBin, wVar, wC, wAndV, wOrV, wNotV, wIsN, wNotN, wNeg, wChain, wNil, wCons, wTup, wLst, wBi, wCall, wIsi, wSl, wSo, wNo, wSeqI, wFor, gNm, gTp, puts, wAsg, wPar, wMul, wmD, wmO, putsI, wAug, wTryIs, wRng1, wRng2, wEnum, wEnumT, wZip, wLc, wYes, wLend, wRel, wOwn, wApp, wIns, wSetIx, wLstF, wListF, wRepF, wAddF, wSlS, wParO, wRevT, wSortedSet, wSortedSetL, wSortedSetT, wKeys, weI, wExt, allD, wMt, wRaise, wSeqO, wCallF, plainO, wCallA, wIdx0, wAnF, wSetA, wUnA, wSeqA, plainA, wFld, wFldO, wMake, wLRg, Ans.data, Ans.own.injEq, Ans.tup.injEq, Ans.dat.injEq, wTry, wTryM, wHs, wIsC, enOf, put, putUn, defEnds, lendE, lend, wipeE, hide, lenD, intD, listD, tupleD, reprD, wPen0, wPen1, wPen2, wPenS1, wPenS2, penAt, List.map_cons, List.map_nil, List.length_cons, List.length_nil, List.nil_append, List.cons_append, Nat.reduceAdd, Nat.reduceSub, Nat.reduceLeDiff, Nat.zero_add, List.replicate_zero, List.replicate_succ, List.getElem?_cons_zero, List.getElem?_cons_succ, List.set_cons_zero, List.set_cons_succ, Option.some.injEq, Slot.dat.injEq, Slot.own.injEq, PyData.bool.injEq, PyData.int.injEq, PyData.tuple.injEq, PyData.list.injEq, exists_eq_left', exists_eq_left, and_true, true_and, if_true, if_false, Bool.false_eq_true, reduceCtorEq, List.mapIdx_cons, List.mapIdx_nil]
    exact q _ k (by omega) ⟨fs, rfl, fc, f1, f4, by simpa using fn⟩
  · rintro d ds e ih ⟨fs, u, v, k, rfl, f1, f4, fc, fn, fk⟩
    simp only [wRet, wSet, wSeq, wNext, wDrop, wIfS, wTest, wAnd, wOr, wNot, wIf, wBin, wVar, wC, wAndV, wOrV, wNotV, wIsN, wNotN, wNeg, wChain, wNil, wCons, wTup, wLst, wBi, wCall, wIsi, wSl, wSo, wNo, wSeqI, wFor, gNm, gTp, puts, wAsg, wPar, wMul, wmD, wmO, putsI, wAug, wTryIs, wRng1, wRng2, wEnum, wEnumT, wZip, wLc, wYes, wLend, wRel, wOwn, wApp, wIns, wSetIx, wLstF, wListF, wRepF, wAddF, wSlS, wParO, wRevT, wSortedSet, wSortedSetL, wSortedSetT, wKeys, weI, wExt, allD, wMt, wRaise, wSeqO, wCallF, plainO, wCallA, wIdx0, wAnF, wSetA, wUnA, wSeqA, plainA, wFld, wFldO, wMake, wLRg, Ans.data, Ans.own.injEq, Ans.tup.injEq, Ans.dat.injEq, wTry, wTryM, wHs, wIsC, enOf, put, putUn, defEnds, lendE, lend, wipeE, hide, lenD, intD, listD, tupleD, reprD, wPen0, wPen1, wPen2, wPenS1, wPenS2, penAt, List.map_cons, List.map_nil, List.length_cons, List.length_nil, List.nil_append, List.cons_append, Nat.reduceAdd, Nat.reduceSub, Nat.reduceLeDiff, Nat.zero_add, List.replicate_zero, List.replicate_succ, List.getElem?_cons_zero, List.getElem?_cons_succ, List.set_cons_zero, List.set_cons_succ, Option.some.injEq, Slot.dat.injEq, Slot.own.injEq, PyData.bool.injEq, PyData.int.injEq, PyData.tuple.injEq, PyData.list.injEq, exists_eq_left', exists_eq_left, and_true, true_and, if_true, if_false, Bool.false_eq_true, reduceCtorEq, List.mapIdx_cons, List.mapIdx_nil, addD, powD]
    obtain ⟨k0, rfl⟩ : ∃ k0, k = k0 + 1 := ⟨k - 1, by rw [List.length_cons] at fk; omega⟩
    rw [List.length_cons] at fn fk
    refine ⟨⟨by decide, by decide, by decide⟩, ⟨by decide, by decide, by decide⟩, by rw [sizeLine_eq]; decide, _, _, k0, rfl, rfl, rfl, by simp, by simp, fun v hv k4 l4 => ⟨⟨fs, rfl⟩, ?_⟩⟩
    have ok : okCol v := okCol_of (List.all_eq_true.mp (by decide +kernel) v hv)
    obtain ⟨k5, rfl⟩ : ∃ k5, k4 = k5 + 1 := ⟨k4 - 1, by omega⟩
    refine ⟨fs.length, k5, rfl, rfl, by omega, small9 (by omega), fun i i0 i1 k6 l6 => ⟨rfl, fs, i, i.toNat, rfl, rfl, ixN_pos i0 i1, ih _ ⟨fs.set i.toNat v, _, _, k6, rfl, by simpa using f1, by simpa using f4, fun d hd => ?_, ?_, by omega⟩⟩⟩
    · rcases List.mem_or_eq_of_mem_set hd with hd | rfl
      · exact fc d hd
      · exact ok
    · have := nonN_set (d := v) (cs := fs) (j := i.toNat)
      omega
  · simp only [List.mem_flatten, List.mem_replicate] at hd
    obtain ⟨l, ⟨_, rfl⟩, hd⟩ := hd
    exact .inl (List.mem_singleton.mp hd)
  · have : nonN (List.replicate (1 + r).toNat [PyData.none]).flatten = [] := by
      generalize (1 + r).toNat = t
      induction t with
      | zero => rfl
      | succ t ih =>
        rw [List.replicate_succ, List.flatten_cons, List.singleton_append, nonN_cons, ih]
        rfl
    rw [this, rngD_length]
    simpa using j1
end
end L2.DL.K30
namespace L2.DL.K30
open PySem PySem.Spec
      PyProof.Rows
/-! ### values -/
theorem ascB_inv : ∀ {xs : List D} {l : Int}, ascB l xs = true → ∀ d ∈ xs, ∃ i, d = .int i ∧ l < i
  | [], _, _, d, hd => by cases hd
  | .int i :: xs, l, h, d, hd => by
    simp only [ascB, Bool.and_eq_true, decide_eq_true_eq] at h
    rcases List.mem_cons.mp
          hd with rfl | hd
    · exact ⟨i, rfl, h.1⟩
    · obtain ⟨j, rfl, hj⟩ := ascB_inv h.2 d hd
      exact ⟨j, rfl, by omega⟩
  | .none :: _, _, h, _, _ => by simp [ascB] at h
  | .bool _ :: _, _, h, _, _ => by simp [ascB] at h
  | .str _ :: _, _, h, _, _ => by simp [ascB] at h
  | .list _ :: _, _, h, _, _ => by simp [ascB] at h
  | .tuple _ :: _, _, h, _, _ => by simp [ascB] at h
  | .dict _ :: _, _, h, _, _ => by simp [ascB] at h
theorem okCol.inv {c : D} (h : okCol c) : c = .none ∨ ∃ xs, c = .tuple xs ∧ xs ≠ [] ∧ xs.length ≤ 3 ∧ ascB (-1) xs = true ∧ ∀ d ∈ xs, ∃ i : Int, d = .int i ∧ 0 ≤ i ∧ i < 2 ^ 110 := by
  rcases h with rfl | ⟨⟨h, hl⟩, _⟩
  · exact .inl rfl
  · cases c with
    | tuple xs =>
      simp only [closedB, Bool.and_eq_true, decide_eq_true_eq] at h
      refine .inr ⟨xs, rfl, fun e => ?_, h.1.2, h.2, fun d hd => ?_⟩
      · rw [e] at h; exact absurd h.1.1 (by decide)
      · obtain ⟨i, rfl, hi⟩ := ascB_inv h.2 d hd
        have := List.all_eq_true.mp hl _ hd
        simp only [decide_eq_true_eq] at this
        exact ⟨i, rfl, by omega, this⟩
    | _ => cases h
def okVal (c v : D) : Prop := ∃ i : Int, v = .int i ∧ 0 ≤ i ∧ i < 2 ^ 110 ∧ inCol c v = true
theorem okVal.b {c v : D} (h : okVal c v) : valB c v = true := by
  obtain ⟨i, rfl, h0, _, h2⟩ := h
  simp only [valB, Bool.and_eq_true, decide_eq_true_eq]
  exact ⟨h0, h2⟩
theorem okVal.ok {c v : D} (h : okVal c v) : Ok 1 0 v := by
  obtain ⟨i, rfl, h0, h1, h2⟩ := h
  exact Ok.int (by omega)
theorem inB_mem {i : Int} {xs : List D} (h : PyData.int i ∈ xs) : inB (.int i) xs = true :=
  List.any_eq_true.mpr ⟨_, h, by simp [PyData.eqv]⟩
section
variable {P : Program} {w : World} {K : PySem.W.Frag} {mg : Str → Option Value} {base : Heap} {A : Cls}
abbrev w_law_value : Wc := pen (fun es => ∃ c, es = [c] ∧ okCol c) (fun es v => ∀ c, es = [c] → okVal c v) 4
abbrev m_law_value : Wc.Mono w_law_value := pen.mono
theorem d_law_value (T : Txt K mg A) (d_law_take : Def P w K mg base "_law_take" 2 ["_law_pen", "_law_many"] w_law_take) (d_law_one : Def P w K mg base "_law_one" 3 ["_law_pen", "_law_some"] w_law_one) (F : FunAt K mg "_law_value" s_law_value ["_law_pen", "_law_column"]) : Def P w K mg base "_law_value" 4 ["_law_pen", "_law_column"] w_law_value := by
  refine defD F sc_law_value (fun ds k Q x ⟨es, k', e, _, ⟨c, p, _⟩, _⟩ => by rw [e, p]; rfl) fun f cdv Ar outer s H E p G hg hr => ⟨_, (dss_cons (ds_if (dt_notN (de_var (pv 1)))
    (dss_one (ds_ret (de_fn d_law_one m_law_one hg hr (takes_of rfl rfl rfl rfl) (da_cons (de_var (pv 0)) (da_cons (de_var (pv 1)) da_nil)))))
    dss_nil)
    (dss_cons (ds_set (i := 2) (de_lst (da_cons de_int (da_cons de_int (da_cons de_int (da_cons de_int (da_cons de_int (da_cons de_int (da_cons de_int (da_cons de_int (da_cons de_int (da_cons (de_fn d_law_take m_law_take hg hr (takes_of rfl rfl rfl rfl) (da_cons (de_var (pv 0)) (da_cons de_int da_nil))) (da_cons (de_fn d_law_take m_law_take hg hr (takes_of rfl rfl rfl rfl) (da_cons (de_var (pv 0)) (da_cons (de_bin op_pow powD.mono fitsPow de_int de_int) da_nil))) (da_cons (de_bin op_pow powD.mono fitsPow de_int de_int) da_nil))))))))))))) sc_law_value.nd)
    (dss_one (ds_ret (de_fn d_law_one m_law_one hg hr (takes_of rfl rfl rfl rfl) (da_cons (de_var (pv 0)) (da_cons (de_bin op_addA addD.mono fitsAdd (de_var (pv 2)) (de_lst (da_cons (de_bin op_addA addD.mono fitsAdd (de_bin op_pow powD.mono fitsPow de_int de_int) (de_fn d_law_take m_law_take hg hr (takes_of rfl rfl rfl rfl) (da_cons (de_var (pv 0)) (da_cons de_int da_nil)))) da_nil))) da_nil))))))), ?_⟩
  rintro ds n Q x ⟨es, k', rfl, rfl, ⟨c, rfl, hc⟩, q⟩
  simp only [wRet, wSet, wSeq, wNext, wDrop, wIfS, wTest, wAnd, wOr, wNot, wIf, wBin, wVar, wC, wAndV, wOrV, wNotV, wIsN, wNotN, wNeg, wChain, wNil, wCons, wTup, wLst, wBi, wCall, wIsi, wSl, wSo, wNo, wSeqI, wFor, gNm, gTp, puts, wAsg, wPar, wMul, wmD, wmO, putsI, wAug, wTryIs, wRng1, wRng2, wEnum, wEnumT, wZip, wLc, wYes, wLend, wRel, wOwn, wApp, wIns, wSetIx, wLstF, wListF, wRepF, wAddF, wSlS, wParO, wRevT, wSortedSet, wSortedSetL, wSortedSetT, wKeys, weI, wExt, allD, wMt, wRaise, wSeqO, wCallF, plainO, wCallA, wIdx0, wAnF, wSetA, wUnA, wSeqA, plainA, wFld, wFldO, wMake, wLRg, Ans.data, Ans.own.injEq, Ans.tup.injEq, Ans.dat.injEq, wTry, wTryM, wHs, wIsC, enOf, put, putUn, defEnds, lendE, lend, wipeE, hide, lenD, intD, listD, tupleD, reprD, wPen0, wPen1, wPen2, wPenS1, wPenS2, penAt, List.map_cons, List.map_nil, List.length_cons, List.length_nil, List.nil_append, List.cons_append, Nat.reduceAdd, Nat.reduceSub, Nat.reduceLeDiff, Nat.zero_add, List.replicate_zero, List.replicate_succ, List.getElem?_cons_zero, List.getElem?_cons_succ, List.set_cons_zero, List.set_cons_succ, Option.some.injEq, Slot.dat.injEq, Slot.own.injEq, PyData.bool.injEq, PyData.int.injEq, PyData.tuple.injEq, PyData.list.injEq, exists_eq_left', exists_eq_left, and_true, true_and, if_true, if_false, Bool.false_eq_true, reduceCtorEq, List.mapIdx_cons, List.mapIdx_nil, addD, mulD, powD]
  rcases hc.inv with rfl | ⟨xs, rfl, hn, hl, ha, hx⟩
  · simp only [isN, Bool.not_true, if_false, Bool.false_eq_true]
    refine ⟨100, k' + 3, rfl, rfl, by decide, small9 (by decide), fun r1 a1 b1 k1 l1 => ?_⟩
    obtain ⟨k1, rfl⟩ : ∃ k, k1 = k + 1 := ⟨k1 - 1, by omega⟩
    refine ⟨⟨by decide, by decide, by decide⟩, _, k1, rfl, rfl, by decide, small9' (by decide), fun r2 a2 b2 k2 l2 => ?_⟩
    obtain ⟨k2, rfl⟩ : ∃ k, k2 = k + 1 := ⟨k2 - 1, by omega⟩
    have e9 : (10 : Int) ^ Int.toNat 9 = 1000000000 := rfl
    have e29 : (10 : Int) ^ Int.toNat 29 = 100000000000000000000000000000 := rfl
    rw [e9] at b2
    rw [e9, e29]
    refine ⟨⟨by decide, by decide, by decide⟩, ⟨by decide, by decide, by decide⟩, 2, k2, rfl, rfl, by decide, small9 (by decide), fun r3 a3 b3 k3 l3 => ⟨by rw [sizeLine_eq]; decide, ?_⟩⟩
    obtain ⟨k3, rfl⟩ : ∃ k, k3 = k + 1 := ⟨k3 - 1, by omega⟩
    refine ⟨_, _, k3, rfl, rfl, rfl, by simp, by simp, fun r hr k'' l => q r k'' (by omega) fun c ec => ?_⟩
    cases ec
    simp only [List.mem_cons, List.not_mem_nil, or_false] at hr
    rcases hr with rfl | rfl | rfl | rfl | rfl | rfl | rfl | rfl | rfl | rfl | rfl | rfl | rfl <;> exact ⟨_, rfl, by omega, by omega, rfl⟩
  · simp only [isN, Bool.not_false, if_true]
    refine ⟨_, xs, k' + 3, rfl, rfl, rfl, hn, by omega, fun r hr k'' l => q r k'' (by omega) fun c ec => ?_⟩
    cases ec
    obtain ⟨i, rfl, h0, h1⟩ := hx r hr
    exact ⟨i, rfl, h0, h1, inB_mem hr⟩
end
end L2.DL.K30
namespace L2.DL.K30
open PySem PySem.Spec
      PyProof.Rows
/-! ### givens -/
/-- an entry, told by its column and its value -/
def entD (z : Int × D) : D := .tuple [.int z.1, z.2]
def okEnt (cs : List D) (z : Int × D) : Prop := 0 ≤ z.1 ∧ z.1 < cs.length ∧ (z.2 = .none ∨ okVal (cs.getD z.1.toNat .none) z.2)
theorem okEnt.b {cs : List D} {z : Int × D} (h : okEnt cs z) : entB cs (entD z) = true := by
  obtain ⟨h0, h1, h2⟩ := h
  simp only [entB, entD, Bool.and_eq_true, decide_eq_true_eq, Bool.or_eq_true]
  refine ⟨⟨h0, h1⟩, ?_⟩
  rcases h2 with h2 | h2
  · rw [h2]; exact .inl rfl
  · exact .inr h2.b
theorem okEnt.ok {cs : List D} {z : Int × D} (h : okEnt cs z) (hc : cs.length ≤ 4) : Ok 3 1 (entD z) := by
  obtain ⟨h0, h1, h2⟩ := h
  refine (Ok.tuple (n := 1) (m := 0) (k := 2) (fun d hd => ?_) (Nat.le_refl _)).mono (by decide) (by decide)
  rcases List.mem_cons.mp
        hd with rfl | hd
  · exact Ok.int (by omega)
  · cases List.mem_singleton.mp hd
    rcases h2 with h2 | h2
    · rw [h2]; exact Ok.none
    · exact h2.ok
theorem givL_of {cs : List D} : ∀ {zs : List (Int × D)} {l : Int}, (∀ z ∈ zs, okEnt cs z ∧ l < z.1) → (zs.map (·.1)).Pairwise (· < ·) → givL cs l (zs.map entD) = true
  | [], _, _, _ => rfl
  | z :: zs, l, h, hp => by
    rw [List.map_cons] at hp ⊢
    obtain ⟨p1, p2⟩ := List.pairwise_cons.mp hp
    simp only [givL, Bool.and_eq_true]
    refine ⟨(h z List.mem_cons_self).1.b, ?_⟩
    simp only [entD, Bool.and_eq_true, decide_eq_true_eq]
    exact ⟨(h z List.mem_cons_self).2, givL_of (fun y hy => ⟨(h y (List.mem_cons_of_mem _ hy)).1, p1 _ (List.mem_map.mpr ⟨y, hy, rfl⟩)⟩) p2⟩
end L2.DL.K30
namespace L2.DL.K30
open PySem PySem.Spec
      PyProof.Rows
/-! ### rules -/
theorem eqv_ints (a b : Int) : PyData.eqv (.int a) (.int b) = decide (a = b) := by
  rw [Bool.eq_iff_iff]
  simp [PyData.eqv]
theorem inB_not {i : Int} {ns : List Int} (h : i ∉ ns) : inB (.int i) (ns.map PyData.int) = false := by
  refine Bool.eq_false_iff.mpr fun e => ?_
  obtain ⟨z, hz, q⟩ := List.any_eq_true.mp e
  obtain ⟨j, hj, rfl⟩ := List.mem_map.mp hz
  rw [eqv_ints, decide_eq_true_eq] at q
  subst q
  exact h hj
end L2.DL.K30
namespace L2.DL.K30
open PySem PySem.Spec
      PyProof.Rows
section
variable {P : Program} {w : World} {K : PySem.W.Frag} {mg : Str → Option Value} {base : Heap} {A : Cls}
/-! ### tables and rules -/
def tabB (cs : List D) : D → Bool
  | .tuple rs => decide (rs.length ≤ 8) && rs.all (rowB cs)
  | _ => false
def rulsB (cs : List D) : D → Bool
  | .tuple rs => decide (rs.length ≤ 8) && rs.all (rulB cs)
  | _ => false
abbrev w_table_is_right : Wc := w2 (fun c v => colsish c ∧ Good v) (onCols tabB)
abbrev m_table_is_right : Wc.Mono w_table_is_right := w2.mono
theorem d_table_is_right (T : Txt K mg A) (d_row_is_right : Def P w K mg base "row_is_right" 3 ["columns", "value"] w_row_is_right) (F : FunAt K mg "table_is_right" s_table_is_right ["columns", "value"]) : Def P w K mg base "table_is_right" 4 ["columns", "value"] w_table_is_right := by
  obtain ⟨_, cc_MOST_ROWS⟩ := T.c_MOST_ROWS
  refine defD F sc_table_is_right (fun ds k Q x h => w2.len h) fun f cdv Ar outer s H E p G hg hr => ⟨_, (dss_cons (ds_if (DW.dt (dw_or (dt_not (dt_val (de_isi (T := "tuple") (de_var (pv 1)) T.z_isinstance T.z_tuple (by decide +kernel)))) (dw_or1 (dt_cmp op_gt cmpD.mono fitsCmp (de_bi lenD.mono fitsLen call_len_seq (da_cons (de_var (pv 1)) da_nil) T.z_len) (de_const cc_MOST_ROWS)))))
    (dss_one (ds_ret de_bl))
    dss_nil)
    (dss_cons (ds_for (passes_of rfl) rfl (di_seq (de_var (pv 1))) (dg_nm (i := 2) sc_table_is_right.nd)
    (dss_one (ds_if (dt_not (dt_val (de_fn d_row_is_right m_row_is_right hg hr (takes_of rfl rfl rfl rfl) (da_cons (de_var (pv 0)) (da_cons (de_var (pv 2)) da_nil)))))
    (dss_one (ds_ret de_bl))
    dss_nil)))
    (dss_one (ds_ret de_bl)))), ?_⟩
  rintro ds n Q x ⟨a, b, rfl, ⟨⟨cs, rfl, hc, hcl⟩, hv⟩, q⟩
  simp only [wRet, wSet, wSeq, wNext, wDrop, wIfS, wTest, wAnd, wOr, wNot, wIf, wBin, wVar, wC, wAndV, wOrV, wNotV, wIsN, wNotN, wNeg, wChain, wNil, wCons, wTup, wLst, wBi, wCall, wIsi, wSl, wSo, wNo, wSeqI, wFor, gNm, gTp, puts, wAsg, wPar, wMul, wmD, wmO, putsI, wAug, wTryIs, wRng1, wRng2, wEnum, wEnumT, wZip, wLc, wYes, wLend, wRel, wOwn, wApp, wIns, wSetIx, wLstF, wListF, wRepF, wAddF, wSlS, wParO, wRevT, wSortedSet, wSortedSetL, wSortedSetT, wKeys, weI, wExt, allD, wMt, wRaise, wSeqO, wCallF, plainO, wCallA, wIdx0, wAnF, wSetA, wUnA, wSeqA, plainA, wFld, wFldO, wMake, wLRg, Ans.data, Ans.own.injEq, Ans.tup.injEq, Ans.dat.injEq, wTry, wTryM, wHs, wIsC, enOf, put, putUn, defEnds, lendE, lend, wipeE, hide, lenD, intD, listD, tupleD, reprD, wPen0, wPen1, wPen2, wPenS1, wPenS2, penAt, List.map_cons, List.map_nil, List.length_cons, List.length_nil, List.nil_append, List.cons_append, Nat.reduceAdd, Nat.reduceSub, Nat.reduceLeDiff, Nat.zero_add, List.replicate_zero, List.replicate_succ, List.getElem?_cons_zero, List.getElem?_cons_succ, List.set_cons_zero, List.set_cons_succ, Option.some.injEq, Slot.dat.injEq, Slot.own.injEq, PyData.bool.injEq, PyData.int.injEq, PyData.tuple.injEq, PyData.list.injEq, exists_eq_left', exists_eq_left, and_true, true_and, if_true, if_false, Bool.false_eq_true, reduceCtorEq, List.mapIdx_cons, List.mapIdx_nil, kit_tuple hv.f, onCols] at q ⊢
  refine ⟨fine.nd hv.f, ?_⟩
  cases b with
  | tuple xs =>
    simp only [isT, Bool.not_true, if_false, Bool.false_eq_true, cmpD, tabB] at q ⊢
    refine ⟨_, rfl, ?_⟩
    by_cases hl : xs.length ≤ 8
    · have hl' : ¬ (8 : Int) < xs.length := by omega
      simp only [hl, hl', decide_true, decide_false, Bool.true_and, if_false, Bool.false_eq_true] at q ⊢
      refine ⟨xs, rfl, ?_⟩
      refine wLoop.ind (fun ds e => ∃ u, e = ⟨[.dat (.tuple cs), .dat (.tuple xs), u], n⟩ ∧ Q (.bool (ds.all (rowB cs))) n ∧ ∀ d ∈ ds, Good d) ?_ ?_ ⟨.un, rfl, q, hv.in_tuple⟩
      · rintro e ⟨u, rfl, q, _⟩
        exact q
      · rintro d ds e ih ⟨u, rfl, q, hf⟩
        simp only [wRet, wSet, wSeq, wNext, wDrop, wIfS, wTest, wAnd, wOr, wNot, wIf, wBin, wVar, wC, wAndV, wOrV, wNotV, wIsN, wNotN, wNeg, wChain, wNil, wCons, wTup, wLst, wBi, wCall, wIsi, wSl, wSo, wNo, wSeqI, wFor, gNm, gTp, puts, wAsg, wPar, wMul, wmD, wmO, putsI, wAug, wTryIs, wRng1, wRng2, wEnum, wEnumT, wZip, wLc, wYes, wLend, wRel, wOwn, wApp, wIns, wSetIx, wLstF, wListF, wRepF, wAddF, wSlS, wParO, wRevT, wSortedSet, wSortedSetL, wSortedSetT, wKeys, weI, wExt, allD, wMt, wRaise, wSeqO, wCallF, plainO, wCallA, wIdx0, wAnF, wSetA, wUnA, wSeqA, plainA, wFld, wFldO, wMake, wLRg, Ans.data, Ans.own.injEq, Ans.tup.injEq, Ans.dat.injEq, wTry, wTryM, wHs, wIsC, enOf, put, putUn, defEnds, lendE, lend, wipeE, hide, lenD, intD, listD, tupleD, reprD, wPen0, wPen1, wPen2, wPenS1, wPenS2, penAt, List.map_cons, List.map_nil, List.length_cons, List.length_nil, List.nil_append, List.cons_append, Nat.reduceAdd, Nat.reduceSub, Nat.reduceLeDiff, Nat.zero_add, List.replicate_zero, List.replicate_succ, List.getElem?_cons_zero, List.getElem?_cons_succ, List.set_cons_zero, List.set_cons_succ, Option.some.injEq, Slot.dat.injEq, Slot.own.injEq, PyData.bool.injEq, PyData.int.injEq, PyData.tuple.injEq, PyData.list.injEq, exists_eq_left', exists_eq_left, and_true, true_and, if_true, if_false, Bool.false_eq_true, reduceCtorEq, List.mapIdx_cons, List.mapIdx_nil]
        refine ⟨_, _, rfl, ⟨cs, rfl, hc, hf d List.mem_cons_self⟩, _, rfl, ?_⟩
        rw [List.all_cons] at q
        rcases Bool.eq_false_or_eq_true (rowB cs d) with h | h
        · simp only [h, Bool.true_and, Bool.not_true, if_false, Bool.false_eq_true] at q ⊢
          exact ih _ ⟨_, rfl, q, fun d hd => hf d (List.mem_cons_of_mem _ hd)⟩
        · simp only [h, Bool.false_and, Bool.not_false, if_true] at q ⊢
          exact q
    · have hl' : (8 : Int) < xs.length := by omega
      simp only [hl, hl', decide_true, decide_false, Bool.false_and, if_true] at q ⊢
      exact q
  | _ => exact q
abbrev w_check_table (A : Cls) : Wc := wChk2 A.InvalidTable (fun c v => colsish c ∧ Good v) tabB
abbrev m_check_table {A : Cls} : Wc.Mono (w_check_table A) := wChk2.mono
theorem d_check_table (T : Txt K mg A) (d_table_is_right : Def P w K mg base "table_is_right" 4 ["columns", "value"] w_table_is_right) (F : FunAt K mg "check_table" s_check_table ["columns", "table"]) : Def P w K mg base "check_table" 5 ["columns", "table"] (w_check_table A) := by
  refine defD F sc_check_table (fun ds k Q x ⟨a, b, e, _⟩ => by rw [e]; rfl) fun f cdv Ar outer s H E p G hg hr => ⟨_, (dss_one (ds_if (dt_not (dt_val (de_fn d_table_is_right m_table_is_right hg hr (takes_of rfl rfl rfl rfl) (da_cons (de_var (pv 0)) (da_cons (de_var (pv 1)) da_nil)))))
    (dss_one (ds_raise (C := A.InvalidTable) rfl (takes_of rfl rfl rfl rfl) PySem.F.excBase_ValueError T.x_InvalidTable T.g_InvalidTable T.k_InvalidTable (raises_own T.s_InvalidTable T.t_InvalidTable)))
    dss_nil)), ?_⟩
  rintro ds n Q x ⟨cs, b, rfl, hb, q1, q2⟩
  simp only [wRet, wSet, wSeq, wNext, wDrop, wIfS, wTest, wAnd, wOr, wNot, wIf, wBin, wVar, wC, wAndV, wOrV, wNotV, wIsN, wNotN, wNeg, wChain, wNil, wCons, wTup, wLst, wBi, wCall, wIsi, wSl, wSo, wNo, wSeqI, wFor, gNm, gTp, puts, wAsg, wPar, wMul, wmD, wmO, putsI, wAug, wTryIs, wRng1, wRng2, wEnum, wEnumT, wZip, wLc, wYes, wLend, wRel, wOwn, wApp, wIns, wSetIx, wLstF, wListF, wRepF, wAddF, wSlS, wParO, wRevT, wSortedSet, wSortedSetL, wSortedSetT, wKeys, weI, wExt, allD, wMt, wRaise, wSeqO, wCallF, plainO, wCallA, wIdx0, wAnF, wSetA, wUnA, wSeqA, plainA, wFld, wFldO, wMake, wLRg, Ans.data, Ans.own.injEq, Ans.tup.injEq, Ans.dat.injEq, wTry, wTryM, wHs, wIsC, enOf, put, putUn, defEnds, lendE, lend, wipeE, hide, lenD, intD, listD, tupleD, reprD, wPen0, wPen1, wPen2, wPenS1, wPenS2, penAt, List.map_cons, List.map_nil, List.length_cons, List.length_nil, List.nil_append, List.cons_append, Nat.reduceAdd, Nat.reduceSub, Nat.reduceLeDiff, Nat.zero_add, List.replicate_zero, List.replicate_succ, List.getElem?_cons_zero, List.getElem?_cons_succ, List.set_cons_zero, List.set_cons_succ, Option.some.injEq, Slot.dat.injEq, Slot.own.injEq, PyData.bool.injEq, PyData.int.injEq, PyData.tuple.injEq, PyData.list.injEq, exists_eq_left', exists_eq_left, and_true, true_and, if_true, if_false, Bool.false_eq_true, reduceCtorEq, List.mapIdx_cons, List.mapIdx_nil]
  refine ⟨_, _, rfl, hb, ?_⟩
  dsimp only [onCols]
  refine ⟨_, rfl, ?_⟩
  rcases Bool.eq_false_or_eq_true (tabB cs b) with h | h
  · simp only [h, Bool.not_true, if_false, Bool.false_eq_true]
    exact q1 h
  · simp only [h, Bool.not_false, if_true]
    exact q2 h
end
end L2.DL.K30
namespace L2.DL.K30
open PySem PySem.Spec
      PyProof.Rows
/-! ### rows -/
def okRow (cs xs : List D) : Prop := xs.length = cs.length ∧ ∀ (i : Nat) (c : D), cs[i]? = some c → ∃ v, xs[i]? = some v ∧ okVal c v
theorem okRow.b {cs xs : List D} (h : okRow cs xs) : rowB cs (.tuple xs) = true := by
  simp only [rowB, Bool.and_eq_true, decide_eq_true_eq]
  refine ⟨h.1, List.all_eq_true.mpr fun d hd => ?_⟩
  obtain ⟨i, hi⟩ := List.mem_iff_getElem?.mp hd
  obtain ⟨c, v, h1, h2, rfl⟩ := pairs_at hi
  obtain ⟨v', h3, h4⟩ := h.2 i c h1
  rw [h2] at h3
  cases h3
  exact h4.b
theorem okRow.val {cs xs : List D} (h : okRow cs xs) : ∀ d ∈ xs, ∃ i : Int, d = .int i ∧ 0 ≤ i ∧ i < 2 ^ 110 := fun d hd => by
  obtain ⟨i, hi⟩ := List.mem_iff_getElem?.mp hd
  have hl := (List.getElem?_eq_some_iff.mp hi).1
  rw [h.1] at hl
  obtain ⟨v, h3, j, rfl, j0, j1, _⟩ := h.2 i _ (List.getElem?_eq_getElem hl)
  rw [hi] at h3
  cases h3
  exact ⟨j, rfl, j0, j1⟩
theorem okRow.ok {cs xs : List D} (h : okRow cs xs) (hc : cs.length ≤ 4) : Ok 5 1 (.tuple xs) :=
  (Ok.tuple (n := 1) (m := 0) (k := 4) (fun d hd => by obtain ⟨i, rfl, i0, i1⟩ := h.val d hd; exact Ok.int (by omega)) (by rw [h.1]; exact hc)).mono (by decide) (by decide)
section
variable {P : Program} {w : World} {K : PySem.W.Frag} {mg : Str → Option Value} {base : Heap} {A : Cls}
def w_law_row : Wc := fun ds k Q _ => ∃ (cs : List D) (k' : Nat), ds = [penD, .tuple cs] ∧ k = k' + 16 ∧ (∀ d ∈ cs, okCol d) ∧ cs.length ≤ 4 ∧ ∀ xs k'', k' ≤ k'' → okRow cs xs → Q (.tuple xs) k''
theorem m_law_row : Wc.Mono w_law_row := fun ds k Q Q' x x' h1 _ ⟨cs, k', p1, p2, p3, p4, q⟩ => ⟨cs, k', p1, p2, p3, p4, fun g k'' l z => h1 _ _ (q g k'' l z)⟩
theorem d_law_row (T : Txt K mg A) (d_law_value : Def P w K mg base "_law_value" 4 ["_law_pen", "_law_column"] w_law_value) (F : FunAt K mg "_law_row" s_law_row ["_law_pen", "_law_columns_here"]) : Def P w K mg base "_law_row" 5 ["_law_pen", "_law_columns_here"] w_law_row := by
  refine defD F sc_law_row (fun ds k Q x ⟨cs, k', e, _⟩ => by rw [e]; rfl) fun f cdv Ar outer s H E p G hg hr => ⟨_, (dss_one (ds_ret (de_bt tupleD.mono fitsTuple call_tuple_of (da_cons (de_lc (own := [("_law_column", 2)]) rfl sc_law_row.nd (di_seq (de_var (pv 1))) (blkOk_by (N := ["_law_pen", "_law_columns_here", "_law_column"]) (sc := defScope s_law_row) (by decide +kernel)) (fun _ _ _ _ _ _ _ => (dgc_nm (i := 2) sc_law_row.nd (by decide))) (fun _ _ _ _ _ _ _ => dts_nil) (fun _ _ _ _ _ _ _ => (de_fn d_law_value m_law_value hg hr takes0 (da_cons (de_var (pv 0)) (da_cons (de_var (pv 2)) da_nil))))) da_nil) T.z_tuple))), ?_⟩
  rintro ds n Q x ⟨cs, k', rfl, rfl, hcs, hcl, q⟩
  simp only [wRet, wSet, wSeq, wNext, wDrop, wIfS, wTest, wAnd, wOr, wNot, wIf, wBin, wVar, wC, wAndV, wOrV, wNotV, wIsN, wNotN, wNeg, wChain, wNil, wCons, wTup, wLst, wBi, wCall, wIsi, wSl, wSo, wNo, wSeqI, wFor, gNm, gTp, puts, wAsg, wPar, wMul, wmD, wmO, putsI, wAug, wTryIs, wRng1, wRng2, wEnum, wEnumT, wZip, wLc, wYes, wLend, wRel, wOwn, wApp, wIns, wSetIx, wLstF, wListF, wRepF, wAddF, wSlS, wParO, wRevT, wSortedSet, wSortedSetL, wSortedSetT, wKeys, weI, wExt, allD, wMt, wRaise, wSeqO, wCallF, plainO, wCallA, wIdx0, wAnF, wSetA, wUnA, wSeqA, plainA, wFld, wFldO, wMake, wLRg, Ans.data, Ans.own.injEq, Ans.tup.injEq, Ans.dat.injEq, wTry, wTryM, wHs, wIsC, enOf, put, putUn, defEnds, lendE, lend, wipeE, hide, lenD, intD, listD, tupleD, reprD, wPen0, wPen1, wPen2, wPenS1, wPenS2, penAt, List.map_cons, List.map_nil, List.length_cons, List.length_nil, List.nil_append, List.cons_append, Nat.reduceAdd, Nat.reduceSub, Nat.reduceLeDiff, Nat.zero_add, List.replicate_zero, List.replicate_succ, List.getElem?_cons_zero, List.getElem?_cons_succ, List.set_cons_zero, List.set_cons_succ, Option.some.injEq, Slot.dat.injEq, Slot.own.injEq, PyData.bool.injEq, PyData.int.injEq, PyData.tuple.injEq, PyData.list.injEq, exists_eq_left', exists_eq_left, and_true, true_and, if_true, if_false, Bool.false_eq_true, reduceCtorEq, List.mapIdx_cons, List.mapIdx_nil]
  refine ⟨cs, rfl, ?_⟩
  refine lcLoop.ind (fun acc ds k => ∃ cs1, cs1 ++ ds = cs ∧ okRow cs1 acc ∧ k' + 4 * ds.length ≤ k) ?_ ?_ ⟨[], rfl, ⟨rfl, fun i c h => by cases h⟩, by omega⟩
  · rintro acc k ⟨cs1, e1, h1, hk⟩
    rw [List.append_nil] at e1
    subst e1
    exact q acc k (by simpa using hk) h1
  · rintro d ds acc k ih ⟨cs1, e1, h1, hk⟩
    rw [List.length_cons] at hk
    simp only [wRet, wSet, wSeq, wNext, wDrop, wIfS, wTest, wAnd, wOr, wNot, wIf, wBin, wVar, wC, wAndV, wOrV, wNotV, wIsN, wNotN, wNeg, wChain, wNil, wCons, wTup, wLst, wBi, wCall, wIsi, wSl, wSo, wNo, wSeqI, wFor, gNm, gTp, puts, wAsg, wPar, wMul, wmD, wmO, putsI, wAug, wTryIs, wRng1, wRng2, wEnum, wEnumT, wZip, wLc, wYes, wLend, wRel, wOwn, wApp, wIns, wSetIx, wLstF, wListF, wRepF, wAddF, wSlS, wParO, wRevT, wSortedSet, wSortedSetL, wSortedSetT, wKeys, weI, wExt, allD, wMt, wRaise, wSeqO, wCallF, plainO, wCallA, wIdx0, wAnF, wSetA, wUnA, wSeqA, plainA, wFld, wFldO, wMake, wLRg, Ans.data, Ans.own.injEq, Ans.tup.injEq, Ans.dat.injEq, wTry, wTryM, wHs, wIsC, enOf, put, putUn, defEnds, lendE, lend, wipeE, hide, lenD, intD, listD, tupleD, reprD, wPen0, wPen1, wPen2, wPenS1, wPenS2, penAt, List.map_cons, List.map_nil, List.length_cons, List.length_nil, List.nil_append, List.cons_append, Nat.reduceAdd, Nat.reduceSub, Nat.reduceLeDiff, Nat.zero_add, List.replicate_zero, List.replicate_succ, List.getElem?_cons_zero, List.getElem?_cons_succ, List.set_cons_zero, List.set_cons_succ, Option.some.injEq, Slot.dat.injEq, Slot.own.injEq, PyData.bool.injEq, PyData.int.injEq, PyData.tuple.injEq, PyData.list.injEq, exists_eq_left', exists_eq_left, and_true, true_and, if_true, if_false, Bool.false_eq_true, reduceCtorEq, List.mapIdx_cons, List.mapIdx_nil]
    have hd : okCol d := hcs d (by rw [← e1]; simp)
    obtain ⟨k0, rfl⟩ : ∃ k0, k = k0 + 4 := ⟨k - 4, by omega⟩
    have hl : acc.length ≤ 4 := by
      have := congrArg List.length e1
      rw [List.length_append] at this
      rw [h1.1]; omega
    refine ⟨_, rfl, _, k0, rfl, rfl, ⟨d, rfl, hd⟩, fun v k1 l1 hv => ⟨by omega, ih _ _ ⟨cs1 ++ [d], by rw [List.append_assoc]; exact e1, ⟨by rw [List.length_append, List.length_append, h1.1]; rfl, fun i c hc => ?_⟩, by omega⟩⟩⟩
    have hv := hv _ rfl
    by_cases hi : i < cs1.length
    · rw [List.getElem?_append_left hi] at hc
      obtain ⟨v', a, b⟩ := h1.2 i c hc
      exact ⟨v', by rw [List.getElem?_append_left (by rw [h1.1]; exact hi)]; exact a, b⟩
    · rw [List.getElem?_append_right (by omega)] at hc
      have : i - cs1.length = 0 := by
        have := (List.getElem?_eq_some_iff.mp hc).1
        simp only [List.length_singleton] at this
        omega
      rw [this] at hc
      cases hc
      exact ⟨v, by rw [List.getElem?_append_right (by rw [h1.1]; omega), h1.1, this]; rfl, hv⟩
end
section
variable {P : Program} {w : World} {K : PySem.W.Frag} {mg : Str → Option Value} {base : Heap} {A : Cls}
/-! ### the law's own word for a match -/
def bad (xs : List D) : D → Option D
  | .tuple [.int i, b] => if isN b = true then none else if PyData.eqv (xs.getD i.toNat .none) b = true then none else some (.tuple [.int i, b])
  | _ => none
end
end L2.DL.K30
namespace L2.DL.K30
open PySem PySem.Spec
      PyProof.Rows
section
variable {P : Program} {w : World} {K : PySem.W.Frag} {mg : Str → Option Value} {base : Heap} {A : Cls}
/-! ### values that are no columns -/
def w_law_bad_columns : Wc := fun ds k Q _ => ∃ (cs : List D) (k' : Nat), ds = [penD, .tuple cs] ∧ k = k' + 1 ∧ okCols (.tuple cs) ∧ ∀ r k'', k' ≤ k'' → colsB r = false → Ok 200 5 r → Q r k''
theorem m_law_bad_columns : Wc.Mono w_law_bad_columns := fun ds k Q Q' x x' h1 _ ⟨cs, k', p1, p2, p3, q⟩ => ⟨cs, k', p1, p2, p3, fun g k'' l z y => h1 _ _ (q g k'' l z y)⟩
def noCols (d : D) : Bool := !colsB d && (fine d && decide (wt d ≤ 200) && decide (d.depth ≤ 5))
theorem noCols.at {xs : List D} (h : xs.all noCols = true) : ∀ d ∈ xs, colsB d = false ∧ Ok 200 5 d := fun d hd => by
  have := List.all_eq_true.mp
        h d hd
  simp only [noCols, Bool.and_eq_true, Bool.not_eq_true', decide_eq_true_eq] at this
  exact ⟨this.1, this.2.1.1, this.2.1.2, this.2.2⟩
theorem d_law_bad_columns (T : Txt K mg A) (d_law_one : Def P w K mg base "_law_one" 3 ["_law_pen", "_law_some"] w_law_one) (F : FunAt K mg "_law_bad_columns" s_law_bad_columns ["_law_pen", "_law_columns_here"]) : Def P w K mg base "_law_bad_columns" 4 ["_law_pen", "_law_columns_here"] w_law_bad_columns := by
  refine defD F sc_law_bad_columns (fun ds k Q x ⟨cs, k', e, _⟩ => by rw [e]; rfl) fun f cdv Ar outer s H E p G hg hr => ⟨_, (dss_cons (ds_set (i := 2) (de_lst (da_cons de_non (da_cons de_bl (da_cons de_int (da_cons de_str (da_cons de_str (da_cons (de_tup da_nil) (da_cons (de_lst da_nil) (da_cons (de_lst (da_cons de_non da_nil)) (da_cons (de_bt listD.mono fitsList call_list_of (da_cons (de_var (pv 1)) da_nil) T.z_list) (da_cons (de_bin op_mulA mulD.mono fitsMul (de_tup (da_cons de_non da_nil)) de_int) (da_cons (de_tup (da_cons de_int da_nil)) (da_cons (de_tup (da_cons (de_tup da_nil) da_nil)) (da_cons (de_tup (da_cons (de_tup (da_cons de_int (da_cons de_int (da_cons de_int (da_cons de_int da_nil))))) da_nil)) da_nil)))))))))))))) sc_law_bad_columns.nd)
    (dss_cons (ds_set (i := 2) (de_bin op_addA addD.mono fitsAdd (de_var (pv 2)) (de_lst (da_cons (de_tup (da_cons (de_tup (da_cons de_int (da_cons de_int da_nil))) da_nil)) (da_cons (de_tup (da_cons (de_tup (da_cons de_int (da_cons de_int da_nil))) da_nil)) (da_cons (de_tup (da_cons (de_tup (da_cons (de_neg de_int) da_nil)) da_nil)) (da_cons (de_tup (da_cons (de_tup (da_cons de_int (da_cons de_int da_nil))) da_nil)) (da_cons (de_tup (da_cons (de_tup (da_cons de_bl da_nil)) da_nil)) (da_cons (de_tup (da_cons (de_tup (da_cons de_int (da_cons de_non da_nil))) da_nil)) (da_cons (de_tup (da_cons (de_lst (da_cons de_int da_nil)) da_nil)) da_nil))))))))) sc_law_bad_columns.nd)
    (dss_cons (ds_set (i := 2) (de_bin op_addA addD.mono fitsAdd (de_var (pv 2)) (de_lst (da_cons (de_tup (da_cons de_non (da_cons (de_tup (da_cons de_int da_nil)) (da_cons (de_tup (da_cons de_int da_nil)) (da_cons (de_tup (da_cons de_int da_nil)) da_nil))))) (da_cons (de_tup (da_cons de_str da_nil)) (da_cons (de_tup (da_cons de_non (da_cons de_str da_nil))) (da_cons (de_tup (da_cons (de_tup (da_cons de_int (da_cons de_int da_nil))) (da_cons (de_tup (da_cons de_int (da_cons de_int da_nil))) (da_cons (de_tup (da_cons de_int (da_cons de_int da_nil))) da_nil)))) (da_cons (de_tup (da_cons (de_tup (da_cons de_int (da_cons de_str da_nil))) da_nil)) da_nil))))))) sc_law_bad_columns.nd)
    (dss_one (ds_ret (de_fn d_law_one m_law_one hg hr (takes_of rfl rfl rfl rfl) (da_cons (de_var (pv 0)) (da_cons (de_bin op_addA addD.mono fitsAdd (de_var (pv 2)) (de_lst (da_cons (de_bin op_addA addD.mono fitsAdd (de_var (pv 1)) (de_tup (da_cons de_bl da_nil))) da_nil))) da_nil)))))))), ?_⟩
  rintro ds n Q x ⟨cs, k', rfl, rfl, hc, q⟩
  simp only [wRet, wSet, wSeq, wNext, wDrop, wIfS, wTest, wAnd, wOr, wNot, wIf, wBin, wVar, wC, wAndV, wOrV, wNotV, wIsN, wNotN, wNeg, wChain, wNil, wCons, wTup, wLst, wBi, wCall, wIsi, wSl, wSo, wNo, wSeqI, wFor, gNm, gTp, puts, wAsg, wPar, wMul, wmD, wmO, putsI, wAug, wTryIs, wRng1, wRng2, wEnum, wEnumT, wZip, wLc, wYes, wLend, wRel, wOwn, wApp, wIns, wSetIx, wLstF, wListF, wRepF, wAddF, wSlS, wParO, wRevT, wSortedSet, wSortedSetL, wSortedSetT, wKeys, weI, wExt, allD, wMt, wRaise, wSeqO, wCallF, plainO, wCallA, wIdx0, wAnF, wSetA, wUnA, wSeqA, plainA, wFld, wFldO, wMake, wLRg, Ans.data, Ans.own.injEq, Ans.tup.injEq, Ans.dat.injEq, wTry, wTryM, wHs, wIsC, enOf, put, putUn, defEnds, lendE, lend, wipeE, hide, lenD, intD, listD, tupleD, reprD, wPen0, wPen1, wPen2, wPenS1, wPenS2, penAt, List.map_cons, List.map_nil, List.length_cons, List.length_nil, List.nil_append, List.cons_append, Nat.reduceAdd, Nat.reduceSub, Nat.reduceLeDiff, Nat.zero_add, List.replicate_zero, List.replicate_succ, List.getElem?_cons_zero, List.getElem?_cons_succ, List.set_cons_zero, List.set_cons_succ, Option.some.injEq, Slot.dat.injEq, Slot.own.injEq, PyData.bool.injEq, PyData.int.injEq, PyData.tuple.injEq, PyData.list.injEq, exists_eq_left', exists_eq_left, and_true, true_and, if_true, if_false, Bool.false_eq_true, reduceCtorEq, List.mapIdx_cons, List.mapIdx_nil, addD, mulD]
  obtain ⟨_, e, h1, h2, h3, h4⟩ := id hc
  cases e
  have g := hc.ok
  refine ⟨by simp, by decide, by decide, by rw [sizeLine_eq]; decide, by rw [sizeLine_eq]; decide, by rw [sizeLine_eq]; omega, by rw [sizeLine_eq]; decide, _, _, k', rfl, rfl, rfl, by simp, by simp, fun r hr k'' l => ?_⟩
  have e5 : (List.replicate (Int.toNat 5) [PyData.none]).flatten = [PyData.none, PyData.none, PyData.none, PyData.none, PyData.none] := rfl
  rw [e5] at hr
  have fin : colsB r = false ∧ Ok 200 5 r := by
    simp only [List.mem_cons, List.not_mem_nil, or_false] at hr
    rcases hr with rfl | rfl | rfl | rfl | rfl | rfl | rfl | rfl | rfl | rfl | rfl | rfl | rfl | rfl | rfl | rfl | rfl | rfl | rfl | rfl | rfl | rfl | rfl | rfl | rfl | rfl
    all_goals first
      | exact noCols.at (xs := [_]) (by decide +kernel) _ List.mem_cons_self
      | exact ⟨rfl, (Ok.list (fun d hd => g.in_tuple d hd) h3).mono (by decide) (by decide)⟩
      | skip
    refine ⟨Bool.eq_false_iff.mpr fun hb => ?_, (Ok.tuple (n := 17) (m := 2) (k := 5) (fun d hd => ?_) (by rw [List.length_append, List.length_singleton]; omega)).mono (by decide) (by decide)⟩
    · simp only [colsB, Bool.and_eq_true, decide_eq_true_eq] at hb
      have := List.all_eq_true.mp hb.2.1 (.bool true) (List.mem_filterMap.mpr ⟨.bool true, by simp, rfl⟩)
      cases this
    · rcases List.mem_append.mp hd with hd | hd
      · exact g.in_tuple d hd
      · cases List.mem_singleton.mp hd
        exact Ok.bool.mono (by decide) (by decide)
  exact q r k'' l fin.1 fin.2
end
end L2.DL.K30
namespace L2.DL.K30
open PySem PySem.Spec
      PyProof.Rows
/-! ### drawn columns -/
structure ColsOk (cols : List D) : Prop where
  c1 : 1 ≤ cols.length
  c4 : cols.length ≤ 4
  ish : ∀ d ∈ cols, colish d
def toInt : D → Int
  | .int i => i
  | _ => 0
def ClosedOk (cols : List D) : Prop := ∀ c, c < cols.length → isN (cols.getD c .none) = false → ∃ vs : List Int, cols.getD c .none = .tuple (vs.map PyData.int) ∧ vs ≠ [] ∧ vs.length ≤ 3 ∧ ∀ v ∈ vs, 0 ≤ v ∧ v < 2 ^ 120
theorem isN_none {d : D} (h : isN d = true) : d = .none := by
  cases d <;> first | rfl | cases h
theorem okCols.colsOk {cs : List D} (h : okCols (.tuple cs)) : ColsOk cs ∧ ClosedOk cs := by
  obtain ⟨cs', e, hc, h1, h4, _⟩ := id h
  cases e
  refine ⟨⟨h1, h4, (cols_ish h.ok.good h.b).elim fun cs' z => ?_⟩, fun c hcl hn => ?_⟩
  · obtain ⟨e, z1, _⟩ := z
    cases e
    exact z1
  · have hm : cs.getD c .none ∈ cs := by
      rw [List.getD_eq_getElem?_getD, List.getElem?_eq_getElem hcl]
      exact List.getElem_mem hcl
    rcases (hc _ hm).inv with e | ⟨xs, e, hne, hl, _, hx⟩
    · rw [e] at hn
      cases hn
    · refine ⟨xs.map toInt, ?_, by simpa using hne, by rw [List.length_map]; exact hl, fun v hv => ?_⟩
      · rw [e, List.map_map]
        congr 1
        refine (List.map_id xs).symm.trans (List.map_congr_left fun d hd => ?_)
        obtain ⟨i, rfl, _⟩ := hx d hd
        rfl
      · obtain ⟨d, hd, rfl⟩ := List.mem_map.mp hv
        obtain ⟨i, rfl, i0, i1⟩ := hx d hd
        exact ⟨i0, by show i < _; omega⟩
theorem atI_c0 {a : D} {l : List D} : atI (a :: l) (0 : Int) = some a := by simp [atI, ixN]
theorem atI_c1 {a b : D} {l : List D} : atI (a :: b :: l) (1 : Int) = some b := by
  rw [atI_pos (by decide) (by rw [List.length_cons, List.length_cons]; omega)]
  rfl
theorem atI_c2 {a b c : D} {l : List D} : atI (a :: b :: c :: l) (2 : Int) = some c := by
  rw [atI_pos (by decide) (by rw [List.length_cons, List.length_cons, List.length_cons]; omega)]
  rfl
theorem eqI {a b : Int} {P : D → Prop} : eqD (.int a) (.int b) P ↔ P (.bool (decide (a = b))) :=
  ⟨fun ⟨_, q⟩ => by rw [eqv_ints] at q; exact q, fun q => ⟨.inl rfl, by rw [eqv_ints]; exact q⟩⟩
end L2.DL.K30
-- simp: wLcF
namespace L2.DL.K30
open PySem PySem.Spec
      PyProof.Rows
section
variable {P : Program} {w : World} {K : PySem.W.Frag} {mg : Str → Option Value} {base : Heap} {A : Cls}
/-! ### wrong rules -/
structure Lack (cs : List D) (zs : List (Int × D)) (c : Int) (v : D) : Prop where
  two : zs.length ≤ 2
  no : rulB cs (.tuple [.tuple (zs.map entD), .int c, v]) = false
  giv : v = .none → zs ≠ [] → givB cs (.tuple (zs.map entD)) = false
  ok : Ok 22 3 (.tuple [.tuple (zs.map entD), .int c, v])
end
def nearI (d : D) : Prop := d = .none ∨ ∃ i : Int, d = .int i ∧ i.natAbs < 2 ^ 120
theorem nearI.ok {d : D} (h : nearI d) : Ok 1 0 d := by
  rcases h with rfl | ⟨i, rfl, h⟩
  · exact Ok.none
  · exact Ok.int (by omega)
theorem lack_ok {zs : List (Int × D)} {c : Int} {v : D} (h2 : zs.length ≤ 2) (hz : ∀ z ∈ zs, z.1.natAbs < 2 ^ 120 ∧ nearI z.2) (hc : c.natAbs < 2 ^ 120) (hv : nearI v) : Ok 22 3 (.tuple [.tuple (zs.map entD), .int c, v]) := by
  have he : ∀ z ∈ zs, Ok 3 1 (entD z) := fun z h => (Ok.tuple (n := 1) (m := 0) (k := 2) (fun d hd => by
    simp only [List.mem_cons, List.not_mem_nil, or_false] at hd
    rcases hd with rfl | rfl
    · exact Ok.int (by have := (hz z h).1; omega)
    · exact (hz z h).2.ok) (by simp)).mono (by decide) (by decide)
  have hg : Ok 7 2 (.tuple (zs.map entD)) := (Ok.tuple (n := 3) (m := 1) (k := 2) (fun d hd => by
    obtain ⟨z, h, rfl⟩ := List.mem_map.mp hd
    exact he z h) (by rw [List.length_map]; exact h2)).mono (by decide) (by decide)
  refine (Ok.tuple (n := 7) (m := 2) (k := 3) (fun d hd => ?_) (by simp)).mono (by decide) (by decide)
  simp only [List.mem_cons, List.not_mem_nil, or_false] at hd
  rcases hd with rfl | rfl | rfl
  · exact hg
  · exact (Ok.int (by omega)).mono (by decide) (by decide)
  · exact hv.ok.mono (by decide) (by decide)
def leastF : D → D
  | .tuple (x :: _) => x
  | _ => .int 0
def lackF (c d : D) : Option D := if isN c = true then some d else match c with
  | .tuple xs => if inB d xs = true then none else some d
  | _ => none
theorem lack_head {vs : List Int} (h : vs.length ≤ 3) : ∃ l : Int, ∃ ys, [PyData.int 0, .int 1, .int 2, .int 99].filterMap (lackF (.tuple (vs.map PyData.int))) = .int l :: ys ∧ l.natAbs ≤ 100 ∧ ∀ xs, PyData.tuple (vs.map PyData.int) = .tuple xs → inB (.int l) xs = false := by
  have hin : ∀ l : Int, inB (.int l) (vs.map PyData.int) = decide (l ∈ vs) := fun l => by
    rw [Bool.eq_iff_iff,
          decide_eq_true_eq]
    unfold inB
    rw [List.any_eq_true]
    constructor
    · rintro ⟨d, hd, e⟩
      obtain ⟨u, hu, rfl⟩ := List.mem_map.mp hd
      rw [eqv_ints, decide_eq_true_eq] at e
      rw [← e]; exact hu
    · intro hl
      exact ⟨_, List.mem_map.mpr ⟨l, hl, rfl⟩, by rw [eqv_ints]; exact decide_eq_true rfl⟩
  have key : ∀ l : Int, lackF (.tuple (vs.map PyData.int)) (.int l) = if l ∈ vs then none else some (.int l) := fun l => by
    show (if inB (.int l) (vs.map PyData.int) = true then _ else _) = _
    rw [hin]
    by_cases z : l ∈ vs <;> simp [z]
  have fin : ∀ l : Int, l ∉ vs → ∀ xs, PyData.tuple (vs.map PyData.int) = .tuple xs → inB (.int l) xs = false := fun l hl xs e => by
    injection e with e
    rw [← e, hin]
    exact decide_eq_false hl
  by_cases z0 : (0 : Int) ∈ vs
  · by_cases z1 : (1 : Int) ∈ vs
    · by_cases z2 : (2 : Int) ∈ vs
      · by_cases z3 : (99 : Int) ∈ vs
        · exfalso
          have : ([0, 1, 2, 99] : List Int).length ≤ vs.length := List.Nodup.length_le_of_subset (by decide) (fun x hx => by
            simp only [List.mem_cons,
                  List.not_mem_nil, or_false] at hx
            rcases hx with rfl | rfl | rfl | rfl <;> assumption)
          simp at this
          omega
        · exact ⟨99, [], by simp [key, z0, z1, z2, z3], by decide, fin 99 z3⟩
      · exact ⟨2, _, by simp only [List.filterMap_cons, key, z0, z1, z2, if_true, if_false]; rfl, by decide, fin 2 z2⟩
    · exact ⟨1, _, by simp only [List.filterMap_cons, key, z0, z1, if_true, if_false]; rfl, by decide, fin 1 z1⟩
  · exact ⟨0, _, by simp only [List.filterMap_cons, key, z0, if_false]; rfl, by decide, fin 0 z0⟩
def jF (j : Nat) (l : Int) (d : D) : Option D := if PyData.eqv d (.int (j : Int)) = true then none else some (.tuple [.tuple [.tuple [.int (j : Int), .int l]], d, .none])
def LackD (cs : List D) (d : D) : Prop := ∃ zs c v, d = .tuple [.tuple (zs.map entD), .int c, v] ∧ Lack cs zs c v
section
variable {cs : List D}
theorem lack1 (h4 : cs.length ≤ 4) : LackD cs (.tuple [.tuple [], .int cs.length, .none]) :=
  ⟨[], cs.length, .none, rfl, by simp, by simp [rulB, givL, numB], fun _ z => absurd rfl z, lack_ok (by simp) (fun z h => nomatch h) (by omega) (.inl rfl)⟩
theorem lack2 : LackD cs (.tuple [.tuple [], .int 0, .int (-1)]) :=
  ⟨[], 0, .int (-1), rfl, by simp, by simp [rulB, givL, numB, isN, valAt, valB], fun _ z => absurd rfl z, lack_ok (by simp) (fun z h => nomatch h) (by decide) (.inr ⟨_, rfl, by decide⟩)⟩
theorem lack3 {k : Nat} {l : Int} {xs : List D} (hk : k ≤ 4) (hl : l.natAbs ≤ 100) (hc : cs.getD k .none = .tuple xs) (hi : inB (.int l) xs = false) : LackD cs (.tuple [.tuple [], .int (k : Int), .int l]) := by
  refine ⟨[], k, .int l, rfl, by simp, ?_, fun _ z => absurd rfl z, lack_ok (by simp) (fun z h => nomatch h) (by omega) (.inr ⟨_, rfl, by omega⟩)⟩
  have : valAt cs (.int (k : Int)) (.int l) = false := by
    simp only [valAt, valB, Int.toNat_natCast, hc, inCol, hi, Bool.and_false]
  simp only [rulB, List.map_nil, this, isN, Bool.and_false, Bool.or_false]
theorem lack4 {k j : Nat} {l : Int} {xs : List D} (hk : k ≤ 4) (hj : j ≤ 4) (hl : l.natAbs ≤ 100) (hc : cs.getD k .none = .tuple xs) (hi : inB (.int l) xs = false) : LackD cs (.tuple [.tuple [.tuple [.int (k : Int), .int l]], .int (j : Int), .none]) := by
  have : entB cs (.tuple [.int (k : Int), .int l]) = false := by
    simp only [entB, valB, Int.toNat_natCast, hc, inCol, hi, Bool.and_false, isN, Bool.or_false]
  refine ⟨[((k : Int), .int l)], j, .none, rfl, by simp, ?_, fun _ _ => ?_, lack_ok (by simp) (fun z h => ?_) (by omega) (.inl rfl)⟩
  · simp only [List.map_cons, List.map_nil, entD, rulB, givL, this, Bool.false_and]
  · simp only [List.map_cons, List.map_nil, entD, givB, givL, this, Bool.false_and]
  · rw [List.mem_singleton.mp h]
    exact ⟨by show (k : Int).natAbs < _; omega, .inr ⟨_, rfl, by omega⟩⟩
theorem lack5 {a c : Int} {d : D} (ha : a.natAbs ≤ 4) (hc : c.natAbs ≤ 4) (hd : ∃ i : Int, d = .int i ∧ i.natAbs < 2 ^ 120) : LackD cs (.tuple [.tuple [.tuple [.int a, .none]], .int c, d]) := by
  obtain ⟨i, rfl, hi⟩ := hd
  refine ⟨[(a, .none)], c, .int i, rfl, by simp, ?_, (fun z => nomatch z), lack_ok (by simp) (fun z h => ?_) (by omega) (.inr ⟨_, rfl, hi⟩)⟩
  · have : inB .none ([.none] : List D) = true := by decide +kernel
    simp only [List.map_cons, List.map_nil, entD, rulB, sndD, this, isN, Bool.not_true, Bool.false_and, Bool.or_false, Bool.and_false]
  · rw [List.mem_singleton.mp h]
    exact ⟨by show a.natAbs < _; omega, .inl rfl⟩
theorem lack6 {d d' : D} (hd : nearI d) (hd' : nearI d') : LackD cs (.tuple [.tuple [.tuple [.int 1, d], .tuple [.int 0, d']], .int 2, .none]) := by
  have : givL cs (-1) [.tuple [.int 1, d], .tuple [.int 0, d']] = false := by
    simp [givL]
  refine ⟨[(1, d), (0, d')], 2, .none, rfl, by simp, ?_, fun _ _ => ?_, lack_ok (by simp) (fun z h => ?_) (by decide) (.inl rfl)⟩
  · simp only [List.map_cons, List.map_nil, entD, rulB, this, Bool.false_and]
  · simp only [List.map_cons, List.map_nil, entD, givB, this]
  · simp only [List.mem_cons, List.not_mem_nil, or_false] at h
    rcases h with rfl | rfl
    · exact ⟨by show (1 : Int).natAbs < _; decide, hd⟩
    · exact ⟨by show (0 : Int).natAbs < _; decide, hd'⟩
theorem lack8 {d : D} (hd : nearI d) : LackD cs (.tuple [.tuple [.tuple [.int 0, d], .tuple [.int 1, .int (-1)]], .int 2, .none]) := by
  have e : entB cs (.tuple [.int 1, .int (-1)]) = false := by
    simp [entB, isN, valB]
  have : givL cs (-1) [.tuple [.int 0, d], .tuple [.int 1, .int (-1)]] = false := by
    simp only [givL, e, Bool.false_and, Bool.and_false]
  refine ⟨[(0, d), (1, .int (-1))], 2, .none, rfl, by simp, ?_, fun _ _ => ?_, lack_ok (by simp) (fun z h => ?_) (by decide) (.inl rfl)⟩
  · simp only [List.map_cons, List.map_nil, entD, rulB, this, Bool.false_and]
  · simp only [List.map_cons, List.map_nil, entD, givB, this]
  · simp only [List.mem_cons, List.not_mem_nil, or_false] at h
    rcases h with rfl | rfl
    · exact ⟨by show (0 : Int).natAbs < _; decide, hd⟩
    · exact ⟨by show (1 : Int).natAbs < _; decide, .inr ⟨_, rfl, by decide⟩⟩
end
section
variable {P : Program} {w : World} {K : PySem.W.Frag} {mg : Str → Option Value} {base : Heap} {A : Cls}
def w_law_lacking : Wc := fun ds k Q _ => ∃ (cs : List D) (k' : Nat), ds = [penD, .tuple cs] ∧ k = k' + 1 ∧ okCols (.tuple cs) ∧ ∀ zs c v k'', k' ≤ k'' → Lack cs zs c v → Q (.tuple [.tuple (zs.map entD), .int c, v]) k''
theorem m_law_lacking : Wc.Mono w_law_lacking := fun ds k Q Q' x x' h1 _ ⟨cs, k', p1, p2, p3, q⟩ => ⟨cs, k', p1, p2, p3, fun a b c d l z => h1 _ _ (q a b c d l z)⟩
theorem d_law_lacking (T : Txt K mg A) (d_law_one : Def P w K mg base "_law_one" 3 ["_law_pen", "_law_some"] w_law_one) (F : FunAt K mg "_law_lacking" s_law_lacking ["_law_pen", "_law_columns_here"]) : Def P w K mg base "_law_lacking" 4 ["_law_pen", "_law_columns_here"] w_law_lacking := by
  refine defD F sc_law_lacking (fun ds k Q x ⟨cs, k', e, _⟩ => by rw [e]; rfl) fun f cdv Ar outer s H E p G hg hr => ⟨_, (dss_cons (ds_set (i := 2) (de_bi lenD.mono fitsLen call_len_seq (da_cons (de_var (pv 1)) da_nil) T.z_len) sc_law_lacking.nd)
    (dss_cons (ds_setLc (i := 3) (own := [("_law_own", 4)]) rfl sc_law_lacking.nd (di_seq (de_var (pv 1))) (blkOk_by (N := ["_law_pen", "_law_columns_here", "_law_many", "_law_least", "_law_own", "_law_found", "_law_k", "_law_lack", "_law_value_here", "_law_j"]) (sc := defScope s_law_lacking) (by decide +kernel)) (fun _ _ _ _ _ _ _ => (dgc_nm (i := 4) sc_law_lacking.nd (by decide))) (fun _ _ _ _ _ _ _ => dts_nil) (fun _ _ _ _ _ _ _ => (de_if (dt_isN (de_var (pv 4))) de_int (de_idx (de_var (pv 4)) de_int))) (sw_true rfl rfl rfl (by decide +kernel)))
    (dss_cons (ds_own (i := 5) (df_lst (da_cons (de_tup (da_cons (de_tup da_nil) (da_cons (de_var (pv 2)) (da_cons de_non da_nil)))) (da_cons (de_tup (da_cons (de_tup da_nil) (da_cons de_int (da_cons (de_neg de_int) da_nil)))) da_nil))) sc_law_lacking.nd)
    (dss_cons (ds_for (passes_of rfl) rfl (di_enumT (de_var (pv 1)) T.z_enumerate) (dg_tp rfl (dgs_cons (i := 6) sc_law_lacking.nd (dgs_cons (i := 4) sc_law_lacking.nd dgs_nil)))
    (dss_cons (ds_set (i := 7) (de_idx (de_lc (own := [("_law_value_here", 8)]) rfl sc_law_lacking.nd (di_seq (de_tup (da_cons de_int (da_cons de_int (da_cons de_int (da_cons de_int da_nil)))))) (blkOk_by (N := ["_law_pen", "_law_columns_here", "_law_many", "_law_least", "_law_own", "_law_found", "_law_k", "_law_lack", "_law_value_here", "_law_j"]) (sc := defScope s_law_lacking) (by decide +kernel)) (fun _ _ _ _ _ _ _ => (dgc_nm (i := 8) sc_law_lacking.nd (by decide))) (fun _ _ _ _ _ _ _ => (dts_one (DW.dt (dw_or (dt_isN (de_var (pv 4))) (dw_or1 (dt_cmp (op_notInA (hr65 hr)) notInD.mono fitsNotIn (de_var (pv 8)) (de_var (pv 4)))))))) (fun _ _ _ _ _ _ _ => (de_var (pv 8)))) de_int) sc_law_lacking.nd)
    (dss_one (ds_if (dt_notN (de_var (pv 4)))
    (dss_rel (dss_cons (ds_own (i := 5) (df_add (de_var (pv 5)) (de_bin op_mulA mulD.mono fitsMul (de_lst (da_cons (de_tup (da_cons (de_tup da_nil) (da_cons (de_var (pv 6)) (da_cons (de_var (pv 7)) da_nil)))) da_nil)) de_int)) sc_law_lacking.nd)
    (dss_rel (dss_cons (ds_own (i := 5) (df_add (de_var (pv 5)) (de_lc (own := [("_law_j", 9)]) rfl sc_law_lacking.nd (di_rng1 (de_var (pv 2)) T.z_range) (blkOk_by (N := ["_law_pen", "_law_columns_here", "_law_many", "_law_least", "_law_own", "_law_found", "_law_k", "_law_lack", "_law_value_here", "_law_j"]) (sc := defScope s_law_lacking) (by decide +kernel)) (fun _ _ _ _ _ _ _ => (dgc_nm (i := 9) sc_law_lacking.nd (by decide))) (fun _ _ _ _ _ _ _ => (dts_one (dt_cmp (op_neA hr.units) neD.mono fitsNe (de_var (pv 9)) (de_var (pv 6))))) (fun _ _ _ _ _ _ _ => (de_tup (da_cons (de_tup (da_cons (de_tup (da_cons (de_var (pv 6)) (da_cons (de_var (pv 7)) da_nil))) da_nil)) (da_cons (de_var (pv 9)) (da_cons de_non da_nil))))))) sc_law_lacking.nd)
    dss_nil))))
    dss_nil))))
    (dss_cons (ds_if (dt_cmp op_gt cmpD.mono fitsCmp (de_var (pv 2)) de_int)
    (dss_rel (dss_cons (ds_own (i := 5) (df_add (de_var (pv 5)) (de_bin op_mulA mulD.mono fitsMul (de_lst (da_cons (de_tup (da_cons (de_tup (da_cons (de_tup (da_cons de_int (da_cons de_non da_nil))) da_nil)) (da_cons de_int (da_cons (de_idx (de_var (pv 3)) de_int) da_nil)))) (da_cons (de_tup (da_cons (de_tup (da_cons (de_tup (da_cons de_int (da_cons de_non da_nil))) da_nil)) (da_cons de_int (da_cons (de_idx (de_var (pv 3)) de_int) da_nil)))) da_nil))) de_int)) sc_law_lacking.nd)
    dss_nil))
    dss_nil)
    (dss_cons (ds_if (dt_cmp op_gt cmpD.mono fitsCmp (de_var (pv 2)) de_int)
    (dss_rel (dss_cons (ds_own (i := 5) (df_add (de_var (pv 5)) (de_bin op_mulA mulD.mono fitsMul (de_lst (da_cons (de_tup (da_cons (de_tup (da_cons (de_tup (da_cons de_int (da_cons (de_idx (de_var (pv 3)) de_int) da_nil))) (da_cons (de_tup (da_cons de_int (da_cons (de_idx (de_var (pv 3)) de_int) da_nil))) da_nil))) (da_cons de_int (da_cons de_non da_nil)))) (da_cons (de_tup (da_cons (de_tup (da_cons (de_tup (da_cons de_int (da_cons de_non da_nil))) (da_cons (de_tup (da_cons de_int (da_cons de_non da_nil))) da_nil))) (da_cons de_int (da_cons de_non da_nil)))) da_nil))) de_int)) sc_law_lacking.nd)
    (dss_one (ds_append (i := 5) (de_tup (da_cons (de_tup (da_cons (de_tup (da_cons de_int (da_cons (de_idx (de_var (pv 3)) de_int) da_nil))) (da_cons (de_tup (da_cons de_int (da_cons (de_neg de_int) da_nil))) da_nil))) (da_cons de_int (da_cons de_non da_nil)))) (pv 5)))))
    dss_nil)
    (dss_rel (dss_one (ds_ret (de_fn d_law_one m_law_one hg hr (takes_of rfl rfl rfl rfl) (da_cons (de_var (pv 0)) (da_cons (de_var (pv 5)) da_nil)))))))))))), ?_⟩
  rintro ds n Q x ⟨cs, k', rfl, rfl, hc, q⟩
  obtain ⟨_, e, h1, h2, h3, h4⟩ := id hc
  cases e
  have hcl := (okCols.colsOk hc).2
  -- the least values
  refine cutSeq (fun e' => e' = ⟨[.dat penD, .dat (.tuple cs), .dat (.int cs.length), .un, .un, .un, .un, .un, .un, .un], k' + 1⟩) ?_ ?_
  rotate_left 1
  · intro Z hZ
    simp only [wRet, wSet, wSeq, wNext, wDrop, wIfS, wTest, wAnd, wOr, wNot, wIf, wBin, wVar, wC, wAndV, wOrV, wNotV, wIsN, wNotN, wNeg, wChain, wNil, wCons, wTup, wLst, wBi, wCall, wIsi, wSl, wSo, wNo, wSeqI, wFor, gNm, gTp, puts, wAsg, wPar, wMul, wmD, wmO, putsI, wAug, wTryIs, wRng1, wRng2, wEnum, wEnumT, wZip, wLc, wYes, wLend, wRel, wOwn, wApp, wIns, wSetIx, wLstF, wListF, wRepF, wAddF, wSlS, wParO, wRevT, wSortedSet, wSortedSetL, wSortedSetT, wKeys, weI, wExt, allD, wMt, wRaise, wSeqO, wCallF, plainO, wCallA, wIdx0, wAnF, wSetA, wUnA, wSeqA, plainA, wFld, wFldO, wMake, wLRg, Ans.data, Ans.own.injEq, Ans.tup.injEq, Ans.dat.injEq, wTry, wTryM, wHs, wIsC, enOf, put, putUn, defEnds, lendE, lend, wipeE, hide, lenD, intD, listD, tupleD, reprD, wPen0, wPen1, wPen2, wPenS1, wPenS2, penAt, List.map_cons, List.map_nil, List.length_cons, List.length_nil, List.nil_append, List.cons_append, Nat.reduceAdd, Nat.reduceSub, Nat.reduceLeDiff, Nat.zero_add, List.replicate_zero, List.replicate_succ, List.getElem?_cons_zero, List.getElem?_cons_succ, List.set_cons_zero, List.set_cons_succ, Option.some.injEq, Slot.dat.injEq, Slot.own.injEq, PyData.bool.injEq, PyData.int.injEq, PyData.tuple.injEq, PyData.list.injEq, exists_eq_left', exists_eq_left, and_true, true_and, if_true, if_false, Bool.false_eq_true, reduceCtorEq, List.mapIdx_cons, List.mapIdx_nil, wLcF]
    exact hZ _ rfl
  rintro e' rfl
  refine cutSeq (fun e' => ∃ ls : List D, e' = ⟨[.dat penD, .dat (.tuple cs), .dat (.int cs.length), .dat (.list ls), .un, .un, .un, .un, .un, .un], k' + 1⟩ ∧ ls.length = cs.length ∧ ∀ d ∈ ls, ∃ i : Int, d = .int i ∧ i.natAbs < 2 ^ 120) ?_ ?_
  rotate_left 1
  · intro Z hZ
    simp (decide := true) only [wRet, wSet, wSeq, wNext, wDrop, wIfS, wTest, wAnd, wOr, wNot, wIf, wBin, wVar, wC, wAndV, wOrV, wNotV, wIsN, wNotN, wNeg, wChain, wNil, wCons, wTup, wLst, wBi, wCall, wIsi, wSl, wSo, wNo, wSeqI, wFor, gNm, gTp, puts, wAsg, wPar, wMul, wmD, wmO, putsI, wAug, wTryIs, wRng1, wRng2, wEnum, wEnumT, wZip, wLc, wYes, wLend, wRel, wOwn, wApp, wIns, wSetIx, wLstF, wListF, wRepF, wAddF, wSlS, wParO, wRevT, wSortedSet, wSortedSetL, wSortedSetT, wKeys, weI, wExt, allD, wMt, wRaise, wSeqO, wCallF, plainO, wCallA, wIdx0, wAnF, wSetA, wUnA, wSeqA, plainA, wFld, wFldO, wMake, wLRg, Ans.data, Ans.own.injEq, Ans.tup.injEq, Ans.dat.injEq, wTry, wTryM, wHs, wIsC, enOf, put, putUn, defEnds, lendE, lend, wipeE, hide, lenD, intD, listD, tupleD, reprD, wPen0, wPen1, wPen2, wPenS1, wPenS2, penAt, List.map_cons, List.map_nil, List.length_cons, List.length_nil, List.nil_append, List.cons_append, Nat.reduceAdd, Nat.reduceSub, Nat.reduceLeDiff, Nat.zero_add, List.replicate_zero, List.replicate_succ, List.getElem?_cons_zero, List.getElem?_cons_succ, List.set_cons_zero, List.set_cons_succ, Option.some.injEq, Slot.dat.injEq, Slot.own.injEq, PyData.bool.injEq, PyData.int.injEq, PyData.tuple.injEq, PyData.list.injEq, exists_eq_left', exists_eq_left, and_true, true_and, if_true, if_false, Bool.false_eq_true, reduceCtorEq, List.mapIdx_cons, List.mapIdx_nil, wLcF]
    refine ⟨_, rfl, ?_⟩
    refine lcLoop.fm (fun d => some (leastF d)) (fun d hd X Y h5 h6 => ?_) (by rw [List.length_nil]; omega) ?_
    · obtain ⟨j, hj, e⟩ := List.getElem_of_mem hd
      simp (decide := true) only [wRet, wSet, wSeq, wNext, wDrop, wIfS, wTest, wAnd, wOr, wNot, wIf, wBin, wVar, wC, wAndV, wOrV, wNotV, wIsN, wNotN, wNeg, wChain, wNil, wCons, wTup, wLst, wBi, wCall, wIsi, wSl, wSo, wNo, wSeqI, wFor, gNm, gTp, puts, wAsg, wPar, wMul, wmD, wmO, putsI, wAug, wTryIs, wRng1, wRng2, wEnum, wEnumT, wZip, wLc, wYes, wLend, wRel, wOwn, wApp, wIns, wSetIx, wLstF, wListF, wRepF, wAddF, wSlS, wParO, wRevT, wSortedSet, wSortedSetL, wSortedSetT, wKeys, weI, wExt, allD, wMt, wRaise, wSeqO, wCallF, plainO, wCallA, wIdx0, wAnF, wSetA, wUnA, wSeqA, plainA, wFld, wFldO, wMake, wLRg, Ans.data, Ans.own.injEq, Ans.tup.injEq, Ans.dat.injEq, wTry, wTryM, wHs, wIsC, enOf, put, putUn, defEnds, lendE, lend, wipeE, hide, lenD, intD, listD, tupleD, reprD, wPen0, wPen1, wPen2, wPenS1, wPenS2, penAt, List.map_cons, List.map_nil, List.length_cons, List.length_nil, List.nil_append, List.cons_append, Nat.reduceAdd, Nat.reduceSub, Nat.reduceLeDiff, Nat.zero_add, List.replicate_zero, List.replicate_succ, List.getElem?_cons_zero, List.getElem?_cons_succ, List.set_cons_zero, List.set_cons_succ, Option.some.injEq, Slot.dat.injEq, Slot.own.injEq, PyData.bool.injEq, PyData.int.injEq, PyData.tuple.injEq, PyData.list.injEq, exists_eq_left', exists_eq_left, and_true, true_and, if_true, if_false, Bool.false_eq_true, reduceCtorEq, List.mapIdx_cons, List.mapIdx_nil, wLcF]
      cases hn : isN d with
      | true =>
        rw [if_pos rfl]
        have := isN_none hn
        subst this
        exact h6 _ rfl
      | false =>
        rw [if_neg (by decide)]
        have ej : cs.getD j .none = d := by rw [List.getD_eq_getElem?_getD, List.getElem?_eq_getElem hj, e]; rfl
        obtain ⟨vs, ev, v0, _, _⟩ := hcl j hj (by rw [ej]; exact hn)
        rw [ej] at ev
        subst ev
        cases vs with
        | nil => exact absurd rfl v0
        | cons u us => exact ⟨_, atI_c0, h6 _ rfl⟩
    · rw [List.nil_append, fmap_some]
      refine hZ _ ⟨_, rfl, by rw [List.length_map], fun d hd => ?_⟩
      obtain ⟨c, hc', rfl⟩ := List.mem_map.mp hd
      obtain ⟨j, hj, e⟩ := List.getElem_of_mem hc'
      cases hn : isN c with
      | true =>
        have := isN_none hn
        subst this
        exact ⟨0, rfl, by decide⟩
      | false =>
        have ej : cs.getD j .none = c := by rw [List.getD_eq_getElem?_getD, List.getElem?_eq_getElem hj, e]; rfl
        obtain ⟨vs, ev, v0, _, v3⟩ := hcl j hj (by rw [ej]; exact hn)
        rw [ej] at ev
        subst ev
        cases vs with
        | nil => exact absurd rfl v0
        | cons u us =>
          have := v3 u List.mem_cons_self
          exact ⟨u, rfl, by omega⟩
  rintro e' ⟨ls, rfl, hl, hls⟩
  have lsA : ∀ j, j < cs.length → ∃ i : Int, atI ls (j : Int) = some (.int i) ∧ i.natAbs < 2 ^ 120 := fun j hj => by
    have jl : j < ls.length := by omega
    obtain ⟨i, e, b⟩ := hls _ (List.getElem_mem jl)
    exact ⟨i, by rw [← e]; exact atI_nat (List.getElem?_eq_getElem jl), b⟩
  refine cutSeq (fun e' => e' = ⟨[.dat penD, .dat (.tuple cs), .dat (.int cs.length), .dat (.list ls), .un, .own [.tuple [.tuple [], .int cs.length, .none], .tuple [.tuple [], .int 0, .int (-1)]], .un, .un, .un, .un], k' + 1⟩) ?_ ?_
  rotate_left 1
  · intro Z hZ
    simp (decide := true) only [wRet, wSet, wSeq, wNext, wDrop, wIfS, wTest, wAnd, wOr, wNot, wIf, wBin, wVar, wC, wAndV, wOrV, wNotV, wIsN, wNotN, wNeg, wChain, wNil, wCons, wTup, wLst, wBi, wCall, wIsi, wSl, wSo, wNo, wSeqI, wFor, gNm, gTp, puts, wAsg, wPar, wMul, wmD, wmO, putsI, wAug, wTryIs, wRng1, wRng2, wEnum, wEnumT, wZip, wLc, wYes, wLend, wRel, wOwn, wApp, wIns, wSetIx, wLstF, wListF, wRepF, wAddF, wSlS, wParO, wRevT, wSortedSet, wSortedSetL, wSortedSetT, wKeys, weI, wExt, allD, wMt, wRaise, wSeqO, wCallF, plainO, wCallA, wIdx0, wAnF, wSetA, wUnA, wSeqA, plainA, wFld, wFldO, wMake, wLRg, Ans.data, Ans.own.injEq, Ans.tup.injEq, Ans.dat.injEq, wTry, wTryM, wHs, wIsC, enOf, put, putUn, defEnds, lendE, lend, wipeE, hide, lenD, intD, listD, tupleD, reprD, wPen0, wPen1, wPen2, wPenS1, wPenS2, penAt, List.map_cons, List.map_nil, List.length_cons, List.length_nil, List.nil_append, List.cons_append, Nat.reduceAdd, Nat.reduceSub, Nat.reduceLeDiff, Nat.zero_add, List.replicate_zero, List.replicate_succ, List.getElem?_cons_zero, List.getElem?_cons_succ, List.set_cons_zero, List.set_cons_succ, Option.some.injEq, Slot.dat.injEq, Slot.own.injEq, PyData.bool.injEq, PyData.int.injEq, PyData.tuple.injEq, PyData.list.injEq, exists_eq_left', exists_eq_left, and_true, true_and, if_true, if_false, Bool.false_eq_true, reduceCtorEq, List.mapIdx_cons, List.mapIdx_nil, wLcF]
    exact hZ _ rfl
  rintro e' rfl
  refine cutSeq (fun e' => ∃ (found : List D) (u4 u6 u7 : Slot), e' = ⟨[.dat penD, .dat (.tuple cs), .dat (.int cs.length), .dat (.list ls), u4, .own found, u6, u7, .un, .un], k' + 1⟩ ∧ found.length ≤ 22 ∧ found ≠ [] ∧ ∀ d ∈ found, LackD cs d) ?_ ?_
  rotate_left 1
  · intro Z hZ
    simp (decide := true) only [wRet, wSet, wSeq, wNext, wDrop, wIfS, wTest, wAnd, wOr, wNot, wIf, wBin, wVar, wC, wAndV, wOrV, wNotV, wIsN, wNotN, wNeg, wChain, wNil, wCons, wTup, wLst, wBi, wCall, wIsi, wSl, wSo, wNo, wSeqI, wFor, gNm, gTp, puts, wAsg, wPar, wMul, wmD, wmO, putsI, wAug, wTryIs, wRng1, wRng2, wEnum, wEnumT, wZip, wLc, wYes, wLend, wRel, wOwn, wApp, wIns, wSetIx, wLstF, wListF, wRepF, wAddF, wSlS, wParO, wRevT, wSortedSet, wSortedSetL, wSortedSetT, wKeys, weI, wExt, allD, wMt, wRaise, wSeqO, wCallF, plainO, wCallA, wIdx0, wAnF, wSetA, wUnA, wSeqA, plainA, wFld, wFldO, wMake, wLRg, Ans.data, Ans.own.injEq, Ans.tup.injEq, Ans.dat.injEq, wTry, wTryM, wHs, wIsC, enOf, put, putUn, defEnds, lendE, lend, wipeE, hide, lenD, intD, listD, tupleD, reprD, wPen0, wPen1, wPen2, wPenS1, wPenS2, penAt, List.map_cons, List.map_nil, List.length_cons, List.length_nil, List.nil_append, List.cons_append, Nat.reduceAdd, Nat.reduceSub, Nat.reduceLeDiff, Nat.zero_add, List.replicate_zero, List.replicate_succ, List.getElem?_cons_zero, List.getElem?_cons_succ, List.set_cons_zero, List.set_cons_succ, Option.some.injEq, Slot.dat.injEq, Slot.own.injEq, PyData.bool.injEq, PyData.int.injEq, PyData.tuple.injEq, PyData.list.injEq, exists_eq_left', exists_eq_left, and_true, true_and, if_true, if_false, Bool.false_eq_true, reduceCtorEq, List.mapIdx_cons, List.mapIdx_nil, wLcF, mulD]
    refine wLoop.ind (fun ds e => ∃ (j : Nat) (found : List D) (u4 u6 u7 : Slot), e = ⟨[.dat penD, .dat (.tuple cs), .dat (.int cs.length), .dat (.list ls), u4, .own found, u6, u7, .un, .un], k' + 1⟩ ∧ j ≤ cs.length ∧ ds = (pairs (rngD 0 cs.length) cs).drop j ∧ found.length ≤ 2 + 5 * j ∧ found ≠ [] ∧ ∀ d ∈ found, LackD cs d) ?_ ?_ ⟨0, _, _, _, _, rfl, Nat.zero_le _, rfl, by simp, by simp, fun d hd => ?_⟩
    · rintro e ⟨j, found, u4, u6, u7, rfl, hj, _, hf, hne, hF⟩
      exact hZ _ ⟨found, u4, u6, u7, rfl, by omega, hne, hF⟩
    · rintro d ds e ih ⟨j, found, u4, u6, u7, rfl, hj, hd, hf, hne, hF⟩
      have e0 : (pairs (rngD 0 cs.length) cs)[j]? = some d := by
        have := congrArg (fun l => l[0]?) hd
        simp only [List.getElem?_cons_zero, List.getElem?_drop, Nat.add_zero] at this
        exact this.symm
      have e1 : ds = (pairs (rngD 0 cs.length) cs).drop (j + 1) := by
        have := congrArg List.tail hd
        rw [List.tail_cons, List.tail_drop] at this
        exact this
      obtain ⟨a, c, ha, hc', rfl⟩ := pairs_at e0
      obtain ⟨jl, rfl⟩ := rngD_at ha
      rw [Int.zero_add]
      have ej : cs.getD j .none = c := by rw [List.getD_eq_getElem?_getD, hc']; rfl
      have cg : Good c := (h1 c (List.mem_of_getElem? hc')).ok.good
      simp (decide := true) only [wRet, wSet, wSeq, wNext, wDrop, wIfS, wTest, wAnd, wOr, wNot, wIf, wBin, wVar, wC, wAndV, wOrV, wNotV, wIsN, wNotN, wNeg, wChain, wNil, wCons, wTup, wLst, wBi, wCall, wIsi, wSl, wSo, wNo, wSeqI, wFor, gNm, gTp, puts, wAsg, wPar, wMul, wmD, wmO, putsI, wAug, wTryIs, wRng1, wRng2, wEnum, wEnumT, wZip, wLc, wYes, wLend, wRel, wOwn, wApp, wIns, wSetIx, wLstF, wListF, wRepF, wAddF, wSlS, wParO, wRevT, wSortedSet, wSortedSetL, wSortedSetT, wKeys, weI, wExt, allD, wMt, wRaise, wSeqO, wCallF, plainO, wCallA, wIdx0, wAnF, wSetA, wUnA, wSeqA, plainA, wFld, wFldO, wMake, wLRg, Ans.data, Ans.own.injEq, Ans.tup.injEq, Ans.dat.injEq, wTry, wTryM, wHs, wIsC, enOf, put, putUn, defEnds, lendE, lend, wipeE, hide, lenD, intD, listD, tupleD, reprD, wPen0, wPen1, wPen2, wPenS1, wPenS2, penAt, List.map_cons, List.map_nil, List.length_cons, List.length_nil, List.nil_append, List.cons_append, Nat.reduceAdd, Nat.reduceSub, Nat.reduceLeDiff, Nat.zero_add, List.replicate_zero, List.replicate_succ, List.getElem?_cons_zero, List.getElem?_cons_succ, List.set_cons_zero, List.set_cons_succ, Option.some.injEq, Slot.dat.injEq, Slot.own.injEq, PyData.bool.injEq, PyData.int.injEq, PyData.tuple.injEq, PyData.list.injEq, exists_eq_left', exists_eq_left, and_true, true_and, if_true, if_false, Bool.false_eq_true, reduceCtorEq, List.mapIdx_cons, List.mapIdx_nil, wLcF, mulD]
      -- a value that the column lacks
      refine ⟨_, rfl, ?_⟩
      refine lcLoop.fm (lackF c) (fun d hd X Y h5 h6 => ?_) (by simp) ?_
      · have gd : Good d := by
          simp only [List.mem_cons, List.not_mem_nil, or_false] at hd
          rcases hd with rfl | rfl | rfl | rfl <;> exact (Ok.int (by decide)).good
        simp (decide := true) only [wRet, wSet, wSeq, wNext, wDrop, wIfS, wTest, wAnd, wOr, wNot, wIf, wBin, wVar, wC, wAndV, wOrV, wNotV, wIsN, wNotN, wNeg, wChain, wNil, wCons, wTup, wLst, wBi, wCall, wIsi, wSl, wSo, wNo, wSeqI, wFor, gNm, gTp, puts, wAsg, wPar, wMul, wmD, wmO, putsI, wAug, wTryIs, wRng1, wRng2, wEnum, wEnumT, wZip, wLc, wYes, wLend, wRel, wOwn, wApp, wIns, wSetIx, wLstF, wListF, wRepF, wAddF, wSlS, wParO, wRevT, wSortedSet, wSortedSetL, wSortedSetT, wKeys, weI, wExt, allD, wMt, wRaise, wSeqO, wCallF, plainO, wCallA, wIdx0, wAnF, wSetA, wUnA, wSeqA, plainA, wFld, wFldO, wMake, wLRg, Ans.data, Ans.own.injEq, Ans.tup.injEq, Ans.dat.injEq, wTry, wTryM, wHs, wIsC, enOf, put, putUn, defEnds, lendE, lend, wipeE, hide, lenD, intD, listD, tupleD, reprD, wPen0, wPen1, wPen2, wPenS1, wPenS2, penAt, List.map_cons, List.map_nil, List.length_cons, List.length_nil, List.nil_append, List.cons_append, Nat.reduceAdd, Nat.reduceSub, Nat.reduceLeDiff, Nat.zero_add, List.replicate_zero, List.replicate_succ, List.getElem?_cons_zero, List.getElem?_cons_succ, List.set_cons_zero, List.set_cons_succ, Option.some.injEq, Slot.dat.injEq, Slot.own.injEq, PyData.bool.injEq, PyData.int.injEq, PyData.tuple.injEq, PyData.list.injEq, exists_eq_left', exists_eq_left, and_true, true_and, if_true, if_false, Bool.false_eq_true, reduceCtorEq, List.mapIdx_cons, List.mapIdx_nil, wLcF]
        unfold lackF at h5 h6
        cases hn : isN c with
        | true =>
          rw [hn] at h6
          exact h6 _ rfl
        | false =>
          rw [hn] at h5 h6
          obtain ⟨vs, ev, _, _, _⟩ := hcl j jl (by rw [ej]; exact hn)
          rw [ej] at ev
          subst ev
          dsimp only at h5 h6
          refine ⟨gd, cg, _, rfl, _, rfl, ?_⟩
          cases hb : inB d (vs.map PyData.int) with
          | true => rw [hb] at h5; exact h5 rfl
          | false => rw [hb] at h6; exact h6 _ rfl
      · rw [List.nil_append]
        obtain ⟨l, hl2⟩ : ∃ l : Int, ∃ ys, [PyData.int 0, .int 1, .int 2, .int 99].filterMap (lackF c) = .int l :: ys ∧ l.natAbs ≤ 100 ∧ ∀ xs, c = .tuple xs → inB (.int l) xs = false := by
          cases hn : isN c with
          | true =>
            have := isN_none hn
            subst this
            exact ⟨0, _, rfl, by decide, fun xs z => nomatch z⟩
          | false =>
            obtain ⟨vs, ev, _, v2, _⟩ := hcl j jl (by rw [ej]; exact hn)
            rw [ej] at ev
            subst ev
            exact lack_head v2
        obtain ⟨ys, hy, hl2, hl3⟩ := hl2
        rw [hy]
        refine ⟨_, atI_c0, ?_⟩
        cases hn : isN c with
        | true =>
          rw [if_neg (by decide)]
          exact ih _ ⟨j + 1, found, _, _, _, rfl, jl, e1, by omega, hne, hF⟩
        | false =>
          rw [if_pos (by decide)]
          obtain ⟨vs, ev, _, _, _⟩ := hcl j jl (by rw [ej]; exact hn)
          rw [ej] at ev
          have hx := hl3 _ ev
          rw [ev] at ej
          refine ⟨_, _, rfl, rfl, by rw [sizeLine_eq]; simp; omega, by omega, by omega, ?_⟩
          rw [Int.toNat_natCast]
          refine lcLoop.fm (jF j l) (fun d hd X Y h5 h6 => ?_) (by rw [List.length_nil, rngD_length]; omega) ?_
          · obtain ⟨i, hi⟩ := List.mem_iff_getElem?.mp hd
            obtain ⟨_, rfl⟩ := rngD_at hi
            unfold jF at h5 h6
            simp (decide := true) only [wRet, wSet, wSeq, wNext, wDrop, wIfS, wTest, wAnd, wOr, wNot, wIf, wBin, wVar, wC, wAndV, wOrV, wNotV, wIsN, wNotN, wNeg, wChain, wNil, wCons, wTup, wLst, wBi, wCall, wIsi, wSl, wSo, wNo, wSeqI, wFor, gNm, gTp, puts, wAsg, wPar, wMul, wmD, wmO, putsI, wAug, wTryIs, wRng1, wRng2, wEnum, wEnumT, wZip, wLc, wYes, wLend, wRel, wOwn, wApp, wIns, wSetIx, wLstF, wListF, wRepF, wAddF, wSlS, wParO, wRevT, wSortedSet, wSortedSetL, wSortedSetT, wKeys, weI, wExt, allD, wMt, wRaise, wSeqO, wCallF, plainO, wCallA, wIdx0, wAnF, wSetA, wUnA, wSeqA, plainA, wFld, wFldO, wMake, wLRg, Ans.data, Ans.own.injEq, Ans.tup.injEq, Ans.dat.injEq, wTry, wTryM, wHs, wIsC, enOf, put, putUn, defEnds, lendE, lend, wipeE, hide, lenD, intD, listD, tupleD, reprD, wPen0, wPen1, wPen2, wPenS1, wPenS2, penAt, List.map_cons, List.map_nil, List.length_cons, List.length_nil, List.nil_append, List.cons_append, Nat.reduceAdd, Nat.reduceSub, Nat.reduceLeDiff, Nat.zero_add, List.replicate_zero, List.replicate_succ, List.getElem?_cons_zero, List.getElem?_cons_succ, List.set_cons_zero, List.set_cons_succ, Option.some.injEq, Slot.dat.injEq, Slot.own.injEq, PyData.bool.injEq, PyData.int.injEq, PyData.tuple.injEq, PyData.list.injEq, exists_eq_left', exists_eq_left, and_true, true_and, if_true, if_false, Bool.false_eq_true, reduceCtorEq, List.mapIdx_cons, List.mapIdx_nil, wLcF, neD, twoInts, true_or, true_and]
            cases he : PyData.eqv (.int (0 + (i : Int))) (.int (j : Int)) with
            | true => rw [he] at h5; exact h5 rfl
            | false => rw [he] at h6; exact h6 _ rfl
          · rw [List.nil_append]
            have ll : ((rngD 0 cs.length).filterMap (jF j l)).length ≤ 3 := by
              have : ((rngD 0 cs.length).filterMap (jF j l)).length + 1 ≤ (rngD 0 cs.length).length := by
                obtain ⟨a1, a2, ea⟩ := List.append_of_mem (List.mem_of_getElem? ha)
                rw [ea, List.filterMap_append, List.filterMap_cons]
                have : jF j l (.int (0 + (j : Int))) = none := by
                  unfold jF
                  rw [Int.zero_add, eqv_ints, if_pos (decide_eq_true rfl)]
                rw [this]
                dsimp only
                rw [List.length_append, List.length_append, List.length_cons]
                have b1 := List.length_filterMap_le (jF j l) a1
                have b2 := List.length_filterMap_le (jF j l) a2
                omega
              rw [rngD_length] at this
              omega
            refine ⟨_, _, rfl, rfl, by rw [sizeLine_eq]; simp only [List.length_append]; simp; omega, ?_⟩
            refine ih _ ⟨j + 1, _, _, _, _, rfl, jl, e1, ?_, by simp, fun d hd => ?_⟩
            · simp only [List.length_append]
              simp
              omega
            · rcases List.mem_append.mp hd with hd | hd
              · rcases List.mem_append.mp hd with hd | hd
                · exact hF d hd
                · have : d = .tuple [.tuple [], .int (j : Int), .int l] := by
                    simp [List.replicate] at hd
                    exact hd
                  rw [this]
                  exact lack3 (by omega) hl2 ej hx
              · obtain ⟨d', hd', e⟩ := List.mem_filterMap.mp hd
                obtain ⟨i, hi⟩ := List.mem_iff_getElem?.mp hd'
                obtain ⟨il, rfl⟩ := rngD_at hi
                unfold jF at e
                split at e
                · cases e
                · cases e
                  rw [Int.zero_add]
                  exact lack4 (by omega) (by omega) hl2 ej hx
    · simp only [List.mem_cons, List.not_mem_nil, or_false] at hd
      rcases hd with rfl | rfl
      · exact lack1 h3
      · exact lack2
  rintro e' ⟨found, u4, u6, u7, rfl, hf, hne, hF⟩
  refine cutSeq (fun e' => ∃ (found : List D) (u4 u6 u7 : Slot), e' = ⟨[.dat penD, .dat (.tuple cs), .dat (.int cs.length), .dat (.list ls), u4, .own found, u6, u7, .un, .un], k' + 1⟩ ∧ found.length ≤ 26 ∧ found ≠ [] ∧ ∀ d ∈ found, LackD cs d) ?_ ?_
  rotate_left 1
  · intro Z hZ
    simp (decide := true) only [wRet, wSet, wSeq, wNext, wDrop, wIfS, wTest, wAnd, wOr, wNot, wIf, wBin, wVar, wC, wAndV, wOrV, wNotV, wIsN, wNotN, wNeg, wChain, wNil, wCons, wTup, wLst, wBi, wCall, wIsi, wSl, wSo, wNo, wSeqI, wFor, gNm, gTp, puts, wAsg, wPar, wMul, wmD, wmO, putsI, wAug, wTryIs, wRng1, wRng2, wEnum, wEnumT, wZip, wLc, wYes, wLend, wRel, wOwn, wApp, wIns, wSetIx, wLstF, wListF, wRepF, wAddF, wSlS, wParO, wRevT, wSortedSet, wSortedSetL, wSortedSetT, wKeys, weI, wExt, allD, wMt, wRaise, wSeqO, wCallF, plainO, wCallA, wIdx0, wAnF, wSetA, wUnA, wSeqA, plainA, wFld, wFldO, wMake, wLRg, Ans.data, Ans.own.injEq, Ans.tup.injEq, Ans.dat.injEq, wTry, wTryM, wHs, wIsC, enOf, put, putUn, defEnds, lendE, lend, wipeE, hide, lenD, intD, listD, tupleD, reprD, wPen0, wPen1, wPen2, wPenS1, wPenS2, penAt, List.map_cons, List.map_nil, List.length_cons, List.length_nil, List.nil_append, List.cons_append, Nat.reduceAdd, Nat.reduceSub, Nat.reduceLeDiff, Nat.zero_add, List.replicate_zero, List.replicate_succ, List.getElem?_cons_zero, List.getElem?_cons_succ, List.set_cons_zero, List.set_cons_succ, Option.some.injEq, Slot.dat.injEq, Slot.own.injEq, PyData.bool.injEq, PyData.int.injEq, PyData.tuple.injEq, PyData.list.injEq, exists_eq_left', exists_eq_left, and_true, true_and, if_true, if_false, Bool.false_eq_true, reduceCtorEq, List.mapIdx_cons, List.mapIdx_nil, wLcF, mulD, cmpD]
    by_cases hm : (1 : Int) < cs.length
    · rw [if_pos (decide_eq_true hm)]
      obtain ⟨i1, a1, b1⟩ := lsA 1 (by omega)
      obtain ⟨i0, a0, b0⟩ := lsA 0 (by omega)
      refine ⟨_, a1, _, a0, ?_⟩
      refine ⟨_, _, rfl, rfl, by rw [sizeLine_eq]; simp; omega, hZ _ ⟨_, _, _, _, rfl, by simp; omega, by simp, fun d hd => ?_⟩⟩
      rcases List.mem_append.mp hd with hd | hd
      · exact hF d hd
      · have : d = .tuple [.tuple [.tuple [.int 0, .none]], .int 1, .int i1] ∨ d = .tuple [.tuple [.tuple [.int 1, .none]], .int 0, .int i0] := by
          simp [List.replicate] at hd
          rcases hd with h | h | h | h <;> simp [h]
        rcases this with rfl | rfl
        · exact lack5 (by decide) (by decide) ⟨_, rfl, b1⟩
        · exact lack5 (by decide) (by decide) ⟨_, rfl, b0⟩
    · rw [if_neg (by rw [decide_eq_false hm]; decide)]
      exact hZ _ ⟨found, _, _, _, rfl, by omega, hne, hF⟩
  rintro e' ⟨found, u4, u6, u7, rfl, hf, hne, hF⟩
  refine cutSeq (fun e' => ∃ (found : List D) (u4 u6 u7 : Slot), e' = ⟨[.dat penD, .dat (.tuple cs), .dat (.int cs.length), .dat (.list ls), u4, .own found, u6, u7, .un, .un], k' + 1⟩ ∧ found.length ≤ 31 ∧ found ≠ [] ∧ ∀ d ∈ found, LackD cs d) ?_ ?_
  rotate_left 1
  · intro Z hZ
    simp (decide := true) only [wRet, wSet, wSeq, wNext, wDrop, wIfS, wTest, wAnd, wOr, wNot, wIf, wBin, wVar, wC, wAndV, wOrV, wNotV, wIsN, wNotN, wNeg, wChain, wNil, wCons, wTup, wLst, wBi, wCall, wIsi, wSl, wSo, wNo, wSeqI, wFor, gNm, gTp, puts, wAsg, wPar, wMul, wmD, wmO, putsI, wAug, wTryIs, wRng1, wRng2, wEnum, wEnumT, wZip, wLc, wYes, wLend, wRel, wOwn, wApp, wIns, wSetIx, wLstF, wListF, wRepF, wAddF, wSlS, wParO, wRevT, wSortedSet, wSortedSetL, wSortedSetT, wKeys, weI, wExt, allD, wMt, wRaise, wSeqO, wCallF, plainO, wCallA, wIdx0, wAnF, wSetA, wUnA, wSeqA, plainA, wFld, wFldO, wMake, wLRg, Ans.data, Ans.own.injEq, Ans.tup.injEq, Ans.dat.injEq, wTry, wTryM, wHs, wIsC, enOf, put, putUn, defEnds, lendE, lend, wipeE, hide, lenD, intD, listD, tupleD, reprD, wPen0, wPen1, wPen2, wPenS1, wPenS2, penAt, List.map_cons, List.map_nil, List.length_cons, List.length_nil, List.nil_append, List.cons_append, Nat.reduceAdd, Nat.reduceSub, Nat.reduceLeDiff, Nat.zero_add, List.replicate_zero, List.replicate_succ, List.getElem?_cons_zero, List.getElem?_cons_succ, List.set_cons_zero, List.set_cons_succ, Option.some.injEq, Slot.dat.injEq, Slot.own.injEq, PyData.bool.injEq, PyData.int.injEq, PyData.tuple.injEq, PyData.list.injEq, exists_eq_left', exists_eq_left, and_true, true_and, if_true, if_false, Bool.false_eq_true, reduceCtorEq, List.mapIdx_cons, List.mapIdx_nil, wLcF, mulD, cmpD]
    by_cases hm : (2 : Int) < cs.length
    · rw [if_pos (decide_eq_true hm)]
      obtain ⟨i1, a1, b1⟩ := lsA 1 (by omega)
      obtain ⟨i0, a0, b0⟩ := lsA 0 (by omega)
      refine ⟨_, a1, _, a0, ?_⟩
      refine ⟨_, _, rfl, rfl, by rw [sizeLine_eq]; simp; omega, ⟨_, rfl⟩, _, a0, by simp; omega, hZ _ ⟨_, _, _, _, rfl, by simp; omega, by simp, fun d hd => ?_⟩⟩
      rcases List.mem_append.mp hd with hd | hd
      · rcases List.mem_append.mp hd with hd | hd
        · exact hF d hd
        · have : d = .tuple [.tuple [.tuple [.int 1, .int i1], .tuple [.int 0, .int i0]], .int 2, .none] ∨ d = .tuple [.tuple [.tuple [.int 1, .none], .tuple [.int 0, .none]], .int 2, .none] := by
            simp [List.replicate] at hd
            rcases hd with h | h | h | h <;> simp [h]
          rcases this with rfl | rfl
          · exact lack6 (.inr ⟨_, rfl, b1⟩) (.inr ⟨_, rfl, b0⟩)
          · exact lack6 (.inl rfl) (.inl rfl)
      · rw [List.mem_singleton.mp hd]
        exact lack8 (.inr ⟨_, rfl, b0⟩)
    · rw [if_neg (by rw [decide_eq_false hm]; decide)]
      exact hZ _ ⟨found, _, _, _, rfl, by omega, hne, hF⟩
  rintro e' ⟨found, u4, u6, u7, rfl, hf, hne, hF⟩
  simp (decide := true) only [wRet, wSet, wSeq, wNext, wDrop, wIfS, wTest, wAnd, wOr, wNot, wIf, wBin, wVar, wC, wAndV, wOrV, wNotV, wIsN, wNotN, wNeg, wChain, wNil, wCons, wTup, wLst, wBi, wCall, wIsi, wSl, wSo, wNo, wSeqI, wFor, gNm, gTp, puts, wAsg, wPar, wMul, wmD, wmO, putsI, wAug, wTryIs, wRng1, wRng2, wEnum, wEnumT, wZip, wLc, wYes, wLend, wRel, wOwn, wApp, wIns, wSetIx, wLstF, wListF, wRepF, wAddF, wSlS, wParO, wRevT, wSortedSet, wSortedSetL, wSortedSetT, wKeys, weI, wExt, allD, wMt, wRaise, wSeqO, wCallF, plainO, wCallA, wIdx0, wAnF, wSetA, wUnA, wSeqA, plainA, wFld, wFldO, wMake, wLRg, Ans.data, Ans.own.injEq, Ans.tup.injEq, Ans.dat.injEq, wTry, wTryM, wHs, wIsC, enOf, put, putUn, defEnds, lendE, lend, wipeE, hide, lenD, intD, listD, tupleD, reprD, wPen0, wPen1, wPen2, wPenS1, wPenS2, penAt, List.map_cons, List.map_nil, List.length_cons, List.length_nil, List.nil_append, List.cons_append, Nat.reduceAdd, Nat.reduceSub, Nat.reduceLeDiff, Nat.zero_add, List.replicate_zero, List.replicate_succ, List.getElem?_cons_zero, List.getElem?_cons_succ, List.set_cons_zero, List.set_cons_succ, Option.some.injEq, Slot.dat.injEq, Slot.own.injEq, PyData.bool.injEq, PyData.int.injEq, PyData.tuple.injEq, PyData.list.injEq, exists_eq_left', exists_eq_left, and_true, true_and, if_true, if_false, Bool.false_eq_true, reduceCtorEq, List.mapIdx_cons, List.mapIdx_nil, wLcF]
  refine ⟨_, found, k', rfl, rfl, rfl, hne, by omega, fun r hr' k'' l => ?_⟩
  obtain ⟨zs, c, v, rfl, hL⟩ := hF r hr'
  exact q zs c v k'' l hL
end
end L2.DL.K30
namespace L2.DL.K30
open PySem PySem.Spec
      PyProof.Rows
theorem in_false {f : D → Bool} : ∀ {xs : List D}, inB (.bool false) (xs.map fun d => .bool (f d)) = !xs.all f
  | [] => rfl
  | d :: xs => by
    have ih := in_false (f := f) (xs := xs)
    simp only [inB, List.map_cons, List.any_cons, List.all_cons] at ih ⊢
    rw [ih]
    cases f d <;> simp [PyData.eqv]
section
variable {P : Program} {w : World} {K : PySem.W.Frag} {mg : Str → Option Value} {base : Heap} {A : Cls}
/-! ### the law's own words for ints, values, rows -/
abbrev w_law_is_integer : Wc := w1 (fun d => fine d = true) fun d => .bool (isInt d)
abbrev m_law_is_integer : Wc.Mono w_law_is_integer := w1.mono
theorem d_law_is_integer (T : Txt K mg A) (F : FunAt K mg "_law_is_integer" s_law_is_integer ["_law_value_here"]) : Def P w K mg base "_law_is_integer" 1 ["_law_value_here"] w_law_is_integer := by
  refine defD F sc_law_is_integer (fun ds k Q x h => w1.len h) fun f cdv A outer s H E p G hg hr => ⟨_, (dss_one (ds_ret (de_and (de_isi (T := "int") (de_var (pv 0)) T.z_isinstance T.z_int (by decide +kernel)) (de_one (de_not (de_isi (T := "bool") (de_var (pv 0)) T.z_isinstance T.z_bool (by decide +kernel))))))), ?_⟩
  rintro ds n Q x ⟨a, rfl, ha, q⟩
  simp only [wRet, wSet, wSeq, wNext, wDrop, wIfS, wTest, wAnd, wOr, wNot, wIf, wBin, wVar, wC, wAndV, wOrV, wNotV, wIsN, wNotN, wNeg, wChain, wNil, wCons, wTup, wLst, wBi, wCall, wIsi, wSl, wSo, wNo, wSeqI, wFor, gNm, gTp, puts, wAsg, wPar, wMul, wmD, wmO, putsI, wAug, wTryIs, wRng1, wRng2, wEnum, wEnumT, wZip, wLc, wYes, wLend, wRel, wOwn, wApp, wIns, wSetIx, wLstF, wListF, wRepF, wAddF, wSlS, wParO, wRevT, wSortedSet, wSortedSetL, wSortedSetT, wKeys, weI, wExt, allD, wMt, wRaise, wSeqO, wCallF, plainO, wCallA, wIdx0, wAnF, wSetA, wUnA, wSeqA, plainA, wFld, wFldO, wMake, wLRg, Ans.data, Ans.own.injEq, Ans.tup.injEq, Ans.dat.injEq, wTry, wTryM, wHs, wIsC, enOf, put, putUn, defEnds, lendE, lend, wipeE, hide, lenD, intD, listD, tupleD, reprD, wPen0, wPen1, wPen2, wPenS1, wPenS2, penAt, List.map_cons, List.map_nil, List.length_cons, List.length_nil, List.nil_append, List.cons_append, Nat.reduceAdd, Nat.reduceSub, Nat.reduceLeDiff, Nat.zero_add, List.replicate_zero, List.replicate_succ, List.getElem?_cons_zero, List.getElem?_cons_succ, List.set_cons_zero, List.set_cons_succ, Option.some.injEq, Slot.dat.injEq, Slot.own.injEq, PyData.bool.injEq, PyData.int.injEq, PyData.tuple.injEq, PyData.list.injEq, exists_eq_left', exists_eq_left, and_true, true_and, if_true, if_false, Bool.false_eq_true, reduceCtorEq, List.mapIdx_cons, List.mapIdx_nil, kit_int ha, kit_bool ha]
  cases a <;> first | exact ⟨fine.nd ha, fine.nd ha, q⟩ | exact ⟨fine.nd ha, q⟩
abbrev w_law_is_value : Wc := w2 (fun c v => colish c ∧ Good v) fun c v => .bool (valB c v)
abbrev m_law_is_value : Wc.Mono w_law_is_value := w2.mono
theorem d_law_is_value (d_law_is_integer : Def P w K mg base "_law_is_integer" 1 ["_law_value_here"] w_law_is_integer) (F : FunAt K mg "_law_is_value" s_law_is_value ["_law_column", "_law_value_here"]) : Def P w K mg base "_law_is_value" 2 ["_law_column", "_law_value_here"] w_law_is_value := by
  refine defD F sc_law_is_value (fun ds k Q x h => w2.len h) fun f cdv Ar outer s H E p G hg hr => ⟨_, (dss_one (ds_ret (de_and (de_fn d_law_is_integer m_law_is_integer hg hr (takes_of rfl rfl rfl rfl) (da_cons (de_var (pv 1)) da_nil)) (de_and (de_cmp op_ge cmpD.mono fitsCmp (de_var (pv 1)) de_int) (de_one (de_or (de_isN (de_var (pv 0))) (de_one (de_cmp (op_inA (hr65 hr)) inD.mono fitsIn (de_var (pv 1)) (de_var (pv 0)))))))))), ?_⟩
  rintro ds n Q x ⟨a, b, rfl, ⟨hc, hv⟩, q⟩
  simp only [wRet, wSet, wSeq, wNext, wDrop, wIfS, wTest, wAnd, wOr, wNot, wIf, wBin, wVar, wC, wAndV, wOrV, wNotV, wIsN, wNotN, wNeg, wChain, wNil, wCons, wTup, wLst, wBi, wCall, wIsi, wSl, wSo, wNo, wSeqI, wFor, gNm, gTp, puts, wAsg, wPar, wMul, wmD, wmO, putsI, wAug, wTryIs, wRng1, wRng2, wEnum, wEnumT, wZip, wLc, wYes, wLend, wRel, wOwn, wApp, wIns, wSetIx, wLstF, wListF, wRepF, wAddF, wSlS, wParO, wRevT, wSortedSet, wSortedSetL, wSortedSetT, wKeys, weI, wExt, allD, wMt, wRaise, wSeqO, wCallF, plainO, wCallA, wIdx0, wAnF, wSetA, wUnA, wSeqA, plainA, wFld, wFldO, wMake, wLRg, Ans.data, Ans.own.injEq, Ans.tup.injEq, Ans.dat.injEq, wTry, wTryM, wHs, wIsC, enOf, put, putUn, defEnds, lendE, lend, wipeE, hide, lenD, intD, listD, tupleD, reprD, wPen0, wPen1, wPen2, wPenS1, wPenS2, penAt, List.map_cons, List.map_nil, List.length_cons, List.length_nil, List.nil_append, List.cons_append, Nat.reduceAdd, Nat.reduceSub, Nat.reduceLeDiff, Nat.zero_add, List.replicate_zero, List.replicate_succ, List.getElem?_cons_zero, List.getElem?_cons_succ, List.set_cons_zero, List.set_cons_succ, Option.some.injEq, Slot.dat.injEq, Slot.own.injEq, PyData.bool.injEq, PyData.int.injEq, PyData.tuple.injEq, PyData.list.injEq, exists_eq_left', exists_eq_left, and_true, true_and, if_true, if_false, Bool.false_eq_true, reduceCtorEq, List.mapIdx_cons, List.mapIdx_nil]
  refine ⟨b, rfl, hv.f, ?_⟩
  cases b with
  | int v =>
    simp only [isInt, cmpD, valB] at q ⊢
    refine ⟨_, rfl, ?_⟩
    simp only [if_true]
    refine ⟨_, rfl, ?_⟩
    by_cases h : 0 ≤ v
    · simp only [h, decide_true, Bool.true_and, if_true] at q ⊢
      rcases hc with rfl | ⟨xs, rfl, g⟩
      · exact q
      · exact ⟨hv, g, xs, rfl, q⟩
    · simp only [h, decide_false, Bool.false_and, if_false, Bool.false_eq_true] at q ⊢
      exact q
  | _ => exact ⟨_, rfl, q⟩
end
end L2.DL.K30
namespace L2.DL.K30
open PySem PySem.Spec
      PyProof.Rows
theorem ite_f {c : Bool} {a b : Prop} (hc : c = false) (h : b) : if c = true then a else b := by rw [if_neg (by rw [hc]; decide)]; exact h
theorem ite_t {c : Bool} {a b : Prop} (hc : c = true) (h : a) : if c = true then a else b := by rw [if_pos hc]; exact h
section
variable {P : Program} {w : World} {K : PySem.W.Frag} {mg : Str → Option Value} {base : Heap} {A : Cls}
abbrev w_law_is_given : Wc := w2 (fun c v => colsish c ∧ Good v) (onCols givB)
abbrev m_law_is_given : Wc.Mono w_law_is_given := w2.mono
theorem d_law_is_given (T : Txt K mg A) (d_law_is_integer : Def P w K mg base "_law_is_integer" 1 ["_law_value_here"] w_law_is_integer) (d_law_is_value : Def P w K mg base "_law_is_value" 2 ["_law_column", "_law_value_here"] w_law_is_value) (F : FunAt K mg "_law_is_given" s_law_is_given ["_law_columns_here", "_law_value_here"]) : Def P w K mg base "_law_is_given" 3 ["_law_columns_here", "_law_value_here"] w_law_is_given := by
  refine defD F sc_law_is_given (fun ds k Q x h => w2.len h) fun f cdv Ar outer s H E p G hg hr => ⟨_, (dss_cons (ds_if (dt_not (dt_val (de_isi (T := "tuple") (de_var (pv 1)) T.z_isinstance T.z_tuple (by decide +kernel))))
    (dss_one (ds_ret de_bl))
    dss_nil)
    (dss_cons (ds_set (i := 2) (de_neg de_int) sc_law_is_given.nd)
    (dss_cons (ds_for (passes_of rfl) rfl (di_seq (de_var (pv 1))) (dg_nm (i := 3) sc_law_is_given.nd)
    (dss_cons (ds_if (DW.dt (dw_or (dt_not (dt_val (de_isi (T := "tuple") (de_var (pv 3)) T.z_isinstance T.z_tuple (by decide +kernel)))) (dw_or (dt_cmp (op_neA hr.units) neD.mono fitsNe (de_bi lenD.mono fitsLen call_len_seq (da_cons (de_var (pv 3)) da_nil) T.z_len) de_int) (dw_or1 (dt_not (dt_val (de_fn d_law_is_integer m_law_is_integer hg hr (takes_of rfl rfl rfl rfl) (da_cons (de_idx (de_var (pv 3)) de_int) da_nil))))))))
    (dss_one (ds_ret de_bl))
    dss_nil)
    (dss_cons (ds_if (dt_not (dt_chain op_lt op_lt cmpD.mono cmpD.mono fitsCmp fitsCmp (de_var (pv 2)) (de_idx (de_var (pv 3)) de_int) (de_bi lenD.mono fitsLen call_len_seq (da_cons (de_var (pv 0)) da_nil) T.z_len)))
    (dss_one (ds_ret de_bl))
    dss_nil)
    (dss_cons (ds_if (DW.dt (dw_and (dt_notN (de_idx (de_var (pv 3)) de_int)) (dw_and1 (dt_not (dt_val (de_fn d_law_is_value m_law_is_value hg hr (takes_of rfl rfl rfl rfl) (da_cons (de_idx (de_var (pv 0)) (de_idx (de_var (pv 3)) de_int)) (da_cons (de_idx (de_var (pv 3)) de_int) da_nil))))))))
    (dss_one (ds_ret de_bl))
    dss_nil)
    (dss_one (ds_set (i := 2) (de_idx (de_var (pv 3)) de_int) sc_law_is_given.nd))))))
    (dss_one (ds_ret de_bl))))), ?_⟩
  rintro ds n Q x ⟨a, b, rfl, ⟨⟨cs, rfl, hc, hcl⟩, hv⟩, q⟩
  simp only [wRet, wSet, wSeq, wNext, wDrop, wIfS, wTest, wAnd, wOr, wNot, wIf, wBin, wVar, wC, wAndV, wOrV, wNotV, wIsN, wNotN, wNeg, wChain, wNil, wCons, wTup, wLst, wBi, wCall, wIsi, wSl, wSo, wNo, wSeqI, wFor, gNm, gTp, puts, wAsg, wPar, wMul, wmD, wmO, putsI, wAug, wTryIs, wRng1, wRng2, wEnum, wEnumT, wZip, wLc, wYes, wLend, wRel, wOwn, wApp, wIns, wSetIx, wLstF, wListF, wRepF, wAddF, wSlS, wParO, wRevT, wSortedSet, wSortedSetL, wSortedSetT, wKeys, weI, wExt, allD, wMt, wRaise, wSeqO, wCallF, plainO, wCallA, wIdx0, wAnF, wSetA, wUnA, wSeqA, plainA, wFld, wFldO, wMake, wLRg, Ans.data, Ans.own.injEq, Ans.tup.injEq, Ans.dat.injEq, wTry, wTryM, wHs, wIsC, enOf, put, putUn, defEnds, lendE, lend, wipeE, hide, lenD, intD, listD, tupleD, reprD, wPen0, wPen1, wPen2, wPenS1, wPenS2, penAt, List.map_cons, List.map_nil, List.length_cons, List.length_nil, List.nil_append, List.cons_append, Nat.reduceAdd, Nat.reduceSub, Nat.reduceLeDiff, Nat.zero_add, List.replicate_zero, List.replicate_succ, List.getElem?_cons_zero, List.getElem?_cons_succ, List.set_cons_zero, List.set_cons_succ, Option.some.injEq, Slot.dat.injEq, Slot.own.injEq, PyData.bool.injEq, PyData.int.injEq, PyData.tuple.injEq, PyData.list.injEq, exists_eq_left', exists_eq_left, and_true, true_and, if_true, if_false, Bool.false_eq_true, reduceCtorEq, List.mapIdx_cons, List.mapIdx_nil, kit_tuple hv.f, onCols] at q ⊢
  refine ⟨fine.nd hv.f, ?_⟩
  cases b with
  | tuple xs =>
    simp only [isT, Bool.not_true, if_false, Bool.false_eq_true, givB] at q ⊢
    refine ⟨xs, rfl, ?_⟩
    refine wLoop.ind (fun ds e => ∃ l u, e = ⟨[.dat (.tuple cs), .dat (.tuple xs), .dat (.int l), u], n⟩ ∧ -1 ≤ l ∧ Q (.bool (givL cs l ds)) n ∧ ∀ d ∈ ds, Good d) ?_ ?_ ⟨-1, .un, rfl, by decide, q, hv.in_tuple⟩
    · rintro e ⟨l, u, rfl, _, q, _⟩
      exact q
    · rintro d ds e ih ⟨l, u, rfl, hl, q, hf⟩
      have gd := hf d List.mem_cons_self
      simp only [wRet, wSet, wSeq, wNext, wDrop, wIfS, wTest, wAnd, wOr, wNot, wIf, wBin, wVar, wC, wAndV, wOrV, wNotV, wIsN, wNotN, wNeg, wChain, wNil, wCons, wTup, wLst, wBi, wCall, wIsi, wSl, wSo, wNo, wSeqI, wFor, gNm, gTp, puts, wAsg, wPar, wMul, wmD, wmO, putsI, wAug, wTryIs, wRng1, wRng2, wEnum, wEnumT, wZip, wLc, wYes, wLend, wRel, wOwn, wApp, wIns, wSetIx, wLstF, wListF, wRepF, wAddF, wSlS, wParO, wRevT, wSortedSet, wSortedSetL, wSortedSetT, wKeys, weI, wExt, allD, wMt, wRaise, wSeqO, wCallF, plainO, wCallA, wIdx0, wAnF, wSetA, wUnA, wSeqA, plainA, wFld, wFldO, wMake, wLRg, Ans.data, Ans.own.injEq, Ans.tup.injEq, Ans.dat.injEq, wTry, wTryM, wHs, wIsC, enOf, put, putUn, defEnds, lendE, lend, wipeE, hide, lenD, intD, listD, tupleD, reprD, wPen0, wPen1, wPen2, wPenS1, wPenS2, penAt, List.map_cons, List.map_nil, List.length_cons, List.length_nil, List.nil_append, List.cons_append, Nat.reduceAdd, Nat.reduceSub, Nat.reduceLeDiff, Nat.zero_add, List.replicate_zero, List.replicate_succ, List.getElem?_cons_zero, List.getElem?_cons_succ, List.set_cons_zero, List.set_cons_succ, Option.some.injEq, Slot.dat.injEq, Slot.own.injEq, PyData.bool.injEq, PyData.int.injEq, PyData.tuple.injEq, PyData.list.injEq, exists_eq_left', exists_eq_left, and_true, true_and, if_true, if_false, Bool.false_eq_true, reduceCtorEq, List.mapIdx_cons, List.mapIdx_nil, kit_tuple gd.f]
      refine ⟨fine.nd gd.f, ?_⟩
      have no : ∀ {b : Bool}, givL cs l (d :: ds) = b → b = false → Q (.bool false) n := fun h1 h2 => by
        rw [h1, h2] at q
        exact q
      cases d with
      | tuple es =>
        refine ite_f (c := !isT (.tuple es)) rfl ?_
        refine ⟨.inl rfl, _, rfl, ?_⟩
        rw [eqv_ints]
        by_cases h2 : (es.length : Int) = 2
        · rw [if_neg (by rw [decide_eq_true h2] <;> decide)]
          obtain ⟨a, b, rfl⟩ : ∃ a b, es = [a, b] := by
            match es, h2 with
            | [a, b], _ => exact ⟨a, b, rfl⟩
          have ga := gd.in_tuple a List.mem_cons_self
          have gb := gd.in_tuple b (List.mem_cons_of_mem _ List.mem_cons_self)
          refine ⟨a, rfl, a, rfl, ga.f, _, rfl, ?_⟩
          cases a with
          | int i =>
            refine ite_f (c := !isInt (.int i)) rfl ?_
            refine ⟨_, rfl, _, rfl, ?_⟩
            by_cases h3 : l < i
            · rw [if_pos (decide_eq_true h3)]
              refine ⟨_, rfl, ?_⟩
              by_cases h4 : i < cs.length
              · rw [if_neg (by simp only [decide_eq_true h4] <;> decide)]
                refine ⟨b, rfl, ?_⟩
                have i0 : 0 ≤ i := by omega
                have e1 : givL cs l (.tuple [.int i, b] :: ds) = ((isN b || valB (cs.getD i.toNat .none) b) && givL cs i ds) := by
                  simp only [givL, entB, decide_eq_true i0, decide_eq_true h4, decide_eq_true h3, Bool.true_and]
                rcases Bool.eq_false_or_eq_true (isN b) with h5 | h5
                · refine ite_f (c := !isN b) (by rw [h5] <;> rfl) ?_
                  rw [e1, h5, Bool.true_or, Bool.true_and] at q
                  exact ⟨_, rfl, ih _ ⟨i, _, rfl, by omega, q, fun d hd => hf d (List.mem_cons_of_mem _ hd)⟩⟩
                · refine ite_t (c := !isN b) (by rw [h5] <;> rfl) ?_
                  rw [h5, Bool.false_or] at e1
                  refine ⟨_, rfl, _, atI_pos i0 h4, _, rfl, _, _, rfl, ⟨hc _ (getD_mem i0 h4), gb⟩, _, rfl, ?_⟩
                  rcases Bool.eq_false_or_eq_true (valB (cs.getD i.toNat .none) b) with h6 | h6
                  · rw [if_neg (by rw [h6] <;> decide)]
                    rw [e1, h6, Bool.true_and] at q
                    exact ⟨_, rfl, ih _ ⟨i, _, rfl, by omega, q, fun d hd => hf d (List.mem_cons_of_mem _ hd)⟩⟩
                  · rw [if_pos (by rw [h6] <;> rfl)]
                    exact no e1 (by rw [h6, Bool.false_and])
              · rw [if_pos (by simp only [decide_eq_false h4] <;> decide)]
                refine no rfl ?_
                simp only [givL, entB, decide_eq_false h4, Bool.and_false, Bool.false_and]
            · rw [if_neg (by simp only [decide_eq_false h3] <;> decide)]
              have e1 : givL cs l (.tuple [.int i, b] :: ds) = false := by
                simp only [givL, decide_eq_false h3, Bool.false_and, Bool.and_false]
              exact ite_t rfl (no e1 rfl)
          | _ =>
            rw [if_pos (by rfl)]
            refine no rfl ?_
            simp only [givL, entB, Bool.false_and]
        · rw [if_pos (by rw [decide_eq_false h2] <;> decide)]
          refine no rfl ?_
          match es, h2 with
          | [], _ => simp only [givL, entB, Bool.false_and]
          | [a], _ => simp only [givL, entB, Bool.false_and]
          | [a, b], h => exact absurd rfl h
          | a :: b :: c :: es, _ => cases a <;> simp only [givL, entB, Bool.false_and]
      | _ =>
        rw [if_pos (by rfl)]
        exact no rfl (by simp only [givL, entB, Bool.false_and])
  | _ => exact q
end
end L2.DL.K30
namespace L2.DL.K30
open PySem PySem.Spec
      PyProof.Rows
/-! ### a value with a part changed -/
theorem cut_to {xs : List D} {i : Nat} (h : i ≤ xs.length) : cutD xs none (some (i : Int)) = xs.take i := by
  unfold cutD
  rw [show HT.sIx xs.length 0 none = 0 from rfl, HT.sIx_nat, Nat.min_eq_left h, List.drop_zero, Nat.sub_zero]
theorem cut_len {xs : List D} {lo hi : Option Int} : (cutD xs lo hi).length ≤ xs.length := by
  unfold cutD
  rw [List.length_take,
        List.length_drop]
  omega
theorem cut_from {xs : List D} {i : Nat} (h : i ≤ xs.length) : cutD xs (some (i : Int)) none = xs.drop i := by
  unfold cutD
  rw [show HT.sIx xs.length xs.length none = xs.length from rfl, HT.sIx_nat, Nat.min_eq_left h]
  exact List.take_of_length_le
        (by rw [List.length_drop]; omega)
theorem wtAll_app : ∀ {xs ys : List D}, wtAll (xs ++ ys) = wtAll xs + wtAll ys
  | [], ys => by simp [wtAll]
  | x :: xs, ys => by rw [List.cons_append, wtAll, wtAll, wtAll_app]; omega
theorem wtAll_td {xs : List D} (i : Nat) : wtAll (xs.take i) + wtAll (xs.drop i) = wtAll xs := by
  rw [← wtAll_app, List.take_append_drop]
theorem wtAll_cut {xs : List D} {lo hi : Option Int} : wtAll (cutD xs lo hi) ≤ wtAll xs := by
  unfold cutD
  have h1 := wtAll_td (xs := xs) (HT.sIx xs.length 0 lo)
  have h2 := wtAll_td (xs := xs.drop (HT.sIx xs.length 0 lo)) (HT.sIx xs.length xs.length hi - HT.sIx xs.length 0 lo)
  omega
theorem mem_cut {xs : List D} {lo hi : Option Int} {d : D} (h : d ∈ cutD xs lo hi) : d ∈ xs := List.mem_of_mem_drop (List.mem_of_mem_take h)
theorem wtAll_rev : ∀ {xs : List D}, wtAll xs.reverse = wtAll xs
  | [] => rfl
  | x :: xs => by rw [List.reverse_cons, wtAll_app, wtAll_rev]; simp only [wtAll]; omega
theorem ok_tup {n m : Nat} {zs : List D} (hf : ∀ d ∈ zs, fine d = true ∧ d.depth + 1 ≤ m) (hw : wtAll zs + 1 ≤ n) (hm : 1 ≤ m) : Ok n m (.tuple zs) where
  f := by simp only [fine]; exact fineAll_of fun d hd => (hf d hd).1
  w := by simp only [wt]; omega
  d := by
    simp only [PyData.depth]
    have : PyData.depthAll zs ≤ m - 1 := depthAll_le fun d hd => by have := (hf d hd).2; omega
    omega
theorem cut_two {xs : List D} {j t : Nat} (hj : j ≤ xs.length) : wtAll (cutD xs none (some (j : Int))) + wtAll (cutD xs (some ((j : Int) + (t : Int))) none) ≤ wtAll xs := by
  have e : HT.sIx xs.length 0 (some ((j : Int) + (t : Int))) = min (j + t) xs.length := by
    rw [show ((j : Int) + (t : Int)) = ((j + t : Nat) : Int) from by omega]
    exact HT.sIx_nat _ _ _
  have h1 := wtAll_td (xs := xs) j
  rw [show cutD xs none (some (j : Int)) = xs.take j from cut_to hj]
  have h2 : wtAll (cutD xs (some ((j : Int) + (t : Int))) none) ≤ wtAll (xs.drop j) := by
    unfold cutD
    rw [e]
    have d : xs.drop (min (j + t) xs.length) = (xs.drop j).drop (min (j + t) xs.length - j) := by
      rw [List.drop_drop]
      congr 1
      omega
    rw [d]
    have q1 := wtAll_td (xs := (xs.drop j).drop (min (j + t) xs.length - j)) (HT.sIx xs.length xs.length none - min (j + t) xs.length)
    have q2 := wtAll_td (xs := xs.drop j) (min (j + t) xs.length - j)
    omega
  omega
def okSome (d : D) : Bool := fine d && decide (wt d ≤ 20) && decide (d.depth ≤ 3)
theorem eqv_nil {xs : List D} : PyData.eqv (.tuple xs) (.tuple []) = decide (xs = []) := by
  cases xs <;> simp [PyData.eqv, PyData.eqvAll]
def w_law_changed (L : Nat) : Wc := fun ds k Q _ => ∃ (v : D) (n m k' : Nat), ds = [penD, v] ∧ k = k' + 4 * (m + 1) ∧ m < L ∧ Ok n m v ∧ n ≤ 900 ∧ m ≤ 15 ∧ ∀ r k'', k' ≤ k'' → Ok (2 * n + 20) (m + 3) r → Q r k''
theorem m_law_changed {L : Nat} : Wc.Mono (w_law_changed L) := fun ds k Q Q' x x' h1 _ ⟨v, n, m, k', p1, p2, p3, p4, p5, p6, q⟩ => ⟨v, n, m, k', p1, p2, p3, p4, p5, p6, fun r k'' l z => h1 _ _ (q r k'' l z)⟩
section
variable {P : Program} {w : World} {K : PySem.W.Frag} {mg : Str → Option Value} {base : Heap} {A : Cls}
theorem d_law_changed_ (T : Txt K mg A) (d_law_take : Def P w K mg base "_law_take" 2 ["_law_pen", "_law_many"] w_law_take) (d_law_one : Def P w K mg base "_law_one" 3 ["_law_pen", "_law_some"] w_law_one) (F : FunAt K mg "_law_changed" s_law_changed ["_law_pen", "_law_value_here"]) : ∀ L, Def P w K mg base "_law_changed" (L + 4) ["_law_pen", "_law_value_here"] (w_law_changed L)
  | 0 => by
    refine defD F sc_law_changed (fun ds k Q x ⟨v, n, m, k', e, _⟩ => by rw [e]; rfl) fun f cdv Ar outer s H E p G hg hr => ⟨_, dss_never, ?_⟩
    rintro ds n Q x ⟨v, n', m, k', _, _, h, _⟩
    exact absurd h
          (Nat.not_lt_zero _)
  | L + 1 => by
    have d_law_changed := d_law_changed_ T d_law_take d_law_one F L
    refine defD F sc_law_changed (fun ds k Q x ⟨v, n, m, k', e, _⟩ => by rw [e]; rfl) fun f cdv Ar outer s H E p G hg hr => ⟨_, (dss_cons (ds_if (DW.dt (dw_or (dt_not (dt_val (de_isi (T := "tuple") (de_var (pv 1)) T.z_isinstance T.z_tuple (by decide +kernel)))) (dw_or (dt_cmp (op_eqA hr.units) eqD.mono fitsEq (de_var (pv 1)) (de_tup da_nil)) (dw_or1 (dt_cmp (op_eqA hr.units) eqD.mono fitsEq (de_fn (hj := by omega) d_law_take m_law_take hg hr (takes_of rfl rfl rfl rfl) (da_cons (de_var (pv 0)) (da_cons de_int da_nil))) de_int)))))
    (dss_cons (ds_set (i := 2) (de_lst (da_cons de_int (da_cons de_int (da_cons de_int (da_cons de_int (da_cons de_int (da_cons de_int (da_cons de_int (da_cons de_int (da_cons (de_neg de_int) (da_cons de_bl (da_cons de_bl (da_cons de_non (da_cons de_str (da_cons de_str (da_cons (de_tup da_nil) (da_cons (de_lst da_nil) (da_cons (de_tup (da_cons de_int da_nil)) (da_cons (de_tup (da_cons de_int (da_cons de_int da_nil))) (da_cons (de_tup (da_cons de_int (da_cons de_int da_nil))) (da_cons (de_tup (da_cons de_int (da_cons de_non da_nil))) (da_cons (de_lst (da_cons de_int da_nil)) da_nil)))))))))))))))))))))) sc_law_changed.nd)
    (dss_one (ds_ret (de_fn (hj := by omega) d_law_one m_law_one hg hr (takes_of rfl rfl rfl rfl) (da_cons (de_var (pv 0)) (da_cons (de_bin op_addA addD.mono fitsAdd (de_var (pv 2)) (de_lst (da_cons (de_tup (da_cons (de_tup (da_cons de_int (da_cons de_int da_nil))) da_nil)) (da_cons (de_tup (da_cons (de_tup (da_cons de_int (da_cons de_non da_nil))) da_nil)) (da_cons (de_tup (da_cons (de_tup (da_cons de_int (da_cons de_int da_nil))) (da_cons (de_tup (da_cons de_int (da_cons de_int da_nil))) da_nil))) (da_cons (de_tup (da_cons (de_tup (da_cons de_int (da_cons de_int da_nil))) (da_cons (de_tup (da_cons de_int (da_cons de_int da_nil))) da_nil))) (da_cons (de_tup (da_cons de_int (da_cons de_int (da_cons de_int (da_cons de_int da_nil))))) da_nil))))))) da_nil))))))
    dss_nil)
    (dss_cons (ds_par (i := 3) (j := 4) rfl sc_law_changed.nd (de_fn (hj := by omega) d_law_take m_law_take hg hr (takes_of rfl rfl rfl rfl) (da_cons (de_var (pv 0)) (da_cons (de_bi lenD.mono fitsLen call_len_seq (da_cons (de_var (pv 1)) da_nil) T.z_len) da_nil))) (de_fn (hj := by omega) d_law_take m_law_take hg hr (takes_of rfl rfl rfl rfl) (da_cons (de_var (pv 0)) (da_cons de_int da_nil))) (by decide) (by rfl))
    (dss_cons (ds_if (dt_cmp (op_eqA hr.units) eqD.mono fitsEq (de_var (pv 4)) de_int)
    (dss_one (ds_ret (de_bin op_addA addD.mono fitsAdd (de_sl (de_var (pv 1)) do_none (do_some (de_var (pv 3)))) (de_sl (de_var (pv 1)) (do_some (de_bin op_addA addD.mono fitsAdd (de_var (pv 3)) de_int)) do_none))))
    dss_nil)
    (dss_cons (ds_if (dt_cmp (op_eqA hr.units) eqD.mono fitsEq (de_var (pv 4)) de_int)
    (dss_one (ds_ret (de_bin op_addA addD.mono fitsAdd (de_bin op_addA addD.mono fitsAdd (de_sl (de_var (pv 1)) do_none (do_some (de_var (pv 3)))) (de_sl (de_var (pv 1)) (do_some (de_var (pv 3))) (do_some (de_bin op_addA addD.mono fitsAdd (de_var (pv 3)) de_int)))) (de_sl (de_var (pv 1)) (do_some (de_var (pv 3))) do_none))))
    dss_nil)
    (dss_cons (ds_if (dt_cmp (op_eqA hr.units) eqD.mono fitsEq (de_var (pv 4)) de_int)
    (dss_one (ds_ret (de_bin op_addA addD.mono fitsAdd (de_bin op_addA addD.mono fitsAdd (de_sl (de_var (pv 1)) do_none (do_some (de_var (pv 3)))) (de_rev (de_sl (de_var (pv 1)) (do_some (de_var (pv 3))) (do_some (de_bin op_addA addD.mono fitsAdd (de_var (pv 3)) de_int))))) (de_sl (de_var (pv 1)) (do_some (de_bin op_addA addD.mono fitsAdd (de_var (pv 3)) de_int)) do_none))))
    dss_nil)
    (dss_one (ds_ret (de_bin op_addA addD.mono fitsAdd (de_bin op_addA addD.mono fitsAdd (de_sl (de_var (pv 1)) do_none (do_some (de_var (pv 3)))) (de_tup (da_cons (de_fn (hj := by omega) d_law_changed m_law_changed hg hr (takes_of rfl rfl rfl rfl) (da_cons (de_var (pv 0)) (da_cons (de_idx (de_var (pv 1)) (de_var (pv 3))) da_nil))) da_nil))) (de_sl (de_var (pv 1)) (do_some (de_bin op_addA addD.mono fitsAdd (de_var (pv 3)) de_int)) do_none))))))))), ?_⟩
    rintro ds nn Q x ⟨v, n, m, k', rfl, rfl, hm, ok, hn, hm15, q⟩
    simp only [wRet, wSet, wSeq, wNext, wDrop, wIfS, wTest, wAnd, wOr, wNot, wIf, wBin, wVar, wC, wAndV, wOrV, wNotV, wIsN, wNotN, wNeg, wChain, wNil, wCons, wTup, wLst, wBi, wCall, wIsi, wSl, wSo, wNo, wSeqI, wFor, gNm, gTp, puts, wAsg, wPar, wMul, wmD, wmO, putsI, wAug, wTryIs, wRng1, wRng2, wEnum, wEnumT, wZip, wLc, wYes, wLend, wRel, wOwn, wApp, wIns, wSetIx, wLstF, wListF, wRepF, wAddF, wSlS, wParO, wRevT, wSortedSet, wSortedSetL, wSortedSetT, wKeys, weI, wExt, allD, wMt, wRaise, wSeqO, wCallF, plainO, wCallA, wIdx0, wAnF, wSetA, wUnA, wSeqA, plainA, wFld, wFldO, wMake, wLRg, Ans.data, Ans.own.injEq, Ans.tup.injEq, Ans.dat.injEq, wTry, wTryM, wHs, wIsC, enOf, put, putUn, defEnds, lendE, lend, wipeE, hide, lenD, intD, listD, tupleD, reprD, wPen0, wPen1, wPen2, wPenS1, wPenS2, penAt, List.map_cons, List.map_nil, List.length_cons, List.length_nil, List.nil_append, List.cons_append, Nat.reduceAdd, Nat.reduceSub, Nat.reduceLeDiff, Nat.zero_add, List.replicate_zero, List.replicate_succ, List.getElem?_cons_zero, List.getElem?_cons_succ, List.set_cons_zero, List.set_cons_succ, Option.some.injEq, Slot.dat.injEq, Slot.own.injEq, PyData.bool.injEq, PyData.int.injEq, PyData.tuple.injEq, PyData.list.injEq, exists_eq_left', exists_eq_left, and_true, true_and, if_true, if_false, Bool.false_eq_true, reduceCtorEq, List.mapIdx_cons, List.mapIdx_nil, kit_tuple ok.f, eqD]
    refine ⟨fine.nd ok.f, ?_⟩
    have some_ok : ∀ {r : D}, okSome r = true → Ok (2 * n + 20) (m + 3) r := fun {r} h => by
      simp only [okSome, Bool.and_eq_true, decide_eq_true_eq] at h
      exact ⟨h.1.1, by omega, by omega⟩
    cases v with
    | tuple xs =>
      rw [if_neg (show ¬ (!isT (.tuple xs)) = true from fun z => nomatch z)]
      refine ⟨.inr ⟨ok.mono (by omega) (by omega), good_of rfl⟩, ?_⟩
      have wl := ok.w
      have dl := ok.d
      simp only [wt, PyData.depth] at wl dl
      have xl : xs.length ≤ 900 := by have := wtAll_length xs; omega
      by_cases hx : xs = []
      · subst hx
        rw [if_pos (by rw [eqv_nil]; rfl)]
        refine ⟨by rw [sizeLine_eq]; decide, _, _, k' + 4 * m + 3, rfl, (by omega), rfl, by simp, by simp, fun r hr k'' l => q r k'' (by omega) (some_ok (List.all_eq_true.mp (by decide +kernel) r hr))⟩
      · rw [if_neg (by rw [eqv_nil, decide_eq_false hx]; decide)]
        have xp : 0 < xs.length := List.length_pos_iff.mpr hx
        have m1 : 1 ≤ m := by omega
        have fx : ∀ d ∈ xs, fine d = true ∧ d.depth + 1 ≤ m := fun d hd => ⟨(ok.in_tuple d hd).f, by have := depthAll_mem d hd; omega⟩
        have okm : ∀ zs : List D, (∀ d ∈ zs, d ∈ xs) → wtAll zs ≤ 2 * wtAll xs → Ok (2 * n + 20) (m + 3) (.tuple zs) := fun zs h1 h2 =>
          ok_tup (fun d hd => ⟨(fx d (h1 d hd)).1, by have := (fx d (h1 d hd)).2; omega⟩) (by omega) (by omega)
        have cl : ∀ lo hi, (cutD xs lo hi).length ≤ 900 := fun lo hi => Nat.le_trans cut_len xl
        have cw : ∀ lo hi, wtAll (cutD xs lo hi) ≤ wtAll xs := fun lo hi => wtAll_cut
        refine ⟨5, k' + 4 * m + 3, rfl, by omega, by decide, small9 (by decide), fun r r0 r5 k1 l1 => ⟨.inl rfl, ?_⟩⟩
        obtain ⟨k1, rfl⟩ : ∃ k, k1 = k + 2 := ⟨k1 - 2, by omega⟩
        rcases Bool.eq_false_or_eq_true (PyData.eqv (.int r) (.int 0)) with hr | hr
        · rw [if_pos hr]
          refine ⟨by rw [sizeLine_eq]; decide, _, _, k1 + 1, rfl, rfl, rfl, by simp, by simp, fun r hr k'' l => q r k'' (by omega) (some_ok (List.all_eq_true.mp (by decide +kernel) r hr))⟩
        · rw [if_neg (by rw [hr]; decide)]
          refine ⟨xs.length, k1 + 1, rfl, rfl, by omega, small9 (by omega), fun at_ a0 a1 k2 l2 => ?_⟩
          obtain ⟨k2, rfl⟩ : ∃ k, k2 = k + 1 := ⟨k2 - 1, by omega⟩
          have s1 : wtAll (cutD xs none (some at_)) + wtAll (cutD xs (some at_) none) ≤ wtAll xs := by
            obtain ⟨j, rfl⟩ := Int.eq_ofNat_of_zero_le a0
            have := cut_two (xs := xs) (j := j) (t := 0) (by omega)
            simpa using this
          have s2 : wtAll (cutD xs none (some at_)) + wtAll (cutD xs (some (at_ + 2)) none) ≤ wtAll xs := by
            obtain ⟨j, rfl⟩ := Int.eq_ofNat_of_zero_le a0
            exact cut_two (xs := xs) (j := j) (t := 2) (by omega)
          refine ⟨7, k2, rfl, rfl, by decide, small9 (by decide), fun t t0 t1 k3 l3 => ⟨.inl rfl, ?_⟩⟩
          rcases Bool.eq_false_or_eq_true (PyData.eqv (.int t) (.int 0)) with h0 | h0
          · rw [if_pos h0]
            refine ⟨_, rfl, _, rfl, by have := cl none (some at_); have := cl (some (at_ + 1)) none; rw [sizeLine_eq]; omega, q _ _ (by omega) (okm _ (fun d hd => ?_) ?_)⟩
            · rcases List.mem_append.mp hd with h | h <;> exact mem_cut h
            · rw [wtAll_app]; have := cw none (some at_); have := cw (some (at_ + 1)) none; omega
          · rw [if_neg (by rw [h0]; decide)]
            refine ⟨.inl rfl, ?_⟩
            rcases Bool.eq_false_or_eq_true (PyData.eqv (.int t) (.int 1)) with h1 | h1
            · rw [if_pos h1]
              refine ⟨_, rfl, _, rfl, _, rfl, by have := cl none (some at_); have := cl (some at_) (some (at_ + 1)); rw [sizeLine_eq]; omega, _, rfl, by rw [List.length_append]; have := cl none (some at_); have := cl (some at_) (some (at_ + 1)); have := cl (some at_) none; rw [sizeLine_eq]; omega, q _ _ (by omega) (okm _ (fun d hd => ?_) ?_)⟩
              · rcases List.mem_append.mp hd with h | h
                · rcases List.mem_append.mp h with h | h <;> exact mem_cut h
                · exact mem_cut h
              · rw [wtAll_app, wtAll_app]; have := cw none (some at_); have := cw (some at_) (some (at_ + 1)); have := cw (some at_) none; omega
            · rw [if_neg (by rw [h1]; decide)]
              refine ⟨.inl rfl, ?_⟩
              rcases Bool.eq_false_or_eq_true (PyData.eqv (.int t) (.int 2)) with h2 | h2
              · rw [if_pos h2]
                refine ⟨_, rfl, _, rfl, _, rfl, _, rfl, by rw [List.length_reverse]; have := cl none (some at_); have := cl (some at_) (some (at_ + 2)); rw [sizeLine_eq]; omega, _, rfl, by rw [List.length_append, List.length_reverse]; have := cl none (some at_); have := cl (some at_) (some (at_ + 2)); have := cl (some (at_ + 2)) none; rw [sizeLine_eq]; omega, q _ _ (by omega) (okm _ (fun d hd => ?_) ?_)⟩
                · rcases List.mem_append.mp hd with h | h
                  · rcases List.mem_append.mp
                        h with h | h
                    · exact mem_cut h
                    · exact mem_cut (List.mem_reverse.mp h)
                  · exact mem_cut h
                · rw [wtAll_app, wtAll_app, wtAll_rev]; have := cw none (some at_); have := cw (some at_) (some (at_ + 2)); have := cw (some (at_ + 2)) none; omega
              · rw [if_neg (by rw [h2]; decide)]
                obtain ⟨j, rfl⟩ := Int.eq_ofNat_of_zero_le a0
                have hj : j < xs.length := by omega
                have hme : xs.getD (j : Int).toNat .none ∈ xs := getD_mem a0 a1
                have ej : xs.getD (j : Int).toNat .none = xs[j] := by
                  rw [Int.toNat_natCast, List.getD_eq_getElem?_getD, List.getElem?_eq_getElem hj]
                  rfl
                have c1 : cutD xs none (some (j : Int)) = xs.take j := cut_to (by omega)
                have c2 : cutD xs (some ((j : Int) + 1)) none = xs.drop (j + 1) := cut_from (i := j + 1) (by omega)
                have w1 := wtAll_td (xs := xs) j
                have w2 : wtAll (xs.drop j) = wt (xs.getD (j : Int).toNat .none) + wtAll (xs.drop (j + 1)) := by
                  rw [ej, List.drop_eq_getElem_cons hj]
                  rfl
                have fe := fx _ hme
                refine ⟨_, rfl, _, atI_pos a0 a1, xs.getD (j : Int).toNat .none, wt (xs.getD (j : Int).toNat .none), m - 1, k3 - 4 * m, rfl, by omega, by omega, ⟨fe.1, Nat.le_refl _, by have := fe.2; omega⟩, by omega, by omega, fun r k4 l4 or => ?_⟩
                have wr := or.w
                have dr := or.d
                refine ⟨by have := cl none (some (j : Int)); rw [sizeLine_eq, List.length_singleton]; omega, _, rfl, by rw [List.length_append, List.length_singleton]; have := cl none (some (j : Int)); have := cl (some ((j : Int) + 1)) none; rw [sizeLine_eq]; omega, q _ _ (by omega) (ok_tup (fun d hd => ?_) ?_ (by omega))⟩
                · rcases List.mem_append.mp hd with h | h
                  · rcases List.mem_append.mp
                        h with h | h
                    · have := fx d (mem_cut h); exact ⟨this.1, by omega⟩
                    · cases List.mem_singleton.mp h
                      exact ⟨or.f, by omega⟩
                  · have := fx d (mem_cut h); exact ⟨this.1, by omega⟩
                · rw [wtAll_app, wtAll_app, c1, c2]
                  have : wtAll [r] = wt r := by simp [wtAll]
                  omega
    | _ =>
      refine ⟨by rw [sizeLine_eq]; decide, _, _, k' + 4 * m + 3, rfl, (by omega), rfl, by simp, by simp, fun r hr k'' l => q r k'' (by omega) (some_ok (List.all_eq_true.mp (by decide +kernel) r hr))⟩
theorem d_law_changed (T : Txt K mg A) (d_law_take : Def P w K mg base "_law_take" 2 ["_law_pen", "_law_many"] w_law_take) (d_law_one : Def P w K mg base "_law_one" 3 ["_law_pen", "_law_some"] w_law_one) (F : FunAt K mg "_law_changed" s_law_changed ["_law_pen", "_law_value_here"]) : Def P w K mg base "_law_changed" 14 ["_law_pen", "_law_value_here"] (w_law_changed 10) := d_law_changed_ T d_law_take d_law_one F 10
end
end L2.DL.K30
namespace L2.DL.K30
open PySem PySem.Spec
      PyProof.Rows
/-! ### what is a view -/
def keptL (cs : List D) (seen : List D) : List D → Bool
  | [] => true
  | x :: r => numB x (.int cs.length) && (!inB x seen && keptL cs (seen ++ [x]) r)
def keptB (cs : List D) : D → Bool
  | .tuple xs => !decide (xs.length = 0) && keptL cs [] xs
  | _ => false
def branchB (cs : List D) : D → Bool
  | .tuple [.tuple es, k] => givL cs (-1) es && (!inB .none (es.map sndD) && keptB cs k)
  | _ => false
def kLen : D → Nat
  | .tuple [_, .tuple ks] => ks.length
  | _ => 0
def viewL (cs : List D) (m : Nat) : List D → Bool
  | [] => true
  | b :: r => branchB cs b && (decide (kLen b = m) && viewL cs m r)
def viewB (cs : List D) : D → Bool
  | .tuple bs => decide (1 ≤ bs.length) && (decide (bs.length ≤ 3) && viewL cs (kLen (bs.getD 0 .none)) bs)
  | _ => false
theorem keptB_inv {cs : List D} {d : D} (h : keptB cs d = true) : ∃ ks, d = .tuple ks ∧ 1 ≤ ks.length := by
  cases d with
  | tuple ks =>
    simp only [keptB, Bool.and_eq_true, Bool.not_eq_true', decide_eq_false_iff_not] at h
    exact ⟨ks, rfl, by omega⟩
  | _ => cases h
theorem branchB_inv {cs : List D} {d : D} (h : branchB cs d = true) : ∃ es ks, d = .tuple [.tuple es, .tuple ks] ∧ kLen d = ks.length ∧ givL cs (-1) es = true ∧ keptB cs (.tuple ks) = true := by
  unfold branchB at h
  split at h
  · rename_i es k
    simp only
          [Bool.and_eq_true] at h
    obtain ⟨ks, rfl, _⟩ := keptB_inv h.2.2
    exact ⟨es, ks, rfl, rfl, h.1, h.2.2⟩
  · cases h
theorem wtAll_take {k : Nat} : ∀ {xs : List D}, wtAll (xs.take k) ≤ wtAll xs := by
  induction k with
  | zero => intro xs; rw [List.take_zero]; simp [wtAll]
  | succ k ih =>
    intro xs
    cases xs with
    | nil => simp
    | cons a r =>
      rw [List.take_succ_cons]
      simp only [wtAll]
      have := ih (xs := r)
      omega
theorem Ok.take {n m k : Nat} {xs : List D} (h : L2.DL.Ok n m (.tuple xs)) : L2.DL.Ok n m (.tuple (xs.take k)) where
  f := by
    simp only [fine]
    exact fineAll_of fun d hd => (h.in_tuple d (List.mem_of_mem_take hd)).f
  w := by
    have w := h.w
    simp only [wt] at w ⊢
    have := wtAll_take (k := k) (xs := xs)
    omega
  d := by
    have d := h.d
    simp only [PyData.depth] at d ⊢
    have : PyData.depthAll (xs.take k) ≤ PyData.depthAll xs := depthAll_le fun d hd => depthAll_mem d (List.mem_of_mem_take hd)
    omega
theorem good_len {xs : List D} (h : Good (.tuple xs)) : xs.length ≤ 8000 := by
  have w := h.w
  simp only [wt] at w
  have : ∀ {xs : List D}, xs.length ≤ wtAll xs := by
    intro xs
    induction xs with
    | nil => simp
    | cons a r ih =>
      have h1 : 1 ≤ wt a := by cases a <;> simp [wt]
      simp only [wtAll, List.length_cons]
      omega
  have := this (xs := xs)
  omega
section
variable {P : Program} {w : World} {K : PySem.W.Frag} {mg : Str → Option Value} {base : Heap} {A : Cls}
abbrev w_kept_is_right : Wc := w2 (fun c v => colsish c ∧ Good v) (onCols keptB)
abbrev m_kept_is_right : Wc.Mono w_kept_is_right := w2.mono
theorem d_kept_is_right (T : Txt K mg A) (d_is_number : Def P w K mg base "is_number" 2 ["value", "limit"] w_is_number) (F : FunAt K mg "kept_is_right" s_kept_is_right ["columns", "value"]) : Def P w K mg base "kept_is_right" 3 ["columns", "value"] w_kept_is_right := by
  refine defD F sc_kept_is_right (fun ds k Q x h => w2.len h) fun f cdv Ar outer s H E p G hg hr => ⟨_, (dss_cons (ds_if (DW.dt (dw_or (dt_not (dt_val (de_isi (T := "tuple") (de_var (pv 1)) T.z_isinstance T.z_tuple (by decide +kernel)))) (dw_or1 (dt_cmp (op_eqA hr.units) eqD.mono fitsEq (de_bi lenD.mono fitsLen call_len_seq (da_cons (de_var (pv 1)) da_nil) T.z_len) de_int))))
    (dss_one (ds_ret de_bl))
    dss_nil)
    (dss_cons (ds_for (passes_of rfl) rfl (di_rng1 (de_bi lenD.mono fitsLen call_len_seq (da_cons (de_var (pv 1)) da_nil) T.z_len) T.z_range) (dg_nm (i := 2) sc_kept_is_right.nd)
    (dss_one (ds_if (DW.dt (dw_or (dt_not (dt_val (de_fn d_is_number m_is_number hg hr (takes_of rfl rfl rfl rfl) (da_cons (de_idx (de_var (pv 1)) (de_var (pv 2))) (da_cons (de_bi lenD.mono fitsLen call_len_seq (da_cons (de_var (pv 0)) da_nil) T.z_len) da_nil))))) (dw_or1 (dt_cmp (op_inA (hr65 hr)) inD.mono fitsIn (de_idx (de_var (pv 1)) (de_var (pv 2))) (de_sl (de_var (pv 1)) do_none (do_some (de_var (pv 2))))))))
    (dss_one (ds_ret de_bl))
    dss_nil)))
    (dss_one (ds_ret de_bl)))), ?_⟩
  rintro ds n Q x ⟨a, b, rfl, ⟨⟨cs, rfl, hc, hcl⟩, hv⟩, q⟩
  simp only [wRet, wSet, wSeq, wNext, wDrop, wIfS, wTest, wAnd, wOr, wNot, wIf, wBin, wVar, wC, wAndV, wOrV, wNotV, wIsN, wNotN, wNeg, wChain, wNil, wCons, wTup, wLst, wBi, wCall, wIsi, wSl, wSo, wNo, wSeqI, wFor, gNm, gTp, puts, wAsg, wPar, wMul, wmD, wmO, putsI, wAug, wTryIs, wRng1, wRng2, wEnum, wEnumT, wZip, wLc, wYes, wLend, wRel, wOwn, wApp, wIns, wSetIx, wLstF, wListF, wRepF, wAddF, wSlS, wParO, wRevT, wSortedSet, wSortedSetL, wSortedSetT, wKeys, weI, wExt, allD, wMt, wRaise, wSeqO, wCallF, plainO, wCallA, wIdx0, wAnF, wSetA, wUnA, wSeqA, plainA, wFld, wFldO, wMake, wLRg, Ans.data, Ans.own.injEq, Ans.tup.injEq, Ans.dat.injEq, wTry, wTryM, wHs, wIsC, enOf, put, putUn, defEnds, lendE, lend, wipeE, hide, lenD, intD, listD, tupleD, reprD, wPen0, wPen1, wPen2, wPenS1, wPenS2, penAt, List.map_cons, List.map_nil, List.length_cons, List.length_nil, List.nil_append, List.cons_append, Nat.reduceAdd, Nat.reduceSub, Nat.reduceLeDiff, Nat.zero_add, List.replicate_zero, List.replicate_succ, List.getElem?_cons_zero, List.getElem?_cons_succ, List.set_cons_zero, List.set_cons_succ, Option.some.injEq, Slot.dat.injEq, Slot.own.injEq, PyData.bool.injEq, PyData.int.injEq, PyData.tuple.injEq, PyData.list.injEq, exists_eq_left', exists_eq_left, and_true, true_and, if_true, if_false, Bool.false_eq_true, reduceCtorEq, List.mapIdx_cons, List.mapIdx_nil, kit_tuple hv.f, onCols] at q ⊢
  refine ⟨fine.nd hv.f, ?_⟩
  cases b with
  | tuple xs =>
    have h8 := good_len hv
    simp only [isT, Bool.not_true, if_false, Bool.false_eq_true, eqD, twoInts, true_or, true_and] at q ⊢
    have e1 : PyData.eqv (.int (xs.length : Int)) (.int 0) = decide (xs.length = 0) := eqv_len xs.length 0
    refine ⟨_, rfl, ?_⟩
    rw [e1]
    simp only [keptB] at q
    cases hz : decide (xs.length = 0) with
    | true =>
      rw [hz] at q
      exact q
    | false =>
      rw [hz] at q
      rw [if_neg (by decide)]
      simp only [Bool.not_false, Bool.true_and] at q
      refine ⟨_, rfl, by omega, by omega, ?_⟩
      rw [Int.toNat_natCast]
      refine wLoop.rng xs.length (fun j e => ∃ u, e = ⟨[.dat (.tuple cs), .dat (.tuple xs), u], n⟩ ∧ Q (.bool (keptL cs (xs.take j) (xs.drop j))) n) ?_ ?_ ⟨_, rfl, by simpa using q⟩
      · rintro j e hj ⟨u, rfl, q⟩ N ih
        have hx : xs.drop j = xs[j] :: xs.drop (j + 1) := List.drop_eq_getElem_cons hj
        have ht : xs.take (j + 1) = xs.take j ++ [xs[j]] := by rw [List.take_add_one, List.getElem?_eq_getElem hj]; rfl
        have ea : atI xs (j : Int) = some xs[j] := by
          rw [atI_pos (by omega) (by omega), Int.toNat_natCast, List.getD_eq_getElem?_getD, List.getElem?_eq_getElem hj]
          rfl
        have gx := hv.in_tuple _ (List.getElem_mem hj)
        rw [hx] at q
        simp only [wRet, wSet, wSeq, wNext, wDrop, wIfS, wTest, wAnd, wOr, wNot, wIf, wBin, wVar, wC, wAndV, wOrV, wNotV, wIsN, wNotN, wNeg, wChain, wNil, wCons, wTup, wLst, wBi, wCall, wIsi, wSl, wSo, wNo, wSeqI, wFor, gNm, gTp, puts, wAsg, wPar, wMul, wmD, wmO, putsI, wAug, wTryIs, wRng1, wRng2, wEnum, wEnumT, wZip, wLc, wYes, wLend, wRel, wOwn, wApp, wIns, wSetIx, wLstF, wListF, wRepF, wAddF, wSlS, wParO, wRevT, wSortedSet, wSortedSetL, wSortedSetT, wKeys, weI, wExt, allD, wMt, wRaise, wSeqO, wCallF, plainO, wCallA, wIdx0, wAnF, wSetA, wUnA, wSeqA, plainA, wFld, wFldO, wMake, wLRg, Ans.data, Ans.own.injEq, Ans.tup.injEq, Ans.dat.injEq, wTry, wTryM, wHs, wIsC, enOf, put, putUn, defEnds, lendE, lend, wipeE, hide, lenD, intD, listD, tupleD, reprD, wPen0, wPen1, wPen2, wPenS1, wPenS2, penAt, List.map_cons, List.map_nil, List.length_cons, List.length_nil, List.nil_append, List.cons_append, Nat.reduceAdd, Nat.reduceSub, Nat.reduceLeDiff, Nat.zero_add, List.replicate_zero, List.replicate_succ, List.getElem?_cons_zero, List.getElem?_cons_succ, List.set_cons_zero, List.set_cons_succ, Option.some.injEq, Slot.dat.injEq, Slot.own.injEq, PyData.bool.injEq, PyData.int.injEq, PyData.tuple.injEq, PyData.list.injEq, exists_eq_left', exists_eq_left, and_true, true_and, if_true, if_false, Bool.false_eq_true, reduceCtorEq, List.mapIdx_cons, List.mapIdx_nil, keptL] at q ⊢
        refine ⟨_, ea, ⟨_, _, rfl, ⟨gx.f, _, rfl⟩, _, rfl, ?_⟩⟩
        rcases Bool.eq_false_or_eq_true (numB xs[j] (.int cs.length)) with hb | hb
        · simp only [hb, Bool.not_true, if_false, Bool.false_eq_true, Bool.true_and] at q ⊢
          refine ⟨_, ea, ?_⟩
          have ec : cutD xs none (some (j : Int)) = xs.take j := by
            unfold cutD
            rw [show HT.sIx xs.length 0 none = 0 from rfl, List.drop_zero, Nat.sub_zero, HT.sIx_nat, Nat.min_eq_left (by omega)]
          simp only [slD]
          rw [ec]
          refine ⟨gx, Ok.take hv, _, rfl, _, rfl, ?_⟩
          rcases Bool.eq_false_or_eq_true (inB xs[j] (xs.take j)) with hi | hi
          · simp only [hi, Bool.not_true, Bool.false_and, if_true] at q ⊢
            exact q
          · simp only [hi, Bool.not_false, Bool.true_and, if_false, Bool.false_eq_true] at q ⊢
            exact ih _ ⟨_, rfl, by rw [ht]; exact q⟩
        · simp only [hb, Bool.not_false, if_true, Bool.false_and] at q ⊢
          exact q
      · rintro e ⟨u, rfl, q⟩
        simp only [wRet, wSet, wSeq, wNext, wDrop, wIfS, wTest, wAnd, wOr, wNot, wIf, wBin, wVar, wC, wAndV, wOrV, wNotV, wIsN, wNotN, wNeg, wChain, wNil, wCons, wTup, wLst, wBi, wCall, wIsi, wSl, wSo, wNo, wSeqI, wFor, gNm, gTp, puts, wAsg, wPar, wMul, wmD, wmO, putsI, wAug, wTryIs, wRng1, wRng2, wEnum, wEnumT, wZip, wLc, wYes, wLend, wRel, wOwn, wApp, wIns, wSetIx, wLstF, wListF, wRepF, wAddF, wSlS, wParO, wRevT, wSortedSet, wSortedSetL, wSortedSetT, wKeys, weI, wExt, allD, wMt, wRaise, wSeqO, wCallF, plainO, wCallA, wIdx0, wAnF, wSetA, wUnA, wSeqA, plainA, wFld, wFldO, wMake, wLRg, Ans.data, Ans.own.injEq, Ans.tup.injEq, Ans.dat.injEq, wTry, wTryM, wHs, wIsC, enOf, put, putUn, defEnds, lendE, lend, wipeE, hide, lenD, intD, listD, tupleD, reprD, wPen0, wPen1, wPen2, wPenS1, wPenS2, penAt, List.map_cons, List.map_nil, List.length_cons, List.length_nil, List.nil_append, List.cons_append, Nat.reduceAdd, Nat.reduceSub, Nat.reduceLeDiff, Nat.zero_add, List.replicate_zero, List.replicate_succ, List.getElem?_cons_zero, List.getElem?_cons_succ, List.set_cons_zero, List.set_cons_succ, Option.some.injEq, Slot.dat.injEq, Slot.own.injEq, PyData.bool.injEq, PyData.int.injEq, PyData.tuple.injEq, PyData.list.injEq, exists_eq_left', exists_eq_left, and_true, true_and, if_true, if_false, Bool.false_eq_true, reduceCtorEq, List.mapIdx_cons, List.mapIdx_nil]
        rw [List.drop_length] at q
        exact q
  | _ => exact q
abbrev w_branch_is_right : Wc := w2 (fun c v => colsish c ∧ Good v) (onCols branchB)
abbrev m_branch_is_right : Wc.Mono w_branch_is_right := w2.mono
theorem d_branch_is_right (T : Txt K mg A) (d_given_is_right : Def P w K mg base "given_is_right" 4 ["columns", "value"] w_given_is_right) (d_kept_is_right : Def P w K mg base "kept_is_right" 3 ["columns", "value"] w_kept_is_right) (F : FunAt K mg "branch_is_right" s_branch_is_right ["columns", "value"]) : Def P w K mg base "branch_is_right" 5 ["columns", "value"] w_branch_is_right := by
  refine defD F sc_branch_is_right (fun ds k Q x h => w2.len h) fun f cdv Ar outer s H E p G hg hr => ⟨_, (dss_cons (ds_if (DW.dt (dw_or (dt_not (dt_val (de_isi (T := "tuple") (de_var (pv 1)) T.z_isinstance T.z_tuple (by decide +kernel)))) (dw_or1 (dt_cmp (op_neA hr.units) neD.mono fitsNe (de_bi lenD.mono fitsLen call_len_seq (da_cons (de_var (pv 1)) da_nil) T.z_len) de_int))))
    (dss_one (ds_ret de_bl))
    dss_nil)
    (dss_cons (ds_asg (de_var (pv 1)) (dg_tp rfl (dgs_cons (i := 2) sc_branch_is_right.nd (dgs_cons (i := 3) sc_branch_is_right.nd dgs_nil))))
    (dss_cons (ds_if (DW.dt (dw_or (dt_not (dt_val (de_fn d_given_is_right m_given_is_right hg hr (takes_of rfl rfl rfl rfl) (da_cons (de_var (pv 0)) (da_cons (de_var (pv 2)) da_nil))))) (dw_or1 (dt_cmp (op_inA (hr65 hr)) inD.mono fitsIn de_non (de_lc (own := [("entry", 4)]) rfl sc_branch_is_right.nd (di_seq (de_var (pv 2))) (blkOk_by (N := ["columns", "value", "chosen", "kept", "entry"]) (sc := defScope s_branch_is_right) (by decide +kernel)) (fun _ _ _ _ _ _ _ => (dgc_nm (i := 4) sc_branch_is_right.nd (by decide))) (fun _ _ _ _ _ _ _ => dts_nil) (fun _ _ _ _ _ _ _ => (de_idx (de_var (pv 4)) de_int)))))))
    (dss_one (ds_ret de_bl))
    dss_nil)
    (dss_one (ds_ret (de_fn d_kept_is_right m_kept_is_right hg hr (takes_of rfl rfl rfl rfl) (da_cons (de_var (pv 0)) (da_cons (de_var (pv 3)) da_nil)))))))), ?_⟩
  rintro ds n Q x ⟨a, b, rfl, ⟨⟨cs, rfl, hc, hcl⟩, hv⟩, q⟩
  simp only [wRet, wSet, wSeq, wNext, wDrop, wIfS, wTest, wAnd, wOr, wNot, wIf, wBin, wVar, wC, wAndV, wOrV, wNotV, wIsN, wNotN, wNeg, wChain, wNil, wCons, wTup, wLst, wBi, wCall, wIsi, wSl, wSo, wNo, wSeqI, wFor, gNm, gTp, puts, wAsg, wPar, wMul, wmD, wmO, putsI, wAug, wTryIs, wRng1, wRng2, wEnum, wEnumT, wZip, wLc, wYes, wLend, wRel, wOwn, wApp, wIns, wSetIx, wLstF, wListF, wRepF, wAddF, wSlS, wParO, wRevT, wSortedSet, wSortedSetL, wSortedSetT, wKeys, weI, wExt, allD, wMt, wRaise, wSeqO, wCallF, plainO, wCallA, wIdx0, wAnF, wSetA, wUnA, wSeqA, plainA, wFld, wFldO, wMake, wLRg, Ans.data, Ans.own.injEq, Ans.tup.injEq, Ans.dat.injEq, wTry, wTryM, wHs, wIsC, enOf, put, putUn, defEnds, lendE, lend, wipeE, hide, lenD, intD, listD, tupleD, reprD, wPen0, wPen1, wPen2, wPenS1, wPenS2, penAt, List.map_cons, List.map_nil, List.length_cons, List.length_nil, List.nil_append, List.cons_append, Nat.reduceAdd, Nat.reduceSub, Nat.reduceLeDiff, Nat.zero_add, List.replicate_zero, List.replicate_succ, List.getElem?_cons_zero, List.getElem?_cons_succ, List.set_cons_zero, List.set_cons_succ, Option.some.injEq, Slot.dat.injEq, Slot.own.injEq, PyData.bool.injEq, PyData.int.injEq, PyData.tuple.injEq, PyData.list.injEq, exists_eq_left', exists_eq_left, and_true, true_and, if_true, if_false, Bool.false_eq_true, reduceCtorEq, List.mapIdx_cons, List.mapIdx_nil, kit_tuple hv.f, onCols] at q ⊢
  refine ⟨fine.nd hv.f, ?_⟩
  cases b with
  | tuple xs =>
    simp only [isT, Bool.not_true, if_false, Bool.false_eq_true, neD, twoInts, true_or, true_and] at q ⊢
    have e1 : PyData.eqv (.int (xs.length : Int)) (.int 2) = decide (xs.length = 2) := eqv_len xs.length 2
    refine ⟨_, rfl, ?_⟩
    rw [e1]
    match xs, q, hv with
    | [], q, hv => exact q
    | [_], q, hv => simpa [branchB] using q
    | _ :: _ :: _ :: _, q, hv => simpa [branchB] using q
    | [g, c], q, hv =>
      have hgd := hv.in_tuple g (by simp)
      have hcd := hv.in_tuple c (by simp)
      simp only [List.length_cons, List.length_nil, Nat.reduceAdd, decide_true, Bool.not_true, if_false, Bool.false_eq_true]
      refine ⟨_, rfl, rfl, ?_⟩
      simp only [wRet, wSet, wSeq, wNext, wDrop, wIfS, wTest, wAnd, wOr, wNot, wIf, wBin, wVar, wC, wAndV, wOrV, wNotV, wIsN, wNotN, wNeg, wChain, wNil, wCons, wTup, wLst, wBi, wCall, wIsi, wSl, wSo, wNo, wSeqI, wFor, gNm, gTp, puts, wAsg, wPar, wMul, wmD, wmO, putsI, wAug, wTryIs, wRng1, wRng2, wEnum, wEnumT, wZip, wLc, wYes, wLend, wRel, wOwn, wApp, wIns, wSetIx, wLstF, wListF, wRepF, wAddF, wSlS, wParO, wRevT, wSortedSet, wSortedSetL, wSortedSetT, wKeys, weI, wExt, allD, wMt, wRaise, wSeqO, wCallF, plainO, wCallA, wIdx0, wAnF, wSetA, wUnA, wSeqA, plainA, wFld, wFldO, wMake, wLRg, Ans.data, Ans.own.injEq, Ans.tup.injEq, Ans.dat.injEq, wTry, wTryM, wHs, wIsC, enOf, put, putUn, defEnds, lendE, lend, wipeE, hide, lenD, intD, listD, tupleD, reprD, wPen0, wPen1, wPen2, wPenS1, wPenS2, penAt, List.map_cons, List.map_nil, List.length_cons, List.length_nil, List.nil_append, List.cons_append, Nat.reduceAdd, Nat.reduceSub, Nat.reduceLeDiff, Nat.zero_add, List.replicate_zero, List.replicate_succ, List.getElem?_cons_zero, List.getElem?_cons_succ, List.set_cons_zero, List.set_cons_succ, Option.some.injEq, Slot.dat.injEq, Slot.own.injEq, PyData.bool.injEq, PyData.int.injEq, PyData.tuple.injEq, PyData.list.injEq, exists_eq_left', exists_eq_left, and_true, true_and, if_true, if_false, Bool.false_eq_true, reduceCtorEq, List.mapIdx_cons, List.mapIdx_nil, onCols]
      refine ⟨_, _, rfl, ⟨⟨cs, rfl, hc, hcl⟩, hgd⟩, ?_⟩
      dsimp only [onCols]
      refine ⟨_, rfl, ?_⟩
      cases g with
      | tuple es =>
        simp only [givB, branchB] at q ⊢
        rcases Bool.eq_false_or_eq_true (givL cs (-1) es) with hg1 | hg1
        · simp only [hg1, Bool.not_true, if_false, Bool.false_eq_true, Bool.true_and] at q ⊢
          have inv := givL_inv hg1
          have hlen : es.length ≤ 1000 := by
            have := givL_len hg1 (by omega)
            omega
          have f2 : Good (.list (es.map sndD)) := hgd.mapL fun d hd => by
            obtain ⟨j, b, rfl, _⟩ := inv d hd
            exact (hgd.in_tuple _ hd).part _ (by simp [sndD])
          refine ⟨_, rfl, ?_⟩
          refine lcLoop.fm (fun d => some (sndD d)) (fun d hd A B h1 h2 => ?_) (by simp only [List.length_nil]; omega) ?_
          · obtain ⟨j, b, rfl, _⟩ := inv d hd
            simp only [wRet, wSet, wSeq, wNext, wDrop, wIfS, wTest, wAnd, wOr, wNot, wIf, wBin, wVar, wC, wAndV, wOrV, wNotV, wIsN, wNotN, wNeg, wChain, wNil, wCons, wTup, wLst, wBi, wCall, wIsi, wSl, wSo, wNo, wSeqI, wFor, gNm, gTp, puts, wAsg, wPar, wMul, wmD, wmO, putsI, wAug, wTryIs, wRng1, wRng2, wEnum, wEnumT, wZip, wLc, wYes, wLend, wRel, wOwn, wApp, wIns, wSetIx, wLstF, wListF, wRepF, wAddF, wSlS, wParO, wRevT, wSortedSet, wSortedSetL, wSortedSetT, wKeys, weI, wExt, allD, wMt, wRaise, wSeqO, wCallF, plainO, wCallA, wIdx0, wAnF, wSetA, wUnA, wSeqA, plainA, wFld, wFldO, wMake, wLRg, Ans.data, Ans.own.injEq, Ans.tup.injEq, Ans.dat.injEq, wTry, wTryM, wHs, wIsC, enOf, put, putUn, defEnds, lendE, lend, wipeE, hide, lenD, intD, listD, tupleD, reprD, wPen0, wPen1, wPen2, wPenS1, wPenS2, penAt, List.map_cons, List.map_nil, List.length_cons, List.length_nil, List.nil_append, List.cons_append, Nat.reduceAdd, Nat.reduceSub, Nat.reduceLeDiff, Nat.zero_add, List.replicate_zero, List.replicate_succ, List.getElem?_cons_zero, List.getElem?_cons_succ, List.set_cons_zero, List.set_cons_succ, Option.some.injEq, Slot.dat.injEq, Slot.own.injEq, PyData.bool.injEq, PyData.int.injEq, PyData.tuple.injEq, PyData.list.injEq, exists_eq_left', exists_eq_left, and_true, true_and, if_true, if_false, Bool.false_eq_true, reduceCtorEq, List.mapIdx_cons, List.mapIdx_nil]
            exact ⟨_, rfl, h2 _ rfl⟩
          rw [List.nil_append, fmap_some]
          refine ⟨Ok.none.good, f2, _, rfl, ?_⟩
          refine ⟨_, rfl, ?_⟩
          rcases Bool.eq_false_or_eq_true (inB .none (es.map sndD)) with hi | hi
          · simp only [hi, Bool.not_true, Bool.false_and, if_true] at q ⊢
            exact q
          · simp only [hi, Bool.not_false, Bool.true_and, if_false, Bool.false_eq_true] at q ⊢
            exact ⟨_, _, rfl, ⟨⟨cs, rfl, hc, hcl⟩, hcd⟩, q⟩
        · simp only [hg1, Bool.not_false, if_true, Bool.false_and] at q ⊢
          exact q
      | _ => exact q
  | _ => exact q
abbrev w_view_is_right : Wc := w2 (fun c v => colsish c ∧ Good v) (onCols viewB)
abbrev m_view_is_right : Wc.Mono w_view_is_right := w2.mono
theorem d_view_is_right (T : Txt K mg A) (d_branch_is_right : Def P w K mg base "branch_is_right" 5 ["columns", "value"] w_branch_is_right) (F : FunAt K mg "view_is_right" s_view_is_right ["columns", "value"]) : Def P w K mg base "view_is_right" 6 ["columns", "value"] w_view_is_right := by
  obtain ⟨_, cc_MOST_BRANCHES⟩ := T.c_MOST_BRANCHES
  refine defD F sc_view_is_right (fun ds k Q x h => w2.len h) fun f cdv Ar outer s H E p G hg hr => ⟨_, (dss_cons (ds_if (DW.dt (dw_or (dt_not (dt_val (de_isi (T := "tuple") (de_var (pv 1)) T.z_isinstance T.z_tuple (by decide +kernel)))) (dw_or1 (dt_not (dt_chain op_le op_le cmpD.mono cmpD.mono fitsCmp fitsCmp de_int (de_bi lenD.mono fitsLen call_len_seq (da_cons (de_var (pv 1)) da_nil) T.z_len) (de_const cc_MOST_BRANCHES))))))
    (dss_one (ds_ret de_bl))
    dss_nil)
    (dss_cons (ds_for (passes_of rfl) rfl (di_seq (de_var (pv 1))) (dg_nm (i := 2) sc_view_is_right.nd)
    (dss_one (ds_if (DW.dt (dw_or (dt_not (dt_val (de_fn d_branch_is_right m_branch_is_right hg hr (takes_of rfl rfl rfl rfl) (da_cons (de_var (pv 0)) (da_cons (de_var (pv 2)) da_nil))))) (dw_or1 (dt_cmp (op_neA hr.units) neD.mono fitsNe (de_bi lenD.mono fitsLen call_len_seq (da_cons (de_idx (de_var (pv 2)) de_int) da_nil) T.z_len) (de_bi lenD.mono fitsLen call_len_seq (da_cons (de_idx (de_idx (de_var (pv 1)) de_int) de_int) da_nil) T.z_len)))))
    (dss_one (ds_ret de_bl))
    dss_nil)))
    (dss_one (ds_ret de_bl)))), ?_⟩
  rintro ds n Q x ⟨a, b, rfl, ⟨⟨cs, rfl, hc, hcl⟩, hv⟩, q⟩
  simp only [wRet, wSet, wSeq, wNext, wDrop, wIfS, wTest, wAnd, wOr, wNot, wIf, wBin, wVar, wC, wAndV, wOrV, wNotV, wIsN, wNotN, wNeg, wChain, wNil, wCons, wTup, wLst, wBi, wCall, wIsi, wSl, wSo, wNo, wSeqI, wFor, gNm, gTp, puts, wAsg, wPar, wMul, wmD, wmO, putsI, wAug, wTryIs, wRng1, wRng2, wEnum, wEnumT, wZip, wLc, wYes, wLend, wRel, wOwn, wApp, wIns, wSetIx, wLstF, wListF, wRepF, wAddF, wSlS, wParO, wRevT, wSortedSet, wSortedSetL, wSortedSetT, wKeys, weI, wExt, allD, wMt, wRaise, wSeqO, wCallF, plainO, wCallA, wIdx0, wAnF, wSetA, wUnA, wSeqA, plainA, wFld, wFldO, wMake, wLRg, Ans.data, Ans.own.injEq, Ans.tup.injEq, Ans.dat.injEq, wTry, wTryM, wHs, wIsC, enOf, put, putUn, defEnds, lendE, lend, wipeE, hide, lenD, intD, listD, tupleD, reprD, wPen0, wPen1, wPen2, wPenS1, wPenS2, penAt, List.map_cons, List.map_nil, List.length_cons, List.length_nil, List.nil_append, List.cons_append, Nat.reduceAdd, Nat.reduceSub, Nat.reduceLeDiff, Nat.zero_add, List.replicate_zero, List.replicate_succ, List.getElem?_cons_zero, List.getElem?_cons_succ, List.set_cons_zero, List.set_cons_succ, Option.some.injEq, Slot.dat.injEq, Slot.own.injEq, PyData.bool.injEq, PyData.int.injEq, PyData.tuple.injEq, PyData.list.injEq, exists_eq_left', exists_eq_left, and_true, true_and, if_true, if_false, Bool.false_eq_true, reduceCtorEq, List.mapIdx_cons, List.mapIdx_nil, kit_tuple hv.f, onCols] at q ⊢
  refine ⟨fine.nd hv.f, ?_⟩
  cases b with
  | tuple xs =>
    simp only [isT, Bool.not_true, if_false, Bool.false_eq_true, cmpD, viewB] at q ⊢
    refine ⟨_, rfl, ?_⟩
    by_cases h1 : 1 ≤ xs.length
    · have h1' : (1 : Int) ≤ xs.length := by omega
      simp only [h1, h1', decide_true, Bool.true_and, if_true] at q ⊢
      refine ⟨_, rfl, ?_⟩
      by_cases h3 : xs.length ≤ 3
      · have h3' : (xs.length : Int) ≤ 3 := by omega
        simp only [h3, h3', decide_true, Bool.true_and, Bool.not_true, if_false, Bool.false_eq_true] at q ⊢
        refine ⟨xs, rfl, ?_⟩
        have ea : atI xs (0 : Int) = some (xs.getD 0 .none) := by
          rw [atI_pos (by omega) (by omega)]
          rfl
        refine wLoop.ind (fun ds e => ∃ u, e = ⟨[.dat (.tuple cs), .dat (.tuple xs), u], n⟩ ∧ Q (.bool (viewL cs (kLen (xs.getD 0 .none)) ds)) n ∧ (∀ d ∈ ds, Good d) ∧ (ds = xs ∨ branchB cs (xs.getD 0 .none) = true)) ?_ ?_ ⟨.un, rfl, q, hv.in_tuple, .inl rfl⟩
        · rintro e ⟨u, rfl, q, _⟩
          exact q
        · rintro d ds e ih ⟨u, rfl, q, hf, hd0⟩
          simp only [wRet, wSet, wSeq, wNext, wDrop, wIfS, wTest, wAnd, wOr, wNot, wIf, wBin, wVar, wC, wAndV, wOrV, wNotV, wIsN, wNotN, wNeg, wChain, wNil, wCons, wTup, wLst, wBi, wCall, wIsi, wSl, wSo, wNo, wSeqI, wFor, gNm, gTp, puts, wAsg, wPar, wMul, wmD, wmO, putsI, wAug, wTryIs, wRng1, wRng2, wEnum, wEnumT, wZip, wLc, wYes, wLend, wRel, wOwn, wApp, wIns, wSetIx, wLstF, wListF, wRepF, wAddF, wSlS, wParO, wRevT, wSortedSet, wSortedSetL, wSortedSetT, wKeys, weI, wExt, allD, wMt, wRaise, wSeqO, wCallF, plainO, wCallA, wIdx0, wAnF, wSetA, wUnA, wSeqA, plainA, wFld, wFldO, wMake, wLRg, Ans.data, Ans.own.injEq, Ans.tup.injEq, Ans.dat.injEq, wTry, wTryM, wHs, wIsC, enOf, put, putUn, defEnds, lendE, lend, wipeE, hide, lenD, intD, listD, tupleD, reprD, wPen0, wPen1, wPen2, wPenS1, wPenS2, penAt, List.map_cons, List.map_nil, List.length_cons, List.length_nil, List.nil_append, List.cons_append, Nat.reduceAdd, Nat.reduceSub, Nat.reduceLeDiff, Nat.zero_add, List.replicate_zero, List.replicate_succ, List.getElem?_cons_zero, List.getElem?_cons_succ, List.set_cons_zero, List.set_cons_succ, Option.some.injEq, Slot.dat.injEq, Slot.own.injEq, PyData.bool.injEq, PyData.int.injEq, PyData.tuple.injEq, PyData.list.injEq, exists_eq_left', exists_eq_left, and_true, true_and, if_true, if_false, Bool.false_eq_true, reduceCtorEq, List.mapIdx_cons, List.mapIdx_nil]
          refine ⟨_, _, rfl, ⟨⟨cs, rfl, hc, hcl⟩, hf d List.mem_cons_self⟩, ?_⟩
          dsimp only [onCols]
          refine ⟨_, rfl, ?_⟩
          simp only [viewL] at q
          rcases Bool.eq_false_or_eq_true (branchB cs d) with h | h
          · have hb0 : branchB cs (xs.getD 0 .none) = true := by
              rcases hd0 with e | e
              · rw [← e]
                exact h
              · exact e
            obtain ⟨es, ks, rfl, hk, _⟩ := branchB_inv h
            obtain ⟨es0, ks0, e0, hk0, _⟩ := branchB_inv hb0
            simp only [h, Bool.true_and, Bool.not_true, if_false, Bool.false_eq_true] at q ⊢
            rw [hk, hk0] at q
            refine ⟨_, atI_c1, ?_⟩
            simp only [lenD]
            refine ⟨_, ea, ?_⟩
            rw [e0]
            refine ⟨_, atI_c1, ?_⟩
            simp only [lenD, neD, twoInts, true_or, true_and]
            refine ⟨_, rfl, ?_⟩
            have e1 : PyData.eqv (.int (ks.length : Int)) (.int (ks0.length : Int)) = decide (ks.length = ks0.length) := eqv_len ks.length ks0.length
            rw [e1]
            by_cases hl : ks.length = ks0.length
            · simp only [hl, decide_true, Bool.true_and, Bool.not_true, if_false, Bool.false_eq_true] at q ⊢
              refine ih _ ⟨_, rfl, ?_, fun d hd => hf d (List.mem_cons_of_mem _ hd), .inr hb0⟩
              rw [hk0]
              exact q
            · simp only [hl, decide_false, Bool.false_and, Bool.not_false, if_true] at q ⊢
              exact q
          · simp only [h, Bool.false_and, Bool.not_false, if_true] at q ⊢
            exact q
      · have h3' : ¬ (xs.length : Int) ≤ 3 := by omega
        simp only [h3, h3', decide_false, Bool.false_and, Bool.not_false, if_true] at q ⊢
        exact q
    · have h1' : ¬ (1 : Int) ≤ xs.length := by omega
      simp only [h1, h1', decide_false, Bool.false_and, if_false, Bool.false_eq_true, Bool.not_false, if_true] at q ⊢
      exact q
  | _ => exact q
end
end L2.DL.K30
namespace L2.DL.K30
open PySem PySem.Spec
      PyProof.Rows
/-! ### views as values -/
def oD : Option Int → D
  | none => .none
  | some i => .int i
def entM (e : Nat × Option Int) : D := .tuple [.int (e.1 : Int), oD e.2]
structure Br where
  given : List (Nat × Int)
  kept : List Nat
def Br.giv (b : Br) : List (Nat × Option Int) := b.given.map fun e => (e.1, some e.2)
def natD (k : Nat) : D := .int (k : Int)
def natsT (l : List Nat) : D := .tuple (l.map natD)
def Br.data (b : Br) : D := .tuple [.tuple (b.giv.map entM), natsT b.kept]
def viewT (bs : List Br) : D := .tuple (bs.map Br.data)
theorem at_map {α : Type} {f : α → D} {l : List α} {j : Nat} (a0 : α) (h : j < l.length) : atI (l.map f) (j : Int) = some (f (l.getD j a0)) := by
  rw [atI_pos (by omega) (by rw [List.length_map]; omega), Int.toNat_natCast, List.getD_eq_getElem?_getD, List.getElem?_map, List.getElem?_eq_getElem h, List.getD_eq_getElem?_getD, List.getElem?_eq_getElem h]
  rfl
theorem getD_in {α : Type} {l : List α} {j : Nat} {a0 : α} (h : j < l.length) : l.getD j a0 ∈ l := by
  rw [List.getD_eq_getElem?_getD, List.getElem?_eq_getElem h]
  exact List.getElem_mem h
def Br0 : Br := ⟨[], []⟩
section
variable {P : Program} {w : World} {K : PySem.W.Frag} {mg : Str → Option Value} {base : Heap} {A : Cls}
abbrev w_check_view (A : Cls) : Wc := wChk2 A.InvalidView (fun c v => colsish c ∧ Good v) viewB
abbrev m_check_view {A : Cls} : Wc.Mono (w_check_view A) := wChk2.mono
theorem d_check_view (T : Txt K mg A) (d_view_is_right : Def P w K mg base "view_is_right" 6 ["columns", "value"] w_view_is_right) (F : FunAt K mg "check_view" s_check_view ["columns", "view"]) : Def P w K mg base "check_view" 7 ["columns", "view"] (w_check_view A) := by
  refine defD F sc_check_view (fun ds k Q x ⟨a, b, e, _⟩ => by rw [e]; rfl) fun f cdv Ar outer s H E p G hg hr => ⟨_, (dss_one (ds_if (dt_not (dt_val (de_fn d_view_is_right m_view_is_right hg hr (takes_of rfl rfl rfl rfl) (da_cons (de_var (pv 0)) (da_cons (de_var (pv 1)) da_nil)))))
    (dss_one (ds_raise (C := A.InvalidView) rfl (takes_of rfl rfl rfl rfl) PySem.F.excBase_ValueError T.x_InvalidView T.g_InvalidView T.k_InvalidView (raises_own T.s_InvalidView T.t_InvalidView)))
    dss_nil)), ?_⟩
  rintro ds n Q x ⟨cs, b, rfl, hb, q1, q2⟩
  simp only [wRet, wSet, wSeq, wNext, wDrop, wIfS, wTest, wAnd, wOr, wNot, wIf, wBin, wVar, wC, wAndV, wOrV, wNotV, wIsN, wNotN, wNeg, wChain, wNil, wCons, wTup, wLst, wBi, wCall, wIsi, wSl, wSo, wNo, wSeqI, wFor, gNm, gTp, puts, wAsg, wPar, wMul, wmD, wmO, putsI, wAug, wTryIs, wRng1, wRng2, wEnum, wEnumT, wZip, wLc, wYes, wLend, wRel, wOwn, wApp, wIns, wSetIx, wLstF, wListF, wRepF, wAddF, wSlS, wParO, wRevT, wSortedSet, wSortedSetL, wSortedSetT, wKeys, weI, wExt, allD, wMt, wRaise, wSeqO, wCallF, plainO, wCallA, wIdx0, wAnF, wSetA, wUnA, wSeqA, plainA, wFld, wFldO, wMake, wLRg, Ans.data, Ans.own.injEq, Ans.tup.injEq, Ans.dat.injEq, wTry, wTryM, wHs, wIsC, enOf, put, putUn, defEnds, lendE, lend, wipeE, hide, lenD, intD, listD, tupleD, reprD, wPen0, wPen1, wPen2, wPenS1, wPenS2, penAt, List.map_cons, List.map_nil, List.length_cons, List.length_nil, List.nil_append, List.cons_append, Nat.reduceAdd, Nat.reduceSub, Nat.reduceLeDiff, Nat.zero_add, List.replicate_zero, List.replicate_succ, List.getElem?_cons_zero, List.getElem?_cons_succ, List.set_cons_zero, List.set_cons_succ, Option.some.injEq, Slot.dat.injEq, Slot.own.injEq, PyData.bool.injEq, PyData.int.injEq, PyData.tuple.injEq, PyData.list.injEq, exists_eq_left', exists_eq_left, and_true, true_and, if_true, if_false, Bool.false_eq_true, reduceCtorEq, List.mapIdx_cons, List.mapIdx_nil]
  refine ⟨_, _, rfl, hb, ?_⟩
  dsimp only [onCols]
  refine ⟨_, rfl, ?_⟩
  rcases Bool.eq_false_or_eq_true (viewB cs b) with h | h
  · simp only [h, Bool.not_true, if_false, Bool.false_eq_true]
    exact q1 h
  · simp only [h, Bool.not_false, if_true]
    exact q2 h
end
end L2.DL.K30
namespace L2.DL.K30
open PySem PySem.Spec
      PyProof.Rows
/-! ### views that are drawn -/
structure BrOk (cs : List D) (u : Nat) (b : Br) : Prop where
  g4 : b.given.length ≤ 4
  ent : ∀ e ∈ b.given, okEnt cs ((e.1 : Int), .int e.2)
  asc : (b.given.map (·.1)).Pairwise (· < ·)
  ks : ∀ k ∈ b.kept, k < cs.length
  nd : b.kept.Nodup
  kl : b.kept.length = u
theorem giv_entD {g : List (Nat × Int)} : (g.map fun e => (e.1, some e.2)).map entM = (g.map fun e => ((e.1 : Int), PyData.int e.2)).map entD := by
  rw [List.map_map,
        List.map_map]
  rfl
theorem BrOk.val {cs : List D} {u : Nat} {b : Br} (h : BrOk cs u b) : ∀ e ∈ b.given, e.1 < cs.length ∧ 0 ≤ e.2 ∧ e.2 < 2 ^ 110 := fun e he => by
  obtain ⟨h0, h1, h2⟩ := h.ent e he
  rcases h2 with h2 | ⟨i, h2, i0, i1, _⟩
  · cases h2
  · injection h2 with h2
    exact ⟨by have : ((e.1 : Nat) : Int) < cs.length := h1; omega, by rw [h2]; exact i0, by rw [h2]; exact i1⟩
theorem BrOk.giv {cs : List D} {u : Nat} {b : Br} (h : BrOk cs u b) : givL cs (-1) (b.giv.map entM) = true := by
  unfold Br.giv
  rw [giv_entD]
  refine givL_of (fun z hz => ?_) ?_
  · obtain ⟨e, he, rfl⟩ := List.mem_map.mp hz
    exact ⟨h.ent e he, by show (-1 : Int) < (e.1 : Int); omega⟩
  · have := h.asc
    rw [List.map_map]
    have e : (b.given.map ((fun x : Int × D => x.1) ∘ fun e => ((e.1 : Int), PyData.int e.2))) = (b.given.map (·.1)).map fun n : Nat => (n : Int) := by
      rw [List.map_map]
      rfl
    rw [e, List.pairwise_map]
    exact this.imp fun h => by omega
theorem BrOk.non {b : Br} : inB .none ((b.giv.map entM).map sndD) = false := by
  refine Bool.eq_false_iff.mpr fun z => ?_
  obtain ⟨d, hd, e⟩ := List.any_eq_true.mp z
  obtain ⟨d', hd', rfl⟩ := List.mem_map.mp hd
  obtain ⟨x, hx, rfl⟩ := List.mem_map.mp hd'
  obtain ⟨y, hy, rfl⟩ :=
        List.mem_map.mp hx
  cases e
theorem keptL_of {cs : List D} : ∀ {ks pre : List Nat}, (∀ k ∈ ks, k < cs.length) → (pre ++ ks).Nodup → keptL cs (pre.map natD) (ks.map natD) = true
  | [], _, _, _ => rfl
  | k :: ks, pre, h, hn => by
    rw [List.map_cons]
    simp only [keptL, Bool.and_eq_true, Bool.not_eq_true']
    refine ⟨?_, ?_, ?_⟩
    · have := h k List.mem_cons_self
      simp only [natD, numB, Bool.and_eq_true, decide_eq_true_eq]
      omega
    · have nk : k ∉ pre := fun hk => (List.nodup_append.mp hn).2.2 k hk k List.mem_cons_self rfl
      have := inB_not (i := (k : Int)) (ns := pre.map fun n : Nat => (n : Int)) fun z => by
        obtain ⟨a, ha, e⟩ := List.mem_map.mp z
        have : a = k := by omega
        exact nk (this ▸ ha)
      rw [List.map_map] at this
      exact this
    · have e : pre.map natD ++ [natD k] = (pre ++ [k]).map natD := by rw [List.map_append]; rfl
      rw [e]
      exact keptL_of (fun x hx => h x (List.mem_cons_of_mem _ hx)) (by rw [List.append_assoc]; exact hn)
theorem BrOk.b {cs : List D} {u : Nat} {b : Br} (h : BrOk cs u b) (u1 : 1 ≤ u) : branchB cs b.data = true := by
  unfold Br.data
  simp only [branchB, Bool.and_eq_true, Bool.not_eq_true']
  refine ⟨h.giv, BrOk.non, ?_⟩
  simp only [natsT, keptB, Bool.and_eq_true, Bool.not_eq_true', decide_eq_false_iff_not]
  refine ⟨by rw [List.length_map, h.kl]; omega, ?_⟩
  exact keptL_of (pre := []) h.ks (by simpa using h.nd)
theorem viewL_of {cs : List D} {u : Nat} (u1 : 1 ≤ u) : ∀ {bs : List Br}, (∀ b ∈ bs, BrOk cs u b) → viewL cs u (bs.map Br.data) = true
  | [], _ => rfl
  | b :: bs, h => by
    have hb := h b List.mem_cons_self
    simp only [List.map_cons, viewL, Bool.and_eq_true, decide_eq_true_eq]
    refine ⟨hb.b u1, ?_, viewL_of u1 fun x hx => h x (List.mem_cons_of_mem _ hx)⟩
    show (b.kept.map natD).length = u
    rw [List.length_map]
    exact hb.kl
/-- a drawn view -/
structure DrawV (cs : List D) (u : Nat) (bs : List Br) : Prop where
  n1 : 1 ≤ bs.length
  n3 : bs.length ≤ 3
  br : ∀ b ∈ bs, BrOk cs u b
  u1 : 1 ≤ u
  u4 : u ≤ 4
theorem DrawV.b {cs : List D} {u : Nat} {bs : List Br} (h : DrawV cs u bs) : viewB cs (viewT bs) = true := by
  have n1 := h.n1
  simp only [viewT, viewB, Bool.and_eq_true, decide_eq_true_eq, List.length_map]
  refine ⟨n1, h.n3, ?_⟩
  have e : kLen ((bs.map Br.data).getD 0 .none) = u := by
    rw [List.getD_eq_getElem?_getD, List.getElem?_map, List.getElem?_eq_getElem (by omega)]
    show (bs[0].kept.map natD).length = u
    rw [List.length_map]
    exact (h.br _ (List.getElem_mem _)).kl
  rw [e]
  exact viewL_of h.u1 h.br
theorem BrOk.ok {cs : List D} {u : Nat} {b : Br} (h : BrOk cs u b) (hc : cs.length ≤ 4) (u4 : u ≤ 4) : L2.DL.Ok 27 3 b.data := by
  have o1 : L2.DL.Ok 13 2 (.tuple (b.giv.map entM)) := (Ok.tuple (n := 3) (m := 1) (k := 4) (fun d hd => by
    unfold Br.giv at hd
    rw [giv_entD] at hd
    obtain ⟨z, hz, rfl⟩ := List.mem_map.mp hd
    obtain ⟨e, he, rfl⟩ := List.mem_map.mp hz
    exact (h.ent e he).ok hc) (by unfold Br.giv; rw [List.length_map, List.length_map]; exact h.g4))
  have o2 : L2.DL.Ok 5 1 (natsT b.kept) := Ok.tuple (n := 1) (m := 0) (k := 4) (fun d hd => by
    obtain ⟨k, hk, rfl⟩ := List.mem_map.mp hd
    have := h.ks k hk
    exact L2.DL.Ok.int (by omega)) (by rw [List.length_map, h.kl]; exact u4)
  refine (Ok.tuple (n := 13) (m := 2) (k := 2) (fun d hd => ?_) (by simp)).mono (by decide) (by decide)
  simp only [List.mem_cons, List.not_mem_nil, or_false] at hd
  rcases hd with rfl | rfl
  · exact o1
  · exact o2.mono (by decide) (by decide)
theorem DrawV.ok {cs : List D} {u : Nat} {bs : List Br} (h : DrawV cs u bs) (hc : cs.length ≤ 4) : L2.DL.Ok 200 6 (viewT bs) :=
  (Ok.tuple (n := 27) (m := 3) (k := 3) (fun d hd => by
    obtain ⟨b, hb, rfl⟩ :=
          List.mem_map.mp hd
    exact (h.br b hb).ok hc h.u4) (by rw [List.length_map]; exact h.n3)).mono (by decide) (by decide)
end L2.DL.K30
-- simp: wPar3
namespace L2.DL.K30
open PySem PySem.Spec
      PyProof.Rows
theorem toNats {ns : List Int} {m : Nat} (h : ∀ i ∈ ns, 0 ≤ i ∧ i < m) : ns.map PyData.int = (ns.map Int.toNat).map natD ∧ (∀ k ∈ ns.map Int.toNat, k < m) ∧ (ns.Nodup → (ns.map Int.toNat).Nodup) ∧ (ns.Pairwise (· < ·) → (ns.map Int.toNat).Pairwise (· < ·)) := by
  refine ⟨?_, fun k hk => ?_, fun hn => ?_, fun hp => ?_⟩
  · rw [List.map_map]
    exact List.map_congr_left fun i hi => by
      have := (h i hi).1
      show PyData.int i = .int ((i.toNat : Nat) : Int)
      rw [Int.toNat_of_nonneg this]
  · obtain ⟨i, hi, rfl⟩ := List.mem_map.mp hk
    have := h i hi
    omega
  · refine List.pairwise_map.mpr (hn.imp_of_mem fun {a b} ha hb hab => ?_)
    have := h a ha
    have := h b hb
    intro e
    exact hab (by omega)
  · refine List.pairwise_map.mpr (hp.imp_of_mem fun {a b} ha hb hab => ?_)
    have := h a ha
    have := h b hb
    omega
theorem cutTo {ns : List Int} {j : Int} (j0 : 0 ≤ j) : cutD (ns.map PyData.int) none (some j) = (ns.take j.toNat).map PyData.int := by
  obtain ⟨t, rfl⟩ := Int.eq_ofNat_of_zero_le j0
  unfold cutD
  rw [show HT.sIx (ns.map PyData.int).length 0 none = 0 from rfl, List.drop_zero, Nat.sub_zero, HT.sIx_nat, Int.toNat_natCast, ← List.map_take, List.length_map]
  congr 1
  by_cases h : t ≤ ns.length
  · rw [Nat.min_eq_left h]
  · rw [Nat.min_eq_right (by omega), List.take_length, List.take_of_length_le (by omega)]
def chK (k : D) : D → D
  | .tuple [g, _] => .tuple [g, k]
  | d => d
section
variable {P : Program} {w : World} {K : PySem.W.Frag} {mg : Str → Option Value} {base : Heap} {A : Cls}
def w_law_view : Wc := fun ds k Q _ => ∃ (cs : List D) (k' : Nat), ds = [penD, .tuple cs, .int 4] ∧ k = k' + 100 ∧ okCols (.tuple cs) ∧ ∀ bs u k'', k' ≤ k'' → DrawV cs u bs → Q (viewT bs) k''
theorem m_law_view : Wc.Mono w_law_view := fun ds k Q Q' x x' h1 _ ⟨cs, k', p1, p2, p3, q⟩ => ⟨cs, k', p1, p2, p3, fun bs u k l a => h1 _ _ (q bs u k l a)⟩
theorem d_law_view (T : Txt K mg A) (d_law_take : Def P w K mg base "_law_take" 2 ["_law_pen", "_law_many"] w_law_take) (d_law_one : Def P w K mg base "_law_one" 3 ["_law_pen", "_law_some"] w_law_one) (d_law_drawn : Def P w K mg base "_law_drawn" 3 ["_law_pen", "_law_many"] w_law_drawn) (d_law_value : Def P w K mg base "_law_value" 4 ["_law_pen", "_law_column"] w_law_value) (F : FunAt K mg "_law_view" s_law_view ["_law_pen", "_law_columns_here", "_law_most"]) : Def P w K mg base "_law_view" 5 ["_law_pen", "_law_columns_here", "_law_most"] w_law_view := by
  refine defD F sc_law_view (fun ds k Q x ⟨_, _, e, _⟩ => by rw [e]; rfl) fun f cdv Ar outer s H E p G hg hr => ⟨_, (dss_cons (ds_set (i := 3) (de_bin op_addA addD.mono fitsAdd de_int (de_fn d_law_take m_law_take hg hr (takes_of rfl rfl rfl rfl) (da_cons (de_var (pv 0)) (da_cons (de_bi twoI.mono fitsTwo (call_minT rfl) (da_cons (de_bi lenD.mono fitsLen call_len_seq (da_cons (de_var (pv 1)) da_nil) T.z_len) (da_cons (de_var (pv 2)) da_nil)) T.z_min) da_nil)))) sc_law_view.nd)
    (dss_cons (ds_own (i := 4) (df_lst da_nil) sc_law_view.nd)
    (dss_cons (ds_for (passes_of rfl) rfl (di_rng1 (de_fn d_law_one m_law_one hg hr (takes_of rfl rfl rfl rfl) (da_cons (de_var (pv 0)) (da_cons (de_lst (da_cons de_int (da_cons de_int (da_cons de_int (da_cons de_int (da_cons de_int da_nil)))))) da_nil))) T.z_range) (dg_nm (i := 5) sc_law_view.nd)
    (dss_cons (ds_set (i := 6) (de_bi sortedD.mono fitsSorted cr_sortedI (da_cons (de_sl (de_fn d_law_drawn m_law_drawn hg hr (takes_of rfl rfl rfl rfl) (da_cons (de_var (pv 0)) (da_cons (de_bi lenD.mono fitsLen call_len_seq (da_cons (de_var (pv 1)) da_nil) T.z_len) da_nil))) do_none (do_some (de_fn d_law_one m_law_one hg hr (takes_of rfl rfl rfl rfl) (da_cons (de_var (pv 0)) (da_cons (de_lst (da_cons de_int (da_cons de_int (da_cons de_int (da_cons de_int (da_cons de_int (da_cons de_int (da_cons de_int da_nil)))))))) da_nil))))) da_nil) T.z_sorted) sc_law_view.nd)
    (dss_cons (ds_set (i := 6) (de_bt tupleD.mono fitsTuple call_tuple_of (da_cons (de_lc (own := [("_law_k", 7)]) rfl sc_law_view.nd (di_seq (de_var (pv 6))) (blkOk_by (N := ["_law_pen", "_law_columns_here", "_law_most", "_law_wide", "_law_found", "_law_step", "_law_chosen", "_law_k", "_law_one_here"]) (sc := defScope s_law_view) (by decide +kernel)) (fun _ _ _ _ _ _ _ => (dgc_nm (i := 7) sc_law_view.nd (by decide))) (fun _ _ _ _ _ _ _ => dts_nil) (fun _ _ _ _ _ _ _ => (de_tup (da_cons (de_var (pv 7)) (da_cons (de_fn d_law_value m_law_value hg hr takes0 (da_cons (de_var (pv 0)) (da_cons (de_idx (de_var (pv 1)) (de_var (pv 7))) da_nil))) da_nil))))) da_nil) T.z_tuple) sc_law_view.nd)
    (dss_one (ds_append (i := 4) (de_tup (da_cons (de_var (pv 6)) (da_cons (de_bt tupleD.mono fitsTuple call_tuple_of (da_cons (de_sl (de_fn d_law_drawn m_law_drawn hg hr (takes_of rfl rfl rfl rfl) (da_cons (de_var (pv 0)) (da_cons (de_bi lenD.mono fitsLen call_len_seq (da_cons (de_var (pv 1)) da_nil) T.z_len) da_nil))) do_none (do_some (de_var (pv 3)))) da_nil) T.z_tuple) da_nil))) (pv 4))))))
    (dss_rel (dss_cons (ds_if (dt_cmp (op_eqA hr.units) eqD.mono fitsEq (de_fn d_law_take m_law_take hg hr (takes_of rfl rfl rfl rfl) (da_cons (de_var (pv 0)) (da_cons de_int da_nil))) de_int)
    (dss_one (ds_set (i := 4) (de_lc (own := [("_law_one_here", 8)]) rfl sc_law_view.nd (di_seq (de_var (pv 4))) (blkOk_by (N := ["_law_pen", "_law_columns_here", "_law_most", "_law_wide", "_law_found", "_law_step", "_law_chosen", "_law_k", "_law_one_here"]) (sc := defScope s_law_view) (by decide +kernel)) (fun _ _ _ _ _ _ _ => (dgc_nm (i := 8) sc_law_view.nd (by decide))) (fun _ _ _ _ _ _ _ => dts_nil) (fun _ _ _ _ _ _ _ => (de_tup (da_cons (de_idx (de_var (pv 8)) de_int) (da_cons (de_idx (de_idx (de_var (pv 4)) de_int) de_int) da_nil))))) sc_law_view.nd))
    dss_nil)
    (dss_one (ds_ret (de_bt tupleD.mono fitsTuple call_tuple_of (da_cons (de_var (pv 4)) da_nil) T.z_tuple)))))))), ?_⟩
  rintro ds n Q x ⟨cs, k', rfl, rfl, hcs, q⟩
  obtain ⟨_, e, hc, c1, c4, _⟩ := id hcs
  cases e
  have gd : ∀ i : Int, 0 ≤ i → i < cs.length → okCol (cs.getD i.toNat .none) := fun i h0 h1 => hc _ (getD_mem h0 h1)
  refine cutSeq (fun e' => ∃ (u k1 : Nat), e' = ⟨[.dat penD, .dat (.tuple cs), .dat (.int 4), .dat (.int (u : Int)), .un, .un, .un, .un, .un], k1⟩ ∧ 1 ≤ u ∧ u ≤ cs.length ∧ k' + 99 ≤ k1) ?_ ?_
  rotate_left 1
  · intro Z hZ
    simp only [wRet, wSet, wSeq, wNext, wDrop, wIfS, wTest, wAnd, wOr, wNot, wIf, wBin, wVar, wC, wAndV, wOrV, wNotV, wIsN, wNotN, wNeg, wChain, wNil, wCons, wTup, wLst, wBi, wCall, wIsi, wSl, wSo, wNo, wSeqI, wFor, gNm, gTp, puts, wAsg, wPar, wMul, wmD, wmO, putsI, wAug, wTryIs, wRng1, wRng2, wEnum, wEnumT, wZip, wLc, wYes, wLend, wRel, wOwn, wApp, wIns, wSetIx, wLstF, wListF, wRepF, wAddF, wSlS, wParO, wRevT, wSortedSet, wSortedSetL, wSortedSetT, wKeys, weI, wExt, allD, wMt, wRaise, wSeqO, wCallF, plainO, wCallA, wIdx0, wAnF, wSetA, wUnA, wSeqA, plainA, wFld, wFldO, wMake, wLRg, Ans.data, Ans.own.injEq, Ans.tup.injEq, Ans.dat.injEq, wTry, wTryM, wHs, wIsC, enOf, put, putUn, defEnds, lendE, lend, wipeE, hide, lenD, intD, listD, tupleD, reprD, wPen0, wPen1, wPen2, wPenS1, wPenS2, penAt, List.map_cons, List.map_nil, List.length_cons, List.length_nil, List.nil_append, List.cons_append, Nat.reduceAdd, Nat.reduceSub, Nat.reduceLeDiff, Nat.zero_add, List.replicate_zero, List.replicate_succ, List.getElem?_cons_zero, List.getElem?_cons_succ, List.set_cons_zero, List.set_cons_succ, Option.some.injEq, Slot.dat.injEq, Slot.own.injEq, PyData.bool.injEq, PyData.int.injEq, PyData.tuple.injEq, PyData.list.injEq, exists_eq_left', exists_eq_left, and_true, true_and, if_true, if_false, Bool.false_eq_true, reduceCtorEq, List.mapIdx_cons, List.mapIdx_nil, wPar3, addD, twoI]
    have hm : (if (4 : Int) < (cs.length : Int) then (4 : Int) else (cs.length : Int)) = (cs.length : Int) := by
      rw [if_neg (by omega)]
    rw [hm]
    refine ⟨_, k' + 99, rfl, rfl, by omega, by omega, fun r r0 r1 k1 l1 => hZ _ ⟨r.toNat + 1, k1, ?_, by omega, by omega, l1⟩⟩
    rw [show ((r.toNat + 1 : Nat) : Int) = 1 + r by omega]
  rintro e' ⟨u, k1, rfl, u1, u2, l1⟩
  simp only [wRet, wSet, wSeq, wNext, wDrop, wIfS, wTest, wAnd, wOr, wNot, wIf, wBin, wVar, wC, wAndV, wOrV, wNotV, wIsN, wNotN, wNeg, wChain, wNil, wCons, wTup, wLst, wBi, wCall, wIsi, wSl, wSo, wNo, wSeqI, wFor, gNm, gTp, puts, wAsg, wPar, wMul, wmD, wmO, putsI, wAug, wTryIs, wRng1, wRng2, wEnum, wEnumT, wZip, wLc, wYes, wLend, wRel, wOwn, wApp, wIns, wSetIx, wLstF, wListF, wRepF, wAddF, wSlS, wParO, wRevT, wSortedSet, wSortedSetL, wSortedSetT, wKeys, weI, wExt, allD, wMt, wRaise, wSeqO, wCallF, plainO, wCallA, wIdx0, wAnF, wSetA, wUnA, wSeqA, plainA, wFld, wFldO, wMake, wLRg, Ans.data, Ans.own.injEq, Ans.tup.injEq, Ans.dat.injEq, wTry, wTryM, wHs, wIsC, enOf, put, putUn, defEnds, lendE, lend, wipeE, hide, lenD, intD, listD, tupleD, reprD, wPen0, wPen1, wPen2, wPenS1, wPenS2, penAt, List.map_cons, List.map_nil, List.length_cons, List.length_nil, List.nil_append, List.cons_append, Nat.reduceAdd, Nat.reduceSub, Nat.reduceLeDiff, Nat.zero_add, List.replicate_zero, List.replicate_succ, List.getElem?_cons_zero, List.getElem?_cons_succ, List.set_cons_zero, List.set_cons_succ, Option.some.injEq, Slot.dat.injEq, Slot.own.injEq, PyData.bool.injEq, PyData.int.injEq, PyData.tuple.injEq, PyData.list.injEq, exists_eq_left', exists_eq_left, and_true, true_and, if_true, if_false, Bool.false_eq_true, reduceCtorEq, List.mapIdx_cons, List.mapIdx_nil, wPar3]
  obtain ⟨k1, rfl⟩ : ∃ k2, k1 = k2 + 1 := ⟨k1 - 1, by omega⟩
  refine ⟨_, _, k1, rfl, rfl, rfl, by simp, by simp, fun r hr' k2 l2 => ?_⟩
  obtain ⟨N0, rfl, N1, N3⟩ : ∃ N0 : Nat, r = .int (N0 : Int) ∧ 1 ≤ N0 ∧ N0 ≤ 3 := by
    simp only [List.mem_cons, List.not_mem_nil, or_false] at hr'
    rcases hr' with rfl | rfl | rfl | rfl | rfl
    · exact ⟨1, rfl, by decide, by decide⟩
    · exact ⟨1, rfl, by decide, by decide⟩
    · exact ⟨2, rfl, by decide, by decide⟩
    · exact ⟨2, rfl, by decide, by decide⟩
    · exact ⟨3, rfl, by decide, by decide⟩
  refine ⟨_, rfl, by omega, by omega, ?_⟩
  rw [Int.toNat_natCast]
  refine wLoop.rng N0 (fun j e => ∃ (bs : List Br) (u5 u6 : Slot) (k : Nat), e = ⟨[.dat penD, .dat (.tuple cs), .dat (.int 4), .dat (.int (u : Int)), .own (bs.map Br.data), u5, u6, .un, .un], k⟩ ∧ bs.length = j ∧ (∀ b ∈ bs, BrOk cs u b) ∧ k' + 98 ≤ k + 30 * j) ?_ ?_ ⟨[], _, _, _, rfl, rfl, (fun b h => by cases h), by omega⟩
  · rintro j e hj ⟨bs, u5, u6, k, rfl, hbl, hbs, lk⟩ N ih
    simp only [gNm, puts, put, List.set_cons_zero, List.set_cons_succ]
    refine cutSeq (fun e' => ∃ (ks : List Nat) (k3 : Nat), e' = ⟨[.dat penD, .dat (.tuple cs), .dat (.int 4), .dat (.int (u : Int)), .own (bs.map Br.data), .dat (.int (j : Int)), .dat (.list (ks.map natD)), .un, .un], k3⟩ ∧ (∀ k ∈ ks, k < cs.length) ∧ ks.Pairwise (· < ·) ∧ ks.length ≤ 4 ∧ k ≤ k3 + 5) ?_ ?_
    rotate_left 1
    · intro Z hZ
      simp only [wRet, wSet, wSeq, wNext, wDrop, wIfS, wTest, wAnd, wOr, wNot, wIf, wBin, wVar, wC, wAndV, wOrV, wNotV, wIsN, wNotN, wNeg, wChain, wNil, wCons, wTup, wLst, wBi, wCall, wIsi, wSl, wSo, wNo, wSeqI, wFor, gNm, gTp, puts, wAsg, wPar, wMul, wmD, wmO, putsI, wAug, wTryIs, wRng1, wRng2, wEnum, wEnumT, wZip, wLc, wYes, wLend, wRel, wOwn, wApp, wIns, wSetIx, wLstF, wListF, wRepF, wAddF, wSlS, wParO, wRevT, wSortedSet, wSortedSetL, wSortedSetT, wKeys, weI, wExt, allD, wMt, wRaise, wSeqO, wCallF, plainO, wCallA, wIdx0, wAnF, wSetA, wUnA, wSeqA, plainA, wFld, wFldO, wMake, wLRg, Ans.data, Ans.own.injEq, Ans.tup.injEq, Ans.dat.injEq, wTry, wTryM, wHs, wIsC, enOf, put, putUn, defEnds, lendE, lend, wipeE, hide, lenD, intD, listD, tupleD, reprD, wPen0, wPen1, wPen2, wPenS1, wPenS2, penAt, List.map_cons, List.map_nil, List.length_cons, List.length_nil, List.nil_append, List.cons_append, Nat.reduceAdd, Nat.reduceSub, Nat.reduceLeDiff, Nat.zero_add, List.replicate_zero, List.replicate_succ, List.getElem?_cons_zero, List.getElem?_cons_succ, List.set_cons_zero, List.set_cons_succ, Option.some.injEq, Slot.dat.injEq, Slot.own.injEq, PyData.bool.injEq, PyData.int.injEq, PyData.tuple.injEq, PyData.list.injEq, exists_eq_left', exists_eq_left, and_true, true_and, if_true, if_false, Bool.false_eq_true, reduceCtorEq, List.mapIdx_cons, List.mapIdx_nil, wPar3]
      refine ⟨cs.length, k - cs.length, rfl, by omega, by omega, fun ns hl hn hi k3 l3 => ?_⟩
      obtain ⟨k3, rfl⟩ : ∃ k2, k3 = k2 + 1 := ⟨k3 - 1, by omega⟩
      refine ⟨_, _, k3, rfl, rfl, rfl, by simp, by simp, fun r hr2 k4 l4 => ?_⟩
      obtain ⟨t, rfl⟩ : ∃ t : Nat, r = .int (t : Int) := by
        simp only [List.mem_cons, List.not_mem_nil, or_false] at hr2
        rcases hr2 with rfl | rfl | rfl | rfl | rfl | rfl | rfl
        · exact ⟨0, rfl⟩
        · exact ⟨0, rfl⟩
        · exact ⟨1, rfl⟩
        · exact ⟨1, rfl⟩
        · exact ⟨2, rfl⟩
        · exact ⟨3, rfl⟩
        · exact ⟨4, rfl⟩
      refine ⟨_, rfl, ?_⟩
      simp only [slD, sortedD]
      rw [cutTo (by omega)]
      refine ⟨_, rfl, fun ns' hp hs => ?_⟩
      have hnd : (ns.take (t : Int).toNat).Nodup := (List.take_sublist _ ns).nodup hn
      have hs' : ns'.Pairwise (· < ·) := (hs.and (hp.nodup_iff.mpr hnd)).imp fun h => by omega
      have hin : ∀ i ∈ ns', 0 ≤ i ∧ i < cs.length := fun i h => hi i (List.mem_of_mem_take (hp.mem_iff.mp h))
      obtain ⟨t1, t2, t3, t4⟩ := toNats hin
      rw [t1]
      refine hZ _ ⟨_, k4, rfl, t2, t4 hs', ?_, by omega⟩
      rw [List.length_map, hp.length_eq, List.length_take]
      omega
    rintro e' ⟨ks, k3, rfl, hks, hasc, hkl, l3⟩
    refine cutSeq (fun e' => ∃ (g : List (Nat × Int)) (k4 : Nat), e' = ⟨[.dat penD, .dat (.tuple cs), .dat (.int 4), .dat (.int (u : Int)), .own (bs.map Br.data), .dat (.int (j : Int)), .dat (.tuple ((g.map fun e => (e.1, some e.2)).map entM)), .un, .un], k4⟩ ∧ g.map (·.1) = ks ∧ (∀ e ∈ g, okEnt cs ((e.1 : Int), .int e.2)) ∧ k3 ≤ k4 + 16) ?_ ?_
    rotate_left 1
    · intro Z hZ
      simp only [wRet, wSet, wSeq, wNext, wDrop, wIfS, wTest, wAnd, wOr, wNot, wIf, wBin, wVar, wC, wAndV, wOrV, wNotV, wIsN, wNotN, wNeg, wChain, wNil, wCons, wTup, wLst, wBi, wCall, wIsi, wSl, wSo, wNo, wSeqI, wFor, gNm, gTp, puts, wAsg, wPar, wMul, wmD, wmO, putsI, wAug, wTryIs, wRng1, wRng2, wEnum, wEnumT, wZip, wLc, wYes, wLend, wRel, wOwn, wApp, wIns, wSetIx, wLstF, wListF, wRepF, wAddF, wSlS, wParO, wRevT, wSortedSet, wSortedSetL, wSortedSetT, wKeys, weI, wExt, allD, wMt, wRaise, wSeqO, wCallF, plainO, wCallA, wIdx0, wAnF, wSetA, wUnA, wSeqA, plainA, wFld, wFldO, wMake, wLRg, Ans.data, Ans.own.injEq, Ans.tup.injEq, Ans.dat.injEq, wTry, wTryM, wHs, wIsC, enOf, put, putUn, defEnds, lendE, lend, wipeE, hide, lenD, intD, listD, tupleD, reprD, wPen0, wPen1, wPen2, wPenS1, wPenS2, penAt, List.map_cons, List.map_nil, List.length_cons, List.length_nil, List.nil_append, List.cons_append, Nat.reduceAdd, Nat.reduceSub, Nat.reduceLeDiff, Nat.zero_add, List.replicate_zero, List.replicate_succ, List.getElem?_cons_zero, List.getElem?_cons_succ, List.set_cons_zero, List.set_cons_succ, Option.some.injEq, Slot.dat.injEq, Slot.own.injEq, PyData.bool.injEq, PyData.int.injEq, PyData.tuple.injEq, PyData.list.injEq, exists_eq_left', exists_eq_left, and_true, true_and, if_true, if_false, Bool.false_eq_true, reduceCtorEq, List.mapIdx_cons, List.mapIdx_nil, wPar3]
      refine ⟨_, rfl, ?_⟩
      simp (decide := true) only [if_true, if_false]
      refine lcLoop.ind (fun acc ds k => ∃ (g : List (Nat × Int)) (rs : List Nat), acc = (g.map fun e => (e.1, some e.2)).map entM ∧ ds = rs.map natD ∧ g.map (·.1) ++ rs = ks ∧ (∀ e ∈ g, okEnt cs ((e.1 : Int), .int e.2)) ∧ k3 ≤ k + 4 * g.length) ?_ ?_ ⟨[], ks, rfl, rfl, rfl, (fun e h => by cases h), by rw [List.length_nil]; omega⟩
      · rintro acc k4 ⟨g, rs, rfl, hd, hg, he, l4⟩
        have er : rs = [] := by cases rs <;> first | rfl | cases hd
        subst er
        rw [List.append_nil] at hg
        have := congrArg List.length hg
        rw [List.length_map] at this
        exact hZ _ ⟨g, k4, rfl, hg, he, by omega⟩
      · rintro d ds acc k4 ih2 ⟨g, rs, rfl, hd, hg, he, l4⟩
        cases rs with
        | nil => cases hd
        | cons r rs =>
          injection hd with hd1 hd2
          subst hd1 hd2
          have hr := hks r (by rw [← hg]; simp)
          have gl : g.length + (rs.length + 1) = ks.length := by
            have := congrArg List.length hg
            rw [List.length_append, List.length_map, List.length_cons] at this
            exact this
          have er : ((r : Int)).toNat = r := Int.toNat_natCast r
          simp only [wRet, wSet, wSeq, wNext, wDrop, wIfS, wTest, wAnd, wOr, wNot, wIf, wBin, wVar, wC, wAndV, wOrV, wNotV, wIsN, wNotN, wNeg, wChain, wNil, wCons, wTup, wLst, wBi, wCall, wIsi, wSl, wSo, wNo, wSeqI, wFor, gNm, gTp, puts, wAsg, wPar, wMul, wmD, wmO, putsI, wAug, wTryIs, wRng1, wRng2, wEnum, wEnumT, wZip, wLc, wYes, wLend, wRel, wOwn, wApp, wIns, wSetIx, wLstF, wListF, wRepF, wAddF, wSlS, wParO, wRevT, wSortedSet, wSortedSetL, wSortedSetT, wKeys, weI, wExt, allD, wMt, wRaise, wSeqO, wCallF, plainO, wCallA, wIdx0, wAnF, wSetA, wUnA, wSeqA, plainA, wFld, wFldO, wMake, wLRg, Ans.data, Ans.own.injEq, Ans.tup.injEq, Ans.dat.injEq, wTry, wTryM, wHs, wIsC, enOf, put, putUn, defEnds, lendE, lend, wipeE, hide, lenD, intD, listD, tupleD, reprD, wPen0, wPen1, wPen2, wPenS1, wPenS2, penAt, List.map_cons, List.map_nil, List.length_cons, List.length_nil, List.nil_append, List.cons_append, Nat.reduceAdd, Nat.reduceSub, Nat.reduceLeDiff, Nat.zero_add, List.replicate_zero, List.replicate_succ, List.getElem?_cons_zero, List.getElem?_cons_succ, List.set_cons_zero, List.set_cons_succ, Option.some.injEq, Slot.dat.injEq, Slot.own.injEq, PyData.bool.injEq, PyData.int.injEq, PyData.tuple.injEq, PyData.list.injEq, exists_eq_left', exists_eq_left, and_true, true_and, if_true, if_false, Bool.false_eq_true, reduceCtorEq, List.mapIdx_cons, List.mapIdx_nil, wPar3] at ih2 ⊢
          obtain ⟨k4, rfl⟩ : ∃ k2, k4 = k2 + 4 := ⟨k4 - 4, by omega⟩
          refine ⟨_, atI_pos (by omega) (by omega), _, k4, rfl, rfl, ⟨_, rfl, gd _ (by omega) (by omega)⟩, fun v k5 l5 hv => ?_⟩
          have hv := hv _ rfl
          obtain ⟨i, rfl, i0, i1, i2⟩ := id hv
          refine ⟨by rw [List.length_map, List.length_map]; omega, ih2 _ _ ⟨g ++ [(r, i)], rs, ?_, rfl, ?_, fun e h => ?_, by rw [List.length_append, List.length_singleton]; omega⟩⟩
          · rw [List.map_append, List.map_append]
            rfl
          · rw [List.map_append, List.append_assoc]
            exact hg
          · rcases List.mem_append.mp
                h with h | h
            · exact he e h
            · cases List.mem_singleton.mp h
              exact ⟨by show (0 : Int) ≤ (r : Int); omega, by show (r : Int) < _; omega, .inr hv⟩
    rintro e' ⟨g, k4, rfl, hgk, hge, l4⟩
    simp only [wRet, wSet, wSeq, wNext, wDrop, wIfS, wTest, wAnd, wOr, wNot, wIf, wBin, wVar, wC, wAndV, wOrV, wNotV, wIsN, wNotN, wNeg, wChain, wNil, wCons, wTup, wLst, wBi, wCall, wIsi, wSl, wSo, wNo, wSeqI, wFor, gNm, gTp, puts, wAsg, wPar, wMul, wmD, wmO, putsI, wAug, wTryIs, wRng1, wRng2, wEnum, wEnumT, wZip, wLc, wYes, wLend, wRel, wOwn, wApp, wIns, wSetIx, wLstF, wListF, wRepF, wAddF, wSlS, wParO, wRevT, wSortedSet, wSortedSetL, wSortedSetT, wKeys, weI, wExt, allD, wMt, wRaise, wSeqO, wCallF, plainO, wCallA, wIdx0, wAnF, wSetA, wUnA, wSeqA, plainA, wFld, wFldO, wMake, wLRg, Ans.data, Ans.own.injEq, Ans.tup.injEq, Ans.dat.injEq, wTry, wTryM, wHs, wIsC, enOf, put, putUn, defEnds, lendE, lend, wipeE, hide, lenD, intD, listD, tupleD, reprD, wPen0, wPen1, wPen2, wPenS1, wPenS2, penAt, List.map_cons, List.map_nil, List.length_cons, List.length_nil, List.nil_append, List.cons_append, Nat.reduceAdd, Nat.reduceSub, Nat.reduceLeDiff, Nat.zero_add, List.replicate_zero, List.replicate_succ, List.getElem?_cons_zero, List.getElem?_cons_succ, List.set_cons_zero, List.set_cons_succ, Option.some.injEq, Slot.dat.injEq, Slot.own.injEq, PyData.bool.injEq, PyData.int.injEq, PyData.tuple.injEq, PyData.list.injEq, exists_eq_left', exists_eq_left, and_true, true_and, if_true, if_false, Bool.false_eq_true, reduceCtorEq, List.mapIdx_cons, List.mapIdx_nil, wPar3]
    refine ⟨⟨_, rfl⟩, cs.length, k4 - cs.length, rfl, by omega, by omega, fun ns hl hn hi k5 l5 => ?_⟩
    simp only [slD]
    rw [cutTo (by omega), Int.toNat_natCast]
    have hin : ∀ i ∈ ns.take u, 0 ≤ i ∧ i < cs.length := fun i h => hi i (List.mem_of_mem_take h)
    obtain ⟨t1, t2, t3, _⟩ := toNats hin
    rw [t1]
    refine ⟨by rw [List.length_map]; omega, ?_⟩
    have hb : BrOk cs u ⟨g, (ns.take u).map Int.toNat⟩ := ⟨by have := congrArg List.length hgk; rw [List.length_map] at this; show g.length ≤ 4; omega, hge, by rw [hgk]; exact hasc, t2, t3 ((List.take_sublist u ns).nodup hn), by rw [List.length_map, List.length_take]; omega⟩
    refine ih _ ⟨bs ++ [⟨g, (ns.take u).map Int.toNat⟩], .dat (.int (j : Int)), .dat (.tuple ((g.map fun e => (e.1, some e.2)).map entM)), k5, ?_, by rw [List.length_append, hbl]; rfl, fun b h => ?_, by omega⟩
    · rw [List.map_append]
      rfl
    · rcases List.mem_append.mp
          h with h | h
      · exact hbs b h
      · rw [List.mem_singleton.mp h]
        exact hb
  · rintro e ⟨bs, u5, u6, k, rfl, hbl, hbs, lk⟩
    simp only [wRet, wSet, wSeq, wNext, wDrop, wIfS, wTest, wAnd, wOr, wNot, wIf, wBin, wVar, wC, wAndV, wOrV, wNotV, wIsN, wNotN, wNeg, wChain, wNil, wCons, wTup, wLst, wBi, wCall, wIsi, wSl, wSo, wNo, wSeqI, wFor, gNm, gTp, puts, wAsg, wPar, wMul, wmD, wmO, putsI, wAug, wTryIs, wRng1, wRng2, wEnum, wEnumT, wZip, wLc, wYes, wLend, wRel, wOwn, wApp, wIns, wSetIx, wLstF, wListF, wRepF, wAddF, wSlS, wParO, wRevT, wSortedSet, wSortedSetL, wSortedSetT, wKeys, weI, wExt, allD, wMt, wRaise, wSeqO, wCallF, plainO, wCallA, wIdx0, wAnF, wSetA, wUnA, wSeqA, plainA, wFld, wFldO, wMake, wLRg, Ans.data, Ans.own.injEq, Ans.tup.injEq, Ans.dat.injEq, wTry, wTryM, wHs, wIsC, enOf, put, putUn, defEnds, lendE, lend, wipeE, hide, lenD, intD, listD, tupleD, reprD, wPen0, wPen1, wPen2, wPenS1, wPenS2, penAt, List.map_cons, List.map_nil, List.length_cons, List.length_nil, List.nil_append, List.cons_append, Nat.reduceAdd, Nat.reduceSub, Nat.reduceLeDiff, Nat.zero_add, List.replicate_zero, List.replicate_succ, List.getElem?_cons_zero, List.getElem?_cons_succ, List.set_cons_zero, List.set_cons_succ, Option.some.injEq, Slot.dat.injEq, Slot.own.injEq, PyData.bool.injEq, PyData.int.injEq, PyData.tuple.injEq, PyData.list.injEq, exists_eq_left', exists_eq_left, and_true, true_and, if_true, if_false, Bool.false_eq_true, reduceCtorEq, List.mapIdx_cons, List.mapIdx_nil, wPar3]
    have b0 : 0 < bs.length := by omega
    obtain ⟨k, rfl⟩ : ∃ k2, k = k2 + 1 := ⟨k - 1, by omega⟩
    refine ⟨3, k, rfl, rfl, by decide, by decide, fun r r0 r1 k5 l5 => ?_⟩
    refine eqI.mpr ⟨_, rfl, ?_⟩
    cases hr0 : decide (r = 0) with
    | false =>
      rw [if_neg (by decide)]
      exact q bs u k5 (by omega) ⟨by omega, by omega, hbs, u1, by omega⟩
    | true =>
      rw [if_pos (by decide)]
      refine ⟨_, rfl, ?_⟩
      simp (decide := true) only [if_true, if_false]
      refine lcLoop.fm (fun d => some (chK (natsT (bs.getD 0 Br0).kept) d)) (fun d hd X Y h3 h4 => ?_) (by rw [List.length_nil, List.length_map]; omega) ?_
      · obtain ⟨b, hb, rfl⟩ := List.mem_map.mp hd
        simp (decide := true) only [wRet, wSet, wSeq, wNext, wDrop, wIfS, wTest, wAnd, wOr, wNot, wIf, wBin, wVar, wC, wAndV, wOrV, wNotV, wIsN, wNotN, wNeg, wChain, wNil, wCons, wTup, wLst, wBi, wCall, wIsi, wSl, wSo, wNo, wSeqI, wFor, gNm, gTp, puts, wAsg, wPar, wMul, wmD, wmO, putsI, wAug, wTryIs, wRng1, wRng2, wEnum, wEnumT, wZip, wLc, wYes, wLend, wRel, wOwn, wApp, wIns, wSetIx, wLstF, wListF, wRepF, wAddF, wSlS, wParO, wRevT, wSortedSet, wSortedSetL, wSortedSetT, wKeys, weI, wExt, allD, wMt, wRaise, wSeqO, wCallF, plainO, wCallA, wIdx0, wAnF, wSetA, wUnA, wSeqA, plainA, wFld, wFldO, wMake, wLRg, Ans.data, Ans.own.injEq, Ans.tup.injEq, Ans.dat.injEq, wTry, wTryM, wHs, wIsC, enOf, put, putUn, defEnds, lendE, lend, wipeE, hide, lenD, intD, listD, tupleD, reprD, wPen0, wPen1, wPen2, wPenS1, wPenS2, penAt, List.map_cons, List.map_nil, List.length_cons, List.length_nil, List.nil_append, List.cons_append, Nat.reduceAdd, Nat.reduceSub, Nat.reduceLeDiff, Nat.zero_add, List.replicate_zero, List.replicate_succ, List.getElem?_cons_zero, List.getElem?_cons_succ, List.set_cons_zero, List.set_cons_succ, Option.some.injEq, Slot.dat.injEq, Slot.own.injEq, PyData.bool.injEq, PyData.int.injEq, PyData.tuple.injEq, PyData.list.injEq, exists_eq_left', exists_eq_left, and_true, true_and, if_true, if_false, Bool.false_eq_true, reduceCtorEq, List.mapIdx_cons, List.mapIdx_nil, wPar3]
        exact ⟨_, atI_c0, _, at_map Br0 b0, _, atI_c1, h4 _ rfl⟩
      · rw [List.nil_append, fmap_some, List.map_map]
        have e : bs.map (chK (natsT (bs.getD 0 Br0).kept) ∘ Br.data) = (bs.map fun b => (⟨b.given, (bs.getD 0 Br0).kept⟩ : Br)).map Br.data := by
          rw [List.map_map]
          rfl
        rw [e]
        have hb0 := hbs _ (getD_in (a0 := Br0) b0)
        refine q _ u k5 (by omega) ⟨by rw [List.length_map]; omega, by rw [List.length_map]; omega, fun b hb => ?_, u1, by omega⟩
        obtain ⟨b', hb', rfl⟩ := List.mem_map.mp hb
        have h := hbs b' hb'
        exact ⟨h.g4, h.ent, h.asc, hb0.ks, hb0.nd, hb0.kl⟩
end
end L2.DL.K30
namespace L2.DL.K30
open PySem PySem.Spec
      PyProof.Rows
/-! ### values that are no rule, no rules, no given -/
structure NotR (cs : List D) (d : D) : Prop where
  rule : rulB cs d = false
  rules : rulsB cs d = false
  ok : Ok 22 3 d
def goodR : D := .tuple [.tuple [], .int 0, .none]
section
variable {cs : List D}
theorem rulsB_mem {rs : List D} {d : D} (h : d ∈ rs) (hd : rulB cs d = false) : rulsB cs (.tuple rs) = false := by
  cases z : rulsB cs (.tuple rs) with
  | false => rfl
  | true =>
    simp only [rulsB, Bool.and_eq_true, decide_eq_true_eq] at z
    have := List.all_eq_true.mp z.2 d h
    rw [hd] at this
    cases this
theorem notR_mk {d x : D} {xs : List D} (e : d = .tuple (x :: xs)) (h : rulB cs d = false) (hx : rulB cs x = false) (ok : Ok 22 3 d) : NotR cs d := ⟨h, by rw [e]; exact rulsB_mem List.mem_cons_self hx, ok⟩
theorem lack_notR {zs : List (Int × D)} {c : Int} {v : D} (h : Lack cs zs c v) : NotR cs (.tuple [.tuple (zs.map entD), .int c, v]) := by
  refine notR_mk rfl h.no ?_ h.ok
  have h2 := h.two
  match zs, h2 with
  | [], _ => rfl
  | [_], _ => rfl
  | [a, b], _ =>
    rfl
  | _ :: _ :: _ :: _, h2 => simp at h2
def brT (g k : D) : D := .tuple [g, k]
def k0 : D := .tuple [.int 0]
def nearV (m : Nat) : List D := [.tuple [], .list [brT (.tuple []) k0], .tuple [brT (.tuple []) (.tuple [])], .tuple [brT (.tuple []) (.list [.int 0])], .tuple [brT (.tuple []) (.tuple [.int 0, .int 0])], .tuple [brT (.tuple []) (.tuple [.int m])], .tuple [brT (.tuple [.tuple [.int 0, .none]]) k0],
  .tuple [brT (.tuple []) k0, brT (.tuple []) k0, brT (.tuple []) k0, brT (.tuple []) k0], .tuple [brT (.tuple []) k0, brT (.tuple []) (.tuple [.int 0, .int 0])], .tuple [brT (.tuple [.tuple [.int 0, .int (-1)]]) k0], .tuple [brT (.list []) k0], .tuple [.tuple []], .tuple [.tuple [.tuple []]], .none]
def nearW (m : Nat) : List D := [.tuple [brT (.tuple [.tuple [.int m, .int 0]]) k0], .tuple [brT (.tuple []) (.tuple [.bool true])], .tuple [.tuple [.tuple [], k0, .int 0]], .int 0, .str "view", .tuple [.tuple [], k0]]
theorem viewL_mem {m : Nat} : ∀ {bs : List D} {b : D}, b ∈ bs → branchB cs b = false → viewL cs m bs = false
  | [], _, h, _ => by cases h
  | c :: bs, b, h, hb => by
    rcases List.mem_cons.mp
          h with rfl | h
    · simp only [viewL, hb, Bool.false_and]
    · simp only [viewL, viewL_mem h hb, Bool.and_false]
theorem viewB_mem {bs : List D} {b : D} (h : b ∈ bs) (hb : branchB cs b = false) : viewB cs (.tuple bs) = false := by
  simp only [viewB, viewL_mem h hb, Bool.and_false]
theorem one_no {b : D} (hb : branchB cs b = false) : viewB cs (.tuple [b]) = false := viewB_mem List.mem_cons_self hb
theorem nearV_no (h1 : 1 ≤ cs.length) (h4 : cs.length ≤ 4) : ∀ d, d ∈ nearV cs.length ∨ d ∈ nearW cs.length → viewB cs d = false ∧ Ok 200 6 d := by
  have okB : ∀ {d : D}, (fine d && decide (wt d ≤ 200) && decide (d.depth ≤ 6)) = true → Ok 200 6 d := fun {d} h => by
    simp only [Bool.and_eq_true,
          decide_eq_true_eq] at h
    exact ⟨h.1.1, h.1.2, h.2⟩
  obtain ⟨m, hm⟩ : ∃ m, m = cs.length := ⟨_, rfl⟩
  have e00 : inB (.int 0) ([.int 0] : List D) = true := by decide +kernel
  intro d hd
  rw [← hm] at hd h1 h4
  have hmm : m = 1 ∨ m = 2 ∨ m = 3 ∨ m = 4 := by omega
  rcases hd with hd | hd
  · simp only [nearV, List.mem_cons, List.not_mem_nil, or_false] at hd
    rcases hd with rfl | rfl | rfl | rfl | rfl | rfl | rfl | rfl | rfl | rfl | rfl | rfl | rfl | rfl
    · exact ⟨rfl, okB (by decide +kernel)⟩
    · exact ⟨rfl, okB (by decide +kernel)⟩
    · exact ⟨one_no rfl, okB (by decide +kernel)⟩
    · exact ⟨one_no rfl, okB (by decide +kernel)⟩
    · exact ⟨one_no (by simp [brT, branchB, givL, keptB, keptL, e00]), okB (by decide +kernel)⟩
    · exact ⟨one_no (by simp [brT, branchB, givL, keptB, keptL, numB, ← hm]), by rcases hmm with rfl | rfl | rfl | rfl <;> exact okB (by decide +kernel)⟩
    · exact ⟨one_no (by
        have : inB .none ([.none] : List D) = true := by decide +kernel
        simp [brT, k0, branchB, sndD, this]), okB (by decide +kernel)⟩
    · exact ⟨by simp [viewB], okB (by decide +kernel)⟩
    · exact ⟨viewB_mem (b := brT (.tuple []) (.tuple [.int 0, .int 0])) (by simp) (by simp [brT, branchB, givL, keptB, keptL, e00]), okB (by decide +kernel)⟩
    · exact ⟨one_no (by simp [brT, k0, branchB, givL, entB, isN, valB]), okB (by decide +kernel)⟩
    · exact ⟨one_no rfl, okB (by decide +kernel)⟩
    · exact ⟨one_no rfl, okB (by decide +kernel)⟩
    · exact ⟨one_no rfl, okB (by decide +kernel)⟩
    · exact ⟨rfl, okB (by decide +kernel)⟩
  · simp only [nearW, List.mem_cons, List.not_mem_nil, or_false] at hd
    rcases hd with rfl | rfl | rfl | rfl | rfl | rfl
    · exact ⟨one_no (by simp [brT, k0, branchB, givL, entB, ← hm]), by rcases hmm with rfl | rfl | rfl | rfl <;> exact okB (by decide +kernel)⟩
    · exact ⟨one_no (by simp [brT, branchB, givL, keptB, keptL, numB]), okB (by decide +kernel)⟩
    · exact ⟨one_no rfl, okB (by decide +kernel)⟩
    · exact ⟨rfl, okB (by decide +kernel)⟩
    · exact ⟨rfl, okB (by decide +kernel)⟩
    · exact ⟨viewB_mem (b := .tuple []) (by simp) rfl, okB (by decide +kernel)⟩
def wrongL (m : Nat) : List D := [.tuple [.tuple [], .int m, .none], .tuple [.tuple [.tuple [.int 0, .none]], .int 0, .none], .tuple [.tuple [.tuple [.int m, .int 0]], .int 0, .none], .tuple [.list [], .int 0, .none], .tuple [.tuple [], .int 0], .tuple [.tuple [], .int 0, .int (-1)],
  .tuple [.tuple [], .int 0, .bool true], .tuple [.tuple [], .bool true, .none], .tuple [.tuple [.tuple [.int 0, .int (-1)]], .int ((m : Int) - 1), .none], .tuple [.tuple [], .int 0, .none, .int 0], .list [.tuple [], .int 0, .none]]
theorem wrong_notR (h1 : 1 ≤ cs.length) (h4 : cs.length ≤ 4) : ∀ d ∈ wrongL cs.length, NotR cs d := by
  have okB : ∀ {d : D}, (fine d && decide (wt d ≤ 22) && decide (d.depth ≤ 3)) = true → Ok 22 3 d := fun {d} h => by
    simp only [Bool.and_eq_true,
          decide_eq_true_eq] at h
    exact ⟨h.1.1, h.1.2, h.2⟩
  obtain ⟨m, hm⟩ : ∃ m, m = cs.length := ⟨_, rfl⟩
  intro d hd
  rw [← hm] at hd h1 h4
  have hmm : m = 1 ∨ m = 2 ∨ m = 3 ∨ m = 4 := by omega
  simp only [wrongL, List.mem_cons, List.not_mem_nil, or_false] at hd
  rcases hd with rfl | rfl | rfl | rfl | rfl | rfl | rfl | rfl | rfl | rfl | rfl
  · exact notR_mk rfl (by simp [rulB, givL, numB, ← hm]) rfl (by rcases hmm with rfl | rfl | rfl | rfl <;> exact okB (by decide +kernel))
  · exact notR_mk rfl (by
      have : inB (.int 0) ([.int 0] : List D) = true := by decide +kernel
      simp only [rulB, List.map_cons, List.map_nil, fstD, this, Bool.not_true, Bool.false_and, Bool.and_false]) rfl (okB (by decide +kernel))
  · exact notR_mk rfl (by simp [rulB, givL, entB, ← hm]) rfl (by rcases hmm with rfl | rfl | rfl | rfl <;> exact okB (by decide +kernel))
  · exact notR_mk rfl rfl rfl (okB (by decide +kernel))
  · exact notR_mk rfl rfl rfl (okB (by decide +kernel))
  · exact notR_mk rfl (by simp [rulB, givL, isN, valAt, valB]) rfl (okB (by decide +kernel))
  · exact notR_mk rfl (by simp [rulB, givL, isN, valAt, valB]) rfl (okB (by decide +kernel))
  · exact notR_mk rfl (by simp [rulB, givL, numB]) rfl (okB (by decide +kernel))
  · exact notR_mk rfl (by simp [rulB, givL, entB, isN, valB]) rfl (by rcases hmm with rfl | rfl | rfl | rfl <;> exact okB (by decide +kernel))
  · exact notR_mk rfl rfl rfl (okB (by decide +kernel))
  · exact ⟨rfl, rfl, okB (by decide +kernel)⟩
end
section
variable {P : Program} {w : World} {K : PySem.W.Frag} {mg : Str → Option Value} {base : Heap} {A : Cls}
def w_law_bad : Wc := fun ds k Q _ => ∃ (cs : List D) (k' : Nat) (z : Str), ds = [penD, .tuple cs, .str z] ∧ k = k' + 4 ∧ okCols (.tuple cs) ∧
  ((z = "rule" ∧ ∀ r k'', k' ≤ k'' → rulB cs r = false → Ok 200 6 r → Q r k'') ∨ (z = "rules" ∧ ∀ r k'', k' ≤ k'' → rulsB cs r = false → Ok 200 6 r → Q r k'') ∨ (z = "view" ∧ ∀ r k'', k' ≤ k'' → viewB cs r = false → Ok 200 6 r → Q r k''))
theorem m_law_bad : Wc.Mono w_law_bad := fun ds k Q Q' x x' h1 _ ⟨cs, k', z, p1, p2, p3, q⟩ => ⟨cs, k', z, p1, p2, p3, q.imp (fun q => ⟨q.1, fun r k l a b => h1 _ _ (q.2 r k l a b)⟩) (Or.imp (fun q => ⟨q.1, fun r k l a b => h1 _ _ (q.2 r k l a b)⟩) fun q => ⟨q.1, fun r k l a b => h1 _ _ (q.2 r k l a b)⟩)⟩
theorem d_law_bad (T : Txt K mg A) (d_law_one : Def P w K mg base "_law_one" 3 ["_law_pen", "_law_some"] w_law_one) (d_law_lacking : Def P w K mg base "_law_lacking" 4 ["_law_pen", "_law_columns_here"] w_law_lacking) (F : FunAt K mg "_law_bad" s_law_bad ["_law_pen", "_law_columns_here", "_law_sort"]) : Def P w K mg base "_law_bad" 5 ["_law_pen", "_law_columns_here", "_law_sort"] w_law_bad := by
  refine defD F sc_law_bad (fun ds k Q x ⟨cs, k', _, e, _⟩ => by rw [e]; rfl) fun f cdv Ar outer s H E p G hg hr => ⟨_, (dss_cons (ds_set (i := 3) (de_bi lenD.mono fitsLen call_len_seq (da_cons (de_var (pv 1)) da_nil) T.z_len) sc_law_bad.nd)
    (dss_cons (ds_set (i := 4) (de_lst (da_cons (de_tup (da_cons (de_tup da_nil) (da_cons (de_var (pv 3)) (da_cons de_non da_nil)))) (da_cons (de_tup (da_cons (de_tup (da_cons (de_tup (da_cons de_int (da_cons de_non da_nil))) da_nil)) (da_cons de_int (da_cons de_non da_nil)))) (da_cons (de_tup (da_cons (de_tup (da_cons (de_tup (da_cons (de_var (pv 3)) (da_cons de_int da_nil))) da_nil)) (da_cons de_int (da_cons de_non da_nil)))) (da_cons (de_tup (da_cons (de_lst da_nil) (da_cons de_int (da_cons de_non da_nil)))) (da_cons (de_tup (da_cons (de_tup da_nil) (da_cons de_int da_nil))) (da_cons (de_tup (da_cons (de_tup da_nil) (da_cons de_int (da_cons (de_neg de_int) da_nil)))) da_nil))))))) sc_law_bad.nd)
    (dss_cons (ds_set (i := 4) (de_bin op_addA addD.mono fitsAdd (de_var (pv 4)) (de_lst (da_cons (de_tup (da_cons (de_tup da_nil) (da_cons de_int (da_cons de_bl da_nil)))) (da_cons (de_tup (da_cons (de_tup da_nil) (da_cons de_bl (da_cons de_non da_nil)))) (da_cons (de_tup (da_cons (de_tup (da_cons (de_tup (da_cons de_int (da_cons (de_neg de_int) da_nil))) da_nil)) (da_cons (de_bin op_sub subD.mono fitsSub (de_var (pv 3)) de_int) (da_cons de_non da_nil)))) (da_cons (de_tup (da_cons (de_tup da_nil) (da_cons de_int (da_cons de_non (da_cons de_int da_nil))))) (da_cons (de_lst (da_cons (de_tup da_nil) (da_cons de_int (da_cons de_non da_nil)))) da_nil))))))) sc_law_bad.nd)
    (dss_cons (ds_par (i := 5) (j := 6) rfl sc_law_bad.nd (de_fn d_law_lacking m_law_lacking hg hr (takes_of rfl rfl rfl rfl) (da_cons (de_var (pv 0)) (da_cons (de_var (pv 1)) da_nil))) (de_tup (da_cons (de_tup da_nil) (da_cons de_int (da_cons de_non da_nil)))) (by decide) (by rfl))
    (dss_cons (ds_set (i := 7) (de_fn d_law_one m_law_one hg hr (takes_of rfl rfl rfl rfl) (da_cons (de_var (pv 0)) (da_cons (de_lst (da_cons (de_fn d_law_one m_law_one hg hr (takes_of rfl rfl rfl rfl) (da_cons (de_var (pv 0)) (da_cons (de_var (pv 4)) da_nil))) (da_cons (de_var (pv 5)) da_nil))) da_nil))) sc_law_bad.nd)
    (dss_cons (ds_if (dt_cmp (op_eqA hr.units) eqD.mono fitsEq (de_var (pv 2)) de_str)
    (dss_one (ds_ret (de_fn d_law_one m_law_one hg hr (takes_of rfl rfl rfl rfl) (da_cons (de_var (pv 0)) (da_cons (de_lst (da_cons (de_var (pv 7)) (da_cons (de_var (pv 7)) (da_cons (de_var (pv 7)) (da_cons de_non (da_cons (de_tup da_nil) (da_cons de_int (da_cons de_str (da_cons (de_tup (da_cons (de_var (pv 7)) da_nil)) da_nil))))))))) da_nil)))))
    dss_nil)
    (dss_cons (ds_if (dt_cmp (op_eqA hr.units) eqD.mono fitsEq (de_var (pv 2)) de_str)
    (dss_cons (ds_set (i := 8) (de_lst (da_cons (de_tup (da_cons (de_var (pv 7)) da_nil)) (da_cons (de_tup (da_cons (de_var (pv 6)) (da_cons (de_var (pv 7)) da_nil))) (da_cons (de_tup (da_cons (de_var (pv 7)) (da_cons (de_var (pv 6)) da_nil))) (da_cons (de_tup (da_cons (de_var (pv 6)) (da_cons (de_var (pv 6)) (da_cons (de_var (pv 7)) da_nil)))) (da_cons (de_bin op_mulA mulD.mono fitsMul (de_tup (da_cons (de_var (pv 6)) da_nil)) de_int) (da_cons (de_lst (da_cons (de_var (pv 6)) da_nil)) (da_cons de_non (da_cons de_bl (da_cons (de_var (pv 7)) da_nil)))))))))) sc_law_bad.nd)
    (dss_one (ds_ret (de_fn d_law_one m_law_one hg hr (takes_of rfl rfl rfl rfl) (da_cons (de_var (pv 0)) (da_cons (de_bin op_addA addD.mono fitsAdd (de_var (pv 8)) (de_lst (da_cons (de_tup (da_cons (de_var (pv 5)) da_nil)) (da_cons (de_tup (da_cons (de_var (pv 6)) (da_cons (de_var (pv 5)) da_nil))) da_nil)))) da_nil))))))
    dss_nil)
    (dss_cons (ds_if (dt_cmp (op_eqA hr.units) eqD.mono fitsEq (de_var (pv 2)) de_str)
    (dss_cons (ds_set (i := 9) (de_lst (da_cons (de_tup (da_cons (de_tup (da_cons (de_var (pv 3)) (da_cons de_int da_nil))) da_nil)) (da_cons (de_tup (da_cons (de_tup (da_cons de_int (da_cons (de_neg de_int) da_nil))) da_nil)) (da_cons (de_tup (da_cons (de_tup (da_cons de_int (da_cons de_int (da_cons de_int da_nil)))) da_nil)) (da_cons (de_tup (da_cons (de_tup (da_cons de_int (da_cons de_bl da_nil))) da_nil)) (da_cons (de_lst (da_cons (de_tup (da_cons de_int (da_cons de_non da_nil))) da_nil)) (da_cons (de_tup (da_cons (de_tup (da_cons de_int (da_cons de_non da_nil))) (da_cons (de_tup (da_cons de_int (da_cons de_non da_nil))) da_nil))) (da_cons de_non (da_cons de_int da_nil))))))))) sc_law_bad.nd)
    (dss_cons (ds_set (i := 9) (de_bin op_addA addD.mono fitsAdd (de_var (pv 9)) (de_lst (da_cons (de_tup (da_cons (de_lst (da_cons de_int (da_cons de_non da_nil))) da_nil)) (da_cons (de_tup (da_cons (de_tup (da_cons (de_bin op_sub subD.mono fitsSub (de_var (pv 3)) de_int) (da_cons de_non da_nil))) (da_cons (de_tup (da_cons (de_neg de_int) (da_cons de_non da_nil))) da_nil))) (da_cons (de_tup (da_cons (de_tup (da_cons de_bl (da_cons de_non da_nil))) da_nil)) (da_cons (de_tup (da_cons de_int (da_cons de_non da_nil))) (da_cons de_str da_nil))))))) sc_law_bad.nd)
    (dss_cons (ds_if (DW.dt (dw_and (dt_cmp (op_neA hr.units) neD.mono fitsNe (de_idx (de_var (pv 5)) de_int) (de_tup da_nil)) (dw_and1 (dt_isN (de_idx (de_var (pv 5)) de_int)))))
    (dss_one (ds_set (i := 9) (de_bin op_addA addD.mono fitsAdd (de_var (pv 9)) (de_bin op_mulA mulD.mono fitsMul (de_lst (da_cons (de_idx (de_var (pv 5)) de_int) da_nil)) de_int)) sc_law_bad.nd))
    dss_nil)
    (dss_one (ds_ret (de_fn d_law_one m_law_one hg hr (takes_of rfl rfl rfl rfl) (da_cons (de_var (pv 0)) (da_cons (de_var (pv 9)) da_nil))))))))
    dss_nil)
    (dss_cons (ds_set (i := 9) (de_lst (da_cons (de_tup da_nil) (da_cons (de_lst (da_cons (de_tup (da_cons (de_tup da_nil) (da_cons (de_tup (da_cons de_int da_nil)) da_nil))) da_nil)) (da_cons (de_tup (da_cons (de_tup (da_cons (de_tup da_nil) (da_cons (de_tup da_nil) da_nil))) da_nil)) (da_cons (de_tup (da_cons (de_tup (da_cons (de_tup da_nil) (da_cons (de_lst (da_cons de_int da_nil)) da_nil))) da_nil)) (da_cons (de_tup (da_cons (de_tup (da_cons (de_tup da_nil) (da_cons (de_tup (da_cons de_int (da_cons de_int da_nil))) da_nil))) da_nil)) (da_cons (de_tup (da_cons (de_tup (da_cons (de_tup da_nil) (da_cons (de_tup (da_cons (de_var (pv 3)) da_nil)) da_nil))) da_nil)) (da_cons (de_tup (da_cons (de_tup (da_cons (de_tup (da_cons (de_tup (da_cons de_int (da_cons de_non da_nil))) da_nil)) (da_cons (de_tup (da_cons de_int da_nil)) da_nil))) da_nil)) da_nil)))))))) sc_law_bad.nd)
    (dss_cons (ds_set (i := 9) (de_bin op_addA addD.mono fitsAdd (de_var (pv 9)) (de_lst (da_cons (de_bin op_mulA mulD.mono fitsMul (de_tup (da_cons (de_tup (da_cons (de_tup da_nil) (da_cons (de_tup (da_cons de_int da_nil)) da_nil))) da_nil)) de_int) (da_cons (de_tup (da_cons (de_tup (da_cons (de_tup da_nil) (da_cons (de_tup (da_cons de_int da_nil)) da_nil))) (da_cons (de_tup (da_cons (de_tup da_nil) (da_cons (de_tup (da_cons de_int (da_cons de_int da_nil))) da_nil))) da_nil))) (da_cons (de_tup (da_cons (de_tup (da_cons (de_tup (da_cons (de_tup (da_cons de_int (da_cons (de_neg de_int) da_nil))) da_nil)) (da_cons (de_tup (da_cons de_int da_nil)) da_nil))) da_nil)) (da_cons (de_tup (da_cons (de_tup (da_cons (de_lst da_nil) (da_cons (de_tup (da_cons de_int da_nil)) da_nil))) da_nil)) (da_cons (de_tup (da_cons (de_tup da_nil) da_nil)) da_nil))))))) sc_law_bad.nd)
    (dss_cons (ds_set (i := 9) (de_bin op_addA addD.mono fitsAdd (de_var (pv 9)) (de_lst (da_cons (de_tup (da_cons (de_tup (da_cons (de_tup da_nil) da_nil)) da_nil)) (da_cons de_non da_nil)))) sc_law_bad.nd)
    (dss_cons (ds_if (DW.dt (dw_and (dt_cmp (op_neA hr.units) neD.mono fitsNe (de_idx (de_var (pv 5)) de_int) (de_tup da_nil)) (dw_and1 (dt_isN (de_idx (de_var (pv 5)) de_int)))))
    (dss_one (ds_set (i := 9) (de_bin op_addA addD.mono fitsAdd (de_var (pv 9)) (de_bin op_mulA mulD.mono fitsMul (de_lst (da_cons (de_tup (da_cons (de_tup (da_cons (de_idx (de_var (pv 5)) de_int) (da_cons (de_tup (da_cons de_int da_nil)) da_nil))) da_nil)) (da_cons (de_tup (da_cons (de_tup (da_cons (de_tup da_nil) (da_cons (de_tup (da_cons de_int da_nil)) da_nil))) (da_cons (de_tup (da_cons (de_idx (de_var (pv 5)) de_int) (da_cons (de_tup (da_cons de_int da_nil)) da_nil))) da_nil))) da_nil))) de_int)) sc_law_bad.nd))
    dss_nil)
    (dss_one (ds_ret (de_fn d_law_one m_law_one hg hr (takes_of rfl rfl rfl rfl) (da_cons (de_var (pv 0)) (da_cons (de_bin op_addA addD.mono fitsAdd (de_var (pv 9)) (de_lst (da_cons (de_tup (da_cons (de_tup (da_cons (de_tup (da_cons (de_tup (da_cons (de_var (pv 3)) (da_cons de_int da_nil))) da_nil)) (da_cons (de_tup (da_cons de_int da_nil)) da_nil))) da_nil)) (da_cons (de_tup (da_cons (de_tup (da_cons (de_tup da_nil) (da_cons (de_tup (da_cons de_bl da_nil)) da_nil))) da_nil)) (da_cons (de_tup (da_cons (de_tup (da_cons (de_tup da_nil) (da_cons (de_tup (da_cons de_int da_nil)) (da_cons de_int da_nil)))) da_nil)) (da_cons de_int (da_cons de_str (da_cons (de_tup (da_cons (de_tup da_nil) (da_cons (de_tup (da_cons de_int da_nil)) da_nil))) da_nil)))))))) da_nil))))))))))))))))), ?_⟩
  rintro ds n Q x ⟨cs, k', z, rfl, rfl, hc, q⟩
  obtain ⟨_, e, h1, h2, h3, h4⟩ := id hc
  cases e
  refine cutSeq (fun e' => e' = ⟨[.dat penD, .dat (.tuple cs), .dat (.str z), .dat (.int cs.length), .un, .un, .un, .un, .un, .un], k' + 4⟩) ?_ ?_
  rotate_left 1
  · intro Z hZ
    simp (decide := true) only [wRet, wSet, wSeq, wNext, wDrop, wIfS, wTest, wAnd, wOr, wNot, wIf, wBin, wVar, wC, wAndV, wOrV, wNotV, wIsN, wNotN, wNeg, wChain, wNil, wCons, wTup, wLst, wBi, wCall, wIsi, wSl, wSo, wNo, wSeqI, wFor, gNm, gTp, puts, wAsg, wPar, wMul, wmD, wmO, putsI, wAug, wTryIs, wRng1, wRng2, wEnum, wEnumT, wZip, wLc, wYes, wLend, wRel, wOwn, wApp, wIns, wSetIx, wLstF, wListF, wRepF, wAddF, wSlS, wParO, wRevT, wSortedSet, wSortedSetL, wSortedSetT, wKeys, weI, wExt, allD, wMt, wRaise, wSeqO, wCallF, plainO, wCallA, wIdx0, wAnF, wSetA, wUnA, wSeqA, plainA, wFld, wFldO, wMake, wLRg, Ans.data, Ans.own.injEq, Ans.tup.injEq, Ans.dat.injEq, wTry, wTryM, wHs, wIsC, enOf, put, putUn, defEnds, lendE, lend, wipeE, hide, lenD, intD, listD, tupleD, reprD, wPen0, wPen1, wPen2, wPenS1, wPenS2, penAt, List.map_cons, List.map_nil, List.length_cons, List.length_nil, List.nil_append, List.cons_append, Nat.reduceAdd, Nat.reduceSub, Nat.reduceLeDiff, Nat.zero_add, List.replicate_zero, List.replicate_succ, List.getElem?_cons_zero, List.getElem?_cons_succ, List.set_cons_zero, List.set_cons_succ, Option.some.injEq, Slot.dat.injEq, Slot.own.injEq, PyData.bool.injEq, PyData.int.injEq, PyData.tuple.injEq, PyData.list.injEq, exists_eq_left', exists_eq_left, and_true, true_and, if_true, if_false, Bool.false_eq_true, reduceCtorEq, List.mapIdx_cons, List.mapIdx_nil]
    exact hZ _ rfl
  rintro e' rfl
  refine cutSeq (fun e' => e' = ⟨[.dat penD, .dat (.tuple cs), .dat (.str z), .dat (.int cs.length), .dat (.list ((wrongL cs.length).take 6)), .un, .un, .un, .un, .un], k' + 4⟩) ?_ ?_
  rotate_left 1
  · intro Z hZ
    simp (decide := true) only [wRet, wSet, wSeq, wNext, wDrop, wIfS, wTest, wAnd, wOr, wNot, wIf, wBin, wVar, wC, wAndV, wOrV, wNotV, wIsN, wNotN, wNeg, wChain, wNil, wCons, wTup, wLst, wBi, wCall, wIsi, wSl, wSo, wNo, wSeqI, wFor, gNm, gTp, puts, wAsg, wPar, wMul, wmD, wmO, putsI, wAug, wTryIs, wRng1, wRng2, wEnum, wEnumT, wZip, wLc, wYes, wLend, wRel, wOwn, wApp, wIns, wSetIx, wLstF, wListF, wRepF, wAddF, wSlS, wParO, wRevT, wSortedSet, wSortedSetL, wSortedSetT, wKeys, weI, wExt, allD, wMt, wRaise, wSeqO, wCallF, plainO, wCallA, wIdx0, wAnF, wSetA, wUnA, wSeqA, plainA, wFld, wFldO, wMake, wLRg, Ans.data, Ans.own.injEq, Ans.tup.injEq, Ans.dat.injEq, wTry, wTryM, wHs, wIsC, enOf, put, putUn, defEnds, lendE, lend, wipeE, hide, lenD, intD, listD, tupleD, reprD, wPen0, wPen1, wPen2, wPenS1, wPenS2, penAt, List.map_cons, List.map_nil, List.length_cons, List.length_nil, List.nil_append, List.cons_append, Nat.reduceAdd, Nat.reduceSub, Nat.reduceLeDiff, Nat.zero_add, List.replicate_zero, List.replicate_succ, List.getElem?_cons_zero, List.getElem?_cons_succ, List.set_cons_zero, List.set_cons_succ, Option.some.injEq, Slot.dat.injEq, Slot.own.injEq, PyData.bool.injEq, PyData.int.injEq, PyData.tuple.injEq, PyData.list.injEq, exists_eq_left', exists_eq_left, and_true, true_and, if_true, if_false, Bool.false_eq_true, reduceCtorEq, List.mapIdx_cons, List.mapIdx_nil]
    exact hZ _ rfl
  rintro e' rfl
  refine cutSeq (fun e' => e' = ⟨[.dat penD, .dat (.tuple cs), .dat (.str z), .dat (.int cs.length), .dat (.list (wrongL cs.length)), .un, .un, .un, .un, .un], k' + 4⟩) ?_ ?_
  rotate_left 1
  · intro Z hZ
    simp (decide := true) only [wRet, wSet, wSeq, wNext, wDrop, wIfS, wTest, wAnd, wOr, wNot, wIf, wBin, wVar, wC, wAndV, wOrV, wNotV, wIsN, wNotN, wNeg, wChain, wNil, wCons, wTup, wLst, wBi, wCall, wIsi, wSl, wSo, wNo, wSeqI, wFor, gNm, gTp, puts, wAsg, wPar, wMul, wmD, wmO, putsI, wAug, wTryIs, wRng1, wRng2, wEnum, wEnumT, wZip, wLc, wYes, wLend, wRel, wOwn, wApp, wIns, wSetIx, wLstF, wListF, wRepF, wAddF, wSlS, wParO, wRevT, wSortedSet, wSortedSetL, wSortedSetT, wKeys, weI, wExt, allD, wMt, wRaise, wSeqO, wCallF, plainO, wCallA, wIdx0, wAnF, wSetA, wUnA, wSeqA, plainA, wFld, wFldO, wMake, wLRg, Ans.data, Ans.own.injEq, Ans.tup.injEq, Ans.dat.injEq, wTry, wTryM, wHs, wIsC, enOf, put, putUn, defEnds, lendE, lend, wipeE, hide, lenD, intD, listD, tupleD, reprD, wPen0, wPen1, wPen2, wPenS1, wPenS2, penAt, List.map_cons, List.map_nil, List.length_cons, List.length_nil, List.nil_append, List.cons_append, Nat.reduceAdd, Nat.reduceSub, Nat.reduceLeDiff, Nat.zero_add, List.replicate_zero, List.replicate_succ, List.getElem?_cons_zero, List.getElem?_cons_succ, List.set_cons_zero, List.set_cons_succ, Option.some.injEq, Slot.dat.injEq, Slot.own.injEq, PyData.bool.injEq, PyData.int.injEq, PyData.tuple.injEq, PyData.list.injEq, exists_eq_left', exists_eq_left, and_true, true_and, if_true, if_false, Bool.false_eq_true, reduceCtorEq, List.mapIdx_cons, List.mapIdx_nil, addD, subD]
    exact ⟨by rw [sizeLine_eq]; simp [wrongL], hZ _ rfl⟩
  rintro e' rfl
  refine cutSeq (fun e' => ∃ zs c v k1, e' = ⟨[.dat penD, .dat (.tuple cs), .dat (.str z), .dat (.int cs.length), .dat (.list (wrongL cs.length)), .dat (.tuple [.tuple (zs.map entD), .int c, v]), .dat goodR, .un, .un, .un], k1⟩ ∧ Lack cs zs c v ∧ k' + 3 ≤ k1) ?_ ?_
  rotate_left 1
  · intro Z hZ
    simp (decide := true) only [wRet, wSet, wSeq, wNext, wDrop, wIfS, wTest, wAnd, wOr, wNot, wIf, wBin, wVar, wC, wAndV, wOrV, wNotV, wIsN, wNotN, wNeg, wChain, wNil, wCons, wTup, wLst, wBi, wCall, wIsi, wSl, wSo, wNo, wSeqI, wFor, gNm, gTp, puts, wAsg, wPar, wMul, wmD, wmO, putsI, wAug, wTryIs, wRng1, wRng2, wEnum, wEnumT, wZip, wLc, wYes, wLend, wRel, wOwn, wApp, wIns, wSetIx, wLstF, wListF, wRepF, wAddF, wSlS, wParO, wRevT, wSortedSet, wSortedSetL, wSortedSetT, wKeys, weI, wExt, allD, wMt, wRaise, wSeqO, wCallF, plainO, wCallA, wIdx0, wAnF, wSetA, wUnA, wSeqA, plainA, wFld, wFldO, wMake, wLRg, Ans.data, Ans.own.injEq, Ans.tup.injEq, Ans.dat.injEq, wTry, wTryM, wHs, wIsC, enOf, put, putUn, defEnds, lendE, lend, wipeE, hide, lenD, intD, listD, tupleD, reprD, wPen0, wPen1, wPen2, wPenS1, wPenS2, penAt, List.map_cons, List.map_nil, List.length_cons, List.length_nil, List.nil_append, List.cons_append, Nat.reduceAdd, Nat.reduceSub, Nat.reduceLeDiff, Nat.zero_add, List.replicate_zero, List.replicate_succ, List.getElem?_cons_zero, List.getElem?_cons_succ, List.set_cons_zero, List.set_cons_succ, Option.some.injEq, Slot.dat.injEq, Slot.own.injEq, PyData.bool.injEq, PyData.int.injEq, PyData.tuple.injEq, PyData.list.injEq, exists_eq_left', exists_eq_left, and_true, true_and, if_true, if_false, Bool.false_eq_true, reduceCtorEq, List.mapIdx_cons, List.mapIdx_nil]
    exact ⟨cs, k' + 3, rfl, rfl, hc, fun zs c v k1 l hL => hZ _ ⟨zs, c, v, k1, rfl, hL, l⟩⟩
  rintro e' ⟨zs, c, v, k1, rfl, hL, l1⟩
  have nL := lack_notR hL
  obtain ⟨k1, rfl⟩ : ∃ k2, k1 = k2 + 2 := ⟨k1 - 2, by omega⟩
  refine cutSeq (fun e' => ∃ d k2, e' = ⟨[.dat penD, .dat (.tuple cs), .dat (.str z), .dat (.int cs.length), .dat (.list (wrongL cs.length)), .dat (.tuple [.tuple (zs.map entD), .int c, v]), .dat goodR, .dat d, .un, .un], k2⟩ ∧ NotR cs d ∧ k' + 1 ≤ k2) ?_ ?_
  rotate_left 1
  · intro Z hZ
    simp (decide := true) only [wRet, wSet, wSeq, wNext, wDrop, wIfS, wTest, wAnd, wOr, wNot, wIf, wBin, wVar, wC, wAndV, wOrV, wNotV, wIsN, wNotN, wNeg, wChain, wNil, wCons, wTup, wLst, wBi, wCall, wIsi, wSl, wSo, wNo, wSeqI, wFor, gNm, gTp, puts, wAsg, wPar, wMul, wmD, wmO, putsI, wAug, wTryIs, wRng1, wRng2, wEnum, wEnumT, wZip, wLc, wYes, wLend, wRel, wOwn, wApp, wIns, wSetIx, wLstF, wListF, wRepF, wAddF, wSlS, wParO, wRevT, wSortedSet, wSortedSetL, wSortedSetT, wKeys, weI, wExt, allD, wMt, wRaise, wSeqO, wCallF, plainO, wCallA, wIdx0, wAnF, wSetA, wUnA, wSeqA, plainA, wFld, wFldO, wMake, wLRg, Ans.data, Ans.own.injEq, Ans.tup.injEq, Ans.dat.injEq, wTry, wTryM, wHs, wIsC, enOf, put, putUn, defEnds, lendE, lend, wipeE, hide, lenD, intD, listD, tupleD, reprD, wPen0, wPen1, wPen2, wPenS1, wPenS2, penAt, List.map_cons, List.map_nil, List.length_cons, List.length_nil, List.nil_append, List.cons_append, Nat.reduceAdd, Nat.reduceSub, Nat.reduceLeDiff, Nat.zero_add, List.replicate_zero, List.replicate_succ, List.getElem?_cons_zero, List.getElem?_cons_succ, List.set_cons_zero, List.set_cons_succ, Option.some.injEq, Slot.dat.injEq, Slot.own.injEq, PyData.bool.injEq, PyData.int.injEq, PyData.tuple.injEq, PyData.list.injEq, exists_eq_left', exists_eq_left, and_true, true_and, if_true, if_false, Bool.false_eq_true, reduceCtorEq, List.mapIdx_cons, List.mapIdx_nil]
    refine ⟨_, wrongL cs.length, k1 + 1, rfl, rfl, rfl, by simp [wrongL], by simp [wrongL], fun r hr' k2 l2 => ?_⟩
    obtain ⟨k2, rfl⟩ : ∃ k3, k2 = k3 + 1 := ⟨k2 - 1, by omega⟩
    refine ⟨_, _, k2, rfl, rfl, rfl, by simp, by simp, fun r2 hr2 k3 l3 => hZ _ ⟨r2, k3, rfl, ?_, by omega⟩⟩
    simp only [List.mem_cons, List.not_mem_nil, or_false] at hr2
    rcases hr2 with rfl | rfl
    · exact wrong_notR h2 h3 _ hr'
    · exact nL
  rintro e' ⟨d, k2, rfl, nd, l2⟩
  obtain ⟨k2, rfl⟩ : ∃ k3, k2 = k3 + 1 := ⟨k2 - 1, by omega⟩
  have gz : ∀ z : Str, z = "rule" ∨ z = "rules" ∨ z = "given" ∨ z = "view" → Good (.str z) := fun z h => by
    rcases h with rfl | rfl | rfl | rfl <;> exact (by exact ⟨by decide +kernel, by decide +kernel, by decide +kernel⟩ : Ok 100 1 _).good
  have okg : Ok 22 3 goodR := by
    have : (fine goodR && decide (wt goodR ≤ 22) && decide (goodR.depth ≤ 3)) = true := by decide +kernel
    simp only [Bool.and_eq_true, decide_eq_true_eq] at this
    exact ⟨this.1.1, this.1.2, this.2⟩
  have okT : ∀ {xs : List D}, (∀ x ∈ xs, Ok 22 3 x) → xs.length ≤ 3 → Ok 200 6 (.tuple xs) := fun {xs} h hl => (Ok.tuple (n := 22) (m := 3) (k := 3) h hl).mono (by decide) (by decide)
  have okW : ∀ {d : D}, (fine d && decide (wt d ≤ 200) && decide (d.depth ≤ 6)) = true → Ok 200 6 d := fun {d} h => by
    simp only [Bool.and_eq_true,
          decide_eq_true_eq] at h
    exact ⟨h.1.1, h.1.2, h.2⟩
  simp (decide := true) only [wRet, wSet, wSeq, wNext, wDrop, wIfS, wTest, wAnd, wOr, wNot, wIf, wBin, wVar, wC, wAndV, wOrV, wNotV, wIsN, wNotN, wNeg, wChain, wNil, wCons, wTup, wLst, wBi, wCall, wIsi, wSl, wSo, wNo, wSeqI, wFor, gNm, gTp, puts, wAsg, wPar, wMul, wmD, wmO, putsI, wAug, wTryIs, wRng1, wRng2, wEnum, wEnumT, wZip, wLc, wYes, wLend, wRel, wOwn, wApp, wIns, wSetIx, wLstF, wListF, wRepF, wAddF, wSlS, wParO, wRevT, wSortedSet, wSortedSetL, wSortedSetT, wKeys, weI, wExt, allD, wMt, wRaise, wSeqO, wCallF, plainO, wCallA, wIdx0, wAnF, wSetA, wUnA, wSeqA, plainA, wFld, wFldO, wMake, wLRg, Ans.data, Ans.own.injEq, Ans.tup.injEq, Ans.dat.injEq, wTry, wTryM, wHs, wIsC, enOf, put, putUn, defEnds, lendE, lend, wipeE, hide, lenD, intD, listD, tupleD, reprD, wPen0, wPen1, wPen2, wPenS1, wPenS2, penAt, List.map_cons, List.map_nil, List.length_cons, List.length_nil, List.nil_append, List.cons_append, Nat.reduceAdd, Nat.reduceSub, Nat.reduceLeDiff, Nat.zero_add, List.replicate_zero, List.replicate_succ, List.getElem?_cons_zero, List.getElem?_cons_succ, List.set_cons_zero, List.set_cons_succ, Option.some.injEq, Slot.dat.injEq, Slot.own.injEq, PyData.bool.injEq, PyData.int.injEq, PyData.tuple.injEq, PyData.list.injEq, exists_eq_left', exists_eq_left, and_true, true_and, if_true, if_false, Bool.false_eq_true, reduceCtorEq, List.mapIdx_cons, List.mapIdx_nil, eqD, mulD, addD, subD, neD]
  rcases q with ⟨rfl, q⟩ | ⟨rfl, q⟩ | ⟨rfl, q⟩
  · refine ⟨.inr ⟨gz _ (.inl rfl), gz _ (.inl rfl)⟩, ?_⟩
    rw [if_pos (by decide +kernel)]
    refine ⟨_, _, k2, rfl, rfl, rfl, by simp, by simp, fun r hr' k3 l3 => ?_⟩
    simp only [List.mem_cons, List.not_mem_nil, or_false] at hr'
    have hd := q d k3 (by omega) nd.rule (nd.ok.mono (by decide) (by decide))
    rcases hr' with rfl | rfl | rfl | rfl | rfl | rfl | rfl | rfl
    · exact hd
    · exact hd
    · exact hd
    · exact q _ k3 (by omega) rfl (okW (by decide +kernel))
    · exact q _ k3 (by omega) rfl (okW (by decide +kernel))
    · exact q _ k3 (by omega) rfl (okW (by decide +kernel))
    · exact q _ k3 (by omega) rfl (okW (by decide +kernel))
    · exact q _ k3 (by omega) (by cases d <;> rfl) (okT (fun x hx => by rw [List.mem_singleton.mp hx]; exact nd.ok) (by simp))
  · refine ⟨.inr ⟨gz _ (.inr (.inl rfl)), gz _ (.inl rfl)⟩, ?_⟩
    rw [if_neg
          (by decide +kernel)]
    refine ⟨.inr ⟨gz _ (.inr (.inl rfl)), gz _ (.inr (.inl rfl))⟩, ?_⟩
    rw [if_pos (by decide +kernel)]
    refine ⟨_, _, k2, rfl, rfl, rfl, by simp, by simp, fun r hr' k3 l3 => ?_⟩
    simp only [List.mem_cons, List.not_mem_nil, or_false] at hr'
    rcases hr' with rfl | rfl | rfl | rfl | rfl | rfl | rfl | rfl | rfl | rfl | rfl
    · exact q _ k3 (by omega) (rulsB_mem (d := d) (by simp) nd.rule) (okT (by simp [nd.ok, okg]) (by simp))
    · exact q _ k3 (by omega) (rulsB_mem (d := d) (by simp) nd.rule) (okT (by simp [nd.ok, okg]) (by simp))
    · exact q _ k3 (by omega) (rulsB_mem (d := d) (by simp) nd.rule) (okT (by simp [nd.ok, okg]) (by simp))
    · exact q _ k3 (by omega) (rulsB_mem (d := d) (by simp) nd.rule) (okT (by simp [nd.ok, okg]) (by simp))
    · exact q _ k3 (by omega) (by simp [rulsB]) (okW (by decide +kernel))
    · exact q _ k3 (by omega) rfl (okW (by decide +kernel))
    · exact q _ k3 (by omega) rfl (okW (by decide +kernel))
    · exact q _ k3 (by omega) rfl (okW (by decide +kernel))
    · exact q _ k3 (by omega) nd.rules (nd.ok.mono (by decide) (by decide))
    · exact q _ k3 (by omega) (rulsB_mem (List.mem_singleton.mpr rfl) nL.rule) (okT (by simp [nL.ok, okg]) (by simp))
    · exact q _ k3 (by omega) (rulsB_mem (List.mem_cons_of_mem _ (List.mem_singleton.mpr rfl)) nL.rule) (okT (by simp [nL.ok, okg]) (by simp))
  · refine ⟨.inr ⟨gz _ (.inr (.inr (.inr rfl))), gz _ (.inl rfl)⟩, ?_⟩
    rw [if_neg
          (by decide +kernel)]
    refine ⟨.inr ⟨gz _ (.inr (.inr (.inr rfl))), gz _ (.inr (.inl rfl))⟩, ?_⟩
    rw [if_neg
          (by decide +kernel)]
    refine ⟨.inr ⟨gz _ (.inr (.inr (.inr rfl))), gz _ (.inr (.inr (.inl rfl)))⟩, ?_⟩
    rw [if_neg
          (by decide +kernel)]
    have gg : Good (.tuple (zs.map entD)) := (hL.ok.good.in_tuple (.tuple (zs.map entD)) (by simp)).mono (Nat.le_refl _) (by decide)
    have gn : Good (.tuple []) := (by exact ⟨by decide +kernel, by decide +kernel, by decide +kernel⟩ : Ok 1 1 (.tuple [])).good
    have near : ∀ r, r ∈ nearV cs.length ∨ r ∈ nearW cs.length → ∀ k3, k2 ≤ k3 → Q r k3 := fun r hr' k3 l3 => by
      obtain ⟨a, b⟩ := nearV_no h2 h3 r hr'
      exact q r k3 (by omega) a b
    obtain ⟨lz, elz⟩ : ∃ lz, lz = PyData.tuple (zs.map entD) := ⟨_, rfl⟩
    have olz : Ok 22 3 lz := by rw [elz]; exact hL.ok.in_tuple (.tuple (zs.map entD)) (by simp)
    have ok0 : Ok 22 3 k0 := by
      have : (fine k0 && decide (wt k0 ≤ 22) && decide (k0.depth ≤ 3)) = true := by decide +kernel
      simp only [Bool.and_eq_true, decide_eq_true_eq] at this
      exact ⟨this.1.1, this.1.2, this.2⟩
    have onn : Ok 22 3 (.tuple []) := by
      have : (fine (.tuple []) && decide (wt (.tuple []) ≤ 22) && decide ((PyData.tuple []).depth ≤ 3)) = true := by decide +kernel
      simp only [Bool.and_eq_true, decide_eq_true_eq] at this
      exact ⟨this.1.1, this.1.2, this.2⟩
    have okb : ∀ {g : D}, Ok 22 3 g → Ok 45 4 (brT g k0) := fun {g} h => Ok.tuple (n := 22) (m := 3) (k := 2) (fun x hx => by
      simp only [List.mem_cons,
            List.not_mem_nil, or_false] at hx
      rcases hx with rfl | rfl
      · exact h
      · exact ok0) (by simp)
    have okv : ∀ {xs : List D}, (∀ x ∈ xs, Ok 45 4 x) → xs.length ≤ 2 → Ok 200 6 (.tuple xs) := fun {xs} h hl => (Ok.tuple (n := 45) (m := 4) (k := 2) h hl).mono (by decide) (by decide)
    have fin : ∀ (xs : List D) (hx : ∀ r ∈ xs, (r ∈ nearV cs.length ∨ r ∈ nearW cs.length) ∨ ((r = .tuple [brT lz k0] ∨ r = .tuple [brT (.tuple []) k0, brT lz k0]) ∧ zs ≠ [] ∧ v = .none)), xs ≠ [] → xs.length ≤ 100 → w_law_one [penD, .list xs] (k2 + 1) (fun d k' => Q d k') fun y k' => x y k' := fun xs hx hne hl => by
      refine ⟨_, xs, k2, rfl, rfl, rfl, hne, by omega, fun r hr' k3 l3 => ?_⟩
      rcases hx r hr' with h | ⟨h, h', h''⟩
      · exact near r h k3 l3
      · have hb : branchB cs (brT lz k0) = false := by
          have := hL.giv h'' h'
          rw [elz]
          show (givL cs (-1) (zs.map entD) && _) = false
          have e : givL cs (-1) (zs.map entD) = false := this
          rw [e, Bool.false_and]
        rcases h with rfl | rfl
        · exact q _ k3 (by omega) (viewB_mem (by simp) hb) (okv (fun x hx => by rw [List.mem_singleton.mp hx]; exact okb olz) (by simp))
        · refine q _ k3 (by omega) (viewB_mem (b := brT lz k0) (by simp) hb) (okv (fun x hx => ?_) (by simp))
          simp only [List.mem_cons,
                List.not_mem_nil, or_false] at hx
          rcases hx with rfl | rfl
          · exact okb onn
          · exact okb olz
    have mN : ∀ r ∈ nearV cs.length ++ nearW cs.length, (r ∈ nearV cs.length ∨ r ∈ nearW cs.length) ∨ ((r = .tuple [brT lz k0] ∨ r = .tuple [brT (.tuple []) k0, brT lz k0]) ∧ zs ≠ [] ∧ v = .none) := fun r hr' => .inl (List.mem_append.mp hr')
    refine ⟨_, atI_c0, .inr ⟨gg, gn⟩, ?_⟩
    cases zs with
    | nil =>
      rw [if_neg (by decide)]
      exact fin (nearV cs.length ++ nearW cs.length) mN (by simp [nearV]) (by simp [nearV, nearW])
    | cons z0 zs =>
      rw [if_pos (by simp [PyData.eqv, PyData.eqvAll])]
      refine ⟨_, atI_c2, ?_⟩
      by_cases hv : isN v = true
      case neg =>
        refine (if_neg hv).mpr ?_
        exact fin (nearV cs.length ++ nearW cs.length) mN (by simp [nearV]) (by simp [nearV, nearW])
      case pos =>
        refine (if_pos hv).mpr ?_
        refine ⟨_, atI_c0, _, atI_c0, by rw [sizeLine_eq]; simp, by rw [sizeLine_eq]; simp, ?_⟩
        rw [← elz]
        refine fin (nearV cs.length ++ ([.tuple [brT lz k0], .tuple [brT (.tuple []) k0, brT lz k0], .tuple [brT lz k0], .tuple [brT (.tuple []) k0, brT lz k0]] ++ nearW cs.length)) (fun r hr' => ?_) (by simp [nearV]) (by simp [nearV, nearW])
        rcases List.mem_append.mp hr' with h | h
        · exact .inl (.inl h)
        · rcases List.mem_append.mp
              h with h | h
          · refine .inr ⟨?_, by simp, isN_none hv⟩
            simp only [List.mem_cons, List.not_mem_nil, or_false] at h
            rcases h with h | h | h | h
            · exact .inl h
            · exact .inr h
            · exact .inl h
            · exact .inr h
          · exact .inl (.inr h)
end
end L2.DL.K30
namespace L2.DL.K30
open PySem PySem.Spec
      PyProof.Rows
/-! ### the word of an error -/
section
variable {P : Program} {w : World} {K : PySem.W.Frag} {mg : Str → Option Value} {base : Heap} {A : Cls}
def w_law_refusal (A : Cls) : Wc := fun ds k Q _ => ∃ (C : Addr) (wd : Str), ds = [excD C] ∧ ((C = A.InvalidColumns ∧ wd = "columns") ∨ (C = A.InvalidView ∧ wd = "view") ∨ (C = A.InvalidTable ∧ wd = "table")) ∧ Q (.str wd) k
theorem m_law_refusal {A : Cls} : Wc.Mono (w_law_refusal A) := fun ds k Q Q' x x' h1 _ ⟨C, wd, e, c, q⟩ => ⟨C, wd, e, c, h1 _ _ q⟩
theorem d_law_refusal (T : Txt K mg A) (F : FunAt K mg "_law_refusal" s_law_refusal ["_law_caught"]) : Def P w K mg base "_law_refusal" 1 ["_law_caught"] (w_law_refusal A) := by
  refine defD F sc_law_refusal (fun ds k Q x ⟨cs, k', e, _⟩ => by rw [e]; rfl) fun f cdv Ar outer s H E p G hg hr => ⟨_, (dss_cons (ds_set (i := 1) (de_lst (da_cons (de_isC (c := .ref A.InvalidColumns) (cv := .ref A.InvalidColumns) (de_var (pv 0)) T.z_isinstance (by exact pe_glob (v := .ref A.InvalidColumns) rfl T.g_InvalidColumns rfl) (fun _ r => r)) (da_cons (de_isC (c := .ref A.InvalidRow) (cv := .ref A.InvalidRow) (de_var (pv 0)) T.z_isinstance (by exact pe_glob (v := .ref A.InvalidRow) rfl T.g_InvalidRow rfl) (fun _ r => r)) (da_cons (de_isC (c := .ref A.InvalidTable) (cv := .ref A.InvalidTable) (de_var (pv 0)) T.z_isinstance (by exact pe_glob (v := .ref A.InvalidTable) rfl T.g_InvalidTable rfl) (fun _ r => r)) da_nil)))) sc_law_refusal.nd)
    (dss_cons (ds_set (i := 1) (de_bin op_addA addD.mono fitsAdd (de_var (pv 1)) (de_lst (da_cons (de_isC (c := .ref A.InvalidRule) (cv := .ref A.InvalidRule) (de_var (pv 0)) T.z_isinstance (by exact pe_glob (v := .ref A.InvalidRule) rfl T.g_InvalidRule rfl) (fun _ r => r)) (da_cons (de_isC (c := .ref A.InvalidRules) (cv := .ref A.InvalidRules) (de_var (pv 0)) T.z_isinstance (by exact pe_glob (v := .ref A.InvalidRules) rfl T.g_InvalidRules rfl) (fun _ r => r)) da_nil)))) sc_law_refusal.nd)
    (dss_cons (ds_set (i := 1) (de_bin op_addA addD.mono fitsAdd (de_var (pv 1)) (de_lst (da_cons (de_isC (c := .ref A.InvalidGiven) (cv := .ref A.InvalidGiven) (de_var (pv 0)) T.z_isinstance (by exact pe_glob (v := .ref A.InvalidGiven) rfl T.g_InvalidGiven rfl) (fun _ r => r)) (da_cons (de_isC (c := .ref A.InvalidCells) (cv := .ref A.InvalidCells) (de_var (pv 0)) T.z_isinstance (by exact pe_glob (v := .ref A.InvalidCells) rfl T.g_InvalidCells rfl) (fun _ r => r)) da_nil)))) sc_law_refusal.nd)
    (dss_cons (ds_set (i := 1) (de_bin op_addA addD.mono fitsAdd (de_var (pv 1)) (de_lst (da_cons (de_isC (c := .ref A.InvalidView) (cv := .ref A.InvalidView) (de_var (pv 0)) T.z_isinstance (by exact pe_glob (v := .ref A.InvalidView) rfl T.g_InvalidView rfl) (fun _ r => r)) (da_cons (de_isC (c := .ref A.InvalidSettled) (cv := .ref A.InvalidSettled) (de_var (pv 0)) T.z_isinstance (by exact pe_glob (v := .ref A.InvalidSettled) rfl T.g_InvalidSettled rfl) (fun _ r => r)) da_nil)))) sc_law_refusal.nd)
    (dss_cons (ds_set (i := 1) (de_bin op_addA addD.mono fitsAdd (de_var (pv 1)) (de_lst (da_cons (de_isC (c := .ref A.InvalidNumber) (cv := .ref A.InvalidNumber) (de_var (pv 0)) T.z_isinstance (by exact pe_glob (v := .ref A.InvalidNumber) rfl T.g_InvalidNumber rfl) (fun _ r => r)) (da_cons (de_isC (c := .ref A.InvalidValue) (cv := .ref A.InvalidValue) (de_var (pv 0)) T.z_isinstance (by exact pe_glob (v := .ref A.InvalidValue) rfl T.g_InvalidValue rfl) (fun _ r => r)) da_nil)))) sc_law_refusal.nd)
    (dss_cons (ds_set (i := 1) (de_bin op_addA addD.mono fitsAdd (de_var (pv 1)) (de_lst (da_cons (de_isC (c := .ref A.NotAtPeace) (cv := .ref A.NotAtPeace) (de_var (pv 0)) T.z_isinstance (by exact pe_glob (v := .ref A.NotAtPeace) rfl T.g_NotAtPeace rfl) (fun _ r => r)) (da_cons (de_isC (c := .ref A.NotACertificate) (cv := .ref A.NotACertificate) (de_var (pv 0)) T.z_isinstance (by exact pe_glob (v := .ref A.NotACertificate) rfl T.g_NotACertificate rfl) (fun _ r => r)) da_nil)))) sc_law_refusal.nd)
    (dss_cons (ds_own (i := 2) (df_add (de_var (pv 1)) (de_lst (da_cons (de_isC (c := .ref A.InvalidMark) (cv := .ref A.InvalidMark) (de_var (pv 0)) T.z_isinstance (by exact pe_glob (v := .ref A.InvalidMark) rfl T.g_InvalidMark rfl) (fun _ r => r)) (da_cons (de_isC (c := .ref A.Full) (cv := .ref A.Full) (de_var (pv 0)) T.z_isinstance (by exact pe_glob (v := .ref A.Full) rfl T.g_Full rfl) (fun _ r => r)) (da_cons (de_isC (c := .ref A.Broken) (cv := .ref A.Broken) (de_var (pv 0)) T.z_isinstance (by exact pe_glob (v := .ref A.Broken) rfl T.g_Broken rfl) (fun _ r => r)) da_nil))))) sc_law_refusal.nd)
    (dss_cons (ds_append (i := 2) (de_isC (c := .ref A.AtWar) (cv := .ref A.AtWar) (de_var (pv 0)) T.z_isinstance (by exact pe_glob (v := .ref A.AtWar) rfl T.g_AtWar rfl) (fun _ r => r)) (pv 2))
    (dss_rel (dss_cons (ds_if (DW.dt (dw_or (dt_cmp (op_neA hr.units) neD.mono fitsNe (de_mt cntD.mono fitsCnt PySem.F.slot_list_count PySem.F.type_list_count mt_cntB (de_var (pv 2)) de_bl) de_int) (dw_or (dt_not (dt_val (de_isC (c := .ref A.RuleError) (cv := .ref A.RuleError) (de_var (pv 0)) T.z_isinstance (by exact pe_glob (v := .ref A.RuleError) rfl T.g_RuleError rfl) (fun _ r => r)))) (dw_or1 (dt_not (dt_val (de_isC (c := .ty "ValueError") (cv := .type "ValueError") (de_var (pv 0)) T.z_isinstance (by exact pe_bltn (v := .ty "ValueError") rfl T.z_ValueError (by decide +kernel) rfl) (fun _ r => r))))))))
    (dss_one (ds_ret de_str))
    dss_nil)
    (dss_cons (ds_set (i := 3) (de_lst (da_cons de_str (da_cons de_str (da_cons de_str (da_cons de_str (da_cons de_str (da_cons de_str (da_cons de_str (da_cons de_str (da_cons de_str (da_cons de_str (da_cons de_str da_nil)))))))))))) sc_law_refusal.nd)
    (dss_cons (ds_set (i := 4) (de_idx (de_bin op_addA addD.mono fitsAdd (de_var (pv 3)) (de_lst (da_cons de_str (da_cons de_str (da_cons de_str (da_cons de_str (da_cons de_str (da_cons de_str da_nil)))))))) (de_mt posD.mono fitsPos PySem.F.slot_list_index PySem.F.type_list_index mt_index (de_var (pv 2)) de_bl)) sc_law_refusal.nd)
    (dss_cons (ds_if (dt_cmp (op_inA (hr65 hr)) inD.mono fitsIn de_bl (de_var (pv 1)))
    (dss_one (ds_ret (de_var (pv 4))))
    dss_nil)
    dss_never))))))))))))), ?_⟩
  rintro ds n Q x ⟨C, wd, rfl, hc, q⟩
  rcases hc with ⟨rfl, rfl⟩ | ⟨rfl, rfl⟩ | ⟨rfl, rfl⟩
  · simp only [wRet, wSet, wSeq, wNext, wDrop, wIfS, wTest, wAnd, wOr, wNot, wIf, wBin, wVar, wC, wAndV, wOrV, wNotV, wIsN, wNotN, wNeg, wChain, wNil, wCons, wTup, wLst, wBi, wCall, wIsi, wSl, wSo, wNo, wSeqI, wFor, gNm, gTp, puts, wAsg, wPar, wMul, wmD, wmO, putsI, wAug, wTryIs, wRng1, wRng2, wEnum, wEnumT, wZip, wLc, wYes, wLend, wRel, wOwn, wApp, wIns, wSetIx, wLstF, wListF, wRepF, wAddF, wSlS, wParO, wRevT, wSortedSet, wSortedSetL, wSortedSetT, wKeys, weI, wExt, allD, wMt, wRaise, wSeqO, wCallF, plainO, wCallA, wIdx0, wAnF, wSetA, wUnA, wSeqA, plainA, wFld, wFldO, wMake, wLRg, Ans.data, Ans.own.injEq, Ans.tup.injEq, Ans.dat.injEq, wTry, wTryM, wHs, wIsC, enOf, put, putUn, defEnds, lendE, lend, wipeE, hide, lenD, intD, listD, tupleD, reprD, wPen0, wPen1, wPen2, wPenS1, wPenS2, penAt, List.map_cons, List.map_nil, List.length_cons, List.length_nil, List.nil_append, List.cons_append, Nat.reduceAdd, Nat.reduceSub, Nat.reduceLeDiff, Nat.zero_add, List.replicate_zero, List.replicate_succ, List.getElem?_cons_zero, List.getElem?_cons_succ, List.set_cons_zero, List.set_cons_succ, Option.some.injEq, Slot.dat.injEq, Slot.own.injEq, PyData.bool.injEq, PyData.int.injEq, PyData.tuple.injEq, PyData.list.injEq, exists_eq_left', exists_eq_left, and_true, true_and, if_true, if_false, Bool.false_eq_true, reduceCtorEq, List.mapIdx_cons, List.mapIdx_nil, addD]
    refine ⟨_, _, rfl, T.e_InvalidColumns, T.i_InvalidColumns_InvalidColumns, ?_⟩
    refine ⟨_, _, rfl, T.e_InvalidColumns, T.i_InvalidColumns_InvalidRow, ?_⟩
    refine ⟨_, _, rfl, T.e_InvalidColumns, T.i_InvalidColumns_InvalidTable, ?_⟩
    refine ⟨_, _, rfl, T.e_InvalidColumns, T.i_InvalidColumns_InvalidRule, ?_⟩
    refine ⟨_, _, rfl, T.e_InvalidColumns, T.i_InvalidColumns_InvalidRules, ?_⟩
    refine ⟨by rw [sizeLine_eq]; decide, ?_⟩
    refine ⟨_, _, rfl, T.e_InvalidColumns, T.i_InvalidColumns_InvalidGiven, ?_⟩
    refine ⟨_, _, rfl, T.e_InvalidColumns, T.i_InvalidColumns_InvalidCells, ?_⟩
    refine ⟨by rw [sizeLine_eq]; decide, ?_⟩
    refine ⟨_, _, rfl, T.e_InvalidColumns, T.i_InvalidColumns_InvalidView, ?_⟩
    refine ⟨_, _, rfl, T.e_InvalidColumns, T.i_InvalidColumns_InvalidSettled, ?_⟩
    refine ⟨by rw [sizeLine_eq]; decide, ?_⟩
    refine ⟨_, _, rfl, T.e_InvalidColumns, T.i_InvalidColumns_InvalidNumber, ?_⟩
    refine ⟨_, _, rfl, T.e_InvalidColumns, T.i_InvalidColumns_InvalidValue, ?_⟩
    refine ⟨by rw [sizeLine_eq]; decide, ?_⟩
    refine ⟨_, _, rfl, T.e_InvalidColumns, T.i_InvalidColumns_NotAtPeace, ?_⟩
    refine ⟨_, _, rfl, T.e_InvalidColumns, T.i_InvalidColumns_NotACertificate, ?_⟩
    refine ⟨by rw [sizeLine_eq]; decide, ?_⟩
    refine ⟨_, _, rfl, T.e_InvalidColumns, T.i_InvalidColumns_InvalidMark, ?_⟩
    refine ⟨_, _, rfl, T.e_InvalidColumns, T.i_InvalidColumns_Full, ?_⟩
    refine ⟨_, _, rfl, T.e_InvalidColumns, T.i_InvalidColumns_Broken, ?_⟩
    refine ⟨_, _, rfl, rfl, by rw [sizeLine_eq]; decide, ?_⟩
    dsimp only [List.cons_append, List.nil_append]
    refine ⟨⟨_, rfl⟩, _, _, rfl, T.e_InvalidColumns, T.i_InvalidColumns_AtWar, ?_⟩
    refine ⟨by decide, ⟨_, rfl⟩, [true, false, false, false, false, false, false, false, false, false, false, false, false, false, false, false, false], rfl, .inl rfl, _, rfl, ?_⟩
    rw [if_neg
          (by decide +kernel)]
    refine ⟨_, _, rfl, T.e_InvalidColumns, T.i_InvalidColumns_RuleError, ?_⟩
    rw [if_neg (by decide)]
    refine ⟨_, _, rfl, T.e_InvalidColumns, T.i_InvalidColumns_ValueError, ?_⟩
    rw [if_neg (by decide)]
    refine ⟨by rw [sizeLine_eq]; decide, ⟨_, rfl⟩, [true, false, false, false, false, false, false, false, false, false, false, false, false, false, false, false, false], 0, rfl, rfl, by decide, ?_⟩
    refine ⟨_, rfl, good_of (by decide +kernel), good_of (by decide +kernel), _, rfl, _, rfl, ?_⟩
    rw [if_pos (by decide +kernel)]
    exact q
  · simp only [wRet, wSet, wSeq, wNext, wDrop, wIfS, wTest, wAnd, wOr, wNot, wIf, wBin, wVar, wC, wAndV, wOrV, wNotV, wIsN, wNotN, wNeg, wChain, wNil, wCons, wTup, wLst, wBi, wCall, wIsi, wSl, wSo, wNo, wSeqI, wFor, gNm, gTp, puts, wAsg, wPar, wMul, wmD, wmO, putsI, wAug, wTryIs, wRng1, wRng2, wEnum, wEnumT, wZip, wLc, wYes, wLend, wRel, wOwn, wApp, wIns, wSetIx, wLstF, wListF, wRepF, wAddF, wSlS, wParO, wRevT, wSortedSet, wSortedSetL, wSortedSetT, wKeys, weI, wExt, allD, wMt, wRaise, wSeqO, wCallF, plainO, wCallA, wIdx0, wAnF, wSetA, wUnA, wSeqA, plainA, wFld, wFldO, wMake, wLRg, Ans.data, Ans.own.injEq, Ans.tup.injEq, Ans.dat.injEq, wTry, wTryM, wHs, wIsC, enOf, put, putUn, defEnds, lendE, lend, wipeE, hide, lenD, intD, listD, tupleD, reprD, wPen0, wPen1, wPen2, wPenS1, wPenS2, penAt, List.map_cons, List.map_nil, List.length_cons, List.length_nil, List.nil_append, List.cons_append, Nat.reduceAdd, Nat.reduceSub, Nat.reduceLeDiff, Nat.zero_add, List.replicate_zero, List.replicate_succ, List.getElem?_cons_zero, List.getElem?_cons_succ, List.set_cons_zero, List.set_cons_succ, Option.some.injEq, Slot.dat.injEq, Slot.own.injEq, PyData.bool.injEq, PyData.int.injEq, PyData.tuple.injEq, PyData.list.injEq, exists_eq_left', exists_eq_left, and_true, true_and, if_true, if_false, Bool.false_eq_true, reduceCtorEq, List.mapIdx_cons, List.mapIdx_nil, addD]
    refine ⟨_, _, rfl, T.e_InvalidView, T.i_InvalidView_InvalidColumns, ?_⟩
    refine ⟨_, _, rfl, T.e_InvalidView, T.i_InvalidView_InvalidRow, ?_⟩
    refine ⟨_, _, rfl, T.e_InvalidView, T.i_InvalidView_InvalidTable, ?_⟩
    refine ⟨_, _, rfl, T.e_InvalidView, T.i_InvalidView_InvalidRule, ?_⟩
    refine ⟨_, _, rfl, T.e_InvalidView, T.i_InvalidView_InvalidRules, ?_⟩
    refine ⟨by rw [sizeLine_eq]; decide, ?_⟩
    refine ⟨_, _, rfl, T.e_InvalidView, T.i_InvalidView_InvalidGiven, ?_⟩
    refine ⟨_, _, rfl, T.e_InvalidView, T.i_InvalidView_InvalidCells, ?_⟩
    refine ⟨by rw [sizeLine_eq]; decide, ?_⟩
    refine ⟨_, _, rfl, T.e_InvalidView, T.i_InvalidView_InvalidView, ?_⟩
    refine ⟨_, _, rfl, T.e_InvalidView, T.i_InvalidView_InvalidSettled, ?_⟩
    refine ⟨by rw [sizeLine_eq]; decide, ?_⟩
    refine ⟨_, _, rfl, T.e_InvalidView, T.i_InvalidView_InvalidNumber, ?_⟩
    refine ⟨_, _, rfl, T.e_InvalidView, T.i_InvalidView_InvalidValue, ?_⟩
    refine ⟨by rw [sizeLine_eq]; decide, ?_⟩
    refine ⟨_, _, rfl, T.e_InvalidView, T.i_InvalidView_NotAtPeace, ?_⟩
    refine ⟨_, _, rfl, T.e_InvalidView, T.i_InvalidView_NotACertificate, ?_⟩
    refine ⟨by rw [sizeLine_eq]; decide, ?_⟩
    refine ⟨_, _, rfl, T.e_InvalidView, T.i_InvalidView_InvalidMark, ?_⟩
    refine ⟨_, _, rfl, T.e_InvalidView, T.i_InvalidView_Full, ?_⟩
    refine ⟨_, _, rfl, T.e_InvalidView, T.i_InvalidView_Broken, ?_⟩
    refine ⟨_, _, rfl, rfl, by rw [sizeLine_eq]; decide, ?_⟩
    dsimp only [List.cons_append, List.nil_append]
    refine ⟨⟨_, rfl⟩, _, _, rfl, T.e_InvalidView, T.i_InvalidView_AtWar, ?_⟩
    refine ⟨by decide, ⟨_, rfl⟩, [false, false, false, false, false, false, false, true, false, false, false, false, false, false, false, false, false], rfl, .inl rfl, _, rfl, ?_⟩
    rw [if_neg
          (by decide +kernel)]
    refine ⟨_, _, rfl, T.e_InvalidView, T.i_InvalidView_RuleError, ?_⟩
    rw [if_neg (by decide)]
    refine ⟨_, _, rfl, T.e_InvalidView, T.i_InvalidView_ValueError, ?_⟩
    rw [if_neg (by decide)]
    refine ⟨by rw [sizeLine_eq]; decide, ⟨_, rfl⟩, [false, false, false, false, false, false, false, true, false, false, false, false, false, false, false, false, false], 7, rfl, rfl, by decide, ?_⟩
    refine ⟨_, rfl, good_of (by decide +kernel), good_of (by decide +kernel), _, rfl, _, rfl, ?_⟩
    rw [if_pos (by decide +kernel)]
    exact q
  · simp only [wRet, wSet, wSeq, wNext, wDrop, wIfS, wTest, wAnd, wOr, wNot, wIf, wBin, wVar, wC, wAndV, wOrV, wNotV, wIsN, wNotN, wNeg, wChain, wNil, wCons, wTup, wLst, wBi, wCall, wIsi, wSl, wSo, wNo, wSeqI, wFor, gNm, gTp, puts, wAsg, wPar, wMul, wmD, wmO, putsI, wAug, wTryIs, wRng1, wRng2, wEnum, wEnumT, wZip, wLc, wYes, wLend, wRel, wOwn, wApp, wIns, wSetIx, wLstF, wListF, wRepF, wAddF, wSlS, wParO, wRevT, wSortedSet, wSortedSetL, wSortedSetT, wKeys, weI, wExt, allD, wMt, wRaise, wSeqO, wCallF, plainO, wCallA, wIdx0, wAnF, wSetA, wUnA, wSeqA, plainA, wFld, wFldO, wMake, wLRg, Ans.data, Ans.own.injEq, Ans.tup.injEq, Ans.dat.injEq, wTry, wTryM, wHs, wIsC, enOf, put, putUn, defEnds, lendE, lend, wipeE, hide, lenD, intD, listD, tupleD, reprD, wPen0, wPen1, wPen2, wPenS1, wPenS2, penAt, List.map_cons, List.map_nil, List.length_cons, List.length_nil, List.nil_append, List.cons_append, Nat.reduceAdd, Nat.reduceSub, Nat.reduceLeDiff, Nat.zero_add, List.replicate_zero, List.replicate_succ, List.getElem?_cons_zero, List.getElem?_cons_succ, List.set_cons_zero, List.set_cons_succ, Option.some.injEq, Slot.dat.injEq, Slot.own.injEq, PyData.bool.injEq, PyData.int.injEq, PyData.tuple.injEq, PyData.list.injEq, exists_eq_left', exists_eq_left, and_true, true_and, if_true, if_false, Bool.false_eq_true, reduceCtorEq, List.mapIdx_cons, List.mapIdx_nil, addD]
    refine ⟨_, _, rfl, T.e_InvalidTable, T.i_InvalidTable_InvalidColumns, ?_⟩
    refine ⟨_, _, rfl, T.e_InvalidTable, T.i_InvalidTable_InvalidRow, ?_⟩
    refine ⟨_, _, rfl, T.e_InvalidTable, T.i_InvalidTable_InvalidTable, ?_⟩
    refine ⟨_, _, rfl, T.e_InvalidTable, T.i_InvalidTable_InvalidRule, ?_⟩
    refine ⟨_, _, rfl, T.e_InvalidTable, T.i_InvalidTable_InvalidRules, ?_⟩
    refine ⟨by rw [sizeLine_eq]; decide, ?_⟩
    refine ⟨_, _, rfl, T.e_InvalidTable, T.i_InvalidTable_InvalidGiven, ?_⟩
    refine ⟨_, _, rfl, T.e_InvalidTable, T.i_InvalidTable_InvalidCells, ?_⟩
    refine ⟨by rw [sizeLine_eq]; decide, ?_⟩
    refine ⟨_, _, rfl, T.e_InvalidTable, T.i_InvalidTable_InvalidView, ?_⟩
    refine ⟨_, _, rfl, T.e_InvalidTable, T.i_InvalidTable_InvalidSettled, ?_⟩
    refine ⟨by rw [sizeLine_eq]; decide, ?_⟩
    refine ⟨_, _, rfl, T.e_InvalidTable, T.i_InvalidTable_InvalidNumber, ?_⟩
    refine ⟨_, _, rfl, T.e_InvalidTable, T.i_InvalidTable_InvalidValue, ?_⟩
    refine ⟨by rw [sizeLine_eq]; decide, ?_⟩
    refine ⟨_, _, rfl, T.e_InvalidTable, T.i_InvalidTable_NotAtPeace, ?_⟩
    refine ⟨_, _, rfl, T.e_InvalidTable, T.i_InvalidTable_NotACertificate, ?_⟩
    refine ⟨by rw [sizeLine_eq]; decide, ?_⟩
    refine ⟨_, _, rfl, T.e_InvalidTable, T.i_InvalidTable_InvalidMark, ?_⟩
    refine ⟨_, _, rfl, T.e_InvalidTable, T.i_InvalidTable_Full, ?_⟩
    refine ⟨_, _, rfl, T.e_InvalidTable, T.i_InvalidTable_Broken, ?_⟩
    refine ⟨_, _, rfl, rfl, by rw [sizeLine_eq]; decide, ?_⟩
    dsimp only [List.cons_append, List.nil_append]
    refine ⟨⟨_, rfl⟩, _, _, rfl, T.e_InvalidTable, T.i_InvalidTable_AtWar, ?_⟩
    refine ⟨by decide, ⟨_, rfl⟩, [false, false, true, false, false, false, false, false, false, false, false, false, false, false, false, false, false], rfl, .inl rfl, _, rfl, ?_⟩
    rw [if_neg
          (by decide +kernel)]
    refine ⟨_, _, rfl, T.e_InvalidTable, T.i_InvalidTable_RuleError, ?_⟩
    rw [if_neg (by decide)]
    refine ⟨_, _, rfl, T.e_InvalidTable, T.i_InvalidTable_ValueError, ?_⟩
    rw [if_neg (by decide)]
    refine ⟨by rw [sizeLine_eq]; decide, ⟨_, rfl⟩, [false, false, true, false, false, false, false, false, false, false, false, false, false, false, false, false, false], 2, rfl, rfl, by decide, ?_⟩
    refine ⟨_, rfl, good_of (by decide +kernel), good_of (by decide +kernel), _, rfl, _, rfl, ?_⟩
    rw [if_pos (by decide +kernel)]
    exact q
end
end L2.DL.K30
-- simp: wLenS
namespace L2.DL.K30
open PySem PySem.Spec
      PyProof.Rows
/-! ### the law's own word for views -/
/-- a branch but for its size -/
theorem branchB_cases {cs : List D} {e1 e2 : D} : branchB cs (.tuple [e1, e2]) = (givB cs e1 && (!inB .none ((match e1 with | .tuple es => es | _ => []).map sndD) && keptB cs e2)) := by
  cases e1 <;> simp [branchB, givB]
theorem keptL_iff {cs : List D} : ∀ {xs : List D} {pre : List Int}, (∀ x ∈ xs, numB x (.int cs.length) = true) → ∀ ks : List Int, xs = ks.map PyData.int → pre.Nodup → (keptL cs (pre.map PyData.int) xs = true ↔ (pre ++ ks).Nodup)
  | [], pre, _, ks, e, hp => by
    cases ks with
    | nil => simp [keptL, hp]
    | cons _ _ => cases e
  | x :: xs, pre, h, ks, e, hp => by
    cases ks with
    | nil => cases e
    | cons k ks =>
      rw [List.map_cons] at e
      injection e with e1 e2
      subst e1 e2
      have h0 := h _ List.mem_cons_self
      simp only [keptL, h0, Bool.true_and, Bool.and_eq_true, Bool.not_eq_true']
      have em : pre.map PyData.int ++ [PyData.int k] = (pre ++ [k]).map PyData.int := by rw [List.map_append]; rfl
      by_cases hk : k ∈ pre
      · have : inB (.int k) (pre.map PyData.int) = true := List.any_eq_true.mpr ⟨.int k, List.mem_map.mpr ⟨k, hk, rfl⟩, by simp [PyData.eqv]⟩
        rw [this]
        refine ⟨fun z => by simp at z, fun z => ?_⟩
        exact absurd rfl ((List.nodup_append.mp z).2.2 k hk k List.mem_cons_self)
      · rw [inB_not hk, em]
        have hp' : (pre ++ [k]).Nodup := List.nodup_append.mpr ⟨hp, by simp, fun a ha b hb e => hk (by rw [List.mem_singleton.mp hb] at e; rw [← e]; exact ha)⟩
        have ih := keptL_iff (xs := ks.map PyData.int) (pre := pre ++ [k]) (fun y hy => h y (List.mem_cons_of_mem _ hy)) ks rfl hp'
        rw [ih, List.append_assoc]
        simp
theorem keptB_iff {cs : List D} {ks : List Int} (h : ∀ x ∈ ks.map PyData.int, numB x (.int cs.length) = true) (hk : ks ≠ []) : keptB cs (.tuple (ks.map PyData.int)) = decide ks.Nodup := by
  have := keptL_iff (pre := []) h ks rfl List.nodup_nil
  simp only [List.map_nil, List.nil_append] at this
  have hl : 0 < ks.length := List.length_pos_iff.mpr hk
  have e : decide ((ks.map PyData.int).length = 0) = false := by rw [List.length_map]; exact decide_eq_false (by omega)
  simp only [keptB, e, Bool.not_false, Bool.true_and]
  rw [Bool.eq_iff_iff, this, decide_eq_true_eq]
theorem viewL_iff {cs : List D} {m : Nat} : ∀ {bs : List D}, (∀ b ∈ bs, branchB cs b = true) → viewL cs m bs = decide (∀ b ∈ bs, kLen b = m)
  | [], _ => by simp [viewL]
  | b :: bs, h => by
    simp only [viewL, h b List.mem_cons_self, Bool.true_and, viewL_iff fun x hx => h x (List.mem_cons_of_mem _ hx)]
    rw [Bool.eq_iff_iff]
    simp
theorem viewB_all {cs : List D} {bs : List D} (h : ∀ b ∈ bs, branchB cs b = true) (h1 : 1 ≤ bs.length) (h3 : bs.length ≤ 3) : viewB cs (.tuple bs) = decide (∀ a ∈ bs, ∀ b ∈ bs, kLen a = kLen b) := by
  simp only [viewB, h1, h3, decide_true, Bool.true_and, viewL_iff h]
  have e : bs.getD 0 .none ∈ bs := getD_in (by omega)
  rw [decide_eq_decide]
  exact ⟨fun z a ha b hb => by rw [z a ha, z b hb], fun z b hb => z b hb _ e⟩
theorem ok_len {n m : Nat} {xs : List D} (h : L2.DL.Ok n m (.tuple xs)) : xs.length < n := by
  have w := h.w
  simp only [wt] at w
  have : ∀ {xs : List D}, xs.length ≤ wtAll xs := by
    intro xs
    induction xs with
    | nil => simp
    | cons a r ih =>
      have h1 : 1 ≤ wt a := by cases a <;> simp [wt]
      simp only [wtAll, List.length_cons]
      omega
  have := this (xs := xs)
  omega
theorem keptL_num {cs : List D} : ∀ {xs pre : List D}, keptL cs pre xs = true → ∀ x ∈ xs, numB x (.int cs.length) = true
  | [], _, _, x, hx => by cases hx
  | y :: xs, pre, h, x, hx => by
    simp only [keptL, Bool.and_eq_true] at h
    rcases List.mem_cons.mp
          hx with rfl | hx
    · exact h.1
    · exact keptL_num h.2.2 x hx
theorem num_ints {m : Int} : ∀ {xs : List D}, (∀ x ∈ xs, numB x (.int m) = true) → ∃ ns : List Int, xs = ns.map PyData.int
  | [], _ => ⟨[], rfl⟩
  | x :: xs, h => by
    obtain ⟨i, rfl, _, _⟩ := numB_inv (h x List.mem_cons_self)
    obtain ⟨ns, e⟩ := num_ints (xs := xs) fun y hy => h y (List.mem_cons_of_mem _ hy)
    exact ⟨i :: ns, by rw [e]; rfl⟩
theorem wt_pos (d : D) : 1 ≤ wt d := by cases d <;> simp [wt]
section
variable {P : Program} {w : World} {K : PySem.W.Frag} {mg : Str → Option Value} {base : Heap} {A : Cls}
def w_law_is_view : Wc := fun ds k Q _ => ∃ (cs : List D) (v : D), ds = [.tuple cs, v] ∧ colsish (.tuple cs) ∧ cs.length ≤ 4 ∧ L2.DL.Ok 900 30 v ∧ Q (.bool (viewB cs v)) k
theorem m_law_is_view : Wc.Mono w_law_is_view := fun ds k Q Q' x x' h1 _ ⟨cs, v, e, p1, p2, p3, q⟩ => ⟨cs, v, e, p1, p2, p3, h1 _ _ q⟩
theorem d_law_is_view (T : Txt K mg A) (d_law_is_integer : Def P w K mg base "_law_is_integer" 1 ["_law_value_here"] w_law_is_integer) (d_law_is_given : Def P w K mg base "_law_is_given" 3 ["_law_columns_here", "_law_value_here"] w_law_is_given) (F : FunAt K mg "_law_is_view" s_law_is_view ["_law_columns_here", "_law_value_here"]) : Def P w K mg base "_law_is_view" 4 ["_law_columns_here", "_law_value_here"] w_law_is_view := by
  refine defD F sc_law_is_view (fun ds k Q x ⟨_, _, e, _⟩ => by rw [e]; rfl) fun f cdv Ar outer s H E p G hg hr => ⟨_, (dss_cons (ds_if (DW.dt (dw_or (dt_not (dt_val (de_isi (T := "tuple") (de_var (pv 1)) T.z_isinstance T.z_tuple (by decide +kernel)))) (dw_or1 (dt_not (dt_chain op_le op_le cmpD.mono cmpD.mono fitsCmp fitsCmp de_int (de_bi lenD.mono fitsLen call_len_seq (da_cons (de_var (pv 1)) da_nil) T.z_len) de_int)))))
    (dss_one (ds_ret de_bl))
    dss_nil)
    (dss_cons (ds_own (i := 2) (df_lst da_nil) sc_law_is_view.nd)
    (dss_cons (ds_for (passes_of rfl) rfl (di_seq (de_var (pv 1))) (dg_nm (i := 3) sc_law_is_view.nd)
    (dss_cons (ds_if (DW.dt (dw_or (dt_not (dt_val (de_isi (T := "tuple") (de_var (pv 3)) T.z_isinstance T.z_tuple (by decide +kernel)))) (dw_or (dt_cmp (op_neA hr.units) neD.mono fitsNe (de_bi lenD.mono fitsLen call_len_seq (da_cons (de_var (pv 3)) da_nil) T.z_len) de_int) (dw_or1 (dt_not (dt_val (de_fn d_law_is_given m_law_is_given hg hr (takes_of rfl rfl rfl rfl) (da_cons (de_var (pv 0)) (da_cons (de_idx (de_var (pv 3)) de_int) da_nil)))))))))
    (dss_one (ds_ret de_bl))
    dss_nil)
    (dss_cons (ds_if (DW.dt (dw_or (dt_cmp (op_inA (hr65 hr)) inD.mono fitsIn de_non (de_lc (own := [("_law_entry", 4)]) rfl sc_law_is_view.nd (di_seq (de_idx (de_var (pv 3)) de_int)) (blkOk_by (N := ["_law_columns_here", "_law_value_here", "_law_sizes", "_law_one_here", "_law_entry", "_law_k"]) (sc := defScope s_law_is_view) (by decide +kernel)) (fun _ _ _ _ _ _ _ => (dgc_nm (i := 4) sc_law_is_view.nd (by decide))) (fun _ _ _ _ _ _ _ => dts_nil) (fun _ _ _ _ _ _ _ => (de_idx (de_var (pv 4)) de_int)))) (dw_or (dt_not (dt_val (de_isi (T := "tuple") (de_idx (de_var (pv 3)) de_int) T.z_isinstance T.z_tuple (by decide +kernel)))) (dw_or1 (dt_cmp (op_eqA hr.units) eqD.mono fitsEq (de_idx (de_var (pv 3)) de_int) (de_tup da_nil))))))
    (dss_one (ds_ret de_bl))
    dss_nil)
    (dss_cons (ds_if (dt_cmp (op_inA (hr65 hr)) inD.mono fitsIn de_bl (de_lc (own := [("_law_k", 5)]) rfl sc_law_is_view.nd (di_seq (de_idx (de_var (pv 3)) de_int)) (blkOk_by (N := ["_law_columns_here", "_law_value_here", "_law_sizes", "_law_one_here", "_law_entry", "_law_k"]) (sc := defScope s_law_is_view) (by decide +kernel)) (fun _ _ _ _ _ _ _ => (dgc_nm (i := 5) sc_law_is_view.nd (by decide))) (fun _ _ _ _ _ _ _ => dts_nil) (fun _ _ _ _ _ _ _ => (de_and (de_fn d_law_is_integer m_law_is_integer hg hr takes0 (da_cons (de_var (pv 5)) da_nil)) (de_one (de_chain op_le op_lt cmpD.mono cmpD.mono fitsCmp fitsCmp de_int (de_var (pv 5)) (de_bi lenD.mono fitsLen call_len_seq (da_cons (de_var (pv 0)) da_nil) T.z_len)))))))
    (dss_one (ds_ret de_bl))
    dss_nil)
    (dss_cons (ds_if (dt_cmp op_lt cmpD.mono fitsCmp (de_lenS rfl (de_idx (de_var (pv 3)) de_int) T.z_len T.z_set) (de_bi lenD.mono fitsLen call_len_seq (da_cons (de_idx (de_var (pv 3)) de_int) da_nil) T.z_len))
    (dss_one (ds_ret de_bl))
    dss_nil)
    (dss_one (ds_append (i := 2) (de_bi lenD.mono fitsLen call_len_seq (da_cons (de_idx (de_var (pv 3)) de_int) da_nil) T.z_len) (pv 2))))))))
    (dss_rel (dss_one (ds_ret (de_cmp (op_eqA hr.units) eqD.mono fitsEq (de_lenS rfl (de_var (pv 2)) T.z_len T.z_set) de_int))))))), ?_⟩
  rintro ds n Q x ⟨cs, v, rfl, ci, c4, ov, q⟩
  have hv := ov.good
  simp only [wRet, wSet, wSeq, wNext, wDrop, wIfS, wTest, wAnd, wOr, wNot, wIf, wBin, wVar, wC, wAndV, wOrV, wNotV, wIsN, wNotN, wNeg, wChain, wNil, wCons, wTup, wLst, wBi, wCall, wIsi, wSl, wSo, wNo, wSeqI, wFor, gNm, gTp, puts, wAsg, wPar, wMul, wmD, wmO, putsI, wAug, wTryIs, wRng1, wRng2, wEnum, wEnumT, wZip, wLc, wYes, wLend, wRel, wOwn, wApp, wIns, wSetIx, wLstF, wListF, wRepF, wAddF, wSlS, wParO, wRevT, wSortedSet, wSortedSetL, wSortedSetT, wKeys, weI, wExt, allD, wMt, wRaise, wSeqO, wCallF, plainO, wCallA, wIdx0, wAnF, wSetA, wUnA, wSeqA, plainA, wFld, wFldO, wMake, wLRg, Ans.data, Ans.own.injEq, Ans.tup.injEq, Ans.dat.injEq, wTry, wTryM, wHs, wIsC, enOf, put, putUn, defEnds, lendE, lend, wipeE, hide, lenD, intD, listD, tupleD, reprD, wPen0, wPen1, wPen2, wPenS1, wPenS2, penAt, List.map_cons, List.map_nil, List.length_cons, List.length_nil, List.nil_append, List.cons_append, Nat.reduceAdd, Nat.reduceSub, Nat.reduceLeDiff, Nat.zero_add, List.replicate_zero, List.replicate_succ, List.getElem?_cons_zero, List.getElem?_cons_succ, List.set_cons_zero, List.set_cons_succ, Option.some.injEq, Slot.dat.injEq, Slot.own.injEq, PyData.bool.injEq, PyData.int.injEq, PyData.tuple.injEq, PyData.list.injEq, exists_eq_left', exists_eq_left, and_true, true_and, if_true, if_false, Bool.false_eq_true, reduceCtorEq, List.mapIdx_cons, List.mapIdx_nil, wLenS, kit_tuple hv.f]
  refine ⟨fine.nd hv.f, ?_⟩
  cases v with
  | tuple xs =>
    simp only [isT, Bool.not_true, if_false, Bool.false_eq_true, cmpD]
    refine ⟨_, rfl, ?_⟩
    by_cases h1 : 1 ≤ xs.length
    case neg =>
      have h1' : ¬ (1 : Int) ≤ xs.length := by omega
      have e : viewB cs (.tuple xs) = false := by simp only [viewB, h1, decide_false, Bool.false_and]
      rw [e] at q
      simp only [h1', decide_false, if_false, Bool.false_eq_true, Bool.not_false, if_true]
      exact q
    have h1' : (1 : Int) ≤ xs.length := by omega
    simp only [h1', decide_true, if_true]
    refine ⟨_, rfl, ?_⟩
    by_cases h3 : xs.length ≤ 3
    case neg =>
      have h3' : ¬ (xs.length : Int) ≤ 3 := by omega
      have e : viewB cs (.tuple xs) = false := by simp only [viewB, h3, decide_false, Bool.false_and, Bool.and_false]
      rw [e] at q
      simp only [h3', decide_false, Bool.not_false, if_true]
      exact q
    have h3' : (xs.length : Int) ≤ 3 := by omega
    simp only [h3', decide_true, Bool.not_true, if_false, Bool.false_eq_true]
    have bad : ∀ d ∈ xs, branchB cs d = false → Q (.bool false) n := fun d hd hb => by
      rw [viewB_mem hd hb] at q
      exact q
    refine ⟨xs, rfl, ?_⟩
    refine wLoop.ind (fun ds e => ∃ (done : List D) (u3 : Slot), e = ⟨[.dat (.tuple cs), .dat (.tuple xs), .own (done.map fun b => .int (kLen b : Int)), u3, .un, .un], n⟩ ∧ xs = done ++ ds ∧ ∀ b ∈ done, branchB cs b = true) ?_ ?_ ⟨[], _, rfl, rfl, (fun b h => by cases h)⟩
    · rintro e ⟨done, u3, rfl, hx, hb⟩
      rw [List.append_nil] at hx
      subst hx
      have q := viewB_all hb h1 h3 ▸ q
      refine ⟨_, rfl, xs.map fun b => (kLen b : Int), .inr (by rw [List.map_map]; rfl), by rw [List.length_map]; omega, fun L hL hk => ?_⟩
      refine eqI.mpr ?_
      have e1 : decide (((L.length : Nat) : Int) = 1) = decide (∀ a ∈ xs, ∀ b ∈ xs, kLen a = kLen b) := by
        rw [decide_eq_decide]
        have := lenS_one hL hk
        constructor
        · intro z a ha b hb'
          have := (this.mp (by omega)).2 _ (List.mem_map.mpr ⟨a, ha, rfl⟩) _ (List.mem_map.mpr ⟨b, hb', rfl⟩)
          omega
        · intro z
          have := this.mpr ⟨fun z => by rw [List.map_eq_nil_iff] at z; rw [z] at h1; simp at h1, fun a ha b hb' => by
            obtain ⟨a', ha', rfl⟩ := List.mem_map.mp ha
            obtain ⟨b', hb2, rfl⟩ := List.mem_map.mp hb'
            rw [z a' ha' b' hb2]⟩
          omega
      rw [e1]
      exact q
    · rintro d ds e ih ⟨done, u3, rfl, hx, hdone⟩
      have hd : d ∈ xs := by rw [hx]; simp
      have od := ov.in_tuple d hd
      have gd := od.good
      have bad := bad d hd
      simp only [wRet, wSet, wSeq, wNext, wDrop, wIfS, wTest, wAnd, wOr, wNot, wIf, wBin, wVar, wC, wAndV, wOrV, wNotV, wIsN, wNotN, wNeg, wChain, wNil, wCons, wTup, wLst, wBi, wCall, wIsi, wSl, wSo, wNo, wSeqI, wFor, gNm, gTp, puts, wAsg, wPar, wMul, wmD, wmO, putsI, wAug, wTryIs, wRng1, wRng2, wEnum, wEnumT, wZip, wLc, wYes, wLend, wRel, wOwn, wApp, wIns, wSetIx, wLstF, wListF, wRepF, wAddF, wSlS, wParO, wRevT, wSortedSet, wSortedSetL, wSortedSetT, wKeys, weI, wExt, allD, wMt, wRaise, wSeqO, wCallF, plainO, wCallA, wIdx0, wAnF, wSetA, wUnA, wSeqA, plainA, wFld, wFldO, wMake, wLRg, Ans.data, Ans.own.injEq, Ans.tup.injEq, Ans.dat.injEq, wTry, wTryM, wHs, wIsC, enOf, put, putUn, defEnds, lendE, lend, wipeE, hide, lenD, intD, listD, tupleD, reprD, wPen0, wPen1, wPen2, wPenS1, wPenS2, penAt, List.map_cons, List.map_nil, List.length_cons, List.length_nil, List.nil_append, List.cons_append, Nat.reduceAdd, Nat.reduceSub, Nat.reduceLeDiff, Nat.zero_add, List.replicate_zero, List.replicate_succ, List.getElem?_cons_zero, List.getElem?_cons_succ, List.set_cons_zero, List.set_cons_succ, Option.some.injEq, Slot.dat.injEq, Slot.own.injEq, PyData.bool.injEq, PyData.int.injEq, PyData.tuple.injEq, PyData.list.injEq, exists_eq_left', exists_eq_left, and_true, true_and, if_true, if_false, Bool.false_eq_true, reduceCtorEq, List.mapIdx_cons, List.mapIdx_nil, wLenS, kit_tuple gd.f]
      refine ⟨fine.nd gd.f, ?_⟩
      cases d with
      | tuple es =>
        simp only [isT, Bool.not_true, if_false, Bool.false_eq_true, neD, twoInts, true_or, true_and]
        have e1 : PyData.eqv (.int (es.length : Int)) (.int 2) = decide (es.length = 2) := eqv_len es.length 2
        refine ⟨_, rfl, ?_⟩
        rw [e1]
        match es, bad, gd, od, hx, hd with
        | [], bad, _, _, _, _ => exact bad rfl
        | [_], bad, _, _, _, _ => simpa [branchB] using bad
        | _ :: _ :: _ :: _, bad, _, _, _, _ => simpa [branchB] using bad
        | [g, k], bad, gd, od, hx, hd =>
          have gg := gd.in_tuple g (by simp)
          have gk := gd.in_tuple k (by simp)
          have ok := od.in_tuple k (by simp)
          rw [branchB_cases] at bad
          simp only [List.length_cons, List.length_nil, Nat.reduceAdd, decide_true, Bool.not_true, if_false, Bool.false_eq_true]
          refine ⟨_, atI_c0, _, _, rfl, ⟨ci, gg⟩, ?_⟩
          dsimp only [onCols]
          refine ⟨_, rfl, ?_⟩
          rcases Bool.eq_false_or_eq_true (givB cs g) with hg1 | hg1
          · simp only [hg1, Bool.not_true, if_false, Bool.false_eq_true, Bool.true_and] at bad ⊢
            cases g with
            | tuple gs =>
              have hgL : givL cs (-1) gs = true := hg1
              have inv := givL_inv hgL
              have hlen : gs.length ≤ 4 := by
                have := givL_len hgL (by omega)
                omega
              have f2 : Good (.list (gs.map sndD)) := gg.mapL fun d hd => by
                obtain ⟨j, b, rfl, _⟩ := inv d hd
                exact (gg.in_tuple _ hd).part _ (by simp [sndD])
              refine ⟨_, atI_c0, _, rfl, ?_⟩
              refine lcLoop.fm (fun d => some (sndD d)) (fun d hd A B h1 h2 => ?_) (by simp only [List.length_nil]; omega) ?_
              · obtain ⟨j, b, rfl, _⟩ := inv d hd
                simp (decide := true) only [wRet, wSet, wSeq, wNext, wDrop, wIfS, wTest, wAnd, wOr, wNot, wIf, wBin, wVar, wC, wAndV, wOrV, wNotV, wIsN, wNotN, wNeg, wChain, wNil, wCons, wTup, wLst, wBi, wCall, wIsi, wSl, wSo, wNo, wSeqI, wFor, gNm, gTp, puts, wAsg, wPar, wMul, wmD, wmO, putsI, wAug, wTryIs, wRng1, wRng2, wEnum, wEnumT, wZip, wLc, wYes, wLend, wRel, wOwn, wApp, wIns, wSetIx, wLstF, wListF, wRepF, wAddF, wSlS, wParO, wRevT, wSortedSet, wSortedSetL, wSortedSetT, wKeys, weI, wExt, allD, wMt, wRaise, wSeqO, wCallF, plainO, wCallA, wIdx0, wAnF, wSetA, wUnA, wSeqA, plainA, wFld, wFldO, wMake, wLRg, Ans.data, Ans.own.injEq, Ans.tup.injEq, Ans.dat.injEq, wTry, wTryM, wHs, wIsC, enOf, put, putUn, defEnds, lendE, lend, wipeE, hide, lenD, intD, listD, tupleD, reprD, wPen0, wPen1, wPen2, wPenS1, wPenS2, penAt, List.map_cons, List.map_nil, List.length_cons, List.length_nil, List.nil_append, List.cons_append, Nat.reduceAdd, Nat.reduceSub, Nat.reduceLeDiff, Nat.zero_add, List.replicate_zero, List.replicate_succ, List.getElem?_cons_zero, List.getElem?_cons_succ, List.set_cons_zero, List.set_cons_succ, Option.some.injEq, Slot.dat.injEq, Slot.own.injEq, PyData.bool.injEq, PyData.int.injEq, PyData.tuple.injEq, PyData.list.injEq, exists_eq_left', exists_eq_left, and_true, true_and, if_true, if_false, Bool.false_eq_true, reduceCtorEq, List.mapIdx_cons, List.mapIdx_nil, wLenS]
                exact ⟨_, rfl, h2 _ rfl⟩
              rw [List.nil_append, fmap_some]
              refine ⟨Ok.none.good, f2, _, rfl, ?_⟩
              refine ⟨_, rfl, ?_⟩
              rcases Bool.eq_false_or_eq_true (inB .none (gs.map sndD)) with hi | hi
              · simp only [hi, Bool.not_true, Bool.false_and, if_true] at bad ⊢
                exact bad trivial
              · simp only [hi, Bool.not_false, Bool.true_and, if_false, Bool.false_eq_true] at bad ⊢
                refine ⟨_, atI_c1, _, kit_tuple gk.f, fine.nd gk.f, ?_⟩
                cases k with
                | tuple ks =>
                  simp only [isT, Bool.not_true, if_false, Bool.false_eq_true, eqD]
                  refine ⟨_, atI_c1, .inr ⟨gk, (Ok.tuple (n := 0) (m := 0) (k := 0) (fun x hx => by cases hx) (by simp)).good⟩, _, rfl, ?_⟩
                  cases ks with
                  | nil => exact bad rfl
                  | cons k0 kr =>
                    rw [if_neg (by simp [PyData.eqv, PyData.eqvAll])]
                    have hkl := ok_len ok
                    refine ⟨_, atI_c1, _, rfl, ?_⟩
                    refine lcLoop.fm (fun d => some (.bool (numB d (.int cs.length)))) (fun d hd A B h1 h2 => ?_) (by simp only [List.length_nil]; omega) ?_
                    · have gd2 := gk.in_tuple d hd
                      simp (decide := true) only [wRet, wSet, wSeq, wNext, wDrop, wIfS, wTest, wAnd, wOr, wNot, wIf, wBin, wVar, wC, wAndV, wOrV, wNotV, wIsN, wNotN, wNeg, wChain, wNil, wCons, wTup, wLst, wBi, wCall, wIsi, wSl, wSo, wNo, wSeqI, wFor, gNm, gTp, puts, wAsg, wPar, wMul, wmD, wmO, putsI, wAug, wTryIs, wRng1, wRng2, wEnum, wEnumT, wZip, wLc, wYes, wLend, wRel, wOwn, wApp, wIns, wSetIx, wLstF, wListF, wRepF, wAddF, wSlS, wParO, wRevT, wSortedSet, wSortedSetL, wSortedSetT, wKeys, weI, wExt, allD, wMt, wRaise, wSeqO, wCallF, plainO, wCallA, wIdx0, wAnF, wSetA, wUnA, wSeqA, plainA, wFld, wFldO, wMake, wLRg, Ans.data, Ans.own.injEq, Ans.tup.injEq, Ans.dat.injEq, wTry, wTryM, wHs, wIsC, enOf, put, putUn, defEnds, lendE, lend, wipeE, hide, lenD, intD, listD, tupleD, reprD, wPen0, wPen1, wPen2, wPenS1, wPenS2, penAt, List.map_cons, List.map_nil, List.length_cons, List.length_nil, List.nil_append, List.cons_append, Nat.reduceAdd, Nat.reduceSub, Nat.reduceLeDiff, Nat.zero_add, List.replicate_zero, List.replicate_succ, List.getElem?_cons_zero, List.getElem?_cons_succ, List.set_cons_zero, List.set_cons_succ, Option.some.injEq, Slot.dat.injEq, Slot.own.injEq, PyData.bool.injEq, PyData.int.injEq, PyData.tuple.injEq, PyData.list.injEq, exists_eq_left', exists_eq_left, and_true, true_and, if_true, if_false, Bool.false_eq_true, reduceCtorEq, List.mapIdx_cons, List.mapIdx_nil, wLenS, cmpD]
                      refine ⟨_, rfl, gd2.f, ?_⟩
                      have h2 := h2 _ rfl
                      cases d with
                      | int i =>
                        refine ⟨_, rfl, ?_⟩
                        rw [if_pos (by rfl)]
                        refine ⟨_, rfl, ?_⟩
                        simp only [numB] at h2
                        by_cases i0 : 0 ≤ i
                        · rw [if_pos (decide_eq_true i0)]
                          simp only [i0, decide_true, Bool.true_and] at h2
                          exact h2
                        · rw [if_neg (by simp [i0])]
                          simp only [i0, decide_false, Bool.false_and] at h2
                          exact h2
                      | _ => exact ⟨_, rfl, by rw [if_neg (fun z => nomatch z)]; exact h2⟩
                    rw [List.nil_append, fmap_some]
                    have fB : Ok 900 30 (.list ((k0 :: kr).map fun d => PyData.bool (numB d (.int cs.length)))) := ok.mapL fun d hd => ⟨rfl, wt_pos d, Nat.zero_le _⟩
                    refine ⟨Ok.bool.good, fB.good, _, rfl, ?_⟩
                    rw [in_false]
                    refine ⟨_, rfl, ?_⟩
                    cases hall : (k0 :: kr).all fun d => numB d (.int cs.length) with
                    | false =>
                      rw [if_pos (by rfl)]
                      refine bad ?_
                      cases hkb : keptB cs (.tuple (k0 :: kr)) with
                      | false => rfl
                      | true =>
                        simp only [keptB, Bool.and_eq_true] at hkb
                        have := keptL_num hkb.2
                        rw [List.all_eq_true.mpr this] at hall
                        cases hall
                    | true =>
                      rw [if_neg (by decide)]
                      have hnum := List.all_eq_true.mp hall
                      obtain ⟨ns, hns⟩ := num_ints hnum
                      have hnl : ns.length = (k0 :: kr).length := by
                        have := congrArg List.length hns
                        rw [List.length_map] at this
                        exact this.symm
                      have hne : ns ≠ [] := fun z => by rw [z] at hns; cases hns
                      have hkb : keptB cs (.tuple (k0 :: kr)) = decide ns.Nodup := by
                        rw [hns]
                        exact keptB_iff (by rw [← hns]; exact hnum) hne
                      rw [hkb] at bad
                      refine ⟨_, atI_c1, ns, .inl (by rw [hns]), by omega, fun L hL hk => ?_⟩
                      have l1 := lenS_nodup hL hk
                      have l2 := lenS_le hL hk
                      refine ⟨_, atI_c1, ?_⟩
                      simp only [cmpD]
                      refine ⟨_, rfl, ?_⟩
                      by_cases hnd : ns.Nodup
                      · have := l1.mpr hnd
                        rw [if_neg (by rw [decide_eq_true_eq]; omega)]
                        refine ⟨⟨_, rfl⟩, _, atI_c1, ?_⟩
                        have dl : done.length ≤ 3 := by
                          have := congrArg List.length hx
                          rw [List.length_append] at this
                          omega
                        refine ⟨by rw [List.length_map]; omega, ?_⟩
                        refine ih _ ⟨done ++ [.tuple [.tuple gs, .tuple (k0 :: kr)]], .dat (.tuple [.tuple gs, .tuple (k0 :: kr)]), ?_, by rw [List.append_assoc]; exact hx, fun b hb => ?_⟩
                        · rw [List.map_append]
                          rfl
                        · rcases List.mem_append.mp
                              hb with hb | hb
                          · exact hdone b hb
                          · rw [List.mem_singleton.mp hb, branchB_cases]
                            simp only [hg1, Bool.true_and, hi, Bool.not_false, hkb, hnd, decide_true]
                      · have : L.length ≠ ns.length := fun z => hnd (l1.mp z)
                        rw [if_pos (by rw [decide_eq_true_eq]; omega)]
                        exact bad (decide_eq_false hnd)
                | _ => exact bad rfl
            | _ => cases hg1
          · simp only [hg1, Bool.not_false, if_true, Bool.false_and] at bad ⊢
            exact bad trivial
      | _ => exact bad rfl
  | _ => exact q
/-- a view asked for: what is said, or the error of the columns -/
def w_is_view (A : Cls) : Wc := fun ds k Q x => ∃ c v, ds = [c, v] ∧ Good c ∧ Good v ∧ ((colsB c = false ∧ x (excD A.InvalidColumns) k) ∨ (∃ cs, c = .tuple cs ∧ okCols c ∧ Q (.bool (viewB cs v)) k))
theorem m_is_view (A : Cls) : Wc.Mono (w_is_view A) := fun ds k Q Q' x x' h1 h2 ⟨c, v, e, p1, p2, q⟩ => ⟨c, v, e, p1, p2, Or.imp (fun z => ⟨z.1, h2 _ _ z.2⟩) (fun ⟨cs, a, b, z⟩ => ⟨cs, a, b, h1 _ _ z⟩) q⟩
theorem d_is_view (T : Txt K mg A) (d_check_columns : Def P w K mg base "check_columns" 4 ["columns"] (w_check_columns A)) (d_view_is_right : Def P w K mg base "view_is_right" 6 ["columns", "value"] w_view_is_right) (F : FunAt K mg "is_view" s_is_view ["columns", "value"]) : Def P w K mg base "is_view" 7 ["columns", "value"] (w_is_view A) := by
  refine defD F sc_is_view (fun ds k Q x ⟨_, _, e, _⟩ => by rw [e]; rfl) fun f cdv Ar outer s H E p G hg hr => ⟨_, (dss_cons (ds_drop (de_fn d_check_columns m_check_columns hg hr (takes_of rfl rfl rfl rfl) (da_cons (de_var (pv 0)) da_nil)))
    (dss_one (ds_ret (de_fn d_view_is_right m_view_is_right hg hr (takes_of rfl rfl rfl rfl) (da_cons (de_var (pv 0)) (da_cons (de_var (pv 1)) da_nil)))))), ?_⟩
  rintro ds n Q x ⟨c, v, rfl, gc, gv, q⟩
  simp only [wRet, wSet, wSeq, wNext, wDrop, wIfS, wTest, wAnd, wOr, wNot, wIf, wBin, wVar, wC, wAndV, wOrV, wNotV, wIsN, wNotN, wNeg, wChain, wNil, wCons, wTup, wLst, wBi, wCall, wIsi, wSl, wSo, wNo, wSeqI, wFor, gNm, gTp, puts, wAsg, wPar, wMul, wmD, wmO, putsI, wAug, wTryIs, wRng1, wRng2, wEnum, wEnumT, wZip, wLc, wYes, wLend, wRel, wOwn, wApp, wIns, wSetIx, wLstF, wListF, wRepF, wAddF, wSlS, wParO, wRevT, wSortedSet, wSortedSetL, wSortedSetT, wKeys, weI, wExt, allD, wMt, wRaise, wSeqO, wCallF, plainO, wCallA, wIdx0, wAnF, wSetA, wUnA, wSeqA, plainA, wFld, wFldO, wMake, wLRg, Ans.data, Ans.own.injEq, Ans.tup.injEq, Ans.dat.injEq, wTry, wTryM, wHs, wIsC, enOf, put, putUn, defEnds, lendE, lend, wipeE, hide, lenD, intD, listD, tupleD, reprD, wPen0, wPen1, wPen2, wPenS1, wPenS2, penAt, List.map_cons, List.map_nil, List.length_cons, List.length_nil, List.nil_append, List.cons_append, Nat.reduceAdd, Nat.reduceSub, Nat.reduceLeDiff, Nat.zero_add, List.replicate_zero, List.replicate_succ, List.getElem?_cons_zero, List.getElem?_cons_succ, List.set_cons_zero, List.set_cons_succ, Option.some.injEq, Slot.dat.injEq, Slot.own.injEq, PyData.bool.injEq, PyData.int.injEq, PyData.tuple.injEq, PyData.list.injEq, exists_eq_left', exists_eq_left, and_true, true_and, if_true, if_false, Bool.false_eq_true, reduceCtorEq, List.mapIdx_cons, List.mapIdx_nil, wLenS]
  rcases q with ⟨hb, q⟩ | ⟨cs, rfl, hc, q⟩
  · exact ⟨_, rfl, gc, fun z => by (rw [hb] at z; cases z), fun _ => q⟩
  · have ci := cols_ish hc.ok.good hc.b
    refine ⟨_, rfl, hc.ok.good, fun _ => ?_, fun z => by (rw [hc.b] at z; cases z)⟩
    exact ⟨_, _, rfl, ⟨ci, gv⟩, q⟩
def w_law_asked : Wc := fun ds k Q _ => ∃ c v, ds = [c, v] ∧ Good (.tuple [c, v]) ∧ ((colsB c = false ∧ Q (.str "columns") k) ∨ (∃ cs, c = .tuple cs ∧ okCols c ∧ Q (.bool (viewB cs v)) k))
theorem m_law_asked : Wc.Mono w_law_asked := fun ds k Q Q' x x' h1 _ ⟨c, v, e, p1, q⟩ => ⟨c, v, e, p1, Or.imp (fun z => ⟨z.1, h1 _ _ z.2⟩) (fun ⟨cs, a, b, z⟩ => ⟨cs, a, b, h1 _ _ z⟩) q⟩
theorem d_law_asked (T : Txt K mg A) (d_is_view : Def P w K mg base "is_view" 7 ["columns", "value"] (w_is_view A)) (d_law_refusal : Def P w K mg base "_law_refusal" 1 ["_law_caught"] (w_law_refusal A)) (F : FunAt K mg "_law_asked" s_law_asked ["_law_columns_here", "_law_value_here"]) : Def P w K mg base "_law_asked" 8 ["_law_columns_here", "_law_value_here"] w_law_asked := by
  have m_is_view := m_is_view A
  refine defD F sc_law_asked (fun ds k Q x ⟨_, _, e, _⟩ => by rw [e]; rfl) fun f cdv Ar outer s H E p G hg hr => ⟨_, (dss_cons (ds_asg (de_tup (da_cons de_non (da_cons de_non da_nil))) (dg_tp rfl (dgs_cons (i := 2) sc_law_asked.nd (dgs_cons (i := 3) sc_law_asked.nd dgs_nil))))
    (dss_cons (ds_set (i := 4) (de_bi reprD.mono fitsRepr (call_reprD hg hr.units) (da_cons (de_tup (da_cons (de_var (pv 0)) (da_cons (de_var (pv 1)) da_nil))) da_nil) T.z_repr) sc_law_asked.nd)
    (dss_cons (ds_try (i := 5) (j := 2) (CR := .ref A.RuleError) rfl rfl rfl sc_law_asked.nd ⟨rfl, by decide, .inl T.g_RuleError⟩ (fun W pn xe tk po => (dss_one (ds_set (i := 3) (de_fn d_is_view m_is_view hg hr tk (da_cons (de_var (pv 0)) (da_cons (de_var (pv 1)) da_nil))) sc_law_asked.nd))))
    (dss_cons (ds_if (dt_cmp (op_neA hr.units) neD.mono fitsNe (de_bi reprD.mono fitsRepr (call_reprD hg hr.units) (da_cons (de_tup (da_cons (de_var (pv 0)) (da_cons (de_var (pv 1)) da_nil))) da_nil) T.z_repr) (de_var (pv 4)))
    (dss_one (ds_ret de_str))
    dss_nil)
    (dss_one (ds_ret (de_if (dt_isN (de_var (pv 2))) (de_var (pv 3)) (de_fn d_law_refusal m_law_refusal hg hr (takes_of rfl rfl rfl rfl) (da_cons (de_var (pv 2)) da_nil))))))))), ?_⟩
  rintro ds n Q x ⟨c, v, rfl, g, q⟩
  have gc := g.in_tuple c (by simp)
  have gv := g.in_tuple v (by simp)
  have same : ∀ y : Str, ¬ (!PyData.eqv (.str y) (.str y)) = true := fun y => by simp [PyData.eqv]
  simp only [wRet, wSet, wSeq, wNext, wDrop, wIfS, wTest, wAnd, wOr, wNot, wIf, wBin, wVar, wC, wAndV, wOrV, wNotV, wIsN, wNotN, wNeg, wChain, wNil, wCons, wTup, wLst, wBi, wCall, wIsi, wSl, wSo, wNo, wSeqI, wFor, gNm, gTp, puts, wAsg, wPar, wMul, wmD, wmO, putsI, wAug, wTryIs, wRng1, wRng2, wEnum, wEnumT, wZip, wLc, wYes, wLend, wRel, wOwn, wApp, wIns, wSetIx, wLstF, wListF, wRepF, wAddF, wSlS, wParO, wRevT, wSortedSet, wSortedSetL, wSortedSetT, wKeys, weI, wExt, allD, wMt, wRaise, wSeqO, wCallF, plainO, wCallA, wIdx0, wAnF, wSetA, wUnA, wSeqA, plainA, wFld, wFldO, wMake, wLRg, Ans.data, Ans.own.injEq, Ans.tup.injEq, Ans.dat.injEq, wTry, wTryM, wHs, wIsC, enOf, put, putUn, defEnds, lendE, lend, wipeE, hide, lenD, intD, listD, tupleD, reprD, wPen0, wPen1, wPen2, wPenS1, wPenS2, penAt, List.map_cons, List.map_nil, List.length_cons, List.length_nil, List.nil_append, List.cons_append, Nat.reduceAdd, Nat.reduceSub, Nat.reduceLeDiff, Nat.zero_add, List.replicate_zero, List.replicate_succ, List.getElem?_cons_zero, List.getElem?_cons_succ, List.set_cons_zero, List.set_cons_succ, Option.some.injEq, Slot.dat.injEq, Slot.own.injEq, PyData.bool.injEq, PyData.int.injEq, PyData.tuple.injEq, PyData.list.injEq, exists_eq_left', exists_eq_left, and_true, true_and, if_true, if_false, Bool.false_eq_true, reduceCtorEq, List.mapIdx_cons, List.mapIdx_nil, wLenS, neD, eqD, twoInts, true_or, true_and]
  refine ⟨g, c, v, rfl, gc, gv, ?_⟩
  rcases q with ⟨hb, q⟩ | ⟨cs, rfl, hc, q⟩
  · refine .inl ⟨hb, A.InvalidColumns, rfl, T.m_InvalidColumns_RuleError, g, ?_⟩
    rw [if_neg (same _), if_neg (fun z => nomatch z)]
    exact ⟨_, _, rfl, .inl ⟨rfl, rfl⟩, q⟩
  · refine .inr ⟨cs, rfl, hc, g, ?_⟩
    rw [if_neg (same _), if_pos (show isN .none = true from rfl)]
    exact q
end
end L2.DL.K30
namespace L2.DL.K30
open PySem PySem.Spec
      PyProof.Rows
/-! ### the rows of a view -/
def fitsB (b : Br) (xs : List D) : Bool := b.given.all fun e => PyData.eqv (xs.getD e.1 .none) (.int e.2)
def keptR (b : Br) (xs : List D) : D := .tuple (b.kept.map fun k => xs.getD k .none)
def rowsB (b : Br) (tab : List (List D)) : List D := (tab.filter (fitsB b)).map (keptR b)
def rowsV (bs : List Br) (tab : List (List D)) : List D := bs.flatMap fun b => rowsB b tab
def tabT (tab : List (List D)) : D := .tuple (tab.map PyData.tuple)
structure Tab (cs : List D) (tab : List (List D)) : Prop where
  n8 : tab.length ≤ 8
  row : ∀ xs ∈ tab, okRow cs xs
theorem Tab.b {cs : List D} {tab : List (List D)} (h : Tab cs tab) : tabB cs (tabT tab) = true := by
  simp only [tabT, tabB, Bool.and_eq_true, decide_eq_true_eq, List.length_map]
  refine ⟨h.n8, List.all_eq_true.mpr fun d hd => ?_⟩
  obtain ⟨xs, hx, rfl⟩ := List.mem_map.mp hd
  exact (h.row xs hx).b
theorem hasB_fits {b : Br} {xs : List D} : hasB (b.giv.map entM) xs = fitsB b xs := by
  unfold hasB fitsB Br.giv
  rw [List.all_map, List.all_map]
  rfl
def misB (xs : List D) : D → Bool
  | .tuple [.int i, b] => !PyData.eqv (xs.getD i.toNat .none) b
  | _ => false
theorem rowsB_len {b : Br} {tab : List (List D)} : (rowsB b tab).length ≤ tab.length := by
  unfold rowsB
  rw [List.length_map]
  exact List.length_filter_le _ _
theorem rows_len {tab : List (List D)} (n8 : tab.length ≤ 8) : ∀ {j : Nat} {bs : List Br}, j < bs.length → (rowsV (bs.take j) tab).length ≤ j * 8 := by
  intro j bs hj
  unfold rowsV
  have : ∀ l : List Br, (l.flatMap fun b => rowsB b tab).length ≤ l.length * 8 := by
    intro l
    induction l with
    | nil => simp
    | cons b l ih =>
      rw [List.flatMap_cons, List.length_append, List.length_cons]
      have := rowsB_len (b := b) (tab := tab)
      omega
  have h := this (bs.take j)
  rw [List.length_take] at h
  have : min j bs.length = j := by omega
  rw [this] at h
  exact h
def getK (xs : List D) : D → D
  | .int i => xs.getD i.toNat .none
  | d => d
section
variable {P : Program} {w : World} {K : PySem.W.Frag} {mg : Str → Option Value} {base : Heap} {A : Cls}
def w_law_matches : Wc := fun ds k Q _ => ∃ (cs : List D) (u : Nat) (b : Br) (xs : List D), ds = [.tuple (b.giv.map entM), .tuple xs] ∧ cs.length ≤ 4 ∧ BrOk cs u b ∧ okRow cs xs ∧ Q (.bool (fitsB b xs)) k
theorem m_law_matches : Wc.Mono w_law_matches := fun ds k Q Q' x x' h1 _ ⟨cs, u, b, xs, e, p0, p1, p2, q⟩ => ⟨cs, u, b, xs, e, p0, p1, p2, h1 _ _ q⟩
theorem d_law_matches (T : Txt K mg A) (F : FunAt K mg "_law_matches" s_law_matches ["_law_given", "_law_row_here"]) : Def P w K mg base "_law_matches" 1 ["_law_given", "_law_row_here"] w_law_matches := by
  refine defD F sc_law_matches (fun ds k Q x ⟨_, _, _, _, e, _⟩ => by rw [e]; rfl) fun f cdv Ar outer s H E p G hg hr => ⟨_, (dss_one (ds_ret (de_cmp (op_eqA hr.units) eqD.mono fitsEq (de_lc (own := [("_law_entry", 2)]) rfl sc_law_matches.nd (di_seq (de_var (pv 0))) (blkOk_by (N := ["_law_given", "_law_row_here", "_law_entry"]) (sc := defScope s_law_matches) (by decide +kernel)) (fun _ _ _ _ _ _ _ => (dgc_nm (i := 2) sc_law_matches.nd (by decide))) (fun _ _ _ _ _ _ _ => (dts_one (DW.dt (dw_and (dt_notN (de_idx (de_var (pv 2)) de_int)) (dw_and1 (dt_cmp (op_neA hr.units) neD.mono fitsNe (de_idx (de_var (pv 1)) (de_idx (de_var (pv 2)) de_int)) (de_idx (de_var (pv 2)) de_int))))))) (fun _ _ _ _ _ _ _ => (de_var (pv 2)))) (de_lst da_nil)))), ?_⟩
  rintro ds n Q x ⟨cs, u, b, xs, rfl, c4, hb, hx, q⟩
  have g4 := hb.g4
  simp only [wRet, wSet, wSeq, wNext, wDrop, wIfS, wTest, wAnd, wOr, wNot, wIf, wBin, wVar, wC, wAndV, wOrV, wNotV, wIsN, wNotN, wNeg, wChain, wNil, wCons, wTup, wLst, wBi, wCall, wIsi, wSl, wSo, wNo, wSeqI, wFor, gNm, gTp, puts, wAsg, wPar, wMul, wmD, wmO, putsI, wAug, wTryIs, wRng1, wRng2, wEnum, wEnumT, wZip, wLc, wYes, wLend, wRel, wOwn, wApp, wIns, wSetIx, wLstF, wListF, wRepF, wAddF, wSlS, wParO, wRevT, wSortedSet, wSortedSetL, wSortedSetT, wKeys, weI, wExt, allD, wMt, wRaise, wSeqO, wCallF, plainO, wCallA, wIdx0, wAnF, wSetA, wUnA, wSeqA, plainA, wFld, wFldO, wMake, wLRg, Ans.data, Ans.own.injEq, Ans.tup.injEq, Ans.dat.injEq, wTry, wTryM, wHs, wIsC, enOf, put, putUn, defEnds, lendE, lend, wipeE, hide, lenD, intD, listD, tupleD, reprD, wPen0, wPen1, wPen2, wPenS1, wPenS2, penAt, List.map_cons, List.map_nil, List.length_cons, List.length_nil, List.nil_append, List.cons_append, Nat.reduceAdd, Nat.reduceSub, Nat.reduceLeDiff, Nat.zero_add, List.replicate_zero, List.replicate_succ, List.getElem?_cons_zero, List.getElem?_cons_succ, List.set_cons_zero, List.set_cons_succ, Option.some.injEq, Slot.dat.injEq, Slot.own.injEq, PyData.bool.injEq, PyData.int.injEq, PyData.tuple.injEq, PyData.list.injEq, exists_eq_left', exists_eq_left, and_true, true_and, if_true, if_false, Bool.false_eq_true, reduceCtorEq, List.mapIdx_cons, List.mapIdx_nil]
  refine ⟨_, rfl, ?_⟩
  refine lcLoop.fm (fun d => if misB xs d = true then some d else none) (fun d hd X Y h3 h4 => ?_) (by unfold Br.giv; rw [List.length_nil, List.length_map, List.length_map]; omega) ?_
  · unfold Br.giv at hd
    obtain ⟨e, he, rfl⟩ := List.mem_map.mp hd
    obtain ⟨e', he', rfl⟩ := List.mem_map.mp he
    obtain ⟨h0, h1, h2⟩ := hb.ent e' he'
    have v := hb.val e' he'
    have hi : (e'.1 : Int) < xs.length := by rw [hx.1]; exact h1
    have hm : xs.getD e'.1 .none ∈ xs := getD_in (by omega)
    have gx : Good (xs.getD e'.1 .none) := by
      obtain ⟨i, hi2, i0, i1⟩ := hx.val _ hm
      rw [hi2]
      exact (L2.DL.Ok.int (by omega)).good
    have gv : Good (.int e'.2) := (L2.DL.Ok.int (by omega)).good
    simp (decide := true) only [wRet, wSet, wSeq, wNext, wDrop, wIfS, wTest, wAnd, wOr, wNot, wIf, wBin, wVar, wC, wAndV, wOrV, wNotV, wIsN, wNotN, wNeg, wChain, wNil, wCons, wTup, wLst, wBi, wCall, wIsi, wSl, wSo, wNo, wSeqI, wFor, gNm, gTp, puts, wAsg, wPar, wMul, wmD, wmO, putsI, wAug, wTryIs, wRng1, wRng2, wEnum, wEnumT, wZip, wLc, wYes, wLend, wRel, wOwn, wApp, wIns, wSetIx, wLstF, wListF, wRepF, wAddF, wSlS, wParO, wRevT, wSortedSet, wSortedSetL, wSortedSetT, wKeys, weI, wExt, allD, wMt, wRaise, wSeqO, wCallF, plainO, wCallA, wIdx0, wAnF, wSetA, wUnA, wSeqA, plainA, wFld, wFldO, wMake, wLRg, Ans.data, Ans.own.injEq, Ans.tup.injEq, Ans.dat.injEq, wTry, wTryM, wHs, wIsC, enOf, put, putUn, defEnds, lendE, lend, wipeE, hide, lenD, intD, listD, tupleD, reprD, wPen0, wPen1, wPen2, wPenS1, wPenS2, penAt, List.map_cons, List.map_nil, List.length_cons, List.length_nil, List.nil_append, List.cons_append, Nat.reduceAdd, Nat.reduceSub, Nat.reduceLeDiff, Nat.zero_add, List.replicate_zero, List.replicate_succ, List.getElem?_cons_zero, List.getElem?_cons_succ, List.set_cons_zero, List.set_cons_succ, Option.some.injEq, Slot.dat.injEq, Slot.own.injEq, PyData.bool.injEq, PyData.int.injEq, PyData.tuple.injEq, PyData.list.injEq, exists_eq_left', exists_eq_left, and_true, true_and, if_true, if_false, Bool.false_eq_true, reduceCtorEq, List.mapIdx_cons, List.mapIdx_nil, entM, oD, neD]
    refine ⟨_, atI_c1, (if_pos (show (!isN (.int e'.2)) = true from rfl)).mpr ?_⟩
    refine ⟨_, atI_c0, _, atI_pos h0 hi, _, atI_c1, .inr ⟨by rw [Int.toNat_natCast]; exact gx, gv⟩, ?_⟩
    rw [Int.toNat_natCast]
    cases hq : PyData.eqv (xs.getD e'.1 .none) (.int e'.2) with
    | true =>
      rw [if_neg (by decide)]
      refine h3 ?_
      show (if (!PyData.eqv (xs.getD (Int.toNat ((e'.1 : Nat) : Int)) .none) (.int e'.2)) = true then _ else none) = none
      rw [Int.toNat_natCast, hq]
      rfl
    | false =>
      rw [if_pos (by decide)]
      refine h4 _ ?_
      show (if (!PyData.eqv (xs.getD (Int.toNat ((e'.1 : Nat) : Int)) .none) (.int e'.2)) = true then _ else none) = some _
      rw [Int.toNat_natCast, hq]
      rfl
  · rw [List.nil_append]
    have gl : ∀ d ∈ (b.giv.map entM).filterMap (fun d => if misB xs d = true then some d else none), L2.DL.Ok 3 1 d := fun d hd => by
      obtain ⟨y, hy, e⟩ := List.mem_filterMap.mp hd
      split at e
      · cases e
        unfold Br.giv at hy
        rw [giv_entD] at hy
        obtain ⟨z, hz, rfl⟩ := List.mem_map.mp hy
        obtain ⟨e', he', rfl⟩ := List.mem_map.mp hz
        exact (hb.ent e' he').ok c4
      · cases e
    have gL : Good (.list ((b.giv.map entM).filterMap fun d => if misB xs d = true then some d else none)) := (Ok.list (n := 3) (m := 1) (k := 4) gl (Nat.le_trans (List.length_filterMap_le _ _) (by unfold Br.giv; rw [List.length_map, List.length_map]; exact g4))).good
    have gN : Good (.list []) := (Ok.list (n := 0) (m := 0) (k := 0) (fun x hx => by cases hx) (by simp)).good
    refine ⟨.inr ⟨gL, gN⟩, ?_⟩
    have ev : PyData.eqv (.list ((b.giv.map entM).filterMap fun d => if misB xs d = true then some d else none)) (.list []) = fitsB b xs := by
      have e0 : ((b.giv.map entM).filterMap fun d => if misB xs d = true then some d else none) = (b.given.filter fun e => !PyData.eqv (xs.getD e.1 .none) (.int e.2)).map fun e => entM (e.1, some e.2) := by
        unfold Br.giv
        rw [List.map_map]
        induction b.given with
        | nil => rfl
        | cons e es ih =>
          rw [List.map_cons, List.filterMap_cons, List.filter_cons, ih]
          have e1 : misB xs ((entM ∘ fun e : Nat × Int => (e.1, some e.2)) e) = !PyData.eqv (xs.getD e.1 .none) (.int e.2) := by
            show (!PyData.eqv (xs.getD (Int.toNat ((e.1 : Nat) : Int)) .none) (.int e.2)) = _
            rw [Int.toNat_natCast]
          rw [e1]
          cases PyData.eqv (xs.getD e.1 .none) (.int e.2) <;> rfl
      rw [e0]
      unfold fitsB
      cases hl : (b.given.filter fun e => !PyData.eqv (xs.getD e.1 .none) (.int e.2)) with
      | nil =>
        rw [List.filter_eq_nil_iff] at hl
        have : (b.given.all fun e => PyData.eqv (xs.getD e.1 .none) (.int e.2)) = true := List.all_eq_true.mpr fun e he => by simpa using hl e he
        rw [this]
        rfl
      | cons e es =>
        have hm : e ∈ b.given.filter fun e => !PyData.eqv (xs.getD e.1 .none) (.int e.2) := by rw [hl]; exact List.mem_cons_self
        obtain ⟨h1, h2⟩ := List.mem_filter.mp hm
        have : (b.given.all fun e => PyData.eqv (xs.getD e.1 .none) (.int e.2)) = false := by
          cases z : (b.given.all fun e => PyData.eqv (xs.getD e.1 .none) (.int e.2)) with
          | false => rfl
          | true =>
            rw [List.all_eq_true.mp z e h1] at h2
            cases h2
        rw [this]
        simp [PyData.eqv, PyData.eqvAll]
    rw [ev]
    exact q
def w_law_view_rows : Wc := fun ds k Q _ => ∃ (cs : List D) (u : Nat) (bs : List Br) (tab : List (List D)), ds = [viewT bs, tabT tab] ∧ cs.length ≤ 4 ∧ DrawV cs u bs ∧ Tab cs tab ∧ Q (.tuple (rowsV bs tab)) k
theorem m_law_view_rows : Wc.Mono w_law_view_rows := fun ds k Q Q' x x' h1 _ ⟨cs, u, bs, tab, e, p0, p1, p2, q⟩ => ⟨cs, u, bs, tab, e, p0, p1, p2, h1 _ _ q⟩
theorem d_law_view_rows (T : Txt K mg A) (d_law_matches : Def P w K mg base "_law_matches" 1 ["_law_given", "_law_row_here"] w_law_matches) (F : FunAt K mg "_law_view_rows" s_law_view_rows ["_law_view_here", "_law_table"]) : Def P w K mg base "_law_view_rows" 2 ["_law_view_here", "_law_table"] w_law_view_rows := by
  refine defD F sc_law_view_rows (fun ds k Q x ⟨_, _, _, _, e, _⟩ => by rw [e]; rfl) fun f cdv Ar outer s H E p G hg hr => ⟨_, (dss_cons (ds_own (i := 2) (df_lst da_nil) sc_law_view_rows.nd)
    (dss_cons (ds_for (passes_of rfl) rfl (di_seq (de_var (pv 0))) (dg_tp rfl (dgs_cons (i := 3) sc_law_view_rows.nd (dgs_cons (i := 4) sc_law_view_rows.nd dgs_nil)))
    (dss_one (ds_for (passes_of rfl) rfl (di_seq (de_var (pv 1))) (dg_nm (i := 5) sc_law_view_rows.nd)
    (dss_one (ds_if (dt_val (de_fn d_law_matches m_law_matches hg hr (takes_of rfl rfl rfl rfl) (da_cons (de_var (pv 3)) (da_cons (de_var (pv 5)) da_nil))))
    (dss_one (ds_append (i := 2) (de_bt tupleD.mono fitsTuple call_tuple_of (da_cons (de_lc (own := [("_law_k", 6)]) rfl sc_law_view_rows.nd (di_seq (de_var (pv 4))) (blkOk_by (N := ["_law_view_here", "_law_table", "_law_found", "_law_chosen", "_law_kept", "_law_row_here", "_law_k"]) (sc := defScope s_law_view_rows) (by decide +kernel)) (fun _ _ _ _ _ _ _ => (dgc_nm (i := 6) sc_law_view_rows.nd (by decide))) (fun _ _ _ _ _ _ _ => dts_nil) (fun _ _ _ _ _ _ _ => (de_idx (de_var (pv 5)) (de_var (pv 6))))) da_nil) T.z_tuple) (pv 2)))
    dss_nil)))))
    (dss_rel (dss_one (ds_ret (de_bt tupleD.mono fitsTuple call_tuple_of (da_cons (de_var (pv 2)) da_nil) T.z_tuple)))))), ?_⟩
  rintro ds n Q x ⟨cs, u, bs, tab, rfl, c4, hD, hT, q⟩
  have n3 := hD.n3
  have n8 := hT.n8
  have u4 := hD.u4
  simp only [wRet, wSet, wSeq, wNext, wDrop, wIfS, wTest, wAnd, wOr, wNot, wIf, wBin, wVar, wC, wAndV, wOrV, wNotV, wIsN, wNotN, wNeg, wChain, wNil, wCons, wTup, wLst, wBi, wCall, wIsi, wSl, wSo, wNo, wSeqI, wFor, gNm, gTp, puts, wAsg, wPar, wMul, wmD, wmO, putsI, wAug, wTryIs, wRng1, wRng2, wEnum, wEnumT, wZip, wLc, wYes, wLend, wRel, wOwn, wApp, wIns, wSetIx, wLstF, wListF, wRepF, wAddF, wSlS, wParO, wRevT, wSortedSet, wSortedSetL, wSortedSetT, wKeys, weI, wExt, allD, wMt, wRaise, wSeqO, wCallF, plainO, wCallA, wIdx0, wAnF, wSetA, wUnA, wSeqA, plainA, wFld, wFldO, wMake, wLRg, Ans.data, Ans.own.injEq, Ans.tup.injEq, Ans.dat.injEq, wTry, wTryM, wHs, wIsC, enOf, put, putUn, defEnds, lendE, lend, wipeE, hide, lenD, intD, listD, tupleD, reprD, wPen0, wPen1, wPen2, wPenS1, wPenS2, penAt, List.map_cons, List.map_nil, List.length_cons, List.length_nil, List.nil_append, List.cons_append, Nat.reduceAdd, Nat.reduceSub, Nat.reduceLeDiff, Nat.zero_add, List.replicate_zero, List.replicate_succ, List.getElem?_cons_zero, List.getElem?_cons_succ, List.set_cons_zero, List.set_cons_succ, Option.some.injEq, Slot.dat.injEq, Slot.own.injEq, PyData.bool.injEq, PyData.int.injEq, PyData.tuple.injEq, PyData.list.injEq, exists_eq_left', exists_eq_left, and_true, true_and, if_true, if_false, Bool.false_eq_true, reduceCtorEq, List.mapIdx_cons, List.mapIdx_nil, viewT, tabT]
  refine ⟨_, rfl, ?_⟩
  refine wLoop.its (bs.map Br.data) (fun j e => ∃ (u3 u4 u5 : Slot), e = ⟨[.dat (.tuple (bs.map Br.data)), .dat (.tuple (tab.map PyData.tuple)), .own (rowsV (bs.take j) tab), u3, u4, u5, .un], n⟩) ?_ ?_ ⟨_, _, _, rfl⟩
  · rintro j d e hd ⟨u3, u4', u5, rfl⟩ N ih
    rw [List.getElem?_map] at hd
    obtain ⟨b, hj, rfl⟩ := Option.map_eq_some_iff.mp hd
    have hb := hD.br b (List.mem_of_getElem? hj)
    have jl : j < bs.length := (List.getElem?_eq_some_iff.mp hj).1
    have et : rowsV (bs.take (j + 1)) tab = rowsV (bs.take j) tab ++ rowsB b tab := by
      unfold rowsV
      rw [List.take_add_one, hj, List.flatMap_append]
      simp
    have len : (rowsV (bs.take j) tab).length ≤ j * 8 := rows_len n8 jl
    rw [et] at ih
    refine ⟨_, rfl, rfl, ?_⟩
    simp only [wRet, wSet, wSeq, wNext, wDrop, wIfS, wTest, wAnd, wOr, wNot, wIf, wBin, wVar, wC, wAndV, wOrV, wNotV, wIsN, wNotN, wNeg, wChain, wNil, wCons, wTup, wLst, wBi, wCall, wIsi, wSl, wSo, wNo, wSeqI, wFor, gNm, gTp, puts, wAsg, wPar, wMul, wmD, wmO, putsI, wAug, wTryIs, wRng1, wRng2, wEnum, wEnumT, wZip, wLc, wYes, wLend, wRel, wOwn, wApp, wIns, wSetIx, wLstF, wListF, wRepF, wAddF, wSlS, wParO, wRevT, wSortedSet, wSortedSetL, wSortedSetT, wKeys, weI, wExt, allD, wMt, wRaise, wSeqO, wCallF, plainO, wCallA, wIdx0, wAnF, wSetA, wUnA, wSeqA, plainA, wFld, wFldO, wMake, wLRg, Ans.data, Ans.own.injEq, Ans.tup.injEq, Ans.dat.injEq, wTry, wTryM, wHs, wIsC, enOf, put, putUn, defEnds, lendE, lend, wipeE, hide, lenD, intD, listD, tupleD, reprD, wPen0, wPen1, wPen2, wPenS1, wPenS2, penAt, List.map_cons, List.map_nil, List.length_cons, List.length_nil, List.nil_append, List.cons_append, Nat.reduceAdd, Nat.reduceSub, Nat.reduceLeDiff, Nat.zero_add, List.replicate_zero, List.replicate_succ, List.getElem?_cons_zero, List.getElem?_cons_succ, List.set_cons_zero, List.set_cons_succ, Option.some.injEq, Slot.dat.injEq, Slot.own.injEq, PyData.bool.injEq, PyData.int.injEq, PyData.tuple.injEq, PyData.list.injEq, exists_eq_left', exists_eq_left, and_true, true_and, if_true, if_false, Bool.false_eq_true, reduceCtorEq, List.mapIdx_cons, List.mapIdx_nil]
    refine ⟨_, rfl, ?_⟩
    refine wLoop.its (tab.map PyData.tuple) (fun i e => ∃ (u5 : Slot), e = ⟨[.dat (.tuple (bs.map Br.data)), .dat (.tuple (tab.map PyData.tuple)), .own (rowsV (bs.take j) tab ++ rowsB b (tab.take i)), .dat (.tuple (b.giv.map entM)), .dat (natsT b.kept), u5, .un], n⟩) ?_ ?_ ⟨u5, by rw [List.take_zero]; simp [rowsB]⟩
    · rintro i d e hd ⟨u5, rfl⟩ N2 ih2
      rw [List.getElem?_map] at hd
      obtain ⟨xs, hi, rfl⟩ := Option.map_eq_some_iff.mp hd
      have hx := hT.row xs (List.mem_of_getElem? hi)
      have er : rowsB b (tab.take (i + 1)) = rowsB b (tab.take i) ++ (if fitsB b xs = true then [keptR b xs] else []) := by
        unfold rowsB
        rw [List.take_add_one, hi, List.filter_append, List.map_append]
        congr 1
        rw [Option.toList_some, List.filter_cons]
        cases fitsB b xs <;> rfl
      rw [er] at ih2
      simp only [wRet, wSet, wSeq, wNext, wDrop, wIfS, wTest, wAnd, wOr, wNot, wIf, wBin, wVar, wC, wAndV, wOrV, wNotV, wIsN, wNotN, wNeg, wChain, wNil, wCons, wTup, wLst, wBi, wCall, wIsi, wSl, wSo, wNo, wSeqI, wFor, gNm, gTp, puts, wAsg, wPar, wMul, wmD, wmO, putsI, wAug, wTryIs, wRng1, wRng2, wEnum, wEnumT, wZip, wLc, wYes, wLend, wRel, wOwn, wApp, wIns, wSetIx, wLstF, wListF, wRepF, wAddF, wSlS, wParO, wRevT, wSortedSet, wSortedSetL, wSortedSetT, wKeys, weI, wExt, allD, wMt, wRaise, wSeqO, wCallF, plainO, wCallA, wIdx0, wAnF, wSetA, wUnA, wSeqA, plainA, wFld, wFldO, wMake, wLRg, Ans.data, Ans.own.injEq, Ans.tup.injEq, Ans.dat.injEq, wTry, wTryM, wHs, wIsC, enOf, put, putUn, defEnds, lendE, lend, wipeE, hide, lenD, intD, listD, tupleD, reprD, wPen0, wPen1, wPen2, wPenS1, wPenS2, penAt, List.map_cons, List.map_nil, List.length_cons, List.length_nil, List.nil_append, List.cons_append, Nat.reduceAdd, Nat.reduceSub, Nat.reduceLeDiff, Nat.zero_add, List.replicate_zero, List.replicate_succ, List.getElem?_cons_zero, List.getElem?_cons_succ, List.set_cons_zero, List.set_cons_succ, Option.some.injEq, Slot.dat.injEq, Slot.own.injEq, PyData.bool.injEq, PyData.int.injEq, PyData.tuple.injEq, PyData.list.injEq, exists_eq_left', exists_eq_left, and_true, true_and, if_true, if_false, Bool.false_eq_true, reduceCtorEq, List.mapIdx_cons, List.mapIdx_nil]
      refine ⟨cs, u, b, xs, rfl, c4, hb, hx, _, rfl, ?_⟩
      have len2 : (rowsB b (tab.take i)).length ≤ 8 := Nat.le_trans rowsB_len (by rw [List.length_take]; omega)
      cases hf : fitsB b xs with
      | false =>
        rw [hf] at ih2
        rw [if_neg (by decide)]
        simp only [Bool.false_eq_true, if_false, List.append_nil] at ih2
        exact ih2 _ ⟨_, rfl⟩
      | true =>
        rw [hf] at ih2
        rw [if_pos rfl]
        simp only [if_true, ← List.append_assoc] at ih2
        refine ⟨⟨_, rfl⟩, _, rfl, ?_⟩
        refine lcLoop.fm (fun d => some (getK xs d)) (fun d hd X Y h3 h4 => ?_) (by rw [List.length_nil, List.length_map, hb.kl]; omega) ?_
        · obtain ⟨k, hk, rfl⟩ := List.mem_map.mp hd
          have := hb.ks k hk
          simp (decide := true) only [wRet, wSet, wSeq, wNext, wDrop, wIfS, wTest, wAnd, wOr, wNot, wIf, wBin, wVar, wC, wAndV, wOrV, wNotV, wIsN, wNotN, wNeg, wChain, wNil, wCons, wTup, wLst, wBi, wCall, wIsi, wSl, wSo, wNo, wSeqI, wFor, gNm, gTp, puts, wAsg, wPar, wMul, wmD, wmO, putsI, wAug, wTryIs, wRng1, wRng2, wEnum, wEnumT, wZip, wLc, wYes, wLend, wRel, wOwn, wApp, wIns, wSetIx, wLstF, wListF, wRepF, wAddF, wSlS, wParO, wRevT, wSortedSet, wSortedSetL, wSortedSetT, wKeys, weI, wExt, allD, wMt, wRaise, wSeqO, wCallF, plainO, wCallA, wIdx0, wAnF, wSetA, wUnA, wSeqA, plainA, wFld, wFldO, wMake, wLRg, Ans.data, Ans.own.injEq, Ans.tup.injEq, Ans.dat.injEq, wTry, wTryM, wHs, wIsC, enOf, put, putUn, defEnds, lendE, lend, wipeE, hide, lenD, intD, listD, tupleD, reprD, wPen0, wPen1, wPen2, wPenS1, wPenS2, penAt, List.map_cons, List.map_nil, List.length_cons, List.length_nil, List.nil_append, List.cons_append, Nat.reduceAdd, Nat.reduceSub, Nat.reduceLeDiff, Nat.zero_add, List.replicate_zero, List.replicate_succ, List.getElem?_cons_zero, List.getElem?_cons_succ, List.set_cons_zero, List.set_cons_succ, Option.some.injEq, Slot.dat.injEq, Slot.own.injEq, PyData.bool.injEq, PyData.int.injEq, PyData.tuple.injEq, PyData.list.injEq, exists_eq_left', exists_eq_left, and_true, true_and, if_true, if_false, Bool.false_eq_true, reduceCtorEq, List.mapIdx_cons, List.mapIdx_nil, natD]
          refine ⟨_, atI_pos (by omega) (by rw [hx.1]; omega), h4 _ ?_⟩
          rfl
        · rw [List.nil_append, fmap_some]
          have e : (b.kept.map natD).map (getK xs) = b.kept.map fun k => xs.getD k .none := by
            rw [List.map_map]
            exact List.map_congr_left fun k _ => by show xs.getD (Int.toNat ((k : Nat) : Int)) .none = _; rw [Int.toNat_natCast]
          rw [e]
          refine ⟨by rw [List.length_append]; omega, ?_⟩
          exact ih2 _ ⟨_, rfl⟩
    · rintro e ⟨u5, rfl⟩
      rw [List.length_map,
            List.take_length]
      exact ih _ ⟨_, _, _, rfl⟩
  · rintro e ⟨u3, u4', u5, rfl⟩
    rw [List.length_map,
          List.take_length]
    simp only [wRet, wSet, wSeq, wNext, wDrop, wIfS, wTest, wAnd, wOr, wNot, wIf, wBin, wVar, wC, wAndV, wOrV, wNotV, wIsN, wNotN, wNeg, wChain, wNil, wCons, wTup, wLst, wBi, wCall, wIsi, wSl, wSo, wNo, wSeqI, wFor, gNm, gTp, puts, wAsg, wPar, wMul, wmD, wmO, putsI, wAug, wTryIs, wRng1, wRng2, wEnum, wEnumT, wZip, wLc, wYes, wLend, wRel, wOwn, wApp, wIns, wSetIx, wLstF, wListF, wRepF, wAddF, wSlS, wParO, wRevT, wSortedSet, wSortedSetL, wSortedSetT, wKeys, weI, wExt, allD, wMt, wRaise, wSeqO, wCallF, plainO, wCallA, wIdx0, wAnF, wSetA, wUnA, wSeqA, plainA, wFld, wFldO, wMake, wLRg, Ans.data, Ans.own.injEq, Ans.tup.injEq, Ans.dat.injEq, wTry, wTryM, wHs, wIsC, enOf, put, putUn, defEnds, lendE, lend, wipeE, hide, lenD, intD, listD, tupleD, reprD, wPen0, wPen1, wPen2, wPenS1, wPenS2, penAt, List.map_cons, List.map_nil, List.length_cons, List.length_nil, List.nil_append, List.cons_append, Nat.reduceAdd, Nat.reduceSub, Nat.reduceLeDiff, Nat.zero_add, List.replicate_zero, List.replicate_succ, List.getElem?_cons_zero, List.getElem?_cons_succ, List.set_cons_zero, List.set_cons_succ, Option.some.injEq, Slot.dat.injEq, Slot.own.injEq, PyData.bool.injEq, PyData.int.injEq, PyData.tuple.injEq, PyData.list.injEq, exists_eq_left', exists_eq_left, and_true, true_and, if_true, if_false, Bool.false_eq_true, reduceCtorEq, List.mapIdx_cons, List.mapIdx_nil]
    exact q
/-- arguments of which one is wrong, in their order; or right ones -/
def RefT (A : Cls) (c v t : D) (k : Nat) (x : D → Nat → Prop) (good : D → Prop) : Prop := Good c ∧ Good v ∧ Good t ∧
  ((colsB c = false ∧ x (excD A.InvalidColumns) k) ∨ (∃ cs, c = .tuple cs ∧ okCols c ∧ ((viewB cs v = false ∧ x (excD A.InvalidView) k) ∨ (∃ u bs, v = viewT bs ∧ DrawV cs u bs ∧ ((tabB cs t = false ∧ x (excD A.InvalidTable) k) ∨ (∃ tab, t = tabT tab ∧ Tab cs tab ∧ good (.tuple (rowsV bs tab))))))))
def w_view_rows (A : Cls) : Wc := fun ds k Q x => ∃ c v t, ds = [c, v, t] ∧ RefT A c v t k x fun d => Q d k
theorem m_view_rows (A : Cls) : Wc.Mono (w_view_rows A) := fun ds k Q Q' x x' h1 h2 ⟨c, v, t, e, p1, p2, p3, q⟩ => ⟨c, v, t, e, p1, p2, p3, Or.imp (fun z => ⟨z.1, h2 _ _ z.2⟩) (fun ⟨cs, a, b, z⟩ => ⟨cs, a, b, Or.imp (fun z => ⟨z.1, h2 _ _ z.2⟩) (fun ⟨u, bs, e, f, z⟩ => ⟨u, bs, e, f, Or.imp (fun z => ⟨z.1, h2 _ _ z.2⟩) (fun ⟨tab, g, h, z⟩ => ⟨tab, g, h, h1 _ _ z⟩) z⟩) z⟩) q⟩
theorem d_view_rows (T : Txt K mg A) (d_check_columns : Def P w K mg base "check_columns" 4 ["columns"] (w_check_columns A)) (d_check_view : Def P w K mg base "check_view" 7 ["columns", "view"] (w_check_view A)) (d_check_table : Def P w K mg base "check_table" 5 ["columns", "table"] (w_check_table A)) (d_has_given : Def P w K mg base "has_given" 1 ["given", "row"] w_has_given) (F : FunAt K mg "view_rows" s_view_rows ["columns", "view", "table"]) : Def P w K mg base "view_rows" 8 ["columns", "view", "table"] (w_view_rows A) := by
  have m_check_view := @m_check_view A
  have m_check_table := @m_check_table A
  refine defD F sc_view_rows (fun ds k Q x ⟨_, _, _, e, _⟩ => by rw [e]; rfl) fun f cdv Ar outer s H E p G hg hr => ⟨_, (dss_cons (ds_drop (de_fn d_check_columns m_check_columns hg hr (takes_of rfl rfl rfl rfl) (da_cons (de_var (pv 0)) da_nil)))
    (dss_cons (ds_drop (de_fn d_check_view m_check_view hg hr (takes_of rfl rfl rfl rfl) (da_cons (de_var (pv 0)) (da_cons (de_var (pv 1)) da_nil))))
    (dss_cons (ds_drop (de_fn d_check_table m_check_table hg hr (takes_of rfl rfl rfl rfl) (da_cons (de_var (pv 0)) (da_cons (de_var (pv 2)) da_nil))))
    (dss_cons (ds_own (i := 3) (df_lst da_nil) sc_view_rows.nd)
    (dss_cons (ds_for (passes_of rfl) rfl (di_seq (de_var (pv 1))) (dg_tp rfl (dgs_cons (i := 4) sc_view_rows.nd (dgs_cons (i := 5) sc_view_rows.nd dgs_nil)))
    (dss_one (ds_for (passes_of rfl) rfl (di_seq (de_var (pv 2))) (dg_nm (i := 6) sc_view_rows.nd)
    (dss_one (ds_if (dt_val (de_fn d_has_given m_has_given hg hr (takes_of rfl rfl rfl rfl) (da_cons (de_var (pv 4)) (da_cons (de_var (pv 6)) da_nil))))
    (dss_one (ds_append (i := 3) (de_bt tupleD.mono fitsTuple call_tuple_of (da_cons (de_lc (own := [("column", 7)]) rfl sc_view_rows.nd (di_seq (de_var (pv 5))) (blkOk_by (N := ["columns", "view", "table", "rows", "chosen", "kept", "row", "column"]) (sc := defScope s_view_rows) (by decide +kernel)) (fun _ _ _ _ _ _ _ => (dgc_nm (i := 7) sc_view_rows.nd (by decide))) (fun _ _ _ _ _ _ _ => dts_nil) (fun _ _ _ _ _ _ _ => (de_idx (de_var (pv 6)) (de_var (pv 7))))) da_nil) T.z_tuple) (pv 3)))
    dss_nil)))))
    (dss_rel (dss_one (ds_ret (de_bt tupleD.mono fitsTuple call_tuple_of (da_cons (de_var (pv 3)) da_nil) T.z_tuple))))))))), ?_⟩
  rintro ds n Q x ⟨c, v, t, rfl, gc, gv, gt, q⟩
  simp only [wRet, wSet, wSeq, wNext, wDrop, wIfS, wTest, wAnd, wOr, wNot, wIf, wBin, wVar, wC, wAndV, wOrV, wNotV, wIsN, wNotN, wNeg, wChain, wNil, wCons, wTup, wLst, wBi, wCall, wIsi, wSl, wSo, wNo, wSeqI, wFor, gNm, gTp, puts, wAsg, wPar, wMul, wmD, wmO, putsI, wAug, wTryIs, wRng1, wRng2, wEnum, wEnumT, wZip, wLc, wYes, wLend, wRel, wOwn, wApp, wIns, wSetIx, wLstF, wListF, wRepF, wAddF, wSlS, wParO, wRevT, wSortedSet, wSortedSetL, wSortedSetT, wKeys, weI, wExt, allD, wMt, wRaise, wSeqO, wCallF, plainO, wCallA, wIdx0, wAnF, wSetA, wUnA, wSeqA, plainA, wFld, wFldO, wMake, wLRg, Ans.data, Ans.own.injEq, Ans.tup.injEq, Ans.dat.injEq, wTry, wTryM, wHs, wIsC, enOf, put, putUn, defEnds, lendE, lend, wipeE, hide, lenD, intD, listD, tupleD, reprD, wPen0, wPen1, wPen2, wPenS1, wPenS2, penAt, List.map_cons, List.map_nil, List.length_cons, List.length_nil, List.nil_append, List.cons_append, Nat.reduceAdd, Nat.reduceSub, Nat.reduceLeDiff, Nat.zero_add, List.replicate_zero, List.replicate_succ, List.getElem?_cons_zero, List.getElem?_cons_succ, List.set_cons_zero, List.set_cons_succ, Option.some.injEq, Slot.dat.injEq, Slot.own.injEq, PyData.bool.injEq, PyData.int.injEq, PyData.tuple.injEq, PyData.list.injEq, exists_eq_left', exists_eq_left, and_true, true_and, if_true, if_false, Bool.false_eq_true, reduceCtorEq, List.mapIdx_cons, List.mapIdx_nil]
  rcases q with ⟨hb, q⟩ | ⟨cs, rfl, hc, q⟩
  · exact ⟨_, rfl, gc, fun z => by (rw [hb] at z; cases z), fun _ => q⟩
  have ci := cols_ish hc.ok.good hc.b
  have c4 : cs.length ≤ 4 := by
    obtain ⟨_, e, _, _, c4, _⟩ := id hc
    cases e
    exact c4
  refine ⟨_, rfl, hc.ok.good, fun _ => ?_, fun z => by (rw [hc.b] at z; cases z)⟩
  rcases q with ⟨hb, q⟩ | ⟨u, bs, rfl, hD, q⟩
  · exact ⟨cs, _, rfl, ⟨ci, gv⟩, fun z => by (rw [hb] at z; cases z), fun _ => q⟩
  refine ⟨cs, _, rfl, ⟨ci, gv⟩, fun _ => ?_, fun z => by (rw [hD.b] at z; cases z)⟩
  rcases q with ⟨hb, q⟩ | ⟨tab, rfl, hT, q⟩
  · exact ⟨cs, _, rfl, ⟨ci, gt⟩, fun z => by (rw [hb] at z; cases z), fun _ => q⟩
  refine ⟨cs, _, rfl, ⟨ci, gt⟩, fun _ => ?_, fun z => by (rw [hT.b] at z; cases z)⟩
  have n3 := hD.n3
  have n8 := hT.n8
  have u4 := hD.u4
  refine ⟨_, rfl, ?_⟩
  refine wLoop.its (bs.map Br.data) (fun j e => ∃ (u3 u4 u5 : Slot), e = ⟨[.dat (.tuple cs), .dat (viewT bs), .dat (tabT tab), .own (rowsV (bs.take j) tab), u3, u4, u5, .un], n⟩) ?_ ?_ ⟨_, _, _, rfl⟩
  · rintro j d e hd ⟨u3, u4', u5, rfl⟩ N ih
    rw [List.getElem?_map] at hd
    obtain ⟨b, hj, rfl⟩ := Option.map_eq_some_iff.mp hd
    have hb := hD.br b (List.mem_of_getElem? hj)
    have jl : j < bs.length := (List.getElem?_eq_some_iff.mp hj).1
    have et : rowsV (bs.take (j + 1)) tab = rowsV (bs.take j) tab ++ rowsB b tab := by
      unfold rowsV
      rw [List.take_add_one, hj, List.flatMap_append]
      simp
    have len : (rowsV (bs.take j) tab).length ≤ j * 8 := rows_len n8 jl
    rw [et] at ih
    refine ⟨_, rfl, rfl, ?_⟩
    simp only [wRet, wSet, wSeq, wNext, wDrop, wIfS, wTest, wAnd, wOr, wNot, wIf, wBin, wVar, wC, wAndV, wOrV, wNotV, wIsN, wNotN, wNeg, wChain, wNil, wCons, wTup, wLst, wBi, wCall, wIsi, wSl, wSo, wNo, wSeqI, wFor, gNm, gTp, puts, wAsg, wPar, wMul, wmD, wmO, putsI, wAug, wTryIs, wRng1, wRng2, wEnum, wEnumT, wZip, wLc, wYes, wLend, wRel, wOwn, wApp, wIns, wSetIx, wLstF, wListF, wRepF, wAddF, wSlS, wParO, wRevT, wSortedSet, wSortedSetL, wSortedSetT, wKeys, weI, wExt, allD, wMt, wRaise, wSeqO, wCallF, plainO, wCallA, wIdx0, wAnF, wSetA, wUnA, wSeqA, plainA, wFld, wFldO, wMake, wLRg, Ans.data, Ans.own.injEq, Ans.tup.injEq, Ans.dat.injEq, wTry, wTryM, wHs, wIsC, enOf, put, putUn, defEnds, lendE, lend, wipeE, hide, lenD, intD, listD, tupleD, reprD, wPen0, wPen1, wPen2, wPenS1, wPenS2, penAt, List.map_cons, List.map_nil, List.length_cons, List.length_nil, List.nil_append, List.cons_append, Nat.reduceAdd, Nat.reduceSub, Nat.reduceLeDiff, Nat.zero_add, List.replicate_zero, List.replicate_succ, List.getElem?_cons_zero, List.getElem?_cons_succ, List.set_cons_zero, List.set_cons_succ, Option.some.injEq, Slot.dat.injEq, Slot.own.injEq, PyData.bool.injEq, PyData.int.injEq, PyData.tuple.injEq, PyData.list.injEq, exists_eq_left', exists_eq_left, and_true, true_and, if_true, if_false, Bool.false_eq_true, reduceCtorEq, List.mapIdx_cons, List.mapIdx_nil]
    refine ⟨_, rfl, ?_⟩
    refine wLoop.its (tab.map PyData.tuple) (fun i e => ∃ (u5 : Slot), e = ⟨[.dat (.tuple cs), .dat (viewT bs), .dat (tabT tab), .own (rowsV (bs.take j) tab ++ rowsB b (tab.take i)), .dat (.tuple (b.giv.map entM)), .dat (natsT b.kept), u5, .un], n⟩) ?_ ?_ ⟨u5, by rw [List.take_zero]; simp [rowsB]⟩
    · rintro i d e hd ⟨u5, rfl⟩ N2 ih2
      rw [List.getElem?_map] at hd
      obtain ⟨xs, hi, rfl⟩ := Option.map_eq_some_iff.mp hd
      have hx := hT.row xs (List.mem_of_getElem? hi)
      have er : rowsB b (tab.take (i + 1)) = rowsB b (tab.take i) ++ (if fitsB b xs = true then [keptR b xs] else []) := by
        unfold rowsB
        rw [List.take_add_one, hi, List.filter_append, List.map_append]
        congr 1
        rw [Option.toList_some, List.filter_cons]
        cases fitsB b xs <;> rfl
      rw [er] at ih2
      have hent : entsOk (b.giv.map entM) xs.length := fun d hd => by
        unfold Br.giv at hd
        rw [giv_entD] at hd
        obtain ⟨z, hz, rfl⟩ := List.mem_map.mp hd
        obtain ⟨e', he', rfl⟩ := List.mem_map.mp hz
        obtain ⟨h0, h1, _⟩ := hb.ent e' he'
        have := hb.val e' he'
        exact ⟨_, _, rfl, h0, by rw [hx.1]; exact h1, (L2.DL.Ok.int (by omega)).good⟩
      simp only [wRet, wSet, wSeq, wNext, wDrop, wIfS, wTest, wAnd, wOr, wNot, wIf, wBin, wVar, wC, wAndV, wOrV, wNotV, wIsN, wNotN, wNeg, wChain, wNil, wCons, wTup, wLst, wBi, wCall, wIsi, wSl, wSo, wNo, wSeqI, wFor, gNm, gTp, puts, wAsg, wPar, wMul, wmD, wmO, putsI, wAug, wTryIs, wRng1, wRng2, wEnum, wEnumT, wZip, wLc, wYes, wLend, wRel, wOwn, wApp, wIns, wSetIx, wLstF, wListF, wRepF, wAddF, wSlS, wParO, wRevT, wSortedSet, wSortedSetL, wSortedSetT, wKeys, weI, wExt, allD, wMt, wRaise, wSeqO, wCallF, plainO, wCallA, wIdx0, wAnF, wSetA, wUnA, wSeqA, plainA, wFld, wFldO, wMake, wLRg, Ans.data, Ans.own.injEq, Ans.tup.injEq, Ans.dat.injEq, wTry, wTryM, wHs, wIsC, enOf, put, putUn, defEnds, lendE, lend, wipeE, hide, lenD, intD, listD, tupleD, reprD, wPen0, wPen1, wPen2, wPenS1, wPenS2, penAt, List.map_cons, List.map_nil, List.length_cons, List.length_nil, List.nil_append, List.cons_append, Nat.reduceAdd, Nat.reduceSub, Nat.reduceLeDiff, Nat.zero_add, List.replicate_zero, List.replicate_succ, List.getElem?_cons_zero, List.getElem?_cons_succ, List.set_cons_zero, List.set_cons_succ, Option.some.injEq, Slot.dat.injEq, Slot.own.injEq, PyData.bool.injEq, PyData.int.injEq, PyData.tuple.injEq, PyData.list.injEq, exists_eq_left', exists_eq_left, and_true, true_and, if_true, if_false, Bool.false_eq_true, reduceCtorEq, List.mapIdx_cons, List.mapIdx_nil]
      refine ⟨_, _, rfl, ⟨_, _, rfl, rfl, hent, fun d hd => by obtain ⟨i, rfl, i0, i1⟩ := hx.val d hd; exact (L2.DL.Ok.int (by omega)).good⟩, ?_⟩
      dsimp only
      rw [hasB_fits]
      refine ⟨_, rfl, ?_⟩
      have len2 : (rowsB b (tab.take i)).length ≤ 8 := Nat.le_trans rowsB_len (by rw [List.length_take]; omega)
      cases hf : fitsB b xs with
      | false =>
        rw [hf] at ih2
        rw [if_neg (by decide)]
        simp only [Bool.false_eq_true, if_false, List.append_nil] at ih2
        exact ih2 _ ⟨_, rfl⟩
      | true =>
        rw [hf] at ih2
        rw [if_pos rfl]
        simp only [if_true, ← List.append_assoc] at ih2
        refine ⟨⟨_, rfl⟩, _, rfl, ?_⟩
        refine lcLoop.fm (fun d => some (getK xs d)) (fun d hd X Y h3 h4 => ?_) (by rw [List.length_nil, List.length_map, hb.kl]; omega) ?_
        · obtain ⟨k, hk, rfl⟩ := List.mem_map.mp hd
          have := hb.ks k hk
          simp (decide := true) only [wRet, wSet, wSeq, wNext, wDrop, wIfS, wTest, wAnd, wOr, wNot, wIf, wBin, wVar, wC, wAndV, wOrV, wNotV, wIsN, wNotN, wNeg, wChain, wNil, wCons, wTup, wLst, wBi, wCall, wIsi, wSl, wSo, wNo, wSeqI, wFor, gNm, gTp, puts, wAsg, wPar, wMul, wmD, wmO, putsI, wAug, wTryIs, wRng1, wRng2, wEnum, wEnumT, wZip, wLc, wYes, wLend, wRel, wOwn, wApp, wIns, wSetIx, wLstF, wListF, wRepF, wAddF, wSlS, wParO, wRevT, wSortedSet, wSortedSetL, wSortedSetT, wKeys, weI, wExt, allD, wMt, wRaise, wSeqO, wCallF, plainO, wCallA, wIdx0, wAnF, wSetA, wUnA, wSeqA, plainA, wFld, wFldO, wMake, wLRg, Ans.data, Ans.own.injEq, Ans.tup.injEq, Ans.dat.injEq, wTry, wTryM, wHs, wIsC, enOf, put, putUn, defEnds, lendE, lend, wipeE, hide, lenD, intD, listD, tupleD, reprD, wPen0, wPen1, wPen2, wPenS1, wPenS2, penAt, List.map_cons, List.map_nil, List.length_cons, List.length_nil, List.nil_append, List.cons_append, Nat.reduceAdd, Nat.reduceSub, Nat.reduceLeDiff, Nat.zero_add, List.replicate_zero, List.replicate_succ, List.getElem?_cons_zero, List.getElem?_cons_succ, List.set_cons_zero, List.set_cons_succ, Option.some.injEq, Slot.dat.injEq, Slot.own.injEq, PyData.bool.injEq, PyData.int.injEq, PyData.tuple.injEq, PyData.list.injEq, exists_eq_left', exists_eq_left, and_true, true_and, if_true, if_false, Bool.false_eq_true, reduceCtorEq, List.mapIdx_cons, List.mapIdx_nil, natD]
          refine ⟨_, atI_pos (by omega) (by rw [hx.1]; omega), h4 _ ?_⟩
          rfl
        · rw [List.nil_append, fmap_some]
          have e : (b.kept.map natD).map (getK xs) = b.kept.map fun k => xs.getD k .none := by
            rw [List.map_map]
            exact List.map_congr_left fun k _ => by show xs.getD (Int.toNat ((k : Nat) : Int)) .none = _; rw [Int.toNat_natCast]
          rw [e]
          refine ⟨by rw [List.length_append]; omega, ?_⟩
          exact ih2 _ ⟨_, rfl⟩
    · rintro e ⟨u5, rfl⟩
      rw [List.length_map,
            List.take_length]
      exact ih _ ⟨_, _, _, rfl⟩
  · rintro e ⟨u3, u4', u5, rfl⟩
    rw [List.length_map,
          List.take_length]
    simp only [wRet, wSet, wSeq, wNext, wDrop, wIfS, wTest, wAnd, wOr, wNot, wIf, wBin, wVar, wC, wAndV, wOrV, wNotV, wIsN, wNotN, wNeg, wChain, wNil, wCons, wTup, wLst, wBi, wCall, wIsi, wSl, wSo, wNo, wSeqI, wFor, gNm, gTp, puts, wAsg, wPar, wMul, wmD, wmO, putsI, wAug, wTryIs, wRng1, wRng2, wEnum, wEnumT, wZip, wLc, wYes, wLend, wRel, wOwn, wApp, wIns, wSetIx, wLstF, wListF, wRepF, wAddF, wSlS, wParO, wRevT, wSortedSet, wSortedSetL, wSortedSetT, wKeys, weI, wExt, allD, wMt, wRaise, wSeqO, wCallF, plainO, wCallA, wIdx0, wAnF, wSetA, wUnA, wSeqA, plainA, wFld, wFldO, wMake, wLRg, Ans.data, Ans.own.injEq, Ans.tup.injEq, Ans.dat.injEq, wTry, wTryM, wHs, wIsC, enOf, put, putUn, defEnds, lendE, lend, wipeE, hide, lenD, intD, listD, tupleD, reprD, wPen0, wPen1, wPen2, wPenS1, wPenS2, penAt, List.map_cons, List.map_nil, List.length_cons, List.length_nil, List.nil_append, List.cons_append, Nat.reduceAdd, Nat.reduceSub, Nat.reduceLeDiff, Nat.zero_add, List.replicate_zero, List.replicate_succ, List.getElem?_cons_zero, List.getElem?_cons_succ, List.set_cons_zero, List.set_cons_succ, Option.some.injEq, Slot.dat.injEq, Slot.own.injEq, PyData.bool.injEq, PyData.int.injEq, PyData.tuple.injEq, PyData.list.injEq, exists_eq_left', exists_eq_left, and_true, true_and, if_true, if_false, Bool.false_eq_true, reduceCtorEq, List.mapIdx_cons, List.mapIdx_nil]
    exact q
end
end L2.DL.K30
namespace L2.DL.K30
open PySem PySem.Spec
      PyProof.Rows
section
variable {P : Program} {w : World} {K : PySem.W.Frag} {mg : Str → Option Value} {base : Heap} {A : Cls}
def w_law_told : Wc := fun ds k Q _ => ∃ c v t, ds = [c, v, t] ∧ Good (.tuple [c, v, t]) ∧
  ((colsB c = false ∧ Q (.str "columns") k) ∨ (∃ cs, c = .tuple cs ∧ okCols c ∧ ((viewB cs v = false ∧ Q (.str "view") k) ∨ (∃ u bs, v = viewT bs ∧ DrawV cs u bs ∧ ((tabB cs t = false ∧ Q (.str "table") k) ∨ (∃ tab, t = tabT tab ∧ Tab cs tab ∧ Q (.tuple (rowsV bs tab)) k))))))
theorem m_law_told : Wc.Mono w_law_told := fun ds k Q Q' x x' h1 _ ⟨c, v, t, e, p1, q⟩ => ⟨c, v, t, e, p1, Or.imp (fun z => ⟨z.1, h1 _ _ z.2⟩) (fun ⟨cs, a, b, z⟩ => ⟨cs, a, b, Or.imp (fun z => ⟨z.1, h1 _ _ z.2⟩) (fun ⟨u, bs, e, f, z⟩ => ⟨u, bs, e, f, Or.imp (fun z => ⟨z.1, h1 _ _ z.2⟩) (fun ⟨tab, g, h, z⟩ => ⟨tab, g, h, h1 _ _ z⟩) z⟩) z⟩) q⟩
theorem d_law_told (T : Txt K mg A) (d_view_rows : Def P w K mg base "view_rows" 8 ["columns", "view", "table"] (w_view_rows A)) (d_law_refusal : Def P w K mg base "_law_refusal" 1 ["_law_caught"] (w_law_refusal A)) (F : FunAt K mg "_law_told" s_law_told ["_law_columns_here", "_law_view_here", "_law_table"]) : Def P w K mg base "_law_told" 9 ["_law_columns_here", "_law_view_here", "_law_table"] w_law_told := by
  have m_view_rows := m_view_rows A
  refine defD F sc_law_told (fun ds k Q x ⟨_, _, _, e, _⟩ => by rw [e]; rfl) fun f cdv Ar outer s H E p G hg hr => ⟨_, (dss_cons (ds_asg (de_tup (da_cons de_non (da_cons de_non da_nil))) (dg_tp rfl (dgs_cons (i := 3) sc_law_told.nd (dgs_cons (i := 4) sc_law_told.nd dgs_nil))))
    (dss_cons (ds_set (i := 5) (de_bi reprD.mono fitsRepr (call_reprD hg hr.units) (da_cons (de_tup (da_cons (de_var (pv 0)) (da_cons (de_var (pv 1)) (da_cons (de_var (pv 2)) da_nil)))) da_nil) T.z_repr) sc_law_told.nd)
    (dss_cons (ds_try (i := 6) (j := 3) (CR := .ref A.RuleError) rfl rfl rfl sc_law_told.nd ⟨rfl, by decide, .inl T.g_RuleError⟩ (fun W pn xe tk po => (dss_one (ds_set (i := 4) (de_fn d_view_rows m_view_rows hg hr tk (da_cons (de_var (pv 0)) (da_cons (de_var (pv 1)) (da_cons (de_var (pv 2)) da_nil)))) sc_law_told.nd))))
    (dss_cons (ds_if (dt_cmp (op_neA hr.units) neD.mono fitsNe (de_bi reprD.mono fitsRepr (call_reprD hg hr.units) (da_cons (de_tup (da_cons (de_var (pv 0)) (da_cons (de_var (pv 1)) (da_cons (de_var (pv 2)) da_nil)))) da_nil) T.z_repr) (de_var (pv 5)))
    (dss_one (ds_ret de_str))
    dss_nil)
    (dss_one (ds_ret (de_if (dt_isN (de_var (pv 3))) (de_var (pv 4)) (de_fn d_law_refusal m_law_refusal hg hr (takes_of rfl rfl rfl rfl) (da_cons (de_var (pv 3)) da_nil))))))))), ?_⟩
  rintro ds n Q x ⟨c, v, t, rfl, g, q⟩
  have gc := g.in_tuple c (by simp)
  have gv := g.in_tuple v (by simp)
  have gt := g.in_tuple t (by simp)
  have same : ∀ y : Str, ¬ (!PyData.eqv (.str y) (.str y)) = true := fun y => by simp [PyData.eqv]
  simp only [wRet, wSet, wSeq, wNext, wDrop, wIfS, wTest, wAnd, wOr, wNot, wIf, wBin, wVar, wC, wAndV, wOrV, wNotV, wIsN, wNotN, wNeg, wChain, wNil, wCons, wTup, wLst, wBi, wCall, wIsi, wSl, wSo, wNo, wSeqI, wFor, gNm, gTp, puts, wAsg, wPar, wMul, wmD, wmO, putsI, wAug, wTryIs, wRng1, wRng2, wEnum, wEnumT, wZip, wLc, wYes, wLend, wRel, wOwn, wApp, wIns, wSetIx, wLstF, wListF, wRepF, wAddF, wSlS, wParO, wRevT, wSortedSet, wSortedSetL, wSortedSetT, wKeys, weI, wExt, allD, wMt, wRaise, wSeqO, wCallF, plainO, wCallA, wIdx0, wAnF, wSetA, wUnA, wSeqA, plainA, wFld, wFldO, wMake, wLRg, Ans.data, Ans.own.injEq, Ans.tup.injEq, Ans.dat.injEq, wTry, wTryM, wHs, wIsC, enOf, put, putUn, defEnds, lendE, lend, wipeE, hide, lenD, intD, listD, tupleD, reprD, wPen0, wPen1, wPen2, wPenS1, wPenS2, penAt, List.map_cons, List.map_nil, List.length_cons, List.length_nil, List.nil_append, List.cons_append, Nat.reduceAdd, Nat.reduceSub, Nat.reduceLeDiff, Nat.zero_add, List.replicate_zero, List.replicate_succ, List.getElem?_cons_zero, List.getElem?_cons_succ, List.set_cons_zero, List.set_cons_succ, Option.some.injEq, Slot.dat.injEq, Slot.own.injEq, PyData.bool.injEq, PyData.int.injEq, PyData.tuple.injEq, PyData.list.injEq, exists_eq_left', exists_eq_left, and_true, true_and, if_true, if_false, Bool.false_eq_true, reduceCtorEq, List.mapIdx_cons, List.mapIdx_nil, neD, eqD, twoInts, true_or, true_and]
  refine ⟨g, c, v, t, rfl, gc, gv, gt, ?_⟩
  rcases q with ⟨hb, q⟩ | ⟨cs, rfl, hc, q⟩
  · refine .inl ⟨hb, A.InvalidColumns, rfl, T.m_InvalidColumns_RuleError, g, ?_⟩
    rw [if_neg (same _), if_neg (fun z => nomatch z)]
    exact ⟨_, _, rfl, .inl ⟨rfl, rfl⟩, q⟩
  refine .inr ⟨cs, rfl, hc, ?_⟩
  rcases q with ⟨hb, q⟩ | ⟨u, bs, rfl, hD, q⟩
  · refine .inl ⟨hb, A.InvalidView, rfl, T.m_InvalidView_RuleError, g, ?_⟩
    rw [if_neg (same _), if_neg (fun z => nomatch z)]
    exact ⟨_, _, rfl, .inr (.inl ⟨rfl, rfl⟩), q⟩
  refine .inr ⟨u, bs, rfl, hD, ?_⟩
  rcases q with ⟨hb, q⟩ | ⟨tab, rfl, hT, q⟩
  · refine .inl ⟨hb, A.InvalidTable, rfl, T.m_InvalidTable_RuleError, g, ?_⟩
    rw [if_neg (same _), if_neg (fun z => nomatch z)]
    exact ⟨_, _, rfl, .inr (.inr ⟨rfl, rfl⟩), q⟩
  refine .inr ⟨tab, rfl, hT, g, ?_⟩
  rw [if_neg (same _), if_pos (show isN .none = true from rfl)]
  exact q
/-! ### sizes of what is answered -/
theorem rows_good {cs : List D} {u : Nat} {bs : List Br} {tab : List (List D)} (c4 : cs.length ≤ 4) (hD : DrawV cs u bs) (hT : Tab cs tab) : Good (.tuple (rowsV bs tab)) := by
  have n3 := hD.n3
  have n8 := hT.n8
  have one : ∀ d ∈ rowsV bs tab, L2.DL.Ok 5 1 d := fun d hd => by
    unfold rowsV at hd
    obtain ⟨b, hb, hd⟩ := List.mem_flatMap.mp hd
    obtain ⟨xs, hx, rfl⟩ := List.mem_map.mp hd
    have hx := (List.mem_filter.mp hx).1
    have hb' := hD.br b hb
    have hr := hT.row xs hx
    refine Ok.tuple (n := 1) (m := 0) (k := 4) (fun d hd => ?_) (by rw [List.length_map, hb'.kl]; exact hD.u4)
    obtain ⟨k, hk, rfl⟩ := List.mem_map.mp hd
    have := hb'.ks k hk
    obtain ⟨i, e, i0, i1⟩ := hr.val _ (getD_in (l := xs) (j := k) (a0 := .none) (by rw [hr.1]; exact this))
    rw [e]
    exact L2.DL.Ok.int (by omega)
  have len : (rowsV bs tab).length ≤ 24 := by
    have : ∀ l : List Br, (l.flatMap fun b => rowsB b tab).length ≤ l.length * 8 := by
      intro l
      induction l with
      | nil => simp
      | cons b l ih =>
        rw [List.flatMap_cons, List.length_append, List.length_cons]
        have := rowsB_len (b := b) (tab := tab)
        omega
    have := this bs
    unfold rowsV
    omega
  exact (Ok.tuple (n := 5) (m := 1) (k := 24) one len).good
theorem Tab.ok {cs : List D} {tab : List (List D)} (c4 : cs.length ≤ 4) (h : Tab cs tab) : L2.DL.Ok 41 2 (tabT tab) :=
  Ok.tuple (n := 5) (m := 1) (k := 8) (fun d hd => by
    obtain ⟨xs, hx, rfl⟩ := List.mem_map.mp hd
    exact (h.row xs hx).ok c4) (by rw [List.length_map]; exact h.n8)
end
end L2.DL.K30
namespace L2.DL.K30
open PySem PySem.Spec
      PyProof.Rows
/-! ### the pen is made -/
theorem s12 (n d : Nat) : HT.sIx n d (some 12) = min 12 n := HT.sIx_nat n d 12
theorem cut12 (ns : List Int) : ∃ xs : List Int, cutD (ns.map PyData.int) none (some 12) = xs.map PyData.int ∧ xs.length ≤ 12 ∧ (12 ≤ ns.length → xs.length = 12) := by
  refine ⟨ns.take (HT.sIx (ns.map PyData.int).length (ns.map PyData.int).length (some 12)), ?_, ?_, ?_⟩
  · unfold cutD
    rw [show HT.sIx (ns.map PyData.int).length 0 none = 0 from rfl, List.drop_zero, Nat.sub_zero, List.map_take]
  · rw [List.length_take, s12]
    omega
  · intro h
    rw [List.length_take, s12, List.length_map]
    omega
theorem cut63 (ns : List Int) : ∃ xs : List Int, cutD (ns.map PyData.int) (some 12) (some 63) = xs.map PyData.int ∧ (xs ≠ [] → 12 ≤ ns.length) := by
  refine ⟨(ns.drop (HT.sIx (ns.map PyData.int).length 0 (some 12))).take (HT.sIx (ns.map PyData.int).length (ns.map PyData.int).length (some 63) - HT.sIx (ns.map PyData.int).length 0 (some 12)), ?_, fun h => ?_⟩
  · unfold cutD
    rw [List.map_take,
          List.map_drop]
  · have : (ns.drop (HT.sIx (ns.map PyData.int).length 0 (some 12))) ≠ [] := fun z => h (by rw [z]; simp)
    rw [s12, List.length_map, ne_eq, List.drop_eq_nil_iff] at this
    omega
def spOpen (K : PySem.W.Frag) : Sp := fun vs H Q _ => ∃ (a : Addr) (ns : List Int), vs = [.ref a] ∧ SqL K H a (ns.map V.int) ∧ ∀ q G' H', Wd K (some q) 5000 G' H' → Q (.ref q) H'
section
variable {P : Program} {w : World} {K : PySem.W.Frag} {mg : Str → Option Value} {base : Heap} {A : Cls}
theorem ok_law_open (T : Txt K mg A) (F : FunAt K mg "_law_open" s_law_open ["_law_script"]) : ∃ f fd, FnG P w K mg base 1 f fd ["_law_script"] (spOpen K) ∧ mg "_law_open" = some (.ref f) ∧ PySem.W.keepIn K (.ref f) = true ∧ Binds K fd ["_law_script"] [] := by
  obtain ⟨f, fd, h1, h2, h3⟩ := F
  refine ⟨f, fd, ?_, h2, h1.kp, h3⟩
  refine fnG_of h1 sc_law_open (fun vs H Q E ⟨a, ns, e, _⟩ => by rw [e]; rfl) fun cdv Ar outer s H vs Q E hg hr h => ?_
  obtain ⟨a, ns, rfl, hS, q⟩ := h
  refine ⟨_, pss_cons (DS.run (F := ⟨none, H, H, fun _ _ _ _ => False⟩) (ds_own (i := 1) (df_list (de_slS (de_var (pv 0)) do_none (do_some de_int)) T.z_list) sc_law_open.nd)) (pss_cons (DS.run (F := ⟨none, H, H, fun _ _ _ _ => False⟩) (ds_for (passes_of rfl) rfl (di_enum (de_slS (de_var (pv 0)) (do_some de_int) (do_some de_int)) T.z_enumerate) (dg_tp rfl (dgs_cons (i := 2) sc_law_open.nd (dgs_cons (i := 3) sc_law_open.nd dgs_nil)))
    (dss_one (ds_setix (i := 1) (de_bin op_mod modD.mono fitsMod (de_bt intD.mono fitsInt call_int1 (da_cons (de_var (pv 2)) da_nil) T.z_int) de_int) (de_lend fun _ _ => (de_bin op_addA addD.mono fitsAdd (de_idx (de_var (pv 1)) (de_bin op_mod modD.mono fitsMod (de_bt intD.mono fitsInt call_int1 (da_cons (de_var (pv 2)) da_nil) T.z_int) de_int)) (de_var (pv 3)))) (pv 1))))) (pss_one (ps_ret (DF.run (F := ⟨none, H, H, fun _ _ _ _ => False⟩) (df_lst (da_cons (de_var (pv 1)) (da_cons de_int (da_cons de_int da_nil)))))))), ?_⟩
  refine ⟨_, H, Rl.start (k := 0) ⟨Same.refl H, fun _ z => nomatch z⟩ (.cons (.scr hS rfl) .nil), ?_⟩
  simp only [wRet, wSet, wSeq, wNext, wDrop, wIfS, wTest, wAnd, wOr, wNot, wIf, wBin, wVar, wC, wAndV, wOrV, wNotV, wIsN, wNotN, wNeg, wChain, wNil, wCons, wTup, wLst, wBi, wCall, wIsi, wSl, wSo, wNo, wSeqI, wFor, gNm, gTp, puts, wAsg, wPar, wMul, wmD, wmO, putsI, wAug, wTryIs, wRng1, wRng2, wEnum, wEnumT, wZip, wLc, wYes, wLend, wRel, wOwn, wApp, wIns, wSetIx, wLstF, wListF, wRepF, wAddF, wSlS, wParO, wRevT, wSortedSet, wSortedSetL, wSortedSetT, wKeys, weI, wExt, allD, wMt, wRaise, wSeqO, wCallF, plainO, wCallA, wIdx0, wAnF, wSetA, wUnA, wSeqA, plainA, wFld, wFldO, wMake, wLRg, Ans.data, Ans.own.injEq, Ans.tup.injEq, Ans.dat.injEq, wTry, wTryM, wHs, wIsC, enOf, put, putUn, defEnds, lendE, lend, wipeE, hide, lenD, intD, listD, tupleD, reprD, wPen0, wPen1, wPen2, wPenS1, wPenS2, penAt, List.map_cons, List.map_nil, List.length_cons, List.length_nil, List.nil_append, List.cons_append, Nat.reduceAdd, Nat.reduceSub, Nat.reduceLeDiff, Nat.zero_add, List.replicate_zero, List.replicate_succ, List.getElem?_cons_zero, List.getElem?_cons_succ, List.set_cons_zero, List.set_cons_succ, Option.some.injEq, Slot.dat.injEq, Slot.own.injEq, PyData.bool.injEq, PyData.int.injEq, PyData.tuple.injEq, PyData.list.injEq, exists_eq_left', exists_eq_left, and_true, true_and, if_true, if_false, Bool.false_eq_true, reduceCtorEq, List.mapIdx_cons, List.mapIdx_nil, endsOf]
  obtain ⟨xs, e1, l1, l2⟩ := cut12 ns
  obtain ⟨ys, e2, l3⟩ := cut63 ns
  refine ⟨ns, rfl, _, rfl, ?_⟩
  rw [e1]
  intro σ1 G1 H1 s1 r1
  refine ⟨_, G1, r1, ?_⟩
  simp only [wRet, wSet, wSeq, wNext, wDrop, wIfS, wTest, wAnd, wOr, wNot, wIf, wBin, wVar, wC, wAndV, wOrV, wNotV, wIsN, wNotN, wNeg, wChain, wNil, wCons, wTup, wLst, wBi, wCall, wIsi, wSl, wSo, wNo, wSeqI, wFor, gNm, gTp, puts, wAsg, wPar, wMul, wmD, wmO, putsI, wAug, wTryIs, wRng1, wRng2, wEnum, wEnumT, wZip, wLc, wYes, wLend, wRel, wOwn, wApp, wIns, wSetIx, wLstF, wListF, wRepF, wAddF, wSlS, wParO, wRevT, wSortedSet, wSortedSetL, wSortedSetT, wKeys, weI, wExt, allD, wMt, wRaise, wSeqO, wCallF, plainO, wCallA, wIdx0, wAnF, wSetA, wUnA, wSeqA, plainA, wFld, wFldO, wMake, wLRg, Ans.data, Ans.own.injEq, Ans.tup.injEq, Ans.dat.injEq, wTry, wTryM, wHs, wIsC, enOf, put, putUn, defEnds, lendE, lend, wipeE, hide, lenD, intD, listD, tupleD, reprD, wPen0, wPen1, wPen2, wPenS1, wPenS2, penAt, List.map_cons, List.map_nil, List.length_cons, List.length_nil, List.nil_append, List.cons_append, Nat.reduceAdd, Nat.reduceSub, Nat.reduceLeDiff, Nat.zero_add, List.replicate_zero, List.replicate_succ, List.getElem?_cons_zero, List.getElem?_cons_succ, List.set_cons_zero, List.set_cons_succ, Option.some.injEq, Slot.dat.injEq, Slot.own.injEq, PyData.bool.injEq, PyData.int.injEq, PyData.tuple.injEq, PyData.list.injEq, exists_eq_left', exists_eq_left, and_true, true_and, if_true, if_false, Bool.false_eq_true, reduceCtorEq, List.mapIdx_cons, List.mapIdx_nil, endsOf]
  refine ⟨ns, rfl, ?_⟩
  rw [e2]
  have hp : ∀ d ∈ pairs (rngD 0 (ys.map PyData.int).length) (ys.map PyData.int), ∃ i j : Int, d = .tuple [.int i, .int j] := fun d hd => by
    obtain ⟨i, hi⟩ := List.mem_iff_getElem?.mp hd
    obtain ⟨c, v, h1, h2, h3⟩ := pairs_at hi
    obtain ⟨_, rfl⟩ := rngD_at h1
    obtain ⟨j, _, rfl⟩ := List.mem_map.mp (List.mem_of_getElem? h2)
    exact ⟨_, j, h3⟩
  refine wLoop.ind (fun ds e => ∃ (xs : List Int) (u v : Slot), e = ⟨[.dat (scrD ns), .own (xs.map PyData.int), u, v], 0⟩ ∧ xs.length ≤ 12 ∧ (ds ≠ [] → xs.length = 12) ∧ ∀ d ∈ ds, ∃ i j : Int, d = .tuple [.int i, .int j]) ?_ ?_
    ⟨xs, .un, .un, rfl, l1, fun h => l2 (l3 fun z => h (by rw [z]; rfl)), hp⟩
  · rintro e ⟨zs, u, v, rfl, h1, _, _⟩
    intro σ2 G2 H2 s2 r2
    obtain ⟨G3, s3, r3⟩ := Rl.lent (F := ⟨none, H, H, fun _ _ _ _ => False⟩) r2
    refine ⟨_, G3, r3, ?_⟩
    simp only [wRet, wSet, wSeq, wNext, wDrop, wIfS, wTest, wAnd, wOr, wNot, wIf, wBin, wVar, wC, wAndV, wOrV, wNotV, wIsN, wNotN, wNeg, wChain, wNil, wCons, wTup, wLst, wBi, wCall, wIsi, wSl, wSo, wNo, wSeqI, wFor, gNm, gTp, puts, wAsg, wPar, wMul, wmD, wmO, putsI, wAug, wTryIs, wRng1, wRng2, wEnum, wEnumT, wZip, wLc, wYes, wLend, wRel, wOwn, wApp, wIns, wSetIx, wLstF, wListF, wRepF, wAddF, wSlS, wParO, wRevT, wSortedSet, wSortedSetL, wSortedSetT, wKeys, weI, wExt, allD, wMt, wRaise, wSeqO, wCallF, plainO, wCallA, wIdx0, wAnF, wSetA, wUnA, wSeqA, plainA, wFld, wFldO, wMake, wLRg, Ans.data, Ans.own.injEq, Ans.tup.injEq, Ans.dat.injEq, wTry, wTryM, wHs, wIsC, enOf, put, putUn, defEnds, lendE, lend, wipeE, hide, lenD, intD, listD, tupleD, reprD, wPen0, wPen1, wPen2, wPenS1, wPenS2, penAt, List.map_cons, List.map_nil, List.length_cons, List.length_nil, List.nil_append, List.cons_append, Nat.reduceAdd, Nat.reduceSub, Nat.reduceLeDiff, Nat.zero_add, List.replicate_zero, List.replicate_succ, List.getElem?_cons_zero, List.getElem?_cons_succ, List.set_cons_zero, List.set_cons_succ, Option.some.injEq, Slot.dat.injEq, Slot.own.injEq, PyData.bool.injEq, PyData.int.injEq, PyData.tuple.injEq, PyData.list.injEq, exists_eq_left', exists_eq_left, and_true, true_and, if_true, if_false, Bool.false_eq_true, reduceCtorEq, List.mapIdx_cons, List.mapIdx_nil]
    intro b vs G4 H4 s4 r4 hb ra
    cases ra with
    | cons ra1 ra =>
      cases ra with
      | cons ra2 ra =>
        cases ra with
        | cons ra3 ra =>
          cases ra
          obtain ⟨c, cs, rfl, hc, hcs⟩ := ra1.lst_inv
          cases ra2.int_inv
          cases ra3.int_inv
          have ec := hcs.ofInts
          subst ec
          have gb : G4 b = none := r4.same.free hb
          refine q b G4 _ ⟨fun d o z => by rw [upd_ne (ne_of_none z gb)]; exact r4.same _ _ z, fun d ed => ?_⟩
          cases ed
          exact ⟨gb, c, zs, 0, 0, upd_same, hc, h1, by decide, by decide⟩
  · rintro d ds e ih ⟨zs, u, v, rfl, h1, h2, h3⟩
    obtain ⟨i, j, rfl⟩ := h3 d List.mem_cons_self
    have h4 := h2 (by simp)
    simp only [wRet, wSet, wSeq, wNext, wDrop, wIfS, wTest, wAnd, wOr, wNot, wIf, wBin, wVar, wC, wAndV, wOrV, wNotV, wIsN, wNotN, wNeg, wChain, wNil, wCons, wTup, wLst, wBi, wCall, wIsi, wSl, wSo, wNo, wSeqI, wFor, gNm, gTp, puts, wAsg, wPar, wMul, wmD, wmO, putsI, wAug, wTryIs, wRng1, wRng2, wEnum, wEnumT, wZip, wLc, wYes, wLend, wRel, wOwn, wApp, wIns, wSetIx, wLstF, wListF, wRepF, wAddF, wSlS, wParO, wRevT, wSortedSet, wSortedSetL, wSortedSetT, wKeys, weI, wExt, allD, wMt, wRaise, wSeqO, wCallF, plainO, wCallA, wIdx0, wAnF, wSetA, wUnA, wSeqA, plainA, wFld, wFldO, wMake, wLRg, Ans.data, Ans.own.injEq, Ans.tup.injEq, Ans.dat.injEq, wTry, wTryM, wHs, wIsC, enOf, put, putUn, defEnds, lendE, lend, wipeE, hide, lenD, intD, listD, tupleD, reprD, wPen0, wPen1, wPen2, wPenS1, wPenS2, penAt, List.map_cons, List.map_nil, List.length_cons, List.length_nil, List.nil_append, List.cons_append, Nat.reduceAdd, Nat.reduceSub, Nat.reduceLeDiff, Nat.zero_add, List.replicate_zero, List.replicate_succ, List.getElem?_cons_zero, List.getElem?_cons_succ, List.set_cons_zero, List.set_cons_succ, Option.some.injEq, Slot.dat.injEq, Slot.own.injEq, PyData.bool.injEq, PyData.int.injEq, PyData.tuple.injEq, PyData.list.injEq, exists_eq_left', exists_eq_left, and_true, true_and, if_true, if_false, Bool.false_eq_true, reduceCtorEq, List.mapIdx_cons, List.mapIdx_nil, modD, addD]
    have i0 : 0 ≤ i % 12 := Int.emod_nonneg _ (by decide)
    have i1 : i % 12 < (zs.map PyData.int).length := by
      have := Int.emod_lt_of_pos i (show (0 : Int) < 12 by decide)
      rw [List.length_map, h4]
      exact this
    have mm := getD_mem i0 i1
    obtain ⟨v, _, hv⟩ := List.mem_map.mp mm
    refine ⟨by decide, .int v, by rw [atI_pos i0 i1, hv], rfl, ⟨_, rfl⟩, by decide, _, _, (i % 12).toNat, rfl, rfl, ixN_pos i0 i1, ih _ ⟨zs.set (i % 12).toNat (v + j), _, _, by rw [List.map_set], by simpa using h1, fun _ => by simpa using h4, fun d hd => h3 d (List.mem_cons_of_mem _ hd)⟩⟩
end
end L2.DL.K30
namespace L2.DL.K30
open PySem PySem.Spec
      PyProof.Rows
/-! ### rows and tables with one wrong cell -/
theorem asc_le : ∀ {vs : List Int} {l : Int}, ascB l (vs.map PyData.int) = true → vs ≠ [] → l < vs.getD (vs.length - 1) 0 ∧ ∀ v ∈ vs, v ≤ vs.getD (vs.length - 1) 0
  | [], _, _, h => absurd rfl h
  | [v], l, h, _ => by
    simp only [List.map_cons, List.map_nil, ascB, Bool.and_eq_true, decide_eq_true_eq] at h
    exact ⟨h.1, fun x hx => by rw [List.mem_singleton.mp hx]; exact Int.le_refl _⟩
  | v :: w :: vs, l, h, _ => by
    rw [List.map_cons] at h
    simp only [ascB, Bool.and_eq_true, decide_eq_true_eq] at h
    obtain ⟨h1, h2⟩ := asc_le (vs := w :: vs) (l := v) h.2 (by simp)
    have e : (v :: w :: vs).getD ((v :: w :: vs).length - 1) 0 = (w :: vs).getD ((w :: vs).length - 1) 0 := rfl
    rw [e]
    refine ⟨by omega,
          fun x hx => ?_⟩
    rcases List.mem_cons.mp
          hx with rfl | hx
    · omega
    · exact h2 x hx
theorem at_last {vs : List Int} (h : vs ≠ []) : atI (vs.map PyData.int) (-1 : Int) = some (.int (vs.getD (vs.length - 1) 0)) := by
  have hl : 0 < vs.length := List.length_pos_iff.mpr h
  unfold atI ixN
  rw [if_neg (by decide), List.length_map, if_pos (by omega), show (-1 + (vs.length : Int)).toNat = vs.length - 1 by omega, Option.bind_some, List.getElem?_map, List.getD_eq_getElem?_getD, List.getElem?_eq_getElem (by omega)]
  rfl
theorem okCol.last {c : D} (h : okCol c) (hn : isN c = false) : ∃ (vs : List Int) (z : Int), c = .tuple (vs.map PyData.int) ∧ atI (vs.map PyData.int) (-1 : Int) = some (.int z) ∧ 0 ≤ z ∧ z < 2 ^ 110 ∧ valB c (.int (z + 1)) = false := by
  rcases h.inv with rfl | ⟨xs, rfl, hne, hl, ha, hx⟩
  · cases hn
  · have e : xs = (xs.map toInt).map PyData.int := by
      rw [List.map_map]
      refine (List.map_id xs).symm.trans (List.map_congr_left fun d hd => ?_)
      obtain ⟨i, rfl, _⟩ := hx d hd
      rfl
    obtain ⟨vs, hvs⟩ : ∃ vs, vs = xs.map toInt := ⟨_, rfl⟩
    rw [← hvs] at e
    subst e
    have hv : vs ≠ [] := fun z => hne (by rw [z]; rfl)
    obtain ⟨a1, a2⟩ := asc_le ha hv
    have hm : vs.getD (vs.length - 1) 0 ∈ vs := getD_in (by have := List.length_pos_iff.mpr hv; omega)
    obtain ⟨i, hi, i0, i1⟩ := hx _ (List.mem_map.mpr ⟨_, hm, rfl⟩)
    injection hi with hi
    refine ⟨vs, _, rfl, at_last hv, by omega, by omega, ?_⟩
    simp only [valB, inCol]
    rw [inB_not fun z => by have := a2 _ z; omega, Bool.and_false]
theorem row_bad {cs xs : List D} {k : Nat} {d : D} (hk : k < cs.length) (hl : xs.length = cs.length) (hd : valB (cs.getD k .none) d = false) : rowB cs (.tuple (xs.take k ++ [d] ++ xs.drop (k + 1))) = false := by
  cases z : rowB cs (.tuple (xs.take k ++ [d] ++ xs.drop (k + 1))) with
  | false => rfl
  | true =>
    simp only [rowB, Bool.and_eq_true] at z
    have e : (xs.take k ++ [d] ++ xs.drop (k + 1))[k]? = some d := by
      rw [List.append_assoc, List.getElem?_append_right (by rw [List.length_take]; omega), List.length_take, Nat.min_eq_left (by omega), Nat.sub_self]
      rfl
    have hp : .tuple [cs.getD k .none, d] ∈ pairs cs (xs.take k ++ [d] ++ xs.drop (k + 1)) := by
      refine List.mem_iff_getElem?.mpr ⟨k, ?_⟩
      unfold pairs
      rw [List.getElem?_zipWith, e, List.getElem?_eq_getElem hk, List.getD_eq_getElem?_getD, List.getElem?_eq_getElem hk]
      rfl
    have := List.all_eq_true.mp z.2 _ hp
    have this : valB (cs.getD k .none) d = true := this
    rw [hd] at this
    cases this
theorem tab_bad {cs : List D} {rs : List D} {r : D} (h : r ∈ rs) (hr : rowB cs r = false) : tabB cs (.tuple rs) = false := by
  cases z : tabB cs (.tuple rs) with
  | false => rfl
  | true =>
    simp only [tabB, Bool.and_eq_true] at z
    rw [List.all_eq_true.mp z.2 r h] at hr
    cases hr
end L2.DL.K30
namespace L2.DL.K30
open PySem PySem.Spec
      PyProof.Rows
/-! ### the law -/
theorem okW {n m : Nat} {d : D} (h : (fine d && decide (wt d ≤ n) && decide (d.depth ≤ m)) = true) : L2.DL.Ok n m d := by
  simp only [Bool.and_eq_true,
        decide_eq_true_eq] at h
  exact ⟨h.1.1, h.1.2, h.2⟩
/-- rows drawn before the j-th table -/
def sumTo : Nat → Nat
  | 0 => 0
  | 1 => 0
  | 2 => 1
  | 3 => 4
  | _ => 12
section
variable {P : Program} {w : World} {K : PySem.W.Frag} {mg : Str → Option Value} {base : Heap} {A : Cls}
theorem ok_law (T : Txt K mg A) (L : ∃ f fd, FnG P w K mg base 1 f fd ["_law_script"] (spOpen K) ∧ mg "_law_open" = some (.ref f) ∧ PySem.W.keepIn K (.ref f) = true ∧ Binds K fd ["_law_script"] [])
    (d_law_anew : Def P w K mg base "_law_anew" 1 ["_law_pen"] w_law_anew) (d_law_take : Def P w K mg base "_law_take" 2 ["_law_pen", "_law_many"] w_law_take) (d_law_one : Def P w K mg base "_law_one" 3 ["_law_pen", "_law_some"] w_law_one) (d_law_columns : Def P w K mg base "_law_columns" 4 ["_law_pen", "_law_most"] w_law_columns) (d_law_view : Def P w K mg base "_law_view" 5 ["_law_pen", "_law_columns_here", "_law_most"] w_law_view) (d_law_changed : Def P w K mg base "_law_changed" 14 ["_law_pen", "_law_value_here"] (w_law_changed 10))
    (d_law_bad_columns : Def P w K mg base "_law_bad_columns" 4 ["_law_pen", "_law_columns_here"] w_law_bad_columns) (d_law_bad : Def P w K mg base "_law_bad" 5 ["_law_pen", "_law_columns_here", "_law_sort"] w_law_bad) (d_law_asked : Def P w K mg base "_law_asked" 8 ["_law_columns_here", "_law_value_here"] w_law_asked) (d_law_is_view : Def P w K mg base "_law_is_view" 4 ["_law_columns_here", "_law_value_here"] w_law_is_view)
    (d_law_row : Def P w K mg base "_law_row" 5 ["_law_pen", "_law_columns_here"] w_law_row) (d_law_told : Def P w K mg base "_law_told" 9 ["_law_columns_here", "_law_view_here", "_law_table"] w_law_told) (d_law_view_rows : Def P w K mg base "_law_view_rows" 2 ["_law_view_here", "_law_table"] w_law_view_rows)
    {f : Addr} {fd : FuncData} (F : Fun K "law" "law" s_law f fd) : FnG P w K mg base 15 f fd ["_law_script"] (spTrue K) := by
  have m_law_changed := m_law_changed (L := 10)
  refine fnG_of F sc_law (fun vs H Q E ⟨a, ns, e, _⟩ => by rw [e]; rfl) fun cdv Ar outer s H vs Q E hg hr h => ?_
  obtain ⟨a, ns, rfl, hS, hl, q⟩ := h
  obtain ⟨fo, fdo, o1, o2, o3, o4⟩ := L
  refine ⟨_, pss_cons (ps_set (i := 1) sc_law.nd rfl (by first | exact .inl rfl | exact .inr rfl) (pe_callG (W := fun cls d _ H' => E cls d H') o1 hg (hr.mono (by decide)) rfl o2 o3 o4 (takes_of rfl rfl rfl rfl) (pa_cons (pv 0) pa_nil rfl) (by decide) rfl rfl) rfl (by first | exact .inl rfl | exact .inr rfl))
    (pss_law (W := fun cls d _ H' => E cls d H') fun q0 G0 H0 => (dss_cons (ds_for (passes_of rfl) rfl (di_rng1 de_int T.z_range) (dg_nm (i := 2) sc_law.nd)
    (dss_cons (ds_set (i := 3) (de_fn d_law_columns m_law_columns hg hr (takes_of rfl rfl rfl rfl) (da_cons (de_fn d_law_anew m_law_anew hg hr (takes_of rfl rfl rfl rfl) (da_cons (de_var (pv 1)) da_nil)) (da_cons de_int da_nil))) sc_law.nd)
    (dss_cons (ds_set (i := 4) (de_fn d_law_view m_law_view hg hr (takes_of rfl rfl rfl rfl) (da_cons (de_var (pv 1)) (da_cons (de_var (pv 3)) (da_cons de_int da_nil)))) sc_law.nd)
    (dss_cons (ds_set (i := 5) (de_lst (da_cons (de_var (pv 4)) (da_cons (de_bt listD.mono fitsList call_list_of (da_cons (de_var (pv 4)) da_nil) T.z_list) (da_cons (de_bin op_addA addD.mono fitsAdd (de_var (pv 4)) (de_sl (de_var (pv 4)) do_none (do_some de_int))) (da_cons (de_bin op_mulA mulD.mono fitsMul (de_var (pv 4)) de_int) (da_cons (de_bin op_addA addD.mono fitsAdd (de_sl (de_var (pv 4)) do_none (do_some de_int)) (de_tup (da_cons (de_tup da_nil) (da_cons (de_tup da_nil) da_nil)))) (da_cons (de_idx (de_var (pv 4)) de_int) (da_cons (de_tup da_nil) (da_cons de_non (da_cons de_bl (da_cons de_str (da_cons de_int da_nil)))))))))))) sc_law.nd)
    (dss_cons (ds_for (passes_of rfl) rfl (di_rng1 de_int T.z_range) (dg_nm (i := 6) sc_law.nd)
    (dss_one (ds_set (i := 5) (de_bin op_addA addD.mono fitsAdd (de_var (pv 5)) (de_lst (da_cons (de_fn d_law_changed m_law_changed hg hr (takes_of rfl rfl rfl rfl) (da_cons (de_var (pv 1)) (da_cons (de_var (pv 4)) da_nil))) (da_cons (de_fn d_law_bad m_law_bad hg hr (takes_of rfl rfl rfl rfl) (da_cons (de_var (pv 1)) (da_cons (de_var (pv 3)) (da_cons de_str da_nil)))) da_nil)))) sc_law.nd)))
    (dss_cons (ds_for (passes_of rfl) rfl (di_seq (de_bin op_addA addD.mono fitsAdd (de_var (pv 5)) (de_lst (da_cons (de_fn d_law_changed m_law_changed hg hr (takes_of rfl rfl rfl rfl) (da_cons (de_var (pv 1)) (da_cons (de_fn d_law_changed m_law_changed hg hr (takes_of rfl rfl rfl rfl) (da_cons (de_var (pv 1)) (da_cons (de_var (pv 4)) da_nil))) da_nil))) da_nil)))) (dg_nm (i := 7) sc_law.nd)
    (dss_one (ds_if (dt_cmp (op_neA hr.units) neD.mono fitsNe (de_bi reprD.mono fitsRepr (call_reprD hg hr.units) (da_cons (de_fn d_law_asked m_law_asked hg hr (takes_of rfl rfl rfl rfl) (da_cons (de_var (pv 3)) (da_cons (de_var (pv 7)) da_nil))) da_nil) T.z_repr) (de_bi reprD.mono fitsRepr (call_reprD hg hr.units) (da_cons (de_fn d_law_is_view m_law_is_view hg hr (takes_of rfl rfl rfl rfl) (da_cons (de_var (pv 3)) (da_cons (de_var (pv 7)) da_nil))) da_nil) T.z_repr))
    (dss_one (ds_ret de_bl))
    dss_nil)))
    (dss_cons (ds_for (passes_of rfl) rfl (di_seq (de_lst (da_cons de_int (da_cons de_int (da_cons de_int (da_cons de_int da_nil)))))) (dg_nm (i := 8) sc_law.nd)
    (dss_cons (ds_set (i := 9) (de_bt tupleD.mono fitsTuple call_tuple_of (da_cons (de_lc (own := [("_law_k", 10)]) rfl sc_law.nd (di_rng1 (de_var (pv 8)) T.z_range) (blkOk_by (N := ["_law_script", "_law_pen", "_law_turn", "_law_columns_here", "_law_view_here", "_law_values", "_law_step", "_law_value_here", "_law_many", "_law_table", "_law_k", "_law_bad_here", "_law_odd", "_law_at", "_law_lack", "_law_worse", "_law_poor", "_law_found"]) (sc := defScope s_law) (by decide +kernel)) (fun _ _ _ _ _ _ _ => (dgc_nm (i := 10) sc_law.nd (by decide))) (fun _ _ _ _ _ _ _ => dts_nil) (fun _ _ _ _ _ _ _ => (de_fn d_law_row m_law_row hg hr takes0 (da_cons (de_var (pv 1)) (da_cons (de_var (pv 3)) da_nil))))) da_nil) T.z_tuple) sc_law.nd)
    (dss_one (ds_if (dt_cmp (op_neA hr.units) neD.mono fitsNe (de_bi reprD.mono fitsRepr (call_reprD hg hr.units) (da_cons (de_fn d_law_told m_law_told hg hr (takes_of rfl rfl rfl rfl) (da_cons (de_var (pv 3)) (da_cons (de_var (pv 4)) (da_cons (de_var (pv 9)) da_nil)))) da_nil) T.z_repr) (de_bi reprD.mono fitsRepr (call_reprD hg hr.units) (da_cons (de_fn d_law_view_rows m_law_view_rows hg hr (takes_of rfl rfl rfl rfl) (da_cons (de_var (pv 4)) (da_cons (de_var (pv 9)) da_nil))) da_nil) T.z_repr))
    (dss_one (ds_ret de_bl))
    dss_nil))))
    (dss_cons (ds_par (i := 11) (j := 12) rfl sc_law.nd (de_fn d_law_bad_columns m_law_bad_columns hg hr (takes_of rfl rfl rfl rfl) (da_cons (de_var (pv 1)) (da_cons (de_var (pv 3)) da_nil))) (de_fn d_law_bad m_law_bad hg hr (takes_of rfl rfl rfl rfl) (da_cons (de_var (pv 1)) (da_cons (de_var (pv 3)) (da_cons de_str da_nil)))) (by decide) (by rfl))
    (dss_cons (ds_par (i := 13) (j := 10) rfl sc_law.nd (de_fn d_law_take m_law_take hg hr (takes_of rfl rfl rfl rfl) (da_cons (de_var (pv 1)) (da_cons de_int da_nil))) (de_fn d_law_take m_law_take hg hr (takes_of rfl rfl rfl rfl) (da_cons (de_var (pv 1)) (da_cons (de_bi lenD.mono fitsLen call_len_seq (da_cons (de_var (pv 3)) da_nil) T.z_len) da_nil))) (by decide) (by rfl))
    (dss_cons (ds_set (i := 14) (de_if (dt_isN (de_idx (de_var (pv 3)) (de_var (pv 10)))) (de_neg de_int) (de_bin op_addA addD.mono fitsAdd (de_idx (de_idx (de_var (pv 3)) (de_var (pv 10))) (de_neg de_int)) de_int)) sc_law.nd)
    (dss_cons (ds_set (i := 15) (de_bin op_addA addD.mono fitsAdd (de_bin op_addA addD.mono fitsAdd (de_sl (de_idx (de_var (pv 9)) de_int) do_none (do_some (de_var (pv 10)))) (de_tup (da_cons (de_fn d_law_one m_law_one hg hr (takes_of rfl rfl rfl rfl) (da_cons (de_var (pv 1)) (da_cons (de_lst (da_cons (de_var (pv 14)) (da_cons (de_var (pv 14)) (da_cons de_bl (da_cons de_non (da_cons (de_neg de_int) da_nil)))))) da_nil))) da_nil))) (de_sl (de_idx (de_var (pv 9)) de_int) (do_some (de_bin op_addA addD.mono fitsAdd (de_var (pv 10)) de_int)) do_none)) sc_law.nd)
    (dss_cons (ds_set (i := 16) (de_lst (da_cons de_non (da_cons de_int (da_cons de_str (da_cons (de_lst da_nil) (da_cons (de_tup (da_cons de_non da_nil)) (da_cons (de_tup (da_cons (de_tup da_nil) da_nil)) (da_cons (de_lst (da_cons (de_idx (de_var (pv 9)) de_int) da_nil)) (da_cons (de_bin op_addA addD.mono fitsAdd (de_var (pv 9)) (de_sl (de_var (pv 9)) do_none (do_some de_int))) (da_cons (de_tup (da_cons (de_bin op_addA addD.mono fitsAdd (de_idx (de_var (pv 9)) de_int) (de_tup (da_cons de_int da_nil))) da_nil)) da_nil)))))))))) sc_law.nd)
    (dss_cons (ds_set (i := 16) (de_fn d_law_one m_law_one hg hr (takes_of rfl rfl rfl rfl) (da_cons (de_var (pv 1)) (da_cons (de_bin op_addA addD.mono fitsAdd (de_var (pv 16)) (de_bin op_mulA mulD.mono fitsMul (de_lst (da_cons (de_bin op_addA addD.mono fitsAdd (de_bin op_addA addD.mono fitsAdd (de_sl (de_var (pv 9)) do_none (do_some (de_var (pv 13)))) (de_tup (da_cons (de_var (pv 15)) da_nil))) (de_sl (de_var (pv 9)) (do_some (de_bin op_addA addD.mono fitsAdd (de_var (pv 13)) de_int)) do_none)) da_nil)) de_int)) da_nil))) sc_law.nd)
    (dss_cons (ds_set (i := 17) (de_lst (da_cons (de_fn d_law_told m_law_told hg hr (takes_of rfl rfl rfl rfl) (da_cons (de_var (pv 11)) (da_cons (de_var (pv 12)) (da_cons (de_var (pv 16)) da_nil)))) (da_cons (de_fn d_law_told m_law_told hg hr (takes_of rfl rfl rfl rfl) (da_cons (de_var (pv 3)) (da_cons (de_var (pv 12)) (da_cons (de_var (pv 16)) da_nil)))) (da_cons (de_fn d_law_told m_law_told hg hr (takes_of rfl rfl rfl rfl) (da_cons (de_var (pv 3)) (da_cons (de_var (pv 12)) (da_cons (de_tup da_nil) da_nil)))) da_nil)))) sc_law.nd)
    (dss_cons (ds_set (i := 17) (de_bin op_addA addD.mono fitsAdd (de_var (pv 17)) (de_lst (da_cons (de_fn d_law_told m_law_told hg hr (takes_of rfl rfl rfl rfl) (da_cons (de_var (pv 3)) (da_cons (de_var (pv 4)) (da_cons (de_var (pv 16)) da_nil)))) (da_cons (de_fn d_law_asked m_law_asked hg hr (takes_of rfl rfl rfl rfl) (da_cons (de_var (pv 11)) (da_cons (de_var (pv 12)) da_nil))) da_nil)))) sc_law.nd)
    (dss_one (ds_if (dt_cmp (op_neA hr.units) neD.mono fitsNe (de_var (pv 17)) (de_lst (da_cons de_str (da_cons de_str (da_cons de_str (da_cons de_str (da_cons de_str da_nil)))))))
    (dss_one (ds_ret de_bl))
    dss_nil)))))))))))))))))
    (dss_one (ds_ret de_bl)))), ?_⟩
  refine ⟨.ref a, rfl, a, ns, rfl, hS, fun q0 G0 H0 wd => ⟨q0, G0, H0, _, rl_pen (n := 16) wd rfl rfl, fun H1 => q H1, ?_⟩⟩
  simp only [wRet, wSet, wSeq, wNext, wDrop, wIfS, wTest, wAnd, wOr, wNot, wIf, wBin, wVar, wC, wAndV, wOrV, wNotV, wIsN, wNotN, wNeg, wChain, wNil, wCons, wTup, wLst, wBi, wCall, wIsi, wSl, wSo, wNo, wSeqI, wFor, gNm, gTp, puts, wAsg, wPar, wMul, wmD, wmO, putsI, wAug, wTryIs, wRng1, wRng2, wEnum, wEnumT, wZip, wLc, wYes, wLend, wRel, wOwn, wApp, wIns, wSetIx, wLstF, wListF, wRepF, wAddF, wSlS, wParO, wRevT, wSortedSet, wSortedSetL, wSortedSetT, wKeys, weI, wExt, allD, wMt, wRaise, wSeqO, wCallF, plainO, wCallA, wIdx0, wAnF, wSetA, wUnA, wSeqA, plainA, wFld, wFldO, wMake, wLRg, Ans.data, Ans.own.injEq, Ans.tup.injEq, Ans.dat.injEq, wTry, wTryM, wHs, wIsC, enOf, put, putUn, defEnds, lendE, lend, wipeE, hide, lenD, intD, listD, tupleD, reprD, wPen0, wPen1, wPen2, wPenS1, wPenS2, penAt, List.map_cons, List.map_nil, List.length_cons, List.length_nil, List.nil_append, List.cons_append, Nat.reduceAdd, Nat.reduceSub, Nat.reduceLeDiff, Nat.zero_add, List.replicate_zero, List.replicate_succ, List.getElem?_cons_zero, List.getElem?_cons_succ, List.set_cons_zero, List.set_cons_succ, Option.some.injEq, Slot.dat.injEq, Slot.own.injEq, PyData.bool.injEq, PyData.int.injEq, PyData.tuple.injEq, PyData.list.injEq, exists_eq_left', exists_eq_left, and_true, true_and, if_true, if_false, Bool.false_eq_true, reduceCtorEq, List.mapIdx_cons, List.mapIdx_nil]
  refine ⟨by decide, by decide, ?_⟩
  refine wLoop.ind (fun ds e => ∃ (u2 u3 u4 u5 u6 u7 u8 u9 u10 u11 u12 u13 u14 u15 u16 u17 : Slot) (k : Nat), e = ⟨[.un, .dat penD, u2, u3, u4, u5, u6, u7, u8, u9, u10, u11, u12, u13, u14, u15, u16, u17], k⟩ ∧ 620 * ds.length + 10 ≤ k) ?_ ?_ ⟨_, _, _, _, _, _, _, _, _, _, _, _, _, _, _, _, 5000, rfl, by rw [rngD_length]; decide⟩
  · rintro e ⟨u2, u3, u4, u5, u6, u7, u8, u9, u10, u11, u12, u13, u14, u15, u16, u17, k, rfl, hk⟩
    exact trivial
  · rintro d ds e ih ⟨u2, u3, u4, u5, u6, u7, u8, u9, u10, u11, u12, u13, u14, u15, u16, u17, k, rfl, hk⟩
    rw [List.length_cons] at hk
    obtain ⟨k, rfl⟩ : ∃ k', k = k' + 620 := ⟨k - 620, by omega⟩
    simp only [gNm, puts, put, List.set_cons_zero, List.set_cons_succ]
    refine cutSeq (fun e' => ∃ (cs : List D) (k1 : Nat), e' = ⟨[.un, .dat penD, .dat d, .dat (.tuple cs), u4, u5, u6, u7, u8, u9, u10, u11, u12, u13, u14, u15, u16, u17], k1⟩ ∧ okCols (.tuple cs) ∧ k + 614 ≤ k1) ?_ ?_
    rotate_left 1
    · intro Z hZ
      simp only [wRet, wSet, wSeq, wNext, wDrop, wIfS, wTest, wAnd, wOr, wNot, wIf, wBin, wVar, wC, wAndV, wOrV, wNotV, wIsN, wNotN, wNeg, wChain, wNil, wCons, wTup, wLst, wBi, wCall, wIsi, wSl, wSo, wNo, wSeqI, wFor, gNm, gTp, puts, wAsg, wPar, wMul, wmD, wmO, putsI, wAug, wTryIs, wRng1, wRng2, wEnum, wEnumT, wZip, wLc, wYes, wLend, wRel, wOwn, wApp, wIns, wSetIx, wLstF, wListF, wRepF, wAddF, wSlS, wParO, wRevT, wSortedSet, wSortedSetL, wSortedSetT, wKeys, weI, wExt, allD, wMt, wRaise, wSeqO, wCallF, plainO, wCallA, wIdx0, wAnF, wSetA, wUnA, wSeqA, plainA, wFld, wFldO, wMake, wLRg, Ans.data, Ans.own.injEq, Ans.tup.injEq, Ans.dat.injEq, wTry, wTryM, wHs, wIsC, enOf, put, putUn, defEnds, lendE, lend, wipeE, hide, lenD, intD, listD, tupleD, reprD, wPen0, wPen1, wPen2, wPenS1, wPenS2, penAt, List.map_cons, List.map_nil, List.length_cons, List.length_nil, List.nil_append, List.cons_append, Nat.reduceAdd, Nat.reduceSub, Nat.reduceLeDiff, Nat.zero_add, List.replicate_zero, List.replicate_succ, List.getElem?_cons_zero, List.getElem?_cons_succ, List.set_cons_zero, List.set_cons_succ, Option.some.injEq, Slot.dat.injEq, Slot.own.injEq, PyData.bool.injEq, PyData.int.injEq, PyData.tuple.injEq, PyData.list.injEq, exists_eq_left', exists_eq_left, and_true, true_and, if_true, if_false, Bool.false_eq_true, reduceCtorEq, List.mapIdx_cons, List.mapIdx_nil]
      refine ⟨rfl, _, k + 614, rfl, rfl, rfl, fun c k1 l1 hc => ?_⟩
      obtain ⟨cs, rfl, _⟩ := id hc
      exact hZ _ ⟨cs, k1, rfl, hc, by omega⟩
    rintro e' ⟨cs, k1, rfl, hc, l1⟩
    obtain ⟨k1, rfl⟩ : ∃ k', k1 = k' + 100 := ⟨k1 - 100, by omega⟩
    obtain ⟨cs', ec, hcs, c1, c4, cn⟩ := id hc
    cases ec
    have ci := cols_ish hc.ok.good hc.b
    refine cutSeq (fun e' => ∃ (bs : List Br) (u k2 : Nat), e' = ⟨[.un, .dat penD, .dat d, .dat (.tuple cs), .dat (viewT bs), u5, u6, u7, u8, u9, u10, u11, u12, u13, u14, u15, u16, u17], k2⟩ ∧ DrawV cs u bs ∧ k + 514 ≤ k2) ?_ ?_
    rotate_left 1
    · intro Z hZ
      simp only [wRet, wSet, wSeq, wNext, wDrop, wIfS, wTest, wAnd, wOr, wNot, wIf, wBin, wVar, wC, wAndV, wOrV, wNotV, wIsN, wNotN, wNeg, wChain, wNil, wCons, wTup, wLst, wBi, wCall, wIsi, wSl, wSo, wNo, wSeqI, wFor, gNm, gTp, puts, wAsg, wPar, wMul, wmD, wmO, putsI, wAug, wTryIs, wRng1, wRng2, wEnum, wEnumT, wZip, wLc, wYes, wLend, wRel, wOwn, wApp, wIns, wSetIx, wLstF, wListF, wRepF, wAddF, wSlS, wParO, wRevT, wSortedSet, wSortedSetL, wSortedSetT, wKeys, weI, wExt, allD, wMt, wRaise, wSeqO, wCallF, plainO, wCallA, wIdx0, wAnF, wSetA, wUnA, wSeqA, plainA, wFld, wFldO, wMake, wLRg, Ans.data, Ans.own.injEq, Ans.tup.injEq, Ans.dat.injEq, wTry, wTryM, wHs, wIsC, enOf, put, putUn, defEnds, lendE, lend, wipeE, hide, lenD, intD, listD, tupleD, reprD, wPen0, wPen1, wPen2, wPenS1, wPenS2, penAt, List.map_cons, List.map_nil, List.length_cons, List.length_nil, List.nil_append, List.cons_append, Nat.reduceAdd, Nat.reduceSub, Nat.reduceLeDiff, Nat.zero_add, List.replicate_zero, List.replicate_succ, List.getElem?_cons_zero, List.getElem?_cons_succ, List.set_cons_zero, List.set_cons_succ, Option.some.injEq, Slot.dat.injEq, Slot.own.injEq, PyData.bool.injEq, PyData.int.injEq, PyData.tuple.injEq, PyData.list.injEq, exists_eq_left', exists_eq_left, and_true, true_and, if_true, if_false, Bool.false_eq_true, reduceCtorEq, List.mapIdx_cons, List.mapIdx_nil]
      exact ⟨cs, k1, rfl, rfl, hc, fun bs u k3 l3 hD => hZ _ ⟨bs, u, k3, rfl, hD, by omega⟩⟩
    rintro e' ⟨bs, u, k2, rfl, hD, l2⟩
    have n1 := hD.n1
    have n3 := hD.n3
    have ovw : L2.DL.Ok 82 4 (viewT bs) := Ok.tuple (n := 27) (m := 3) (k := 3) (fun d hd => by
      obtain ⟨b, hb, rfl⟩ :=
            List.mem_map.mp hd
      exact (hD.br b hb).ok c4 hD.u4) (by rw [List.length_map]; exact n3)
    have obr : ∀ b ∈ bs, L2.DL.Ok 27 3 b.data := fun b hb => (hD.br b hb).ok c4 hD.u4
    refine cutSeq (fun e' => ∃ (vs : List D), e' = ⟨[.un, .dat penD, .dat d, .dat (.tuple cs), .dat (viewT bs), .dat (.list vs), u6, u7, u8, u9, u10, u11, u12, u13, u14, u15, u16, u17], k2⟩ ∧ (∀ x ∈ vs, L2.DL.Ok 400 10 x) ∧ vs.length ≤ 11) ?_ ?_
    rotate_left 1
    · intro Z hZ
      simp (decide := true) only [wRet, wSet, wSeq, wNext, wDrop, wIfS, wTest, wAnd, wOr, wNot, wIf, wBin, wVar, wC, wAndV, wOrV, wNotV, wIsN, wNotN, wNeg, wChain, wNil, wCons, wTup, wLst, wBi, wCall, wIsi, wSl, wSo, wNo, wSeqI, wFor, gNm, gTp, puts, wAsg, wPar, wMul, wmD, wmO, putsI, wAug, wTryIs, wRng1, wRng2, wEnum, wEnumT, wZip, wLc, wYes, wLend, wRel, wOwn, wApp, wIns, wSetIx, wLstF, wListF, wRepF, wAddF, wSlS, wParO, wRevT, wSortedSet, wSortedSetL, wSortedSetT, wKeys, weI, wExt, allD, wMt, wRaise, wSeqO, wCallF, plainO, wCallA, wIdx0, wAnF, wSetA, wUnA, wSeqA, plainA, wFld, wFldO, wMake, wLRg, Ans.data, Ans.own.injEq, Ans.tup.injEq, Ans.dat.injEq, wTry, wTryM, wHs, wIsC, enOf, put, putUn, defEnds, lendE, lend, wipeE, hide, lenD, intD, listD, tupleD, reprD, wPen0, wPen1, wPen2, wPenS1, wPenS2, penAt, List.map_cons, List.map_nil, List.length_cons, List.length_nil, List.nil_append, List.cons_append, Nat.reduceAdd, Nat.reduceSub, Nat.reduceLeDiff, Nat.zero_add, List.replicate_zero, List.replicate_succ, List.getElem?_cons_zero, List.getElem?_cons_succ, List.set_cons_zero, List.set_cons_succ, Option.some.injEq, Slot.dat.injEq, Slot.own.injEq, PyData.bool.injEq, PyData.int.injEq, PyData.tuple.injEq, PyData.list.injEq, exists_eq_left', exists_eq_left, and_true, true_and, if_true, if_false, Bool.false_eq_true, reduceCtorEq, List.mapIdx_cons, List.mapIdx_nil, viewT, addD, mulD, slD]
      have ec : cutD (bs.map Br.data) none (some 1) = (bs.take 1).map Br.data := by
        rw [show (1 : Int) = ((1 : Nat) : Int) from rfl, cut_to (by rw [List.length_map]; exact n1), List.map_take]
      have lc : (cutD (bs.map Br.data) none (some 1)).length ≤ 1 := by rw [ec, List.length_map, List.length_take]; omega
      have lb : (bs.map Br.data).length ≤ 3 := by rw [List.length_map]; exact n3
      refine ⟨by rw [sizeLine_eq]; omega, fun z => ?_, by omega, by rw [sizeLine_eq]; omega, _, at_map Br0 n1, hZ _ ⟨_, rfl, fun x hx => ?_, by simp⟩⟩
      · rw [List.map_eq_nil_iff] at z
        rw [z] at n1
        simp at n1
      have oc : ∀ x ∈ cutD (bs.map Br.data) none (some 1), L2.DL.Ok 27 3 x := fun x hx => by
        rw [ec] at hx
        obtain ⟨b, hb, rfl⟩ :=
              List.mem_map.mp hx
        exact obr b (List.mem_of_mem_take hb)
      have om : ∀ x ∈ bs.map Br.data, L2.DL.Ok 27 3 x := fun x hx => by
        obtain ⟨b, hb, rfl⟩ :=
              List.mem_map.mp hx
        exact obr b hb
      have oT : ∀ {xs : List D}, (∀ x ∈ xs, L2.DL.Ok 27 3 x) → xs.length ≤ 12 → L2.DL.Ok 400 10 (.tuple xs) := fun h hl => (Ok.tuple (n := 27) (m := 3) (k := 12) h hl).mono (by decide) (by decide)
      have o0 : L2.DL.Ok 27 3 (.tuple []) := okW (by decide +kernel)
      simp only [List.mem_cons,
            List.not_mem_nil, or_false] at hx
      rcases hx with rfl | rfl | rfl | rfl | rfl | rfl | rfl | rfl | rfl | rfl | rfl
      · exact oT om (by omega)
      · exact (Ok.list (n := 27) (m := 3) (k := 12) om (by omega)).mono (by decide) (by decide)
      · exact oT (fun x hx => (List.mem_append.mp hx).elim (om x) (oc x)) (by rw [List.length_append]; omega)
      · exact oT (fun x hx => by
          obtain ⟨l, hl, hx⟩ :=
                List.mem_flatten.mp hx
          rw [(List.mem_replicate.mp hl).2] at hx
          exact om x hx) (by rw [show Int.toNat 4 = 4 from rfl]; simp; omega)
      · exact oT (fun x hx => (List.mem_append.mp hx).elim (oc x) fun hx => by
          simp only [List.mem_cons, List.not_mem_nil, or_false, or_self] at hx
          rw [hx]
          exact o0) (by rw [List.length_append]; simp; omega)
      · exact (obr _ (getD_in n1)).mono (by decide) (by decide)
      · exact okW (by decide +kernel)
      · exact okW (by decide +kernel)
      · exact okW (by decide +kernel)
      · exact okW (by decide +kernel)
      · exact okW (by decide +kernel)
    rintro e' ⟨vs, rfl, hvs, lvs⟩
    refine cutSeq (fun e' => ∃ (vs : List D) (u6 : Slot) (k3 : Nat), e' = ⟨[.un, .dat penD, .dat d, .dat (.tuple cs), .dat (viewT bs), .dat (.list vs), u6, u7, u8, u9, u10, u11, u12, u13, u14, u15, u16, u17], k3⟩ ∧ (∀ x ∈ vs, L2.DL.Ok 400 10 x) ∧ vs.length ≤ 31 ∧ k + 274 ≤ k3) ?_ ?_
    rotate_left 1
    · intro Z hZ
      simp (decide := true) only [wRet, wSet, wSeq, wNext, wDrop, wIfS, wTest, wAnd, wOr, wNot, wIf, wBin, wVar, wC, wAndV, wOrV, wNotV, wIsN, wNotN, wNeg, wChain, wNil, wCons, wTup, wLst, wBi, wCall, wIsi, wSl, wSo, wNo, wSeqI, wFor, gNm, gTp, puts, wAsg, wPar, wMul, wmD, wmO, putsI, wAug, wTryIs, wRng1, wRng2, wEnum, wEnumT, wZip, wLc, wYes, wLend, wRel, wOwn, wApp, wIns, wSetIx, wLstF, wListF, wRepF, wAddF, wSlS, wParO, wRevT, wSortedSet, wSortedSetL, wSortedSetT, wKeys, weI, wExt, allD, wMt, wRaise, wSeqO, wCallF, plainO, wCallA, wIdx0, wAnF, wSetA, wUnA, wSeqA, plainA, wFld, wFldO, wMake, wLRg, Ans.data, Ans.own.injEq, Ans.tup.injEq, Ans.dat.injEq, wTry, wTryM, wHs, wIsC, enOf, put, putUn, defEnds, lendE, lend, wipeE, hide, lenD, intD, listD, tupleD, reprD, wPen0, wPen1, wPen2, wPenS1, wPenS2, penAt, List.map_cons, List.map_nil, List.length_cons, List.length_nil, List.nil_append, List.cons_append, Nat.reduceAdd, Nat.reduceSub, Nat.reduceLeDiff, Nat.zero_add, List.replicate_zero, List.replicate_succ, List.getElem?_cons_zero, List.getElem?_cons_succ, List.set_cons_zero, List.set_cons_succ, Option.some.injEq, Slot.dat.injEq, Slot.own.injEq, PyData.bool.injEq, PyData.int.injEq, PyData.tuple.injEq, PyData.list.injEq, exists_eq_left', exists_eq_left, and_true, true_and, if_true, if_false, Bool.false_eq_true, reduceCtorEq, List.mapIdx_cons, List.mapIdx_nil, addD]
      refine wLoop.rng 10 (fun j e => ∃ (vs : List D) (u6 : Slot) (k3 : Nat), e = ⟨[.un, .dat penD, .dat d, .dat (.tuple cs), .dat (viewT bs), .dat (.list vs), u6, u7, u8, u9, u10, u11, u12, u13, u14, u15, u16, u17], k3⟩ ∧ (∀ x ∈ vs, L2.DL.Ok 400 10 x) ∧ vs.length ≤ 11 + 2 * j ∧ k2 ≤ k3 + 24 * j) ?_ ?_ ⟨vs, _, k2, rfl, hvs, by omega, by omega⟩
      · rintro j e hj ⟨vs, u6, k3, rfl, hvs, lvs, l3⟩ N ih2
        simp only [gNm, puts, put, List.set_cons_zero, List.set_cons_succ]
        simp (decide := true) only [wRet, wSet, wSeq, wNext, wDrop, wIfS, wTest, wAnd, wOr, wNot, wIf, wBin, wVar, wC, wAndV, wOrV, wNotV, wIsN, wNotN, wNeg, wChain, wNil, wCons, wTup, wLst, wBi, wCall, wIsi, wSl, wSo, wNo, wSeqI, wFor, gNm, gTp, puts, wAsg, wPar, wMul, wmD, wmO, putsI, wAug, wTryIs, wRng1, wRng2, wEnum, wEnumT, wZip, wLc, wYes, wLend, wRel, wOwn, wApp, wIns, wSetIx, wLstF, wListF, wRepF, wAddF, wSlS, wParO, wRevT, wSortedSet, wSortedSetL, wSortedSetT, wKeys, weI, wExt, allD, wMt, wRaise, wSeqO, wCallF, plainO, wCallA, wIdx0, wAnF, wSetA, wUnA, wSeqA, plainA, wFld, wFldO, wMake, wLRg, Ans.data, Ans.own.injEq, Ans.tup.injEq, Ans.dat.injEq, wTry, wTryM, wHs, wIsC, enOf, put, putUn, defEnds, lendE, lend, wipeE, hide, lenD, intD, listD, tupleD, reprD, wPen0, wPen1, wPen2, wPenS1, wPenS2, penAt, List.map_cons, List.map_nil, List.length_cons, List.length_nil, List.nil_append, List.cons_append, Nat.reduceAdd, Nat.reduceSub, Nat.reduceLeDiff, Nat.zero_add, List.replicate_zero, List.replicate_succ, List.getElem?_cons_zero, List.getElem?_cons_succ, List.set_cons_zero, List.set_cons_succ, Option.some.injEq, Slot.dat.injEq, Slot.own.injEq, PyData.bool.injEq, PyData.int.injEq, PyData.tuple.injEq, PyData.list.injEq, exists_eq_left', exists_eq_left, and_true, true_and, if_true, if_false, Bool.false_eq_true, reduceCtorEq, List.mapIdx_cons, List.mapIdx_nil, addD]
        obtain ⟨k3, rfl⟩ : ∃ k', k3 = k' + 20 := ⟨k3 - 20, by omega⟩
        refine ⟨viewT bs, 82, 4, k3, rfl, rfl, by decide, ovw, by decide, by decide, fun r k4 l4 hr' => ?_⟩
        obtain ⟨k4, rfl⟩ : ∃ k', k4 = k' + 4 := ⟨k4 - 4, by omega⟩
        refine ⟨cs, k4, _, rfl, rfl, hc, .inr (.inr ⟨rfl, fun r2 k5 l5 r3 r4 => ?_⟩)⟩
        refine ⟨by rw [sizeLine_eq]; omega, ih2 _ ⟨vs ++ [r, r2], _, k5, rfl, fun x hx => ?_, by rw [List.length_append]; simp only [List.length_cons, List.length_nil]; omega, by omega⟩⟩
        rcases List.mem_append.mp
              hx with hx | hx
        · exact hvs x hx
        · simp only [List.mem_cons, List.not_mem_nil, or_false] at hx
          rcases hx with rfl | rfl
          · exact hr'.mono (by decide) (by decide)
          · exact r4.mono (by decide) (by decide)
      · rintro e ⟨vs, u6, k3, rfl, hvs, lvs, l3⟩
        exact hZ _ ⟨vs, u6, k3, rfl, hvs, by omega, by omega⟩
    rintro e' ⟨vs, u6, k3, rfl, hvs, lvs, l3⟩
    have gB : ∀ b : Bool, Good (.bool b) := fun b => Ok.bool.good
    have same : ∀ y : Str, ¬ (!PyData.eqv (.str y) (.str y)) = true := fun y => by simp [PyData.eqv]
    refine cutSeq (fun e' => ∃ (u7 : Slot) (k4 : Nat), e' = ⟨[.un, .dat penD, .dat d, .dat (.tuple cs), .dat (viewT bs), .dat (.list vs), u6, u7, u8, u9, u10, u11, u12, u13, u14, u15, u16, u17], k4⟩ ∧ k + 222 ≤ k4) ?_ ?_
    rotate_left 1
    · intro Z hZ
      simp (decide := true) only [wRet, wSet, wSeq, wNext, wDrop, wIfS, wTest, wAnd, wOr, wNot, wIf, wBin, wVar, wC, wAndV, wOrV, wNotV, wIsN, wNotN, wNeg, wChain, wNil, wCons, wTup, wLst, wBi, wCall, wIsi, wSl, wSo, wNo, wSeqI, wFor, gNm, gTp, puts, wAsg, wPar, wMul, wmD, wmO, putsI, wAug, wTryIs, wRng1, wRng2, wEnum, wEnumT, wZip, wLc, wYes, wLend, wRel, wOwn, wApp, wIns, wSetIx, wLstF, wListF, wRepF, wAddF, wSlS, wParO, wRevT, wSortedSet, wSortedSetL, wSortedSetT, wKeys, weI, wExt, allD, wMt, wRaise, wSeqO, wCallF, plainO, wCallA, wIdx0, wAnF, wSetA, wUnA, wSeqA, plainA, wFld, wFldO, wMake, wLRg, Ans.data, Ans.own.injEq, Ans.tup.injEq, Ans.dat.injEq, wTry, wTryM, wHs, wIsC, enOf, put, putUn, defEnds, lendE, lend, wipeE, hide, lenD, intD, listD, tupleD, reprD, wPen0, wPen1, wPen2, wPenS1, wPenS2, penAt, List.map_cons, List.map_nil, List.length_cons, List.length_nil, List.nil_append, List.cons_append, Nat.reduceAdd, Nat.reduceSub, Nat.reduceLeDiff, Nat.zero_add, List.replicate_zero, List.replicate_succ, List.getElem?_cons_zero, List.getElem?_cons_succ, List.set_cons_zero, List.set_cons_succ, Option.some.injEq, Slot.dat.injEq, Slot.own.injEq, PyData.bool.injEq, PyData.int.injEq, PyData.tuple.injEq, PyData.list.injEq, exists_eq_left', exists_eq_left, and_true, true_and, if_true, if_false, Bool.false_eq_true, reduceCtorEq, List.mapIdx_cons, List.mapIdx_nil, addD]
      obtain ⟨k3, rfl⟩ : ∃ k', k3 = k' + 20 := ⟨k3 - 20, by omega⟩
      refine ⟨viewT bs, 82, 4, k3, rfl, rfl, by decide, ovw, by decide, by decide, fun r k4 l4 hr' => ?_⟩
      obtain ⟨k4, rfl⟩ : ∃ k', k4 = k' + 32 := ⟨k4 - 32, by omega⟩
      refine ⟨r, 184, 7, k4, rfl, rfl, by decide, hr', by decide, by decide, fun r2 k5 l5 hr2 => ?_⟩
      refine ⟨by rw [sizeLine_eq]; omega, _, rfl, ?_⟩
      refine wLoop.ind (fun ds e => ∃ (u7 : Slot), e = ⟨[.un, .dat penD, .dat d, .dat (.tuple cs), .dat (viewT bs), .dat (.list vs), u6, u7, u8, u9, u10, u11, u12, u13, u14, u15, u16, u17], k5⟩ ∧ ∀ x ∈ ds, L2.DL.Ok 400 10 x) ?_ ?_ ⟨_, rfl, fun x hx => ?_⟩
      · rintro e ⟨u7, rfl, _⟩
        exact hZ _ ⟨u7, k5, rfl, by omega⟩
      · rintro y ys e ih2 ⟨u7, rfl, hx⟩
        have oy := hx y List.mem_cons_self
        simp (decide := true) only [wRet, wSet, wSeq, wNext, wDrop, wIfS, wTest, wAnd, wOr, wNot, wIf, wBin, wVar, wC, wAndV, wOrV, wNotV, wIsN, wNotN, wNeg, wChain, wNil, wCons, wTup, wLst, wBi, wCall, wIsi, wSl, wSo, wNo, wSeqI, wFor, gNm, gTp, puts, wAsg, wPar, wMul, wmD, wmO, putsI, wAug, wTryIs, wRng1, wRng2, wEnum, wEnumT, wZip, wLc, wYes, wLend, wRel, wOwn, wApp, wIns, wSetIx, wLstF, wListF, wRepF, wAddF, wSlS, wParO, wRevT, wSortedSet, wSortedSetL, wSortedSetT, wKeys, weI, wExt, allD, wMt, wRaise, wSeqO, wCallF, plainO, wCallA, wIdx0, wAnF, wSetA, wUnA, wSeqA, plainA, wFld, wFldO, wMake, wLRg, Ans.data, Ans.own.injEq, Ans.tup.injEq, Ans.dat.injEq, wTry, wTryM, wHs, wIsC, enOf, put, putUn, defEnds, lendE, lend, wipeE, hide, lenD, intD, listD, tupleD, reprD, wPen0, wPen1, wPen2, wPenS1, wPenS2, penAt, List.map_cons, List.map_nil, List.length_cons, List.length_nil, List.nil_append, List.cons_append, Nat.reduceAdd, Nat.reduceSub, Nat.reduceLeDiff, Nat.zero_add, List.replicate_zero, List.replicate_succ, List.getElem?_cons_zero, List.getElem?_cons_succ, List.set_cons_zero, List.set_cons_succ, Option.some.injEq, Slot.dat.injEq, Slot.own.injEq, PyData.bool.injEq, PyData.int.injEq, PyData.tuple.injEq, PyData.list.injEq, exists_eq_left', exists_eq_left, and_true, true_and, if_true, if_false, Bool.false_eq_true, reduceCtorEq, List.mapIdx_cons, List.mapIdx_nil, neD]
        have gp : Good (.tuple [.tuple cs, y]) := (Ok.tuple (n := 400) (m := 10) (k := 2) (fun x hx => by
          simp only [List.mem_cons,
                List.not_mem_nil, or_false] at hx
          rcases hx with rfl | rfl
          · exact hc.ok.mono (by decide) (by decide)
          · exact oy) (by simp)).good
        refine ⟨_, _, rfl, gp, .inr ⟨cs, rfl, hc, gB _, cs, y, rfl, ci, c4, oy.mono (by decide) (by decide), gB _, .inl rfl, ?_⟩⟩
        rw [if_neg (same _)]
        exact ih2 _ ⟨_, rfl, fun x h => hx x (List.mem_cons_of_mem _ h)⟩
      · rcases List.mem_append.mp
            hx with hx | hx
        · exact hvs x hx
        · rw [List.mem_singleton.mp hx]
          exact hr2.mono (by decide) (by decide)
    rintro e' ⟨u7, k4, rfl, l4⟩
    refine cutSeq (fun e' => ∃ (u8 : Slot) (tab : List (List D)) (k5 : Nat), e' = ⟨[.un, .dat penD, .dat d, .dat (.tuple cs), .dat (viewT bs), .dat (.list vs), u6, u7, u8, .dat (tabT tab), u10, u11, u12, u13, u14, u15, u16, u17], k5⟩ ∧ Tab cs tab ∧ tab.length = 8 ∧ k + 30 ≤ k5) ?_ ?_
    rotate_left 1
    · intro Z hZ
      simp (decide := true) only [wRet, wSet, wSeq, wNext, wDrop, wIfS, wTest, wAnd, wOr, wNot, wIf, wBin, wVar, wC, wAndV, wOrV, wNotV, wIsN, wNotN, wNeg, wChain, wNil, wCons, wTup, wLst, wBi, wCall, wIsi, wSl, wSo, wNo, wSeqI, wFor, gNm, gTp, puts, wAsg, wPar, wMul, wmD, wmO, putsI, wAug, wTryIs, wRng1, wRng2, wEnum, wEnumT, wZip, wLc, wYes, wLend, wRel, wOwn, wApp, wIns, wSetIx, wLstF, wListF, wRepF, wAddF, wSlS, wParO, wRevT, wSortedSet, wSortedSetL, wSortedSetT, wKeys, weI, wExt, allD, wMt, wRaise, wSeqO, wCallF, plainO, wCallA, wIdx0, wAnF, wSetA, wUnA, wSeqA, plainA, wFld, wFldO, wMake, wLRg, Ans.data, Ans.own.injEq, Ans.tup.injEq, Ans.dat.injEq, wTry, wTryM, wHs, wIsC, enOf, put, putUn, defEnds, lendE, lend, wipeE, hide, lenD, intD, listD, tupleD, reprD, wPen0, wPen1, wPen2, wPenS1, wPenS2, penAt, List.map_cons, List.map_nil, List.length_cons, List.length_nil, List.nil_append, List.cons_append, Nat.reduceAdd, Nat.reduceSub, Nat.reduceLeDiff, Nat.zero_add, List.replicate_zero, List.replicate_succ, List.getElem?_cons_zero, List.getElem?_cons_succ, List.set_cons_zero, List.set_cons_succ, Option.some.injEq, Slot.dat.injEq, Slot.own.injEq, PyData.bool.injEq, PyData.int.injEq, PyData.tuple.injEq, PyData.list.injEq, exists_eq_left', exists_eq_left, and_true, true_and, if_true, if_false, Bool.false_eq_true, reduceCtorEq, List.mapIdx_cons, List.mapIdx_nil]
      refine ⟨_, rfl, ?_⟩
      refine wLoop.its [.int 0, .int 1, .int 3, .int 8] (fun j e => ∃ (u8 u9 : Slot) (k5 : Nat), e = ⟨[.un, .dat penD, .dat d, .dat (.tuple cs), .dat (viewT bs), .dat (.list vs), u6, u7, u8, u9, u10, u11, u12, u13, u14, u15, u16, u17], k5⟩ ∧ (j = 4 → ∃ tab, u9 = .dat (tabT tab) ∧ Tab cs tab ∧ tab.length = 8) ∧ k4 ≤ k5 + 16 * sumTo j) ?_ ?_ ⟨_, _, k4, rfl, (fun h => by omega), by omega⟩
      · rintro j y e hj ⟨u8, u9, k5, rfl, _, l5⟩ N ih2
        obtain ⟨m, rfl, hm⟩ : ∃ m : Nat, y = .int (m : Int) ∧ ((j = 0 ∧ m = 0) ∨ (j = 1 ∧ m = 1) ∨ (j = 2 ∧ m = 3) ∨ (j = 3 ∧ m = 8)) := by
          match j, hj with
          | 0, hj => cases hj; exact ⟨0, rfl, .inl ⟨rfl, rfl⟩⟩
          | 1, hj => cases hj; exact ⟨1, rfl, .inr (.inl ⟨rfl, rfl⟩)⟩
          | 2, hj => cases hj; exact ⟨3, rfl, .inr (.inr (.inl ⟨rfl, rfl⟩))⟩
          | 3, hj => cases hj; exact ⟨8, rfl, .inr (.inr (.inr ⟨rfl, rfl⟩))⟩
          | n + 4, hj => simp at hj
        have hs : sumTo (j + 1) = sumTo j + m ∧ sumTo j + m ≤ 12 ∧ m ≤ 8 ∧ (j + 1 = 4 → m = 8) := by
          rcases hm with ⟨rfl, rfl⟩ | ⟨rfl, rfl⟩ | ⟨rfl, rfl⟩ | ⟨rfl, rfl⟩ <;> refine ⟨rfl, by decide, by decide, by decide⟩
        obtain ⟨hs1, hs2, hs3, hs4⟩ := hs
        simp only [gNm, puts, put, List.set_cons_zero, List.set_cons_succ]
        refine cutSeq (fun e' => ∃ (tab : List (List D)) (k6 : Nat), e' = ⟨[.un, .dat penD, .dat d, .dat (.tuple cs), .dat (viewT bs), .dat (.list vs), u6, u7, .dat (.int (m : Int)), .dat (tabT tab), u10, u11, u12, u13, u14, u15, u16, u17], k6⟩ ∧ Tab cs tab ∧ tab.length = m ∧ k5 ≤ k6 + 16 * m) ?_ ?_
        rotate_left 1
        · intro Z hZ
          simp (decide := true) only [wRet, wSet, wSeq, wNext, wDrop, wIfS, wTest, wAnd, wOr, wNot, wIf, wBin, wVar, wC, wAndV, wOrV, wNotV, wIsN, wNotN, wNeg, wChain, wNil, wCons, wTup, wLst, wBi, wCall, wIsi, wSl, wSo, wNo, wSeqI, wFor, gNm, gTp, puts, wAsg, wPar, wMul, wmD, wmO, putsI, wAug, wTryIs, wRng1, wRng2, wEnum, wEnumT, wZip, wLc, wYes, wLend, wRel, wOwn, wApp, wIns, wSetIx, wLstF, wListF, wRepF, wAddF, wSlS, wParO, wRevT, wSortedSet, wSortedSetL, wSortedSetT, wKeys, weI, wExt, allD, wMt, wRaise, wSeqO, wCallF, plainO, wCallA, wIdx0, wAnF, wSetA, wUnA, wSeqA, plainA, wFld, wFldO, wMake, wLRg, Ans.data, Ans.own.injEq, Ans.tup.injEq, Ans.dat.injEq, wTry, wTryM, wHs, wIsC, enOf, put, putUn, defEnds, lendE, lend, wipeE, hide, lenD, intD, listD, tupleD, reprD, wPen0, wPen1, wPen2, wPenS1, wPenS2, penAt, List.map_cons, List.map_nil, List.length_cons, List.length_nil, List.nil_append, List.cons_append, Nat.reduceAdd, Nat.reduceSub, Nat.reduceLeDiff, Nat.zero_add, List.replicate_zero, List.replicate_succ, List.getElem?_cons_zero, List.getElem?_cons_succ, List.set_cons_zero, List.set_cons_succ, Option.some.injEq, Slot.dat.injEq, Slot.own.injEq, PyData.bool.injEq, PyData.int.injEq, PyData.tuple.injEq, PyData.list.injEq, exists_eq_left', exists_eq_left, and_true, true_and, if_true, if_false, Bool.false_eq_true, reduceCtorEq, List.mapIdx_cons, List.mapIdx_nil]
          refine ⟨by omega,
                by omega, ?_⟩
          rw [Int.toNat_natCast]
          refine lcLoop.ind (fun acc ds k => ∃ tab : List (List D), acc = tab.map PyData.tuple ∧ (∀ xs ∈ tab, okRow cs xs) ∧ tab.length + ds.length = m ∧ k5 ≤ k + 16 * tab.length) ?_ ?_ ⟨[], rfl, (fun xs h => by cases h), by rw [rngD_length]; simp, by omega⟩
          · rintro acc k6 ⟨tab, rfl, ht, hl, l6⟩
            rw [List.length_nil] at hl
            exact hZ _ ⟨tab, k6, rfl, ⟨by omega, ht⟩, hl, by have : tab.length = m := hl; rw [this] at l6; exact l6⟩
          · rintro y ys acc k6 ih3 ⟨tab, rfl, ht, hl, l6⟩
            rw [List.length_cons] at hl
            obtain ⟨k6, rfl⟩ : ∃ k', k6 = k' + 16 := ⟨k6 - 16, by omega⟩
            simp (decide := true) only [wRet, wSet, wSeq, wNext, wDrop, wIfS, wTest, wAnd, wOr, wNot, wIf, wBin, wVar, wC, wAndV, wOrV, wNotV, wIsN, wNotN, wNeg, wChain, wNil, wCons, wTup, wLst, wBi, wCall, wIsi, wSl, wSo, wNo, wSeqI, wFor, gNm, gTp, puts, wAsg, wPar, wMul, wmD, wmO, putsI, wAug, wTryIs, wRng1, wRng2, wEnum, wEnumT, wZip, wLc, wYes, wLend, wRel, wOwn, wApp, wIns, wSetIx, wLstF, wListF, wRepF, wAddF, wSlS, wParO, wRevT, wSortedSet, wSortedSetL, wSortedSetT, wKeys, weI, wExt, allD, wMt, wRaise, wSeqO, wCallF, plainO, wCallA, wIdx0, wAnF, wSetA, wUnA, wSeqA, plainA, wFld, wFldO, wMake, wLRg, Ans.data, Ans.own.injEq, Ans.tup.injEq, Ans.dat.injEq, wTry, wTryM, wHs, wIsC, enOf, put, putUn, defEnds, lendE, lend, wipeE, hide, lenD, intD, listD, tupleD, reprD, wPen0, wPen1, wPen2, wPenS1, wPenS2, penAt, List.map_cons, List.map_nil, List.length_cons, List.length_nil, List.nil_append, List.cons_append, Nat.reduceAdd, Nat.reduceSub, Nat.reduceLeDiff, Nat.zero_add, List.replicate_zero, List.replicate_succ, List.getElem?_cons_zero, List.getElem?_cons_succ, List.set_cons_zero, List.set_cons_succ, Option.some.injEq, Slot.dat.injEq, Slot.own.injEq, PyData.bool.injEq, PyData.int.injEq, PyData.tuple.injEq, PyData.list.injEq, exists_eq_left', exists_eq_left, and_true, true_and, if_true, if_false, Bool.false_eq_true, reduceCtorEq, List.mapIdx_cons, List.mapIdx_nil]
            refine ⟨cs, k6, rfl, rfl, hcs, c4, fun xs k7 l7 hx => ⟨by rw [List.length_map]; omega, ih3 _ _ ⟨tab ++ [xs], by rw [List.map_append]; rfl, fun zs hz => ?_, by rw [List.length_append, List.length_singleton]; omega, by rw [List.length_append, List.length_singleton]; omega⟩⟩⟩
            rcases List.mem_append.mp
                  hz with hz | hz
            · exact ht zs hz
            · rw [List.mem_singleton.mp
                  hz]
              exact hx
        rintro e' ⟨tab, k6, rfl, hT, hl, l6⟩
        simp (decide := true) only [wRet, wSet, wSeq, wNext, wDrop, wIfS, wTest, wAnd, wOr, wNot, wIf, wBin, wVar, wC, wAndV, wOrV, wNotV, wIsN, wNotN, wNeg, wChain, wNil, wCons, wTup, wLst, wBi, wCall, wIsi, wSl, wSo, wNo, wSeqI, wFor, gNm, gTp, puts, wAsg, wPar, wMul, wmD, wmO, putsI, wAug, wTryIs, wRng1, wRng2, wEnum, wEnumT, wZip, wLc, wYes, wLend, wRel, wOwn, wApp, wIns, wSetIx, wLstF, wListF, wRepF, wAddF, wSlS, wParO, wRevT, wSortedSet, wSortedSetL, wSortedSetT, wKeys, weI, wExt, allD, wMt, wRaise, wSeqO, wCallF, plainO, wCallA, wIdx0, wAnF, wSetA, wUnA, wSeqA, plainA, wFld, wFldO, wMake, wLRg, Ans.data, Ans.own.injEq, Ans.tup.injEq, Ans.dat.injEq, wTry, wTryM, wHs, wIsC, enOf, put, putUn, defEnds, lendE, lend, wipeE, hide, lenD, intD, listD, tupleD, reprD, wPen0, wPen1, wPen2, wPenS1, wPenS2, penAt, List.map_cons, List.map_nil, List.length_cons, List.length_nil, List.nil_append, List.cons_append, Nat.reduceAdd, Nat.reduceSub, Nat.reduceLeDiff, Nat.zero_add, List.replicate_zero, List.replicate_succ, List.getElem?_cons_zero, List.getElem?_cons_succ, List.set_cons_zero, List.set_cons_succ, Option.some.injEq, Slot.dat.injEq, Slot.own.injEq, PyData.bool.injEq, PyData.int.injEq, PyData.tuple.injEq, PyData.list.injEq, exists_eq_left', exists_eq_left, and_true, true_and, if_true, if_false, Bool.false_eq_true, reduceCtorEq, List.mapIdx_cons, List.mapIdx_nil, neD]
        have gp : Good (.tuple [.tuple cs, viewT bs, tabT tab]) := (Ok.tuple (n := 400) (m := 10) (k := 3) (fun x hx => by
          simp only [List.mem_cons,
                List.not_mem_nil, or_false] at hx
          rcases hx with rfl | rfl | rfl
          · exact hc.ok.mono (by decide) (by decide)
          · exact ovw.mono (by decide) (by decide)
          · exact (hT.ok c4).mono (by decide) (by decide)) (by simp)).good
        have gr := rows_good c4 hD hT
        refine ⟨_, _, _, rfl, gp, .inr ⟨cs, rfl, hc, .inr ⟨u, bs, rfl, hD, .inr ⟨tab, rfl, hT, gr, cs, u, bs, tab, rfl, c4, hD, hT, gr, .inl rfl, ?_⟩⟩⟩⟩
        rw [if_neg (same _)]
        exact ih2 _ ⟨_, _, k6, rfl, fun h => ⟨tab, rfl, hT, by rw [hl]; exact hs4 h⟩, by omega⟩
      · rintro e ⟨u8, u9, k5, rfl, h, l5⟩
        obtain ⟨tab, rfl, hT, hl⟩ := h rfl
        exact hZ _ ⟨_, tab, k5, rfl, hT, hl, by have : sumTo [PyData.int 0, .int 1, .int 3, .int 8].length = 12 := rfl; omega⟩
    rintro e' ⟨u8, tab, k5, rfl, hT, hl8, l5⟩
    have t0 : 0 < tab.length := by omega
    have row0 : okRow cs (tab.getD 0 []) := hT.row _ (getD_in t0)
    obtain ⟨k5, rfl⟩ : ∃ k', k5 = k' + 1 := ⟨k5 - 1, by omega⟩
    refine cutSeq (fun e' => ∃ (b y : D) (k6 : Nat), e' = ⟨[.un, .dat penD, .dat d, .dat (.tuple cs), .dat (viewT bs), .dat (.list vs), u6, u7, u8, .dat (tabT tab), u10, .dat b, .dat y, u13, u14, u15, u16, u17], k6⟩ ∧ (colsB b = false ∧ Ok 200 5 b) ∧ (viewB cs y = false ∧ Ok 200 6 y) ∧ k + 20 ≤ k6) ?_ ?_
    rotate_left 1
    · intro Z hZ
      simp (decide := true) only [wRet, wSet, wSeq, wNext, wDrop, wIfS, wTest, wAnd, wOr, wNot, wIf, wBin, wVar, wC, wAndV, wOrV, wNotV, wIsN, wNotN, wNeg, wChain, wNil, wCons, wTup, wLst, wBi, wCall, wIsi, wSl, wSo, wNo, wSeqI, wFor, gNm, gTp, puts, wAsg, wPar, wMul, wmD, wmO, putsI, wAug, wTryIs, wRng1, wRng2, wEnum, wEnumT, wZip, wLc, wYes, wLend, wRel, wOwn, wApp, wIns, wSetIx, wLstF, wListF, wRepF, wAddF, wSlS, wParO, wRevT, wSortedSet, wSortedSetL, wSortedSetT, wKeys, weI, wExt, allD, wMt, wRaise, wSeqO, wCallF, plainO, wCallA, wIdx0, wAnF, wSetA, wUnA, wSeqA, plainA, wFld, wFldO, wMake, wLRg, Ans.data, Ans.own.injEq, Ans.tup.injEq, Ans.dat.injEq, wTry, wTryM, wHs, wIsC, enOf, put, putUn, defEnds, lendE, lend, wipeE, hide, lenD, intD, listD, tupleD, reprD, wPen0, wPen1, wPen2, wPenS1, wPenS2, penAt, List.map_cons, List.map_nil, List.length_cons, List.length_nil, List.nil_append, List.cons_append, Nat.reduceAdd, Nat.reduceSub, Nat.reduceLeDiff, Nat.zero_add, List.replicate_zero, List.replicate_succ, List.getElem?_cons_zero, List.getElem?_cons_succ, List.set_cons_zero, List.set_cons_succ, Option.some.injEq, Slot.dat.injEq, Slot.own.injEq, PyData.bool.injEq, PyData.int.injEq, PyData.tuple.injEq, PyData.list.injEq, exists_eq_left', exists_eq_left, and_true, true_and, if_true, if_false, Bool.false_eq_true, reduceCtorEq, List.mapIdx_cons, List.mapIdx_nil]
      refine ⟨cs, k5, rfl, rfl, hc, fun b k6 l6 b1 b2 => ?_⟩
      obtain ⟨k6, rfl⟩ : ∃ k', k6 = k' + 4 := ⟨k6 - 4, by omega⟩
      exact ⟨cs, k6, _, rfl, rfl, hc, .inr (.inr ⟨rfl, fun p k7 l7 p1 p2 => hZ _ ⟨b, p, k7, rfl, ⟨b1, b2⟩, ⟨p1, p2⟩, by omega⟩⟩)⟩
    rintro e' ⟨b, y, k6, rfl, ⟨b1, b2⟩, ⟨y1, y2⟩, l6⟩
    obtain ⟨k6, rfl⟩ : ∃ k', k6 = k' + 1 := ⟨k6 - 1, by omega⟩
    refine cutSeq (fun e' => ∃ (at' j k7 : Nat), e' = ⟨[.un, .dat penD, .dat d, .dat (.tuple cs), .dat (viewT bs), .dat (.list vs), u6, u7, u8, .dat (tabT tab), .dat (.int (j : Int)), .dat b, .dat y, .dat (.int (at' : Int)), u14, u15, u16, u17], k7⟩ ∧ at' < 4 ∧ j < cs.length ∧ k + 16 ≤ k7) ?_ ?_
    rotate_left 1
    · intro Z hZ
      simp (decide := true) only [wRet, wSet, wSeq, wNext, wDrop, wIfS, wTest, wAnd, wOr, wNot, wIf, wBin, wVar, wC, wAndV, wOrV, wNotV, wIsN, wNotN, wNeg, wChain, wNil, wCons, wTup, wLst, wBi, wCall, wIsi, wSl, wSo, wNo, wSeqI, wFor, gNm, gTp, puts, wAsg, wPar, wMul, wmD, wmO, putsI, wAug, wTryIs, wRng1, wRng2, wEnum, wEnumT, wZip, wLc, wYes, wLend, wRel, wOwn, wApp, wIns, wSetIx, wLstF, wListF, wRepF, wAddF, wSlS, wParO, wRevT, wSortedSet, wSortedSetL, wSortedSetT, wKeys, weI, wExt, allD, wMt, wRaise, wSeqO, wCallF, plainO, wCallA, wIdx0, wAnF, wSetA, wUnA, wSeqA, plainA, wFld, wFldO, wMake, wLRg, Ans.data, Ans.own.injEq, Ans.tup.injEq, Ans.dat.injEq, wTry, wTryM, wHs, wIsC, enOf, put, putUn, defEnds, lendE, lend, wipeE, hide, lenD, intD, listD, tupleD, reprD, wPen0, wPen1, wPen2, wPenS1, wPenS2, penAt, List.map_cons, List.map_nil, List.length_cons, List.length_nil, List.nil_append, List.cons_append, Nat.reduceAdd, Nat.reduceSub, Nat.reduceLeDiff, Nat.zero_add, List.replicate_zero, List.replicate_succ, List.getElem?_cons_zero, List.getElem?_cons_succ, List.set_cons_zero, List.set_cons_succ, Option.some.injEq, Slot.dat.injEq, Slot.own.injEq, PyData.bool.injEq, PyData.int.injEq, PyData.tuple.injEq, PyData.list.injEq, exists_eq_left', exists_eq_left, and_true, true_and, if_true, if_false, Bool.false_eq_true, reduceCtorEq, List.mapIdx_cons, List.mapIdx_nil]
      refine ⟨4, k6, rfl, rfl, by decide, by decide, fun r r0 r1 k7 l7 => ?_⟩
      obtain ⟨k7, rfl⟩ : ∃ k', k7 = k' + 1 := ⟨k7 - 1, by omega⟩
      refine ⟨_, k7, rfl, rfl, by omega, by omega, fun r2 r3 r4 k8 l8 => ?_⟩
      refine hZ _ ⟨r.toNat, r2.toNat, k8, ?_, by omega, by omega, by omega⟩
      rw [Int.toNat_of_nonneg r0, Int.toNat_of_nonneg r3]
    rintro e' ⟨at', j, k7, rfl, at4, jl, l7⟩
    have ej : atI cs (j : Int) = some (cs.getD j .none) := by rw [atI_pos (by omega) (by omega), Int.toNat_natCast]
    have hcj : okCol (cs.getD j .none) := hcs _ (getD_in jl)
    refine cutSeq (fun e' => ∃ (lk : D), e' = ⟨[.un, .dat penD, .dat d, .dat (.tuple cs), .dat (viewT bs), .dat (.list vs), u6, u7, u8, .dat (tabT tab), .dat (.int (j : Int)), .dat b, .dat y, .dat (.int (at' : Int)), .dat lk, u15, u16, u17], k7⟩ ∧ valB (cs.getD j .none) lk = false ∧ Ok 1 0 lk) ?_ ?_
    rotate_left 1
    · intro Z hZ
      simp (decide := true) only [wRet, wSet, wSeq, wNext, wDrop, wIfS, wTest, wAnd, wOr, wNot, wIf, wBin, wVar, wC, wAndV, wOrV, wNotV, wIsN, wNotN, wNeg, wChain, wNil, wCons, wTup, wLst, wBi, wCall, wIsi, wSl, wSo, wNo, wSeqI, wFor, gNm, gTp, puts, wAsg, wPar, wMul, wmD, wmO, putsI, wAug, wTryIs, wRng1, wRng2, wEnum, wEnumT, wZip, wLc, wYes, wLend, wRel, wOwn, wApp, wIns, wSetIx, wLstF, wListF, wRepF, wAddF, wSlS, wParO, wRevT, wSortedSet, wSortedSetL, wSortedSetT, wKeys, weI, wExt, allD, wMt, wRaise, wSeqO, wCallF, plainO, wCallA, wIdx0, wAnF, wSetA, wUnA, wSeqA, plainA, wFld, wFldO, wMake, wLRg, Ans.data, Ans.own.injEq, Ans.tup.injEq, Ans.dat.injEq, wTry, wTryM, wHs, wIsC, enOf, put, putUn, defEnds, lendE, lend, wipeE, hide, lenD, intD, listD, tupleD, reprD, wPen0, wPen1, wPen2, wPenS1, wPenS2, penAt, List.map_cons, List.map_nil, List.length_cons, List.length_nil, List.nil_append, List.cons_append, Nat.reduceAdd, Nat.reduceSub, Nat.reduceLeDiff, Nat.zero_add, List.replicate_zero, List.replicate_succ, List.getElem?_cons_zero, List.getElem?_cons_succ, List.set_cons_zero, List.set_cons_succ, Option.some.injEq, Slot.dat.injEq, Slot.own.injEq, PyData.bool.injEq, PyData.int.injEq, PyData.tuple.injEq, PyData.list.injEq, exists_eq_left', exists_eq_left, and_true, true_and, if_true, if_false, Bool.false_eq_true, reduceCtorEq, List.mapIdx_cons, List.mapIdx_nil, addD]
      refine ⟨_, ej, ?_⟩
      cases hn : isN (cs.getD j .none) with
      | true =>
        rw [hn, if_pos rfl]
        refine hZ _ ⟨_, rfl, ?_, Ok.int (by decide)⟩
        simp [valB]
      | false =>
        obtain ⟨ws, z, e1, e2, z0, z1, e3⟩ := hcj.last hn
        rw [hn, if_neg (by decide)]
        refine ⟨_, ej, ?_⟩
        rw [e1]
        exact ⟨_, e2, hZ _ ⟨_, rfl, e3, Ok.int (by omega)⟩⟩
    rintro e' ⟨lk, rfl, lk1, lk2⟩
    have er : atI (tab.map PyData.tuple) (0 : Int) = some (.tuple (tab.getD 0 [])) := at_map [] t0
    obtain ⟨k7, rfl⟩ : ∃ k', k7 = k' + 1 := ⟨k7 - 1, by omega⟩
    generalize tab.getD 0 [] = r0 at er row0
    have hr0 := row0.1
    refine cutSeq (fun e' => ∃ (wr : D) (k8 : Nat), e' = ⟨[.un, .dat penD, .dat d, .dat (.tuple cs), .dat (viewT bs), .dat (.list vs), u6, u7, u8, .dat (tabT tab), .dat (.int (j : Int)), .dat b, .dat y, .dat (.int (at' : Int)), .dat lk, .dat wr, u16, u17], k8⟩ ∧ rowB cs wr = false ∧ Ok 5 1 wr ∧ k + 10 ≤ k8) ?_ ?_
    rotate_left 1
    · intro Z hZ
      simp (decide := true) only [wRet, wSet, wSeq, wNext, wDrop, wIfS, wTest, wAnd, wOr, wNot, wIf, wBin, wVar, wC, wAndV, wOrV, wNotV, wIsN, wNotN, wNeg, wChain, wNil, wCons, wTup, wLst, wBi, wCall, wIsi, wSl, wSo, wNo, wSeqI, wFor, gNm, gTp, puts, wAsg, wPar, wMul, wmD, wmO, putsI, wAug, wTryIs, wRng1, wRng2, wEnum, wEnumT, wZip, wLc, wYes, wLend, wRel, wOwn, wApp, wIns, wSetIx, wLstF, wListF, wRepF, wAddF, wSlS, wParO, wRevT, wSortedSet, wSortedSetL, wSortedSetT, wKeys, weI, wExt, allD, wMt, wRaise, wSeqO, wCallF, plainO, wCallA, wIdx0, wAnF, wSetA, wUnA, wSeqA, plainA, wFld, wFldO, wMake, wLRg, Ans.data, Ans.own.injEq, Ans.tup.injEq, Ans.dat.injEq, wTry, wTryM, wHs, wIsC, enOf, put, putUn, defEnds, lendE, lend, wipeE, hide, lenD, intD, listD, tupleD, reprD, wPen0, wPen1, wPen2, wPenS1, wPenS2, penAt, List.map_cons, List.map_nil, List.length_cons, List.length_nil, List.nil_append, List.cons_append, Nat.reduceAdd, Nat.reduceSub, Nat.reduceLeDiff, Nat.zero_add, List.replicate_zero, List.replicate_succ, List.getElem?_cons_zero, List.getElem?_cons_succ, List.set_cons_zero, List.set_cons_succ, Option.some.injEq, Slot.dat.injEq, Slot.own.injEq, PyData.bool.injEq, PyData.int.injEq, PyData.tuple.injEq, PyData.list.injEq, exists_eq_left', exists_eq_left, and_true, true_and, if_true, if_false, Bool.false_eq_true, reduceCtorEq, List.mapIdx_cons, List.mapIdx_nil, addD, slD, tabT]
      refine ⟨_, er, _, _, k7, rfl, rfl, rfl, by simp, by simp, fun x hx k8 l8 => ?_⟩
      have ec1 : cutD r0 none (some (j : Int)) = r0.take j := cut_to (by omega)
      have ec2 : cutD r0 (some ((j : Int) + 1)) none = r0.drop (j + 1) := by
        rw [show ((j : Int) + 1) = ((j + 1 : Nat) : Int) from rfl]
        exact cut_from (by omega)
      have hxb : valB (cs.getD j .none) x = false ∧ Ok 1 0 x := by
        simp only [List.mem_cons,
              List.not_mem_nil, or_false] at hx
        rcases hx with rfl | rfl | rfl | rfl | rfl
        · exact ⟨lk1, lk2⟩
        · exact ⟨lk1, lk2⟩
        · exact ⟨rfl, Ok.bool⟩
        · exact ⟨rfl, Ok.none⟩
        · exact ⟨by simp [valB], Ok.int (by decide)⟩
      have lr1 : (r0.take j).length ≤ 4 := by rw [List.length_take]; omega
      have lr2 : (r0.drop (j + 1)).length + j + 1 ≤ 4 := by rw [List.length_drop]; omega
      refine ⟨by rw [ec1, sizeLine_eq]; simp only [List.length_cons, List.length_nil]; omega, _, er, ?_⟩
      refine ⟨by rw [ec1, ec2, sizeLine_eq, List.length_append]; simp only [List.length_cons, List.length_nil]; omega, ?_⟩
      rw [ec1, ec2]
      refine hZ _ ⟨_, k8, rfl, row_bad jl hr0 hxb.1, ?_, by omega⟩
      refine Ok.tuple (n := 1) (m := 0) (k := 4) (fun z hz => ?_) (by rw [List.length_append, List.length_append, List.length_take]; simp only [List.length_cons, List.length_nil]; omega)
      have vr : ∀ z ∈ r0, Ok 1 0 z := fun z hz => by
        obtain ⟨i, rfl, i0, i1⟩ := row0.val z hz
        exact Ok.int (by omega)
      rcases List.mem_append.mp
            hz with hz | hz
      · rcases List.mem_append.mp hz with hz | hz
        · exact vr z (List.mem_of_mem_take hz)
        · rw [List.mem_singleton.mp
              hz]
          exact hxb.2
      · exact vr z (List.mem_of_mem_drop hz)
    rintro e' ⟨wr, k8, rfl, w1, w2, l8⟩
    have oR : ∀ x ∈ tab.map PyData.tuple, L2.DL.Ok 5 1 x := fun x hx => by
      obtain ⟨xs, hxs, rfl⟩ := List.mem_map.mp hx
      exact (hT.row xs hxs).ok c4
    have o0 : L2.DL.Ok 5 1 (.tuple r0) := row0.ok c4
    have lt8 : (tab.map PyData.tuple).length = 8 := by rw [List.length_map]; exact hl8
    refine cutSeq (fun e' => ∃ (ps : List D), e' = ⟨[.un, .dat penD, .dat d, .dat (.tuple cs), .dat (viewT bs), .dat (.list vs), u6, u7, u8, .dat (tabT tab), .dat (.int (j : Int)), .dat b, .dat y, .dat (.int (at' : Int)), .dat lk, .dat wr, .dat (.list ps), u17], k8⟩ ∧ (∀ x ∈ ps, tabB cs x = false ∧ Ok 60 4 x) ∧ ps.length ≤ 9) ?_ ?_
    rotate_left 1
    · intro Z hZ
      simp (decide := true) only [wRet, wSet, wSeq, wNext, wDrop, wIfS, wTest, wAnd, wOr, wNot, wIf, wBin, wVar, wC, wAndV, wOrV, wNotV, wIsN, wNotN, wNeg, wChain, wNil, wCons, wTup, wLst, wBi, wCall, wIsi, wSl, wSo, wNo, wSeqI, wFor, gNm, gTp, puts, wAsg, wPar, wMul, wmD, wmO, putsI, wAug, wTryIs, wRng1, wRng2, wEnum, wEnumT, wZip, wLc, wYes, wLend, wRel, wOwn, wApp, wIns, wSetIx, wLstF, wListF, wRepF, wAddF, wSlS, wParO, wRevT, wSortedSet, wSortedSetL, wSortedSetT, wKeys, weI, wExt, allD, wMt, wRaise, wSeqO, wCallF, plainO, wCallA, wIdx0, wAnF, wSetA, wUnA, wSeqA, plainA, wFld, wFldO, wMake, wLRg, Ans.data, Ans.own.injEq, Ans.tup.injEq, Ans.dat.injEq, wTry, wTryM, wHs, wIsC, enOf, put, putUn, defEnds, lendE, lend, wipeE, hide, lenD, intD, listD, tupleD, reprD, wPen0, wPen1, wPen2, wPenS1, wPenS2, penAt, List.map_cons, List.map_nil, List.length_cons, List.length_nil, List.nil_append, List.cons_append, Nat.reduceAdd, Nat.reduceSub, Nat.reduceLeDiff, Nat.zero_add, List.replicate_zero, List.replicate_succ, List.getElem?_cons_zero, List.getElem?_cons_succ, List.set_cons_zero, List.set_cons_succ, Option.some.injEq, Slot.dat.injEq, Slot.own.injEq, PyData.bool.injEq, PyData.int.injEq, PyData.tuple.injEq, PyData.list.injEq, exists_eq_left', exists_eq_left, and_true, true_and, if_true, if_false, Bool.false_eq_true, reduceCtorEq, List.mapIdx_cons, List.mapIdx_nil, addD, slD, tabT]
      have ec : (cutD (tab.map PyData.tuple) none (some 1)).length = 1 := by
        rw [show (1 : Int) = ((1 : Nat) : Int) from rfl, cut_to (by omega), List.length_take]
        omega
      refine ⟨_, er, by rw [sizeLine_eq]; omega, _, er, by rw [sizeLine_eq]; simp only [List.length_cons, List.length_nil]; omega, ?_⟩
      refine hZ _ ⟨_, rfl, fun x hx => ?_, by simp⟩
      have mc : ∀ x ∈ cutD (tab.map PyData.tuple) none (some 1), x ∈ tab.map PyData.tuple := fun x hx => mem_cut hx
      simp only [List.mem_cons,
            List.not_mem_nil, or_false] at hx
      rcases hx with rfl | rfl | rfl | rfl | rfl | rfl | rfl | rfl | rfl
      · exact ⟨rfl, okW (by decide +kernel)⟩
      · exact ⟨rfl, okW (by decide +kernel)⟩
      · exact ⟨rfl, okW (by decide +kernel)⟩
      · exact ⟨rfl, okW (by decide +kernel)⟩
      · exact ⟨tab_bad (r := .none) (by simp) rfl, okW (by decide +kernel)⟩
      · refine ⟨tab_bad (r := .tuple []) (by simp) ?_, okW (by decide +kernel)⟩
        have e : decide (([] : List D).length = cs.length) = false := decide_eq_false (by simp only [List.length_nil]; omega)
        simp only [rowB, e, Bool.false_and]
      · exact ⟨rfl, (Ok.list (n := 5) (m := 1) (k := 9) (fun z hz => by rw [List.mem_singleton.mp hz]; exact o0) (by simp)).mono (by decide) (by decide)⟩
      · refine ⟨?_, (Ok.tuple (n := 5) (m := 1) (k := 9) (fun z hz => (List.mem_append.mp hz).elim (oR z) fun h => oR z (mc z h)) (by rw [List.length_append]; omega)).mono (by decide) (by decide)⟩
        have e : decide ((tab.map PyData.tuple ++ cutD (tab.map PyData.tuple) none (some 1)).length ≤ 8) = false := decide_eq_false (by rw [List.length_append]; omega)
        simp only [tabB, e, Bool.false_and]
      · refine ⟨tab_bad List.mem_cons_self ?_, (Ok.tuple (n := 6) (m := 2) (k := 9) (fun z hz => by
          rw [List.mem_singleton.mp hz]
          refine (Ok.tuple (n := 1) (m := 0) (k := 5) (fun z hz => ?_) (by rw [List.length_append]; simp only [List.length_cons, List.length_nil]; omega)).mono (by decide) (by decide)
          rcases List.mem_append.mp
                hz with hz | hz
          · obtain ⟨i, rfl, i0, i1⟩ := row0.val z hz
            exact Ok.int (by omega)
          · rw [List.mem_singleton.mp
                hz]
            exact Ok.int (by decide)) (by simp)).mono (by decide) (by decide)⟩
        have e : decide ((r0 ++ [PyData.int 0]).length = cs.length) = false := decide_eq_false (by rw [List.length_append]; simp only [List.length_cons, List.length_nil]; omega)
        simp only [rowB, e, Bool.false_and]
    rintro e' ⟨ps, rfl, hps, lps⟩
    obtain ⟨k8, rfl⟩ : ∃ k', k8 = k' + 1 := ⟨k8 - 1, by omega⟩
    refine cutSeq (fun e' => ∃ (po : D) (k9 : Nat), e' = ⟨[.un, .dat penD, .dat d, .dat (.tuple cs), .dat (viewT bs), .dat (.list vs), u6, u7, u8, .dat (tabT tab), .dat (.int (j : Int)), .dat b, .dat y, .dat (.int (at' : Int)), .dat lk, .dat wr, .dat po, u17], k9⟩ ∧ (tabB cs po = false ∧ Ok 60 4 po) ∧ k + 5 ≤ k9) ?_ ?_
    rotate_left 1
    · intro Z hZ
      simp (decide := true) only [wRet, wSet, wSeq, wNext, wDrop, wIfS, wTest, wAnd, wOr, wNot, wIf, wBin, wVar, wC, wAndV, wOrV, wNotV, wIsN, wNotN, wNeg, wChain, wNil, wCons, wTup, wLst, wBi, wCall, wIsi, wSl, wSo, wNo, wSeqI, wFor, gNm, gTp, puts, wAsg, wPar, wMul, wmD, wmO, putsI, wAug, wTryIs, wRng1, wRng2, wEnum, wEnumT, wZip, wLc, wYes, wLend, wRel, wOwn, wApp, wIns, wSetIx, wLstF, wListF, wRepF, wAddF, wSlS, wParO, wRevT, wSortedSet, wSortedSetL, wSortedSetT, wKeys, weI, wExt, allD, wMt, wRaise, wSeqO, wCallF, plainO, wCallA, wIdx0, wAnF, wSetA, wUnA, wSeqA, plainA, wFld, wFldO, wMake, wLRg, Ans.data, Ans.own.injEq, Ans.tup.injEq, Ans.dat.injEq, wTry, wTryM, wHs, wIsC, enOf, put, putUn, defEnds, lendE, lend, wipeE, hide, lenD, intD, listD, tupleD, reprD, wPen0, wPen1, wPen2, wPenS1, wPenS2, penAt, List.map_cons, List.map_nil, List.length_cons, List.length_nil, List.nil_append, List.cons_append, Nat.reduceAdd, Nat.reduceSub, Nat.reduceLeDiff, Nat.zero_add, List.replicate_zero, List.replicate_succ, List.getElem?_cons_zero, List.getElem?_cons_succ, List.set_cons_zero, List.set_cons_succ, Option.some.injEq, Slot.dat.injEq, Slot.own.injEq, PyData.bool.injEq, PyData.int.injEq, PyData.tuple.injEq, PyData.list.injEq, exists_eq_left', exists_eq_left, and_true, true_and, if_true, if_false, Bool.false_eq_true, reduceCtorEq, List.mapIdx_cons, List.mapIdx_nil, addD, slD, tabT, mulD]
      have ec1 : cutD (tab.map PyData.tuple) none (some (at' : Int)) = (tab.map PyData.tuple).take at' := cut_to (by omega)
      have ec2 : cutD (tab.map PyData.tuple) (some ((at' : Int) + 1)) none = (tab.map PyData.tuple).drop (at' + 1) := by
        rw [show ((at' : Int) + 1) = ((at' + 1 : Nat) : Int) from rfl]
        exact cut_from (by omega)
      rw [ec1, ec2]
      have lt1 : ((tab.map PyData.tuple).take at').length = at' := by rw [List.length_take]; omega
      have lt2 : ((tab.map PyData.tuple).drop (at' + 1)).length = 7 - at' := by rw [List.length_drop]; omega
      refine ⟨by rw [sizeLine_eq]; omega, by rw [sizeLine_eq, List.length_append]; simp only [List.length_cons, List.length_nil]; omega, by rw [sizeLine_eq]; simp; omega, ?_⟩
      refine ⟨_, _, k8, rfl, rfl, rfl, ?_, ?_, fun x hx k9 l9 => hZ _ ⟨x, k9, rfl, ?_, by omega⟩⟩
      · simp
      · simp
        omega
      · rcases List.mem_append.mp
            hx with hx | hx
        · exact hps x hx
        · obtain ⟨l, hl, hx⟩ := List.mem_flatten.mp hx
          rw [(List.mem_replicate.mp hl).2, List.mem_singleton] at hx
          rw [hx]
          refine ⟨tab_bad (r := wr) (by simp) w1, (Ok.tuple (n := 5) (m := 1) (k := 8) (fun z hz => ?_) (by rw [List.length_append, List.length_append]; simp only [List.length_cons, List.length_nil]; omega)).mono (by decide) (by decide)⟩
          rcases List.mem_append.mp
                hz with hz | hz
          · rcases List.mem_append.mp hz with hz | hz
            · exact oR z (List.mem_of_mem_take hz)
            · rw [List.mem_singleton.mp
                  hz]
              exact w2
          · exact oR z (List.mem_of_mem_drop hz)
    rintro e' ⟨po, k9, rfl, ⟨q1, q2⟩, l9⟩
    simp (decide := true) only [wRet, wSet, wSeq, wNext, wDrop, wIfS, wTest, wAnd, wOr, wNot, wIf, wBin, wVar, wC, wAndV, wOrV, wNotV, wIsN, wNotN, wNeg, wChain, wNil, wCons, wTup, wLst, wBi, wCall, wIsi, wSl, wSo, wNo, wSeqI, wFor, gNm, gTp, puts, wAsg, wPar, wMul, wmD, wmO, putsI, wAug, wTryIs, wRng1, wRng2, wEnum, wEnumT, wZip, wLc, wYes, wLend, wRel, wOwn, wApp, wIns, wSetIx, wLstF, wListF, wRepF, wAddF, wSlS, wParO, wRevT, wSortedSet, wSortedSetL, wSortedSetT, wKeys, weI, wExt, allD, wMt, wRaise, wSeqO, wCallF, plainO, wCallA, wIdx0, wAnF, wSetA, wUnA, wSeqA, plainA, wFld, wFldO, wMake, wLRg, Ans.data, Ans.own.injEq, Ans.tup.injEq, Ans.dat.injEq, wTry, wTryM, wHs, wIsC, enOf, put, putUn, defEnds, lendE, lend, wipeE, hide, lenD, intD, listD, tupleD, reprD, wPen0, wPen1, wPen2, wPenS1, wPenS2, penAt, List.map_cons, List.map_nil, List.length_cons, List.length_nil, List.nil_append, List.cons_append, Nat.reduceAdd, Nat.reduceSub, Nat.reduceLeDiff, Nat.zero_add, List.replicate_zero, List.replicate_succ, List.getElem?_cons_zero, List.getElem?_cons_succ, List.set_cons_zero, List.set_cons_succ, Option.some.injEq, Slot.dat.injEq, Slot.own.injEq, PyData.bool.injEq, PyData.int.injEq, PyData.tuple.injEq, PyData.list.injEq, exists_eq_left', exists_eq_left, and_true, true_and, if_true, if_false, Bool.false_eq_true, reduceCtorEq, List.mapIdx_cons, List.mapIdx_nil, addD, neD]
    have g3 : ∀ {a b c : D}, Ok 400 10 a → Ok 400 10 b → Ok 400 10 c → Good (.tuple [a, b, c]) := fun {a b c} ha hb hc' => (Ok.tuple (n := 400) (m := 10) (k := 3) (fun x hx => by
      simp only [List.mem_cons,
            List.not_mem_nil, or_false] at hx
      rcases hx with rfl | rfl | rfl
      · exact ha
      · exact hb
      · exact hc') (by simp)).good
    have g2 : ∀ {a b : D}, Ok 400 10 a → Ok 400 10 b → Good (.tuple [a, b]) := fun {a b} ha hb => (Ok.tuple (n := 400) (m := 10) (k := 2) (fun x hx => by
      simp only [List.mem_cons,
            List.not_mem_nil, or_false] at hx
      rcases hx with rfl | rfl
      · exact ha
      · exact hb) (by simp)).good
    have gb : Ok 400 10 b := b2.mono (by decide) (by decide)
    have gy : Ok 400 10 y := y2.mono (by decide) (by decide)
    have gp : Ok 400 10 po := q2.mono (by decide) (by decide)
    have gc : Ok 400 10 (.tuple cs) := hc.ok.mono (by decide) (by decide)
    have g0 : Ok 400 10 (.tuple []) := okW (by decide +kernel)
    have gv : Ok 400 10 (viewT bs) := ovw.mono (by decide) (by decide)
    refine ⟨b, y, po, rfl, g3 gb gy gp, .inl ⟨b1, ?_⟩⟩
    refine ⟨_, y, po, rfl, g3 gc gy gp, .inr ⟨cs, rfl, hc, .inl ⟨y1, ?_⟩⟩⟩
    refine ⟨_, y, _, rfl, g3 gc gy g0, .inr ⟨cs, rfl, hc, .inl ⟨y1, ?_⟩⟩⟩
    refine ⟨_, _, po, rfl, g3 gc gv gp, .inr ⟨cs, rfl, hc, .inr ⟨u, bs, rfl, hD, .inl ⟨q1, ?_⟩⟩⟩⟩
    refine ⟨b, y, rfl, g2 gb gy, .inl ⟨b1, ?_⟩⟩
    refine ⟨.inr ⟨good_of (by decide +kernel), good_of (by decide +kernel)⟩, ?_⟩
    rw [if_neg
          (by decide +kernel)]
    exact ih _ ⟨_, _, _, _, _, _, _, _, _, _, _, _, _, _, _, _, k9, rfl, by omega⟩
end
end L2.DL.K30
namespace L2.DL.K30
open PySem PySem.Spec
      PyProof.Rows
theorem kit_ref {K : PySem.W.Frag} {C D : Addr} {b : Bool} (hs : PySem.W.subIn K (.ref C) (.ref C) = some true) (hd : PySem.W.hasDictIn K D = true) (ht : PySem.W.typeIn K (.ref D) = some (.type "type")) (h : PySem.W.subIn K (.ref C) (.ref D) = some b) : PySem.W.kitOne K (.ref C) (.ref D) = some b := by
  by_cases e : C = D
  · subst e
    rw [hs] at h
    rw [← h]
    unfold PySem.W.kitOne
    rw [if_pos
          (beq_self_eq_true _)]
  · have n : ¬ ((Value.ref C == Value.ref D) = true) := fun z => e (Value.ref.inj (beq_iff_eq.mp z))
    obtain ⟨cd, hc, _⟩ := PySem.W.any_some hd
    have e2 : ((PySem.W.clsIn K D).isSome && PySem.W.typeIn K (.ref D) == some (.type "type")) = true := by rw [hc, ht] <;> rfl
    unfold PySem.W.kitOne
    rw [if_neg n]
    show (if ((PySem.W.clsIn K D).isSome && PySem.W.typeIn K (.ref D) == some (.type "type")) = true then PySem.W.subIn K (.ref C) (.ref D) else none) = some b
    rw [if_pos e2]
    exact h
theorem kit_val {K : PySem.W.Frag} {C : Addr} {b : Bool} (h : PySem.W.subIn K (.ref C) (.type "ValueError") = some b) : PySem.W.kitOne K (.ref C) (.type "ValueError") = some b := by
  unfold PySem.W.kitOne
  rw [if_neg (fun z => by cases (beq_iff_eq.mp z))]
  show (if PySem.W.kitMeta "ValueError" = true then PySem.W.subIn K (.ref C) (.type "ValueError") else none) = some b
  rw [if_pos (by decide +kernel)]
  exact h
theorem all_mk {l : PySem.W.OpenLaw} {w : World} {K : PySem.W.Frag} {h : Heap} {mg : Str → Option Value} {fa : Addr} (X : K.In h) (G : h.Ns mainGlobals mg) (hfa : mg "law" = some (.ref fa))
    {od0 an0 : Option Addr} {sl0 : Array (Option Value)} {oc0 kV0 dc0 pm0 cd0 ct0 : Value} {f0 : Addr}
    {od1 an1 : Option Addr} {sl1 : Array (Option Value)} {oc1 kV1 dc1 pm1 cd1 ct1 : Value} {f1 : Addr}
    {od2 an2 : Option Addr} {sl2 : Array (Option Value)} {oc2 kV2 dc2 pm2 cd2 ct2 : Value} {f2 : Addr}
    {od3 an3 : Option Addr} {sl3 : Array (Option Value)} {oc3 kV3 dc3 pm3 cd3 ct3 : Value} {f3 : Addr}
    {od4 an4 : Option Addr} {sl4 : Array (Option Value)} {oc4 kV4 dc4 pm4 cd4 ct4 : Value} {f4 : Addr}
    {od5 an5 : Option Addr} {sl5 : Array (Option Value)} {oc5 kV5 dc5 pm5 cd5 ct5 : Value} {f5 : Addr}
    {od6 an6 : Option Addr} {sl6 : Array (Option Value)} {oc6 kV6 dc6 pm6 cd6 ct6 : Value} {f6 : Addr}
    {od7 an7 : Option Addr} {sl7 : Array (Option Value)} {oc7 kV7 dc7 pm7 cd7 ct7 : Value} {f7 : Addr}
    {od8 an8 : Option Addr} {sl8 : Array (Option Value)} {oc8 kV8 dc8 pm8 cd8 ct8 : Value} {f8 : Addr}
    {od9 an9 : Option Addr} {sl9 : Array (Option Value)} {oc9 kV9 dc9 pm9 cd9 ct9 : Value} {f9 : Addr}
    {od10 an10 : Option Addr} {sl10 : Array (Option Value)} {oc10 kV10 dc10 pm10 cd10 ct10 : Value} {f10 : Addr}
    {od11 an11 : Option Addr} {sl11 : Array (Option Value)} {oc11 kV11 dc11 pm11 cd11 ct11 : Value} {f11 : Addr}
    {od12 an12 : Option Addr} {sl12 : Array (Option Value)} {oc12 kV12 dc12 pm12 cd12 ct12 : Value} {f12 : Addr}
    {od13 an13 : Option Addr} {sl13 : Array (Option Value)} {oc13 kV13 dc13 pm13 cd13 ct13 : Value} {f13 : Addr}
    {od14 an14 : Option Addr} {sl14 : Array (Option Value)} {oc14 kV14 dc14 pm14 cd14 ct14 : Value} {f14 : Addr}
    {od15 an15 : Option Addr} {sl15 : Array (Option Value)} {oc15 kV15 dc15 pm15 cd15 ct15 : Value} {f15 : Addr}
    {od16 an16 : Option Addr} {sl16 : Array (Option Value)} {oc16 kV16 dc16 pm16 cd16 ct16 : Value} {f16 : Addr}
    {od17 an17 : Option Addr} {sl17 : Array (Option Value)} {oc17 kV17 dc17 pm17 cd17 ct17 : Value} {f17 : Addr}
    {od18 an18 : Option Addr} {sl18 : Array (Option Value)} {oc18 kV18 dc18 pm18 cd18 ct18 : Value} {f18 : Addr}
    {od19 an19 : Option Addr} {sl19 : Array (Option Value)} {oc19 kV19 dc19 pm19 cd19 ct19 : Value} {f19 : Addr}
    {od20 an20 : Option Addr} {sl20 : Array (Option Value)} {oc20 kV20 dc20 pm20 cd20 ct20 : Value} {f20 : Addr}
    {od21 an21 : Option Addr} {sl21 : Array (Option Value)} {oc21 kV21 dc21 pm21 cd21 ct21 : Value} {f21 : Addr}
    {od22 an22 : Option Addr} {sl22 : Array (Option Value)} {oc22 kV22 dc22 pm22 cd22 ct22 : Value} {f22 : Addr}
    {od23 an23 : Option Addr} {sl23 : Array (Option Value)} {oc23 kV23 dc23 pm23 cd23 ct23 : Value} {f23 : Addr}
    {od24 an24 : Option Addr} {sl24 : Array (Option Value)} {oc24 kV24 dc24 pm24 cd24 ct24 : Value} {f24 : Addr}
    {od25 an25 : Option Addr} {sl25 : Array (Option Value)} {oc25 kV25 dc25 pm25 cd25 ct25 : Value} {f25 : Addr}
    {od26 an26 : Option Addr} {sl26 : Array (Option Value)} {oc26 kV26 dc26 pm26 cd26 ct26 : Value} {f26 : Addr}
    {od27 an27 : Option Addr} {sl27 : Array (Option Value)} {oc27 kV27 dc27 pm27 cd27 ct27 : Value} {f27 : Addr}
    {od28 an28 : Option Addr} {sl28 : Array (Option Value)} {oc28 kV28 dc28 pm28 cd28 ct28 : Value} {f28 : Addr}
    {od29 an29 : Option Addr} {sl29 : Array (Option Value)} {oc29 kV29 dc29 pm29 cd29 ct29 : Value} {f29 : Addr}
    {od30 an30 : Option Addr} {sl30 : Array (Option Value)} {oc30 kV30 dc30 pm30 cd30 ct30 : Value} {f30 : Addr}
    {od31 an31 : Option Addr} {sl31 : Array (Option Value)} {oc31 kV31 dc31 pm31 cd31 ct31 : Value} {f31 : Addr}
    {od32 an32 : Option Addr} {sl32 : Array (Option Value)} {oc32 kV32 dc32 pm32 cd32 ct32 : Value} {f32 : Addr}
    {od33 an33 : Option Addr} {sl33 : Array (Option Value)} {oc33 kV33 dc33 pm33 cd33 ct33 : Value} {f33 : Addr}
    {od34 an34 : Option Addr} {sl34 : Array (Option Value)} {oc34 kV34 dc34 pm34 cd34 ct34 : Value} {f34 : Addr}
    {od35 an35 : Option Addr} {sl35 : Array (Option Value)} {oc35 kV35 dc35 pm35 cd35 ct35 : Value} {f35 : Addr}
    {od36 an36 : Option Addr} {sl36 : Array (Option Value)} {oc36 kV36 dc36 pm36 cd36 ct36 : Value} {f36 : Addr}
    {od37 an37 : Option Addr} {sl37 : Array (Option Value)} {oc37 kV37 dc37 pm37 cd37 ct37 : Value} {f37 : Addr}
    {od38 an38 : Option Addr} {sl38 : Array (Option Value)} {oc38 kV38 dc38 pm38 cd38 ct38 : Value} {f38 : Addr}
    {od39 an39 : Option Addr} {sl39 : Array (Option Value)} {oc39 kV39 dc39 pm39 cd39 ct39 : Value} {f39 : Addr}
    {od40 an40 : Option Addr} {sl40 : Array (Option Value)} {oc40 kV40 dc40 pm40 cd40 ct40 : Value} {f40 : Addr}
    {od41 an41 : Option Addr} {sl41 : Array (Option Value)} {oc41 kV41 dc41 pm41 cd41 ct41 : Value} {f41 : Addr}
    {t_MOST_BRANCHES : Tok}
    {t_MOST_CLOSED : Tok}
    {t_MOST_COLUMNS : Tok}
    {t_MOST_ROWS : Tok}
    {t_MOST_VALUES : Tok}
    {A_AtWar A_Broken A_Full A_InvalidCells A_InvalidColumns A_InvalidGiven A_InvalidMark A_InvalidNumber A_InvalidRow A_InvalidRule A_InvalidRules A_InvalidSettled A_InvalidTable A_InvalidValue A_InvalidView A_NotACertificate A_NotAtPeace A_RuleError : Addr}
    (a0 : PySem.W.nsIn K mainGlobals "_law_open" = some (some (.ref f0)))
    (l0 : K.lookup f0 = some ⟨oc0, od0, .func (PySem.W.fnOf "_law_open" "_law_open" (defArgs s_law_open) (defBody s_law_open) (defScope s_law_open) .none kV0 dc0 pm0 an0 cd0 ct0), sl0⟩)
    (c0 : PySem.W.codeIn K cd0 "_law_open" = true)
    (k0 : PySem.W.keepIn K (.ref f0) = true)
    (a1 : PySem.W.nsIn K mainGlobals "_law_spread" = some (some (.ref f1)))
    (l1 : K.lookup f1 = some ⟨oc1, od1, .func (PySem.W.fnOf "_law_spread" "_law_spread" (defArgs s_law_spread) (defBody s_law_spread) (defScope s_law_spread) .none kV1 dc1 pm1 an1 cd1 ct1), sl1⟩)
    (c1 : PySem.W.codeIn K cd1 "_law_spread" = true)
    (k1 : PySem.W.keepIn K (.ref f1) = true)
    (a2 : PySem.W.nsIn K mainGlobals "_law_take" = some (some (.ref f2)))
    (l2 : K.lookup f2 = some ⟨oc2, od2, .func (PySem.W.fnOf "_law_take" "_law_take" (defArgs s_law_take) (defBody s_law_take) (defScope s_law_take) .none kV2 dc2 pm2 an2 cd2 ct2), sl2⟩)
    (c2 : PySem.W.codeIn K cd2 "_law_take" = true)
    (k2 : PySem.W.keepIn K (.ref f2) = true)
    (a3 : PySem.W.nsIn K mainGlobals "_law_one" = some (some (.ref f3)))
    (l3 : K.lookup f3 = some ⟨oc3, od3, .func (PySem.W.fnOf "_law_one" "_law_one" (defArgs s_law_one) (defBody s_law_one) (defScope s_law_one) .none kV3 dc3 pm3 an3 cd3 ct3), sl3⟩)
    (c3 : PySem.W.codeIn K cd3 "_law_one" = true)
    (k3 : PySem.W.keepIn K (.ref f3) = true)
    (a4 : PySem.W.nsIn K mainGlobals "_law_columns" = some (some (.ref f4)))
    (l4 : K.lookup f4 = some ⟨oc4, od4, .func (PySem.W.fnOf "_law_columns" "_law_columns" (defArgs s_law_columns) (defBody s_law_columns) (defScope s_law_columns) .none kV4 dc4 pm4 an4 cd4 ct4), sl4⟩)
    (c4 : PySem.W.codeIn K cd4 "_law_columns" = true)
    (k4 : PySem.W.keepIn K (.ref f4) = true)
    (a5 : PySem.W.nsIn K mainGlobals "_law_drawn" = some (some (.ref f5)))
    (l5 : K.lookup f5 = some ⟨oc5, od5, .func (PySem.W.fnOf "_law_drawn" "_law_drawn" (defArgs s_law_drawn) (defBody s_law_drawn) (defScope s_law_drawn) .none kV5 dc5 pm5 an5 cd5 ct5), sl5⟩)
    (c5 : PySem.W.codeIn K cd5 "_law_drawn" = true)
    (k5 : PySem.W.keepIn K (.ref f5) = true)
    (a6 : PySem.W.nsIn K mainGlobals "_law_value" = some (some (.ref f6)))
    (l6 : K.lookup f6 = some ⟨oc6, od6, .func (PySem.W.fnOf "_law_value" "_law_value" (defArgs s_law_value) (defBody s_law_value) (defScope s_law_value) .none kV6 dc6 pm6 an6 cd6 ct6), sl6⟩)
    (c6 : PySem.W.codeIn K cd6 "_law_value" = true)
    (k6 : PySem.W.keepIn K (.ref f6) = true)
    (a7 : PySem.W.nsIn K mainGlobals "_law_view" = some (some (.ref f7)))
    (l7 : K.lookup f7 = some ⟨oc7, od7, .func (PySem.W.fnOf "_law_view" "_law_view" (defArgs s_law_view) (defBody s_law_view) (defScope s_law_view) .none kV7 dc7 pm7 an7 cd7 ct7), sl7⟩)
    (c7 : PySem.W.codeIn K cd7 "_law_view" = true)
    (k7 : PySem.W.keepIn K (.ref f7) = true)
    (a8 : PySem.W.nsIn K mainGlobals "_law_anew" = some (some (.ref f8)))
    (l8 : K.lookup f8 = some ⟨oc8, od8, .func (PySem.W.fnOf "_law_anew" "_law_anew" (defArgs s_law_anew) (defBody s_law_anew) (defScope s_law_anew) .none kV8 dc8 pm8 an8 cd8 ct8), sl8⟩)
    (c8 : PySem.W.codeIn K cd8 "_law_anew" = true)
    (k8 : PySem.W.keepIn K (.ref f8) = true)
    (a9 : PySem.W.nsIn K mainGlobals "_law_bad_columns" = some (some (.ref f9)))
    (l9 : K.lookup f9 = some ⟨oc9, od9, .func (PySem.W.fnOf "_law_bad_columns" "_law_bad_columns" (defArgs s_law_bad_columns) (defBody s_law_bad_columns) (defScope s_law_bad_columns) .none kV9 dc9 pm9 an9 cd9 ct9), sl9⟩)
    (c9 : PySem.W.codeIn K cd9 "_law_bad_columns" = true)
    (k9 : PySem.W.keepIn K (.ref f9) = true)
    (a10 : PySem.W.nsIn K mainGlobals "_law_lacking" = some (some (.ref f10)))
    (l10 : K.lookup f10 = some ⟨oc10, od10, .func (PySem.W.fnOf "_law_lacking" "_law_lacking" (defArgs s_law_lacking) (defBody s_law_lacking) (defScope s_law_lacking) .none kV10 dc10 pm10 an10 cd10 ct10), sl10⟩)
    (c10 : PySem.W.codeIn K cd10 "_law_lacking" = true)
    (k10 : PySem.W.keepIn K (.ref f10) = true)
    (a11 : PySem.W.nsIn K mainGlobals "_law_bad" = some (some (.ref f11)))
    (l11 : K.lookup f11 = some ⟨oc11, od11, .func (PySem.W.fnOf "_law_bad" "_law_bad" (defArgs s_law_bad) (defBody s_law_bad) (defScope s_law_bad) .none kV11 dc11 pm11 an11 cd11 ct11), sl11⟩)
    (c11 : PySem.W.codeIn K cd11 "_law_bad" = true)
    (k11 : PySem.W.keepIn K (.ref f11) = true)
    (a12 : PySem.W.nsIn K mainGlobals "is_integer" = some (some (.ref f12)))
    (l12 : K.lookup f12 = some ⟨oc12, od12, .func (PySem.W.fnOf "is_integer" "is_integer" (defArgs s_is_integer) (defBody s_is_integer) (defScope s_is_integer) .none kV12 dc12 pm12 an12 cd12 ct12), sl12⟩)
    (c12 : PySem.W.codeIn K cd12 "is_integer" = true)
    (k12 : PySem.W.keepIn K (.ref f12) = true)
    (a13 : PySem.W.nsIn K mainGlobals "is_closed" = some (some (.ref f13)))
    (l13 : K.lookup f13 = some ⟨oc13, od13, .func (PySem.W.fnOf "is_closed" "is_closed" (defArgs s_is_closed) (defBody s_is_closed) (defScope s_is_closed) .none kV13 dc13 pm13 an13 cd13 ct13), sl13⟩)
    (c13 : PySem.W.codeIn K cd13 "is_closed" = true)
    (k13 : PySem.W.keepIn K (.ref f13) = true)
    (a14 : PySem.W.nsIn K mainGlobals "is_columns" = some (some (.ref f14)))
    (l14 : K.lookup f14 = some ⟨oc14, od14, .func (PySem.W.fnOf "is_columns" "is_columns" (defArgs s_is_columns) (defBody s_is_columns) (defScope s_is_columns) .none kV14 dc14 pm14 an14 cd14 ct14), sl14⟩)
    (c14 : PySem.W.codeIn K cd14 "is_columns" = true)
    (k14 : PySem.W.keepIn K (.ref f14) = true)
    (a15 : PySem.W.nsIn K mainGlobals "check_columns" = some (some (.ref f15)))
    (l15 : K.lookup f15 = some ⟨oc15, od15, .func (PySem.W.fnOf "check_columns" "check_columns" (defArgs s_check_columns) (defBody s_check_columns) (defScope s_check_columns) .none kV15 dc15 pm15 an15 cd15 ct15), sl15⟩)
    (c15 : PySem.W.codeIn K cd15 "check_columns" = true)
    (k15 : PySem.W.keepIn K (.ref f15) = true)
    (a16 : PySem.W.nsIn K mainGlobals "is_number" = some (some (.ref f16)))
    (l16 : K.lookup f16 = some ⟨oc16, od16, .func (PySem.W.fnOf "is_number" "is_number" (defArgs s_is_number) (defBody s_is_number) (defScope s_is_number) .none kV16 dc16 pm16 an16 cd16 ct16), sl16⟩)
    (c16 : PySem.W.codeIn K cd16 "is_number" = true)
    (k16 : PySem.W.keepIn K (.ref f16) = true)
    (a17 : PySem.W.nsIn K mainGlobals "kept_is_right" = some (some (.ref f17)))
    (l17 : K.lookup f17 = some ⟨oc17, od17, .func (PySem.W.fnOf "kept_is_right" "kept_is_right" (defArgs s_kept_is_right) (defBody s_kept_is_right) (defScope s_kept_is_right) .none kV17 dc17 pm17 an17 cd17 ct17), sl17⟩)
    (c17 : PySem.W.codeIn K cd17 "kept_is_right" = true)
    (k17 : PySem.W.keepIn K (.ref f17) = true)
    (a18 : PySem.W.nsIn K mainGlobals "is_value_of" = some (some (.ref f18)))
    (l18 : K.lookup f18 = some ⟨oc18, od18, .func (PySem.W.fnOf "is_value_of" "is_value_of" (defArgs s_is_value_of) (defBody s_is_value_of) (defScope s_is_value_of) .none kV18 dc18 pm18 an18 cd18 ct18), sl18⟩)
    (c18 : PySem.W.codeIn K cd18 "is_value_of" = true)
    (k18 : PySem.W.keepIn K (.ref f18) = true)
    (a19 : PySem.W.nsIn K mainGlobals "entry_is_right" = some (some (.ref f19)))
    (l19 : K.lookup f19 = some ⟨oc19, od19, .func (PySem.W.fnOf "entry_is_right" "entry_is_right" (defArgs s_entry_is_right) (defBody s_entry_is_right) (defScope s_entry_is_right) .none kV19 dc19 pm19 an19 cd19 ct19), sl19⟩)
    (c19 : PySem.W.codeIn K cd19 "entry_is_right" = true)
    (k19 : PySem.W.keepIn K (.ref f19) = true)
    (a20 : PySem.W.nsIn K mainGlobals "given_is_right" = some (some (.ref f20)))
    (l20 : K.lookup f20 = some ⟨oc20, od20, .func (PySem.W.fnOf "given_is_right" "given_is_right" (defArgs s_given_is_right) (defBody s_given_is_right) (defScope s_given_is_right) .none kV20 dc20 pm20 an20 cd20 ct20), sl20⟩)
    (c20 : PySem.W.codeIn K cd20 "given_is_right" = true)
    (k20 : PySem.W.keepIn K (.ref f20) = true)
    (a21 : PySem.W.nsIn K mainGlobals "branch_is_right" = some (some (.ref f21)))
    (l21 : K.lookup f21 = some ⟨oc21, od21, .func (PySem.W.fnOf "branch_is_right" "branch_is_right" (defArgs s_branch_is_right) (defBody s_branch_is_right) (defScope s_branch_is_right) .none kV21 dc21 pm21 an21 cd21 ct21), sl21⟩)
    (c21 : PySem.W.codeIn K cd21 "branch_is_right" = true)
    (k21 : PySem.W.keepIn K (.ref f21) = true)
    (a22 : PySem.W.nsIn K mainGlobals "view_is_right" = some (some (.ref f22)))
    (l22 : K.lookup f22 = some ⟨oc22, od22, .func (PySem.W.fnOf "view_is_right" "view_is_right" (defArgs s_view_is_right) (defBody s_view_is_right) (defScope s_view_is_right) .none kV22 dc22 pm22 an22 cd22 ct22), sl22⟩)
    (c22 : PySem.W.codeIn K cd22 "view_is_right" = true)
    (k22 : PySem.W.keepIn K (.ref f22) = true)
    (a23 : PySem.W.nsIn K mainGlobals "check_view" = some (some (.ref f23)))
    (l23 : K.lookup f23 = some ⟨oc23, od23, .func (PySem.W.fnOf "check_view" "check_view" (defArgs s_check_view) (defBody s_check_view) (defScope s_check_view) .none kV23 dc23 pm23 an23 cd23 ct23), sl23⟩)
    (c23 : PySem.W.codeIn K cd23 "check_view" = true)
    (k23 : PySem.W.keepIn K (.ref f23) = true)
    (a24 : PySem.W.nsIn K mainGlobals "row_is_right" = some (some (.ref f24)))
    (l24 : K.lookup f24 = some ⟨oc24, od24, .func (PySem.W.fnOf "row_is_right" "row_is_right" (defArgs s_row_is_right) (defBody s_row_is_right) (defScope s_row_is_right) .none kV24 dc24 pm24 an24 cd24 ct24), sl24⟩)
    (c24 : PySem.W.codeIn K cd24 "row_is_right" = true)
    (k24 : PySem.W.keepIn K (.ref f24) = true)
    (a25 : PySem.W.nsIn K mainGlobals "table_is_right" = some (some (.ref f25)))
    (l25 : K.lookup f25 = some ⟨oc25, od25, .func (PySem.W.fnOf "table_is_right" "table_is_right" (defArgs s_table_is_right) (defBody s_table_is_right) (defScope s_table_is_right) .none kV25 dc25 pm25 an25 cd25 ct25), sl25⟩)
    (c25 : PySem.W.codeIn K cd25 "table_is_right" = true)
    (k25 : PySem.W.keepIn K (.ref f25) = true)
    (a26 : PySem.W.nsIn K mainGlobals "check_table" = some (some (.ref f26)))
    (l26 : K.lookup f26 = some ⟨oc26, od26, .func (PySem.W.fnOf "check_table" "check_table" (defArgs s_check_table) (defBody s_check_table) (defScope s_check_table) .none kV26 dc26 pm26 an26 cd26 ct26), sl26⟩)
    (c26 : PySem.W.codeIn K cd26 "check_table" = true)
    (k26 : PySem.W.keepIn K (.ref f26) = true)
    (a27 : PySem.W.nsIn K mainGlobals "has_given" = some (some (.ref f27)))
    (l27 : K.lookup f27 = some ⟨oc27, od27, .func (PySem.W.fnOf "has_given" "has_given" (defArgs s_has_given) (defBody s_has_given) (defScope s_has_given) .none kV27 dc27 pm27 an27 cd27 ct27), sl27⟩)
    (c27 : PySem.W.codeIn K cd27 "has_given" = true)
    (k27 : PySem.W.keepIn K (.ref f27) = true)
    (a28 : PySem.W.nsIn K mainGlobals "view_rows" = some (some (.ref f28)))
    (l28 : K.lookup f28 = some ⟨oc28, od28, .func (PySem.W.fnOf "view_rows" "view_rows" (defArgs s_view_rows) (defBody s_view_rows) (defScope s_view_rows) .none kV28 dc28 pm28 an28 cd28 ct28), sl28⟩)
    (c28 : PySem.W.codeIn K cd28 "view_rows" = true)
    (k28 : PySem.W.keepIn K (.ref f28) = true)
    (a29 : PySem.W.nsIn K mainGlobals "_law_refusal" = some (some (.ref f29)))
    (l29 : K.lookup f29 = some ⟨oc29, od29, .func (PySem.W.fnOf "_law_refusal" "_law_refusal" (defArgs s_law_refusal) (defBody s_law_refusal) (defScope s_law_refusal) .none kV29 dc29 pm29 an29 cd29 ct29), sl29⟩)
    (c29 : PySem.W.codeIn K cd29 "_law_refusal" = true)
    (k29 : PySem.W.keepIn K (.ref f29) = true)
    (a30 : PySem.W.nsIn K mainGlobals "_law_told" = some (some (.ref f30)))
    (l30 : K.lookup f30 = some ⟨oc30, od30, .func (PySem.W.fnOf "_law_told" "_law_told" (defArgs s_law_told) (defBody s_law_told) (defScope s_law_told) .none kV30 dc30 pm30 an30 cd30 ct30), sl30⟩)
    (c30 : PySem.W.codeIn K cd30 "_law_told" = true)
    (k30 : PySem.W.keepIn K (.ref f30) = true)
    (a31 : PySem.W.nsIn K mainGlobals "_law_changed" = some (some (.ref f31)))
    (l31 : K.lookup f31 = some ⟨oc31, od31, .func (PySem.W.fnOf "_law_changed" "_law_changed" (defArgs s_law_changed) (defBody s_law_changed) (defScope s_law_changed) .none kV31 dc31 pm31 an31 cd31 ct31), sl31⟩)
    (c31 : PySem.W.codeIn K cd31 "_law_changed" = true)
    (k31 : PySem.W.keepIn K (.ref f31) = true)
    (a32 : PySem.W.nsIn K mainGlobals "is_view" = some (some (.ref f32)))
    (l32 : K.lookup f32 = some ⟨oc32, od32, .func (PySem.W.fnOf "is_view" "is_view" (defArgs s_is_view) (defBody s_is_view) (defScope s_is_view) .none kV32 dc32 pm32 an32 cd32 ct32), sl32⟩)
    (c32 : PySem.W.codeIn K cd32 "is_view" = true)
    (k32 : PySem.W.keepIn K (.ref f32) = true)
    (a33 : PySem.W.nsIn K mainGlobals "_law_asked" = some (some (.ref f33)))
    (l33 : K.lookup f33 = some ⟨oc33, od33, .func (PySem.W.fnOf "_law_asked" "_law_asked" (defArgs s_law_asked) (defBody s_law_asked) (defScope s_law_asked) .none kV33 dc33 pm33 an33 cd33 ct33), sl33⟩)
    (c33 : PySem.W.codeIn K cd33 "_law_asked" = true)
    (k33 : PySem.W.keepIn K (.ref f33) = true)
    (a34 : PySem.W.nsIn K mainGlobals "_law_is_integer" = some (some (.ref f34)))
    (l34 : K.lookup f34 = some ⟨oc34, od34, .func (PySem.W.fnOf "_law_is_integer" "_law_is_integer" (defArgs s_law_is_integer) (defBody s_law_is_integer) (defScope s_law_is_integer) .none kV34 dc34 pm34 an34 cd34 ct34), sl34⟩)
    (c34 : PySem.W.codeIn K cd34 "_law_is_integer" = true)
    (k34 : PySem.W.keepIn K (.ref f34) = true)
    (a35 : PySem.W.nsIn K mainGlobals "_law_is_value" = some (some (.ref f35)))
    (l35 : K.lookup f35 = some ⟨oc35, od35, .func (PySem.W.fnOf "_law_is_value" "_law_is_value" (defArgs s_law_is_value) (defBody s_law_is_value) (defScope s_law_is_value) .none kV35 dc35 pm35 an35 cd35 ct35), sl35⟩)
    (c35 : PySem.W.codeIn K cd35 "_law_is_value" = true)
    (k35 : PySem.W.keepIn K (.ref f35) = true)
    (a36 : PySem.W.nsIn K mainGlobals "_law_is_given" = some (some (.ref f36)))
    (l36 : K.lookup f36 = some ⟨oc36, od36, .func (PySem.W.fnOf "_law_is_given" "_law_is_given" (defArgs s_law_is_given) (defBody s_law_is_given) (defScope s_law_is_given) .none kV36 dc36 pm36 an36 cd36 ct36), sl36⟩)
    (c36 : PySem.W.codeIn K cd36 "_law_is_given" = true)
    (k36 : PySem.W.keepIn K (.ref f36) = true)
    (a37 : PySem.W.nsIn K mainGlobals "_law_is_view" = some (some (.ref f37)))
    (l37 : K.lookup f37 = some ⟨oc37, od37, .func (PySem.W.fnOf "_law_is_view" "_law_is_view" (defArgs s_law_is_view) (defBody s_law_is_view) (defScope s_law_is_view) .none kV37 dc37 pm37 an37 cd37 ct37), sl37⟩)
    (c37 : PySem.W.codeIn K cd37 "_law_is_view" = true)
    (k37 : PySem.W.keepIn K (.ref f37) = true)
    (a38 : PySem.W.nsIn K mainGlobals "_law_row" = some (some (.ref f38)))
    (l38 : K.lookup f38 = some ⟨oc38, od38, .func (PySem.W.fnOf "_law_row" "_law_row" (defArgs s_law_row) (defBody s_law_row) (defScope s_law_row) .none kV38 dc38 pm38 an38 cd38 ct38), sl38⟩)
    (c38 : PySem.W.codeIn K cd38 "_law_row" = true)
    (k38 : PySem.W.keepIn K (.ref f38) = true)
    (a39 : PySem.W.nsIn K mainGlobals "_law_matches" = some (some (.ref f39)))
    (l39 : K.lookup f39 = some ⟨oc39, od39, .func (PySem.W.fnOf "_law_matches" "_law_matches" (defArgs s_law_matches) (defBody s_law_matches) (defScope s_law_matches) .none kV39 dc39 pm39 an39 cd39 ct39), sl39⟩)
    (c39 : PySem.W.codeIn K cd39 "_law_matches" = true)
    (k39 : PySem.W.keepIn K (.ref f39) = true)
    (a40 : PySem.W.nsIn K mainGlobals "_law_view_rows" = some (some (.ref f40)))
    (l40 : K.lookup f40 = some ⟨oc40, od40, .func (PySem.W.fnOf "_law_view_rows" "_law_view_rows" (defArgs s_law_view_rows) (defBody s_law_view_rows) (defScope s_law_view_rows) .none kV40 dc40 pm40 an40 cd40 ct40), sl40⟩)
    (c40 : PySem.W.codeIn K cd40 "_law_view_rows" = true)
    (k40 : PySem.W.keepIn K (.ref f40) = true)
    (a41 : PySem.W.nsIn K mainGlobals "law" = some (some (.ref f41)))
    (l41 : K.lookup f41 = some ⟨oc41, od41, .func (PySem.W.fnOf "law" "law" (defArgs s_law) (defBody s_law) (defScope s_law) .none kV41 dc41 pm41 an41 cd41 ct41), sl41⟩)
    (c41 : PySem.W.codeIn K cd41 "law" = true)
    (k41 : PySem.W.keepIn K (.ref f41) = true)
    (z_ValueError : PySem.W.nsIn K mainGlobals "ValueError" = some none)
    (z_bool : PySem.W.nsIn K mainGlobals "bool" = some none)
    (z_enumerate : PySem.W.nsIn K mainGlobals "enumerate" = some none)
    (z_int : PySem.W.nsIn K mainGlobals "int" = some none)
    (z_isinstance : PySem.W.nsIn K mainGlobals "isinstance" = some none)
    (z_len : PySem.W.nsIn K mainGlobals "len" = some none)
    (z_list : PySem.W.nsIn K mainGlobals "list" = some none)
    (z_min : PySem.W.nsIn K mainGlobals "min" = some none)
    (z_range : PySem.W.nsIn K mainGlobals "range" = some none)
    (z_repr : PySem.W.nsIn K mainGlobals "repr" = some none)
    (z_set : PySem.W.nsIn K mainGlobals "set" = some none)
    (z_sorted : PySem.W.nsIn K mainGlobals "sorted" = some none)
    (z_tuple : PySem.W.nsIn K mainGlobals "tuple" = some none)
    (z_zip : PySem.W.nsIn K mainGlobals "zip" = some none)
    (m_MOST_BRANCHES : PySem.W.nsIn K mainGlobals "MOST_BRANCHES" = some (some (.int 3 t_MOST_BRANCHES)))
    (m_MOST_CLOSED : PySem.W.nsIn K mainGlobals "MOST_CLOSED" = some (some (.int 2 t_MOST_CLOSED)))
    (m_MOST_COLUMNS : PySem.W.nsIn K mainGlobals "MOST_COLUMNS" = some (some (.int 4 t_MOST_COLUMNS)))
    (m_MOST_ROWS : PySem.W.nsIn K mainGlobals "MOST_ROWS" = some (some (.int 8 t_MOST_ROWS)))
    (m_MOST_VALUES : PySem.W.nsIn K mainGlobals "MOST_VALUES" = some (some (.int 3 t_MOST_VALUES)))
    (g_AtWar : PySem.W.nsIn K mainGlobals "AtWar" = some (some (.ref A_AtWar)))
    (h_AtWar : PySem.W.hasDictIn K A_AtWar = true)
    (y_AtWar : PySem.W.typeIn K (.ref A_AtWar) = some (.type "type"))
    (g_Broken : PySem.W.nsIn K mainGlobals "Broken" = some (some (.ref A_Broken)))
    (h_Broken : PySem.W.hasDictIn K A_Broken = true)
    (y_Broken : PySem.W.typeIn K (.ref A_Broken) = some (.type "type"))
    (g_Full : PySem.W.nsIn K mainGlobals "Full" = some (some (.ref A_Full)))
    (h_Full : PySem.W.hasDictIn K A_Full = true)
    (y_Full : PySem.W.typeIn K (.ref A_Full) = some (.type "type"))
    (g_InvalidCells : PySem.W.nsIn K mainGlobals "InvalidCells" = some (some (.ref A_InvalidCells)))
    (h_InvalidCells : PySem.W.hasDictIn K A_InvalidCells = true)
    (y_InvalidCells : PySem.W.typeIn K (.ref A_InvalidCells) = some (.type "type"))
    (g_InvalidColumns : PySem.W.nsIn K mainGlobals "InvalidColumns" = some (some (.ref A_InvalidColumns)))
    (h_InvalidColumns : PySem.W.hasDictIn K A_InvalidColumns = true)
    (y_InvalidColumns : PySem.W.typeIn K (.ref A_InvalidColumns) = some (.type "type"))
    (g_InvalidGiven : PySem.W.nsIn K mainGlobals "InvalidGiven" = some (some (.ref A_InvalidGiven)))
    (h_InvalidGiven : PySem.W.hasDictIn K A_InvalidGiven = true)
    (y_InvalidGiven : PySem.W.typeIn K (.ref A_InvalidGiven) = some (.type "type"))
    (g_InvalidMark : PySem.W.nsIn K mainGlobals "InvalidMark" = some (some (.ref A_InvalidMark)))
    (h_InvalidMark : PySem.W.hasDictIn K A_InvalidMark = true)
    (y_InvalidMark : PySem.W.typeIn K (.ref A_InvalidMark) = some (.type "type"))
    (g_InvalidNumber : PySem.W.nsIn K mainGlobals "InvalidNumber" = some (some (.ref A_InvalidNumber)))
    (h_InvalidNumber : PySem.W.hasDictIn K A_InvalidNumber = true)
    (y_InvalidNumber : PySem.W.typeIn K (.ref A_InvalidNumber) = some (.type "type"))
    (g_InvalidRow : PySem.W.nsIn K mainGlobals "InvalidRow" = some (some (.ref A_InvalidRow)))
    (h_InvalidRow : PySem.W.hasDictIn K A_InvalidRow = true)
    (y_InvalidRow : PySem.W.typeIn K (.ref A_InvalidRow) = some (.type "type"))
    (g_InvalidRule : PySem.W.nsIn K mainGlobals "InvalidRule" = some (some (.ref A_InvalidRule)))
    (h_InvalidRule : PySem.W.hasDictIn K A_InvalidRule = true)
    (y_InvalidRule : PySem.W.typeIn K (.ref A_InvalidRule) = some (.type "type"))
    (g_InvalidRules : PySem.W.nsIn K mainGlobals "InvalidRules" = some (some (.ref A_InvalidRules)))
    (h_InvalidRules : PySem.W.hasDictIn K A_InvalidRules = true)
    (y_InvalidRules : PySem.W.typeIn K (.ref A_InvalidRules) = some (.type "type"))
    (g_InvalidSettled : PySem.W.nsIn K mainGlobals "InvalidSettled" = some (some (.ref A_InvalidSettled)))
    (h_InvalidSettled : PySem.W.hasDictIn K A_InvalidSettled = true)
    (y_InvalidSettled : PySem.W.typeIn K (.ref A_InvalidSettled) = some (.type "type"))
    (g_InvalidTable : PySem.W.nsIn K mainGlobals "InvalidTable" = some (some (.ref A_InvalidTable)))
    (h_InvalidTable : PySem.W.hasDictIn K A_InvalidTable = true)
    (y_InvalidTable : PySem.W.typeIn K (.ref A_InvalidTable) = some (.type "type"))
    (g_InvalidValue : PySem.W.nsIn K mainGlobals "InvalidValue" = some (some (.ref A_InvalidValue)))
    (h_InvalidValue : PySem.W.hasDictIn K A_InvalidValue = true)
    (y_InvalidValue : PySem.W.typeIn K (.ref A_InvalidValue) = some (.type "type"))
    (g_InvalidView : PySem.W.nsIn K mainGlobals "InvalidView" = some (some (.ref A_InvalidView)))
    (h_InvalidView : PySem.W.hasDictIn K A_InvalidView = true)
    (y_InvalidView : PySem.W.typeIn K (.ref A_InvalidView) = some (.type "type"))
    (g_NotACertificate : PySem.W.nsIn K mainGlobals "NotACertificate" = some (some (.ref A_NotACertificate)))
    (h_NotACertificate : PySem.W.hasDictIn K A_NotACertificate = true)
    (y_NotACertificate : PySem.W.typeIn K (.ref A_NotACertificate) = some (.type "type"))
    (g_NotAtPeace : PySem.W.nsIn K mainGlobals "NotAtPeace" = some (some (.ref A_NotAtPeace)))
    (h_NotAtPeace : PySem.W.hasDictIn K A_NotAtPeace = true)
    (y_NotAtPeace : PySem.W.typeIn K (.ref A_NotAtPeace) = some (.type "type"))
    (g_RuleError : PySem.W.nsIn K mainGlobals "RuleError" = some (some (.ref A_RuleError)))
    (h_RuleError : PySem.W.hasDictIn K A_RuleError = true)
    (y_RuleError : PySem.W.typeIn K (.ref A_RuleError) = some (.type "type"))
    (b_RuleError : PySem.W.subIn K (.ref A_RuleError) (.type "BaseException") = some true)
    (e_get : PySem.W.specialIn K (.builtin "object.__class__") "__get__" = some (some (.builtin "getset_descriptor.__get__")))
    (e_tk : PySem.W.takesIn K (.builtin "object.__class__") = some true)
    (k_InvalidColumns : PySem.W.keepIn K (.ref A_InvalidColumns) = true)
    (x_InvalidColumns : PySem.W.excIn K A_InvalidColumns [.type "ValueError", .type "Exception", .type "BaseException", .type "object"] "ValueError.__new__" = true)
    (s_InvalidColumns : PySem.W.subIn K (.ref A_InvalidColumns) (.type "BaseException") = some true)
    (q_InvalidColumns : PySem.W.findIn K (.ref A_InvalidColumns) "__getattribute__" = some (some (.builtin "BaseException.__getattribute__")))
    (r_InvalidColumns : PySem.W.findIn K (.ref A_InvalidColumns) "__getattr__" = some none)
    (p_InvalidColumns : PySem.W.findIn K (.ref A_InvalidColumns) "__class__" = some (some (.builtin "object.__class__")))
    (o_InvalidColumns : PySem.W.mroIn K A_InvalidColumns (.type "object") = some true)
    (u_InvalidColumns_AtWar : PySem.W.subIn K (.ref A_InvalidColumns) (.ref A_AtWar) = some false)
    (u_InvalidColumns_Broken : PySem.W.subIn K (.ref A_InvalidColumns) (.ref A_Broken) = some false)
    (u_InvalidColumns_Full : PySem.W.subIn K (.ref A_InvalidColumns) (.ref A_Full) = some false)
    (u_InvalidColumns_InvalidCells : PySem.W.subIn K (.ref A_InvalidColumns) (.ref A_InvalidCells) = some false)
    (u_InvalidColumns_InvalidColumns : PySem.W.subIn K (.ref A_InvalidColumns) (.ref A_InvalidColumns) = some true)
    (u_InvalidColumns_InvalidGiven : PySem.W.subIn K (.ref A_InvalidColumns) (.ref A_InvalidGiven) = some false)
    (u_InvalidColumns_InvalidMark : PySem.W.subIn K (.ref A_InvalidColumns) (.ref A_InvalidMark) = some false)
    (u_InvalidColumns_InvalidNumber : PySem.W.subIn K (.ref A_InvalidColumns) (.ref A_InvalidNumber) = some false)
    (u_InvalidColumns_InvalidRow : PySem.W.subIn K (.ref A_InvalidColumns) (.ref A_InvalidRow) = some false)
    (u_InvalidColumns_InvalidRule : PySem.W.subIn K (.ref A_InvalidColumns) (.ref A_InvalidRule) = some false)
    (u_InvalidColumns_InvalidRules : PySem.W.subIn K (.ref A_InvalidColumns) (.ref A_InvalidRules) = some false)
    (u_InvalidColumns_InvalidSettled : PySem.W.subIn K (.ref A_InvalidColumns) (.ref A_InvalidSettled) = some false)
    (u_InvalidColumns_InvalidTable : PySem.W.subIn K (.ref A_InvalidColumns) (.ref A_InvalidTable) = some false)
    (u_InvalidColumns_InvalidValue : PySem.W.subIn K (.ref A_InvalidColumns) (.ref A_InvalidValue) = some false)
    (u_InvalidColumns_InvalidView : PySem.W.subIn K (.ref A_InvalidColumns) (.ref A_InvalidView) = some false)
    (u_InvalidColumns_NotACertificate : PySem.W.subIn K (.ref A_InvalidColumns) (.ref A_NotACertificate) = some false)
    (u_InvalidColumns_NotAtPeace : PySem.W.subIn K (.ref A_InvalidColumns) (.ref A_NotAtPeace) = some false)
    (u_InvalidColumns_RuleError : PySem.W.subIn K (.ref A_InvalidColumns) (.ref A_RuleError) = some true)
    (v_InvalidColumns : PySem.W.subIn K (.ref A_InvalidColumns) (.type "ValueError") = some true)
    (k_InvalidTable : PySem.W.keepIn K (.ref A_InvalidTable) = true)
    (x_InvalidTable : PySem.W.excIn K A_InvalidTable [.type "ValueError", .type "Exception", .type "BaseException", .type "object"] "ValueError.__new__" = true)
    (s_InvalidTable : PySem.W.subIn K (.ref A_InvalidTable) (.type "BaseException") = some true)
    (q_InvalidTable : PySem.W.findIn K (.ref A_InvalidTable) "__getattribute__" = some (some (.builtin "BaseException.__getattribute__")))
    (r_InvalidTable : PySem.W.findIn K (.ref A_InvalidTable) "__getattr__" = some none)
    (p_InvalidTable : PySem.W.findIn K (.ref A_InvalidTable) "__class__" = some (some (.builtin "object.__class__")))
    (o_InvalidTable : PySem.W.mroIn K A_InvalidTable (.type "object") = some true)
    (u_InvalidTable_AtWar : PySem.W.subIn K (.ref A_InvalidTable) (.ref A_AtWar) = some false)
    (u_InvalidTable_Broken : PySem.W.subIn K (.ref A_InvalidTable) (.ref A_Broken) = some false)
    (u_InvalidTable_Full : PySem.W.subIn K (.ref A_InvalidTable) (.ref A_Full) = some false)
    (u_InvalidTable_InvalidCells : PySem.W.subIn K (.ref A_InvalidTable) (.ref A_InvalidCells) = some false)
    (u_InvalidTable_InvalidColumns : PySem.W.subIn K (.ref A_InvalidTable) (.ref A_InvalidColumns) = some false)
    (u_InvalidTable_InvalidGiven : PySem.W.subIn K (.ref A_InvalidTable) (.ref A_InvalidGiven) = some false)
    (u_InvalidTable_InvalidMark : PySem.W.subIn K (.ref A_InvalidTable) (.ref A_InvalidMark) = some false)
    (u_InvalidTable_InvalidNumber : PySem.W.subIn K (.ref A_InvalidTable) (.ref A_InvalidNumber) = some false)
    (u_InvalidTable_InvalidRow : PySem.W.subIn K (.ref A_InvalidTable) (.ref A_InvalidRow) = some false)
    (u_InvalidTable_InvalidRule : PySem.W.subIn K (.ref A_InvalidTable) (.ref A_InvalidRule) = some false)
    (u_InvalidTable_InvalidRules : PySem.W.subIn K (.ref A_InvalidTable) (.ref A_InvalidRules) = some false)
    (u_InvalidTable_InvalidSettled : PySem.W.subIn K (.ref A_InvalidTable) (.ref A_InvalidSettled) = some false)
    (u_InvalidTable_InvalidTable : PySem.W.subIn K (.ref A_InvalidTable) (.ref A_InvalidTable) = some true)
    (u_InvalidTable_InvalidValue : PySem.W.subIn K (.ref A_InvalidTable) (.ref A_InvalidValue) = some false)
    (u_InvalidTable_InvalidView : PySem.W.subIn K (.ref A_InvalidTable) (.ref A_InvalidView) = some false)
    (u_InvalidTable_NotACertificate : PySem.W.subIn K (.ref A_InvalidTable) (.ref A_NotACertificate) = some false)
    (u_InvalidTable_NotAtPeace : PySem.W.subIn K (.ref A_InvalidTable) (.ref A_NotAtPeace) = some false)
    (u_InvalidTable_RuleError : PySem.W.subIn K (.ref A_InvalidTable) (.ref A_RuleError) = some true)
    (v_InvalidTable : PySem.W.subIn K (.ref A_InvalidTable) (.type "ValueError") = some true)
    (k_InvalidView : PySem.W.keepIn K (.ref A_InvalidView) = true)
    (x_InvalidView : PySem.W.excIn K A_InvalidView [.type "ValueError", .type "Exception", .type "BaseException", .type "object"] "ValueError.__new__" = true)
    (s_InvalidView : PySem.W.subIn K (.ref A_InvalidView) (.type "BaseException") = some true)
    (q_InvalidView : PySem.W.findIn K (.ref A_InvalidView) "__getattribute__" = some (some (.builtin "BaseException.__getattribute__")))
    (r_InvalidView : PySem.W.findIn K (.ref A_InvalidView) "__getattr__" = some none)
    (p_InvalidView : PySem.W.findIn K (.ref A_InvalidView) "__class__" = some (some (.builtin "object.__class__")))
    (o_InvalidView : PySem.W.mroIn K A_InvalidView (.type "object") = some true)
    (u_InvalidView_AtWar : PySem.W.subIn K (.ref A_InvalidView) (.ref A_AtWar) = some false)
    (u_InvalidView_Broken : PySem.W.subIn K (.ref A_InvalidView) (.ref A_Broken) = some false)
    (u_InvalidView_Full : PySem.W.subIn K (.ref A_InvalidView) (.ref A_Full) = some false)
    (u_InvalidView_InvalidCells : PySem.W.subIn K (.ref A_InvalidView) (.ref A_InvalidCells) = some false)
    (u_InvalidView_InvalidColumns : PySem.W.subIn K (.ref A_InvalidView) (.ref A_InvalidColumns) = some false)
    (u_InvalidView_InvalidGiven : PySem.W.subIn K (.ref A_InvalidView) (.ref A_InvalidGiven) = some false)
    (u_InvalidView_InvalidMark : PySem.W.subIn K (.ref A_InvalidView) (.ref A_InvalidMark) = some false)
    (u_InvalidView_InvalidNumber : PySem.W.subIn K (.ref A_InvalidView) (.ref A_InvalidNumber) = some false)
    (u_InvalidView_InvalidRow : PySem.W.subIn K (.ref A_InvalidView) (.ref A_InvalidRow) = some false)
    (u_InvalidView_InvalidRule : PySem.W.subIn K (.ref A_InvalidView) (.ref A_InvalidRule) = some false)
    (u_InvalidView_InvalidRules : PySem.W.subIn K (.ref A_InvalidView) (.ref A_InvalidRules) = some false)
    (u_InvalidView_InvalidSettled : PySem.W.subIn K (.ref A_InvalidView) (.ref A_InvalidSettled) = some false)
    (u_InvalidView_InvalidTable : PySem.W.subIn K (.ref A_InvalidView) (.ref A_InvalidTable) = some false)
    (u_InvalidView_InvalidValue : PySem.W.subIn K (.ref A_InvalidView) (.ref A_InvalidValue) = some false)
    (u_InvalidView_InvalidView : PySem.W.subIn K (.ref A_InvalidView) (.ref A_InvalidView) = some true)
    (u_InvalidView_NotACertificate : PySem.W.subIn K (.ref A_InvalidView) (.ref A_NotACertificate) = some false)
    (u_InvalidView_NotAtPeace : PySem.W.subIn K (.ref A_InvalidView) (.ref A_NotAtPeace) = some false)
    (u_InvalidView_RuleError : PySem.W.subIn K (.ref A_InvalidView) (.ref A_RuleError) = some true)
    (v_InvalidView : PySem.W.subIn K (.ref A_InvalidView) (.type "ValueError") = some true) :
    ∃ fd : FuncData, (∀ (s : Shared) (v : Value), BindsTo s fd ⟨[v], []⟩ [("_law_script", v)]) ∧ ∀ base : Heap, K.In base → base.Ns mainGlobals mg → FnG l.prog w K mg base 15 fa fd ["_law_script"] (spTrue K) := by
  have e := hfa.symm.trans (PySem.W.mg_of X G a41)
  cases e
  let A : Cls := ⟨A_AtWar, A_Broken, A_Full, A_InvalidCells, A_InvalidColumns, A_InvalidGiven, A_InvalidMark, A_InvalidNumber, A_InvalidRow, A_InvalidRule, A_InvalidRules, A_InvalidSettled, A_InvalidTable, A_InvalidValue, A_InvalidView, A_NotACertificate, A_NotAtPeace, A_RuleError⟩
  have T : Txt K mg A := {
    z_ValueError := PySem.W.mg_none_of X G z_ValueError,
    z_bool := PySem.W.mg_none_of X G z_bool,
    z_enumerate := PySem.W.mg_none_of X G z_enumerate,
    z_int := PySem.W.mg_none_of X G z_int,
    z_isinstance := PySem.W.mg_none_of X G z_isinstance,
    z_len := PySem.W.mg_none_of X G z_len,
    z_list := PySem.W.mg_none_of X G z_list,
    z_min := PySem.W.mg_none_of X G z_min,
    z_range := PySem.W.mg_none_of X G z_range,
    z_repr := PySem.W.mg_none_of X G z_repr,
    z_set := PySem.W.mg_none_of X G z_set,
    z_sorted := PySem.W.mg_none_of X G z_sorted,
    z_tuple := PySem.W.mg_none_of X G z_tuple,
    z_zip := PySem.W.mg_none_of X G z_zip,
    c_MOST_BRANCHES := ⟨t_MOST_BRANCHES, PySem.W.mg_of X G m_MOST_BRANCHES⟩,
    c_MOST_CLOSED := ⟨t_MOST_CLOSED, PySem.W.mg_of X G m_MOST_CLOSED⟩,
    c_MOST_COLUMNS := ⟨t_MOST_COLUMNS, PySem.W.mg_of X G m_MOST_COLUMNS⟩,
    c_MOST_ROWS := ⟨t_MOST_ROWS, PySem.W.mg_of X G m_MOST_ROWS⟩,
    c_MOST_VALUES := ⟨t_MOST_VALUES, PySem.W.mg_of X G m_MOST_VALUES⟩,
    g_AtWar := PySem.W.mg_of X G g_AtWar,
    g_Broken := PySem.W.mg_of X G g_Broken,
    g_Full := PySem.W.mg_of X G g_Full,
    g_InvalidCells := PySem.W.mg_of X G g_InvalidCells,
    g_InvalidColumns := PySem.W.mg_of X G g_InvalidColumns,
    g_InvalidGiven := PySem.W.mg_of X G g_InvalidGiven,
    g_InvalidMark := PySem.W.mg_of X G g_InvalidMark,
    g_InvalidNumber := PySem.W.mg_of X G g_InvalidNumber,
    g_InvalidRow := PySem.W.mg_of X G g_InvalidRow,
    g_InvalidRule := PySem.W.mg_of X G g_InvalidRule,
    g_InvalidRules := PySem.W.mg_of X G g_InvalidRules,
    g_InvalidSettled := PySem.W.mg_of X G g_InvalidSettled,
    g_InvalidTable := PySem.W.mg_of X G g_InvalidTable,
    g_InvalidValue := PySem.W.mg_of X G g_InvalidValue,
    g_InvalidView := PySem.W.mg_of X G g_InvalidView,
    g_NotACertificate := PySem.W.mg_of X G g_NotACertificate,
    g_NotAtPeace := PySem.W.mg_of X G g_NotAtPeace,
    g_RuleError := PySem.W.mg_of X G g_RuleError,
    k_InvalidColumns := k_InvalidColumns,
    x_InvalidColumns := x_InvalidColumns,
    s_InvalidColumns := s_InvalidColumns,
    t_InvalidColumns := y_InvalidColumns,
    e_InvalidColumns := ⟨q_InvalidColumns, r_InvalidColumns, s_InvalidColumns, h_InvalidColumns, p_InvalidColumns, e_get, e_tk, o_InvalidColumns⟩,
    m_InvalidColumns_RuleError := PySem.W.exm_ref b_RuleError h_RuleError y_RuleError u_InvalidColumns_RuleError,
    i_InvalidColumns_AtWar := kit_ref u_InvalidColumns_InvalidColumns h_AtWar y_AtWar u_InvalidColumns_AtWar,
    i_InvalidColumns_Broken := kit_ref u_InvalidColumns_InvalidColumns h_Broken y_Broken u_InvalidColumns_Broken,
    i_InvalidColumns_Full := kit_ref u_InvalidColumns_InvalidColumns h_Full y_Full u_InvalidColumns_Full,
    i_InvalidColumns_InvalidCells := kit_ref u_InvalidColumns_InvalidColumns h_InvalidCells y_InvalidCells u_InvalidColumns_InvalidCells,
    i_InvalidColumns_InvalidColumns := kit_ref u_InvalidColumns_InvalidColumns h_InvalidColumns y_InvalidColumns u_InvalidColumns_InvalidColumns,
    i_InvalidColumns_InvalidGiven := kit_ref u_InvalidColumns_InvalidColumns h_InvalidGiven y_InvalidGiven u_InvalidColumns_InvalidGiven,
    i_InvalidColumns_InvalidMark := kit_ref u_InvalidColumns_InvalidColumns h_InvalidMark y_InvalidMark u_InvalidColumns_InvalidMark,
    i_InvalidColumns_InvalidNumber := kit_ref u_InvalidColumns_InvalidColumns h_InvalidNumber y_InvalidNumber u_InvalidColumns_InvalidNumber,
    i_InvalidColumns_InvalidRow := kit_ref u_InvalidColumns_InvalidColumns h_InvalidRow y_InvalidRow u_InvalidColumns_InvalidRow,
    i_InvalidColumns_InvalidRule := kit_ref u_InvalidColumns_InvalidColumns h_InvalidRule y_InvalidRule u_InvalidColumns_InvalidRule,
    i_InvalidColumns_InvalidRules := kit_ref u_InvalidColumns_InvalidColumns h_InvalidRules y_InvalidRules u_InvalidColumns_InvalidRules,
    i_InvalidColumns_InvalidSettled := kit_ref u_InvalidColumns_InvalidColumns h_InvalidSettled y_InvalidSettled u_InvalidColumns_InvalidSettled,
    i_InvalidColumns_InvalidTable := kit_ref u_InvalidColumns_InvalidColumns h_InvalidTable y_InvalidTable u_InvalidColumns_InvalidTable,
    i_InvalidColumns_InvalidValue := kit_ref u_InvalidColumns_InvalidColumns h_InvalidValue y_InvalidValue u_InvalidColumns_InvalidValue,
    i_InvalidColumns_InvalidView := kit_ref u_InvalidColumns_InvalidColumns h_InvalidView y_InvalidView u_InvalidColumns_InvalidView,
    i_InvalidColumns_NotACertificate := kit_ref u_InvalidColumns_InvalidColumns h_NotACertificate y_NotACertificate u_InvalidColumns_NotACertificate,
    i_InvalidColumns_NotAtPeace := kit_ref u_InvalidColumns_InvalidColumns h_NotAtPeace y_NotAtPeace u_InvalidColumns_NotAtPeace,
    i_InvalidColumns_RuleError := kit_ref u_InvalidColumns_InvalidColumns h_RuleError y_RuleError u_InvalidColumns_RuleError,
    i_InvalidColumns_ValueError := kit_val v_InvalidColumns,
    k_InvalidTable := k_InvalidTable,
    x_InvalidTable := x_InvalidTable,
    s_InvalidTable := s_InvalidTable,
    t_InvalidTable := y_InvalidTable,
    e_InvalidTable := ⟨q_InvalidTable, r_InvalidTable, s_InvalidTable, h_InvalidTable, p_InvalidTable, e_get, e_tk, o_InvalidTable⟩,
    m_InvalidTable_RuleError := PySem.W.exm_ref b_RuleError h_RuleError y_RuleError u_InvalidTable_RuleError,
    i_InvalidTable_AtWar := kit_ref u_InvalidTable_InvalidTable h_AtWar y_AtWar u_InvalidTable_AtWar,
    i_InvalidTable_Broken := kit_ref u_InvalidTable_InvalidTable h_Broken y_Broken u_InvalidTable_Broken,
    i_InvalidTable_Full := kit_ref u_InvalidTable_InvalidTable h_Full y_Full u_InvalidTable_Full,
    i_InvalidTable_InvalidCells := kit_ref u_InvalidTable_InvalidTable h_InvalidCells y_InvalidCells u_InvalidTable_InvalidCells,
    i_InvalidTable_InvalidColumns := kit_ref u_InvalidTable_InvalidTable h_InvalidColumns y_InvalidColumns u_InvalidTable_InvalidColumns,
    i_InvalidTable_InvalidGiven := kit_ref u_InvalidTable_InvalidTable h_InvalidGiven y_InvalidGiven u_InvalidTable_InvalidGiven,
    i_InvalidTable_InvalidMark := kit_ref u_InvalidTable_InvalidTable h_InvalidMark y_InvalidMark u_InvalidTable_InvalidMark,
    i_InvalidTable_InvalidNumber := kit_ref u_InvalidTable_InvalidTable h_InvalidNumber y_InvalidNumber u_InvalidTable_InvalidNumber,
    i_InvalidTable_InvalidRow := kit_ref u_InvalidTable_InvalidTable h_InvalidRow y_InvalidRow u_InvalidTable_InvalidRow,
    i_InvalidTable_InvalidRule := kit_ref u_InvalidTable_InvalidTable h_InvalidRule y_InvalidRule u_InvalidTable_InvalidRule,
    i_InvalidTable_InvalidRules := kit_ref u_InvalidTable_InvalidTable h_InvalidRules y_InvalidRules u_InvalidTable_InvalidRules,
    i_InvalidTable_InvalidSettled := kit_ref u_InvalidTable_InvalidTable h_InvalidSettled y_InvalidSettled u_InvalidTable_InvalidSettled,
    i_InvalidTable_InvalidTable := kit_ref u_InvalidTable_InvalidTable h_InvalidTable y_InvalidTable u_InvalidTable_InvalidTable,
    i_InvalidTable_InvalidValue := kit_ref u_InvalidTable_InvalidTable h_InvalidValue y_InvalidValue u_InvalidTable_InvalidValue,
    i_InvalidTable_InvalidView := kit_ref u_InvalidTable_InvalidTable h_InvalidView y_InvalidView u_InvalidTable_InvalidView,
    i_InvalidTable_NotACertificate := kit_ref u_InvalidTable_InvalidTable h_NotACertificate y_NotACertificate u_InvalidTable_NotACertificate,
    i_InvalidTable_NotAtPeace := kit_ref u_InvalidTable_InvalidTable h_NotAtPeace y_NotAtPeace u_InvalidTable_NotAtPeace,
    i_InvalidTable_RuleError := kit_ref u_InvalidTable_InvalidTable h_RuleError y_RuleError u_InvalidTable_RuleError,
    i_InvalidTable_ValueError := kit_val v_InvalidTable,
    k_InvalidView := k_InvalidView,
    x_InvalidView := x_InvalidView,
    s_InvalidView := s_InvalidView,
    t_InvalidView := y_InvalidView,
    e_InvalidView := ⟨q_InvalidView, r_InvalidView, s_InvalidView, h_InvalidView, p_InvalidView, e_get, e_tk, o_InvalidView⟩,
    m_InvalidView_RuleError := PySem.W.exm_ref b_RuleError h_RuleError y_RuleError u_InvalidView_RuleError,
    i_InvalidView_AtWar := kit_ref u_InvalidView_InvalidView h_AtWar y_AtWar u_InvalidView_AtWar,
    i_InvalidView_Broken := kit_ref u_InvalidView_InvalidView h_Broken y_Broken u_InvalidView_Broken,
    i_InvalidView_Full := kit_ref u_InvalidView_InvalidView h_Full y_Full u_InvalidView_Full,
    i_InvalidView_InvalidCells := kit_ref u_InvalidView_InvalidView h_InvalidCells y_InvalidCells u_InvalidView_InvalidCells,
    i_InvalidView_InvalidColumns := kit_ref u_InvalidView_InvalidView h_InvalidColumns y_InvalidColumns u_InvalidView_InvalidColumns,
    i_InvalidView_InvalidGiven := kit_ref u_InvalidView_InvalidView h_InvalidGiven y_InvalidGiven u_InvalidView_InvalidGiven,
    i_InvalidView_InvalidMark := kit_ref u_InvalidView_InvalidView h_InvalidMark y_InvalidMark u_InvalidView_InvalidMark,
    i_InvalidView_InvalidNumber := kit_ref u_InvalidView_InvalidView h_InvalidNumber y_InvalidNumber u_InvalidView_InvalidNumber,
    i_InvalidView_InvalidRow := kit_ref u_InvalidView_InvalidView h_InvalidRow y_InvalidRow u_InvalidView_InvalidRow,
    i_InvalidView_InvalidRule := kit_ref u_InvalidView_InvalidView h_InvalidRule y_InvalidRule u_InvalidView_InvalidRule,
    i_InvalidView_InvalidRules := kit_ref u_InvalidView_InvalidView h_InvalidRules y_InvalidRules u_InvalidView_InvalidRules,
    i_InvalidView_InvalidSettled := kit_ref u_InvalidView_InvalidView h_InvalidSettled y_InvalidSettled u_InvalidView_InvalidSettled,
    i_InvalidView_InvalidTable := kit_ref u_InvalidView_InvalidView h_InvalidTable y_InvalidTable u_InvalidView_InvalidTable,
    i_InvalidView_InvalidValue := kit_ref u_InvalidView_InvalidView h_InvalidValue y_InvalidValue u_InvalidView_InvalidValue,
    i_InvalidView_InvalidView := kit_ref u_InvalidView_InvalidView h_InvalidView y_InvalidView u_InvalidView_InvalidView,
    i_InvalidView_NotACertificate := kit_ref u_InvalidView_InvalidView h_NotACertificate y_NotACertificate u_InvalidView_NotACertificate,
    i_InvalidView_NotAtPeace := kit_ref u_InvalidView_InvalidView h_NotAtPeace y_NotAtPeace u_InvalidView_NotAtPeace,
    i_InvalidView_RuleError := kit_ref u_InvalidView_InvalidView h_RuleError y_RuleError u_InvalidView_RuleError,
    i_InvalidView_ValueError := kit_val v_InvalidView }
  have G0 := fun_mk (st := s_law_open) l0 c0 k0
  have F_law_open : FunAt K mg "_law_open" s_law_open ["_law_script"] := ⟨_, _, G0, PySem.W.mg_of X G a0, G0.binds (ps := ["_law_script"]) fun _ _ _ _ _ _ us hl => match us, hl with | [_], _ => rfl⟩
  have G1 := fun_mk (st := s_law_spread) l1 c1 k1
  have F_law_spread : FunAt K mg "_law_spread" s_law_spread ["_law_cell", "_law_at"] := ⟨_, _, G1, PySem.W.mg_of X G a1, G1.binds (ps := ["_law_cell", "_law_at"]) fun _ _ _ _ _ _ us hl => match us, hl with | [_, _], _ => rfl⟩
  have G2 := fun_mk (st := s_law_take) l2 c2 k2
  have F_law_take : FunAt K mg "_law_take" s_law_take ["_law_pen", "_law_many"] := ⟨_, _, G2, PySem.W.mg_of X G a2, G2.binds (ps := ["_law_pen", "_law_many"]) fun _ _ _ _ _ _ us hl => match us, hl with | [_, _], _ => rfl⟩
  have G3 := fun_mk (st := s_law_one) l3 c3 k3
  have F_law_one : FunAt K mg "_law_one" s_law_one ["_law_pen", "_law_some"] := ⟨_, _, G3, PySem.W.mg_of X G a3, G3.binds (ps := ["_law_pen", "_law_some"]) fun _ _ _ _ _ _ us hl => match us, hl with | [_, _], _ => rfl⟩
  have G4 := fun_mk (st := s_law_columns) l4 c4 k4
  have F_law_columns : FunAt K mg "_law_columns" s_law_columns ["_law_pen", "_law_most"] := ⟨_, _, G4, PySem.W.mg_of X G a4, G4.binds (ps := ["_law_pen", "_law_most"]) fun _ _ _ _ _ _ us hl => match us, hl with | [_, _], _ => rfl⟩
  have G5 := fun_mk (st := s_law_drawn) l5 c5 k5
  have F_law_drawn : FunAt K mg "_law_drawn" s_law_drawn ["_law_pen", "_law_many"] := ⟨_, _, G5, PySem.W.mg_of X G a5, G5.binds (ps := ["_law_pen", "_law_many"]) fun _ _ _ _ _ _ us hl => match us, hl with | [_, _], _ => rfl⟩
  have G6 := fun_mk (st := s_law_value) l6 c6 k6
  have F_law_value : FunAt K mg "_law_value" s_law_value ["_law_pen", "_law_column"] := ⟨_, _, G6, PySem.W.mg_of X G a6, G6.binds (ps := ["_law_pen", "_law_column"]) fun _ _ _ _ _ _ us hl => match us, hl with | [_, _], _ => rfl⟩
  have G7 := fun_mk (st := s_law_view) l7 c7 k7
  have F_law_view : FunAt K mg "_law_view" s_law_view ["_law_pen", "_law_columns_here", "_law_most"] := ⟨_, _, G7, PySem.W.mg_of X G a7, G7.binds (ps := ["_law_pen", "_law_columns_here", "_law_most"]) fun _ _ _ _ _ _ us hl => match us, hl with | [_, _, _], _ => rfl⟩
  have G8 := fun_mk (st := s_law_anew) l8 c8 k8
  have F_law_anew : FunAt K mg "_law_anew" s_law_anew ["_law_pen"] := ⟨_, _, G8, PySem.W.mg_of X G a8, G8.binds (ps := ["_law_pen"]) fun _ _ _ _ _ _ us hl => match us, hl with | [_], _ => rfl⟩
  have G9 := fun_mk (st := s_law_bad_columns) l9 c9 k9
  have F_law_bad_columns : FunAt K mg "_law_bad_columns" s_law_bad_columns ["_law_pen", "_law_columns_here"] := ⟨_, _, G9, PySem.W.mg_of X G a9, G9.binds (ps := ["_law_pen", "_law_columns_here"]) fun _ _ _ _ _ _ us hl => match us, hl with | [_, _], _ => rfl⟩
  have G10 := fun_mk (st := s_law_lacking) l10 c10 k10
  have F_law_lacking : FunAt K mg "_law_lacking" s_law_lacking ["_law_pen", "_law_columns_here"] := ⟨_, _, G10, PySem.W.mg_of X G a10, G10.binds (ps := ["_law_pen", "_law_columns_here"]) fun _ _ _ _ _ _ us hl => match us, hl with | [_, _], _ => rfl⟩
  have G11 := fun_mk (st := s_law_bad) l11 c11 k11
  have F_law_bad : FunAt K mg "_law_bad" s_law_bad ["_law_pen", "_law_columns_here", "_law_sort"] := ⟨_, _, G11, PySem.W.mg_of X G a11, G11.binds (ps := ["_law_pen", "_law_columns_here", "_law_sort"]) fun _ _ _ _ _ _ us hl => match us, hl with | [_, _, _], _ => rfl⟩
  have G12 := fun_mk (st := s_is_integer) l12 c12 k12
  have F_is_integer : FunAt K mg "is_integer" s_is_integer ["value"] := ⟨_, _, G12, PySem.W.mg_of X G a12, G12.binds (ps := ["value"]) fun _ _ _ _ _ _ us hl => match us, hl with | [_], _ => rfl⟩
  have G13 := fun_mk (st := s_is_closed) l13 c13 k13
  have F_is_closed : FunAt K mg "is_closed" s_is_closed ["value"] := ⟨_, _, G13, PySem.W.mg_of X G a13, G13.binds (ps := ["value"]) fun _ _ _ _ _ _ us hl => match us, hl with | [_], _ => rfl⟩
  have G14 := fun_mk (st := s_is_columns) l14 c14 k14
  have F_is_columns : FunAt K mg "is_columns" s_is_columns ["value"] := ⟨_, _, G14, PySem.W.mg_of X G a14, G14.binds (ps := ["value"]) fun _ _ _ _ _ _ us hl => match us, hl with | [_], _ => rfl⟩
  have G15 := fun_mk (st := s_check_columns) l15 c15 k15
  have F_check_columns : FunAt K mg "check_columns" s_check_columns ["columns"] := ⟨_, _, G15, PySem.W.mg_of X G a15, G15.binds (ps := ["columns"]) fun _ _ _ _ _ _ us hl => match us, hl with | [_], _ => rfl⟩
  have G16 := fun_mk (st := s_is_number) l16 c16 k16
  have F_is_number : FunAt K mg "is_number" s_is_number ["value", "limit"] := ⟨_, _, G16, PySem.W.mg_of X G a16, G16.binds (ps := ["value", "limit"]) fun _ _ _ _ _ _ us hl => match us, hl with | [_, _], _ => rfl⟩
  have G17 := fun_mk (st := s_kept_is_right) l17 c17 k17
  have F_kept_is_right : FunAt K mg "kept_is_right" s_kept_is_right ["columns", "value"] := ⟨_, _, G17, PySem.W.mg_of X G a17, G17.binds (ps := ["columns", "value"]) fun _ _ _ _ _ _ us hl => match us, hl with | [_, _], _ => rfl⟩
  have G18 := fun_mk (st := s_is_value_of) l18 c18 k18
  have F_is_value_of : FunAt K mg "is_value_of" s_is_value_of ["column", "value"] := ⟨_, _, G18, PySem.W.mg_of X G a18, G18.binds (ps := ["column", "value"]) fun _ _ _ _ _ _ us hl => match us, hl with | [_, _], _ => rfl⟩
  have G19 := fun_mk (st := s_entry_is_right) l19 c19 k19
  have F_entry_is_right : FunAt K mg "entry_is_right" s_entry_is_right ["columns", "value"] := ⟨_, _, G19, PySem.W.mg_of X G a19, G19.binds (ps := ["columns", "value"]) fun _ _ _ _ _ _ us hl => match us, hl with | [_, _], _ => rfl⟩
  have G20 := fun_mk (st := s_given_is_right) l20 c20 k20
  have F_given_is_right : FunAt K mg "given_is_right" s_given_is_right ["columns", "value"] := ⟨_, _, G20, PySem.W.mg_of X G a20, G20.binds (ps := ["columns", "value"]) fun _ _ _ _ _ _ us hl => match us, hl with | [_, _], _ => rfl⟩
  have G21 := fun_mk (st := s_branch_is_right) l21 c21 k21
  have F_branch_is_right : FunAt K mg "branch_is_right" s_branch_is_right ["columns", "value"] := ⟨_, _, G21, PySem.W.mg_of X G a21, G21.binds (ps := ["columns", "value"]) fun _ _ _ _ _ _ us hl => match us, hl with | [_, _], _ => rfl⟩
  have G22 := fun_mk (st := s_view_is_right) l22 c22 k22
  have F_view_is_right : FunAt K mg "view_is_right" s_view_is_right ["columns", "value"] := ⟨_, _, G22, PySem.W.mg_of X G a22, G22.binds (ps := ["columns", "value"]) fun _ _ _ _ _ _ us hl => match us, hl with | [_, _], _ => rfl⟩
  have G23 := fun_mk (st := s_check_view) l23 c23 k23
  have F_check_view : FunAt K mg "check_view" s_check_view ["columns", "view"] := ⟨_, _, G23, PySem.W.mg_of X G a23, G23.binds (ps := ["columns", "view"]) fun _ _ _ _ _ _ us hl => match us, hl with | [_, _], _ => rfl⟩
  have G24 := fun_mk (st := s_row_is_right) l24 c24 k24
  have F_row_is_right : FunAt K mg "row_is_right" s_row_is_right ["columns", "value"] := ⟨_, _, G24, PySem.W.mg_of X G a24, G24.binds (ps := ["columns", "value"]) fun _ _ _ _ _ _ us hl => match us, hl with | [_, _], _ => rfl⟩
  have G25 := fun_mk (st := s_table_is_right) l25 c25 k25
  have F_table_is_right : FunAt K mg "table_is_right" s_table_is_right ["columns", "value"] := ⟨_, _, G25, PySem.W.mg_of X G a25, G25.binds (ps := ["columns", "value"]) fun _ _ _ _ _ _ us hl => match us, hl with | [_, _], _ => rfl⟩
  have G26 := fun_mk (st := s_check_table) l26 c26 k26
  have F_check_table : FunAt K mg "check_table" s_check_table ["columns", "table"] := ⟨_, _, G26, PySem.W.mg_of X G a26, G26.binds (ps := ["columns", "table"]) fun _ _ _ _ _ _ us hl => match us, hl with | [_, _], _ => rfl⟩
  have G27 := fun_mk (st := s_has_given) l27 c27 k27
  have F_has_given : FunAt K mg "has_given" s_has_given ["given", "row"] := ⟨_, _, G27, PySem.W.mg_of X G a27, G27.binds (ps := ["given", "row"]) fun _ _ _ _ _ _ us hl => match us, hl with | [_, _], _ => rfl⟩
  have G28 := fun_mk (st := s_view_rows) l28 c28 k28
  have F_view_rows : FunAt K mg "view_rows" s_view_rows ["columns", "view", "table"] := ⟨_, _, G28, PySem.W.mg_of X G a28, G28.binds (ps := ["columns", "view", "table"]) fun _ _ _ _ _ _ us hl => match us, hl with | [_, _, _], _ => rfl⟩
  have G29 := fun_mk (st := s_law_refusal) l29 c29 k29
  have F_law_refusal : FunAt K mg "_law_refusal" s_law_refusal ["_law_caught"] := ⟨_, _, G29, PySem.W.mg_of X G a29, G29.binds (ps := ["_law_caught"]) fun _ _ _ _ _ _ us hl => match us, hl with | [_], _ => rfl⟩
  have G30 := fun_mk (st := s_law_told) l30 c30 k30
  have F_law_told : FunAt K mg "_law_told" s_law_told ["_law_columns_here", "_law_view_here", "_law_table"] := ⟨_, _, G30, PySem.W.mg_of X G a30, G30.binds (ps := ["_law_columns_here", "_law_view_here", "_law_table"]) fun _ _ _ _ _ _ us hl => match us, hl with | [_, _, _], _ => rfl⟩
  have G31 := fun_mk (st := s_law_changed) l31 c31 k31
  have F_law_changed : FunAt K mg "_law_changed" s_law_changed ["_law_pen", "_law_value_here"] := ⟨_, _, G31, PySem.W.mg_of X G a31, G31.binds (ps := ["_law_pen", "_law_value_here"]) fun _ _ _ _ _ _ us hl => match us, hl with | [_, _], _ => rfl⟩
  have G32 := fun_mk (st := s_is_view) l32 c32 k32
  have F_is_view : FunAt K mg "is_view" s_is_view ["columns", "value"] := ⟨_, _, G32, PySem.W.mg_of X G a32, G32.binds (ps := ["columns", "value"]) fun _ _ _ _ _ _ us hl => match us, hl with | [_, _], _ => rfl⟩
  have G33 := fun_mk (st := s_law_asked) l33 c33 k33
  have F_law_asked : FunAt K mg "_law_asked" s_law_asked ["_law_columns_here", "_law_value_here"] := ⟨_, _, G33, PySem.W.mg_of X G a33, G33.binds (ps := ["_law_columns_here", "_law_value_here"]) fun _ _ _ _ _ _ us hl => match us, hl with | [_, _], _ => rfl⟩
  have G34 := fun_mk (st := s_law_is_integer) l34 c34 k34
  have F_law_is_integer : FunAt K mg "_law_is_integer" s_law_is_integer ["_law_value_here"] := ⟨_, _, G34, PySem.W.mg_of X G a34, G34.binds (ps := ["_law_value_here"]) fun _ _ _ _ _ _ us hl => match us, hl with | [_], _ => rfl⟩
  have G35 := fun_mk (st := s_law_is_value) l35 c35 k35
  have F_law_is_value : FunAt K mg "_law_is_value" s_law_is_value ["_law_column", "_law_value_here"] := ⟨_, _, G35, PySem.W.mg_of X G a35, G35.binds (ps := ["_law_column", "_law_value_here"]) fun _ _ _ _ _ _ us hl => match us, hl with | [_, _], _ => rfl⟩
  have G36 := fun_mk (st := s_law_is_given) l36 c36 k36
  have F_law_is_given : FunAt K mg "_law_is_given" s_law_is_given ["_law_columns_here", "_law_value_here"] := ⟨_, _, G36, PySem.W.mg_of X G a36, G36.binds (ps := ["_law_columns_here", "_law_value_here"]) fun _ _ _ _ _ _ us hl => match us, hl with | [_, _], _ => rfl⟩
  have G37 := fun_mk (st := s_law_is_view) l37 c37 k37
  have F_law_is_view : FunAt K mg "_law_is_view" s_law_is_view ["_law_columns_here", "_law_value_here"] := ⟨_, _, G37, PySem.W.mg_of X G a37, G37.binds (ps := ["_law_columns_here", "_law_value_here"]) fun _ _ _ _ _ _ us hl => match us, hl with | [_, _], _ => rfl⟩
  have G38 := fun_mk (st := s_law_row) l38 c38 k38
  have F_law_row : FunAt K mg "_law_row" s_law_row ["_law_pen", "_law_columns_here"] := ⟨_, _, G38, PySem.W.mg_of X G a38, G38.binds (ps := ["_law_pen", "_law_columns_here"]) fun _ _ _ _ _ _ us hl => match us, hl with | [_, _], _ => rfl⟩
  have G39 := fun_mk (st := s_law_matches) l39 c39 k39
  have F_law_matches : FunAt K mg "_law_matches" s_law_matches ["_law_given", "_law_row_here"] := ⟨_, _, G39, PySem.W.mg_of X G a39, G39.binds (ps := ["_law_given", "_law_row_here"]) fun _ _ _ _ _ _ us hl => match us, hl with | [_, _], _ => rfl⟩
  have G40 := fun_mk (st := s_law_view_rows) l40 c40 k40
  have F_law_view_rows : FunAt K mg "_law_view_rows" s_law_view_rows ["_law_view_here", "_law_table"] := ⟨_, _, G40, PySem.W.mg_of X G a40, G40.binds (ps := ["_law_view_here", "_law_table"]) fun _ _ _ _ _ _ us hl => match us, hl with | [_, _], _ => rfl⟩
  refine ⟨PySem.W.fnOf "law" "law" (defArgs s_law) (defBody s_law) (defScope s_law) .none kV41 dc41 pm41 an41 cd41 ct41, fun s v => .of_eq rfl, fun base _ _ => ?_⟩
  have L_open := L2.DL.K30.ok_law_open (P := l.prog) (w := w) (base := base) T F_law_open
  have d_law_spread := L2.DL.K30.d_law_spread (P := l.prog) (w := w) (base := base) T F_law_spread
  have d_law_take := L2.DL.K30.d_law_take (P := l.prog) (w := w) (base := base) T d_law_spread F_law_take
  have d_law_one := L2.DL.K30.d_law_one (P := l.prog) (w := w) (base := base) T d_law_take F_law_one
  have d_law_columns := L2.DL.K30.d_law_columns (P := l.prog) (w := w) (base := base) T d_law_take d_law_one F_law_columns
  have d_law_drawn := L2.DL.K30.d_law_drawn (P := l.prog) (w := w) (base := base) T d_law_take F_law_drawn
  have d_law_value := L2.DL.K30.d_law_value (P := l.prog) (w := w) (base := base) T d_law_take d_law_one F_law_value
  have d_law_view := L2.DL.K30.d_law_view (P := l.prog) (w := w) (base := base) T d_law_take d_law_one d_law_drawn d_law_value F_law_view
  have d_law_anew := L2.DL.K30.d_law_anew (P := l.prog) (w := w) (base := base) T F_law_anew
  have d_law_bad_columns := L2.DL.K30.d_law_bad_columns (P := l.prog) (w := w) (base := base) T d_law_one F_law_bad_columns
  have d_law_lacking := L2.DL.K30.d_law_lacking (P := l.prog) (w := w) (base := base) T d_law_one F_law_lacking
  have d_law_bad := L2.DL.K30.d_law_bad (P := l.prog) (w := w) (base := base) T d_law_one d_law_lacking F_law_bad
  have d_is_integer := L2.DL.K30.d_is_integer (P := l.prog) (w := w) (base := base) T F_is_integer
  have d_is_closed := L2.DL.K30.d_is_closed (P := l.prog) (w := w) (base := base) T d_is_integer F_is_closed
  have d_is_columns := L2.DL.K30.d_is_columns (P := l.prog) (w := w) (base := base) T d_is_closed F_is_columns
  have d_check_columns := L2.DL.K30.d_check_columns (P := l.prog) (w := w) (base := base) T d_is_columns F_check_columns
  have d_is_number := L2.DL.K30.d_is_number (P := l.prog) (w := w) (base := base) d_is_integer F_is_number
  have d_kept_is_right := L2.DL.K30.d_kept_is_right (P := l.prog) (w := w) (base := base) T d_is_number F_kept_is_right
  have d_is_value_of := L2.DL.K30.d_is_value_of (P := l.prog) (w := w) (base := base) d_is_integer F_is_value_of
  have d_entry_is_right := L2.DL.K30.d_entry_is_right (P := l.prog) (w := w) (base := base) T d_is_number d_is_value_of F_entry_is_right
  have d_given_is_right := L2.DL.K30.d_given_is_right (P := l.prog) (w := w) (base := base) T d_entry_is_right F_given_is_right
  have d_branch_is_right := L2.DL.K30.d_branch_is_right (P := l.prog) (w := w) (base := base) T d_given_is_right d_kept_is_right F_branch_is_right
  have d_view_is_right := L2.DL.K30.d_view_is_right (P := l.prog) (w := w) (base := base) T d_branch_is_right F_view_is_right
  have d_check_view := L2.DL.K30.d_check_view (P := l.prog) (w := w) (base := base) T d_view_is_right F_check_view
  have d_row_is_right := L2.DL.K30.d_row_is_right (P := l.prog) (w := w) (base := base) T d_is_value_of F_row_is_right
  have d_table_is_right := L2.DL.K30.d_table_is_right (P := l.prog) (w := w) (base := base) T d_row_is_right F_table_is_right
  have d_check_table := L2.DL.K30.d_check_table (P := l.prog) (w := w) (base := base) T d_table_is_right F_check_table
  have d_has_given := L2.DL.K30.d_has_given (P := l.prog) (w := w) (base := base) T F_has_given
  have d_view_rows := L2.DL.K30.d_view_rows (P := l.prog) (w := w) (base := base) T d_check_columns d_check_view d_check_table d_has_given F_view_rows
  have d_law_refusal := L2.DL.K30.d_law_refusal (P := l.prog) (w := w) (base := base) T F_law_refusal
  have d_law_told := L2.DL.K30.d_law_told (P := l.prog) (w := w) (base := base) T d_view_rows d_law_refusal F_law_told
  have d_law_changed := L2.DL.K30.d_law_changed (P := l.prog) (w := w) (base := base) T d_law_take d_law_one F_law_changed
  have d_is_view := L2.DL.K30.d_is_view (P := l.prog) (w := w) (base := base) T d_check_columns d_view_is_right F_is_view
  have d_law_asked := L2.DL.K30.d_law_asked (P := l.prog) (w := w) (base := base) T d_is_view d_law_refusal F_law_asked
  have d_law_is_integer := L2.DL.K30.d_law_is_integer (P := l.prog) (w := w) (base := base) T F_law_is_integer
  have d_law_is_value := L2.DL.K30.d_law_is_value (P := l.prog) (w := w) (base := base) d_law_is_integer F_law_is_value
  have d_law_is_given := L2.DL.K30.d_law_is_given (P := l.prog) (w := w) (base := base) T d_law_is_integer d_law_is_value F_law_is_given
  have d_law_is_view := L2.DL.K30.d_law_is_view (P := l.prog) (w := w) (base := base) T d_law_is_integer d_law_is_given F_law_is_view
  have d_law_row := L2.DL.K30.d_law_row (P := l.prog) (w := w) (base := base) T d_law_value F_law_row
  have d_law_matches := L2.DL.K30.d_law_matches (P := l.prog) (w := w) (base := base) T F_law_matches
  have d_law_view_rows := L2.DL.K30.d_law_view_rows (P := l.prog) (w := w) (base := base) T d_law_matches F_law_view_rows
  exact ok_law T L_open d_law_anew d_law_take d_law_one d_law_columns d_law_view d_law_changed d_law_bad_columns d_law_bad d_law_asked d_law_is_view d_law_row d_law_told d_law_view_rows (fun_mk (st := s_law) l41 c41 k41)
end L2.DL.K30
open PySem PySem.W
      PyProof.Rows in
set_option
      maxRecDepth 100000 in
set_option maxHeartbeats 0 in
theorem PySem.Challenge.cw_whererules_k30_views_and_their_rows_holds : PySem.Challenge.rw_whererules_k30_views_and_their_rows.Holds := by
  w_on; o_law; k_head; (case hw =>
        w_witness2)
  k_fill
  refine L2.DL.walk_G (l := PySem.Challenge.rw_whererules_k30_views_and_their_rows) (k := 15) (x := "_law_script") rfl rfl ⟨rfl, by decide, by decide⟩ (fun w h Y => PySem.W.kIn_of Y) ?F
  case F =>
    intro w mg fa h KX G hmg
    refine' L2.DL.K30.all_mk KX G hmg ?a0 ?l0 ?c0 ?k0 ?a1 ?l1 ?c1 ?k1 ?a2 ?l2 ?c2 ?k2 ?a3 ?l3 ?c3 ?k3 ?a4 ?l4 ?c4 ?k4 ?a5 ?l5 ?c5 ?k5 ?a6 ?l6 ?c6 ?k6 ?a7 ?l7 ?c7 ?k7 ?a8 ?l8 ?c8 ?k8 ?a9 ?l9 ?c9 ?k9 ?a10 ?l10 ?c10 ?k10 ?a11 ?l11 ?c11 ?k11 ?a12 ?l12 ?c12 ?k12 ?a13 ?l13 ?c13 ?k13 ?a14 ?l14 ?c14 ?k14 ?a15 ?l15 ?c15 ?k15 ?a16 ?l16 ?c16 ?k16 ?a17 ?l17 ?c17 ?k17 ?a18 ?l18 ?c18 ?k18 ?a19 ?l19 ?c19 ?k19 ?a20 ?l20 ?c20 ?k20 ?a21 ?l21 ?c21 ?k21 ?a22 ?l22 ?c22 ?k22 ?a23 ?l23 ?c23 ?k23 ?a24 ?l24 ?c24 ?k24 ?a25 ?l25 ?c25 ?k25 ?a26 ?l26 ?c26 ?k26 ?a27 ?l27 ?c27 ?k27 ?a28 ?l28 ?c28 ?k28 ?a29 ?l29 ?c29 ?k29 ?a30 ?l30 ?c30 ?k30 ?a31 ?l31 ?c31 ?k31 ?a32 ?l32 ?c32 ?k32 ?a33 ?l33 ?c33 ?k33 ?a34 ?l34 ?c34 ?k34 ?a35 ?l35 ?c35 ?k35 ?a36 ?l36 ?c36 ?k36 ?a37 ?l37 ?c37 ?k37 ?a38 ?l38 ?c38 ?k38 ?a39 ?l39 ?c39 ?k39 ?a40 ?l40 ?c40 ?k40 ?a41 ?l41 ?c41 ?k41 ?z_ValueError ?z_bool ?z_enumerate ?z_int ?z_isinstance ?z_len ?z_list ?z_min ?z_range ?z_repr ?z_set ?z_sorted ?z_tuple ?z_zip ?m_MOST_BRANCHES ?m_MOST_CLOSED ?m_MOST_COLUMNS ?m_MOST_ROWS ?m_MOST_VALUES ?g_AtWar ?h_AtWar ?y_AtWar ?g_Broken ?h_Broken ?y_Broken ?g_Full ?h_Full ?y_Full ?g_InvalidCells ?h_InvalidCells ?y_InvalidCells ?g_InvalidColumns ?h_InvalidColumns ?y_InvalidColumns ?g_InvalidGiven ?h_InvalidGiven ?y_InvalidGiven ?g_InvalidMark ?h_InvalidMark ?y_InvalidMark ?g_InvalidNumber ?h_InvalidNumber ?y_InvalidNumber ?g_InvalidRow ?h_InvalidRow ?y_InvalidRow ?g_InvalidRule ?h_InvalidRule ?y_InvalidRule ?g_InvalidRules ?h_InvalidRules ?y_InvalidRules ?g_InvalidSettled ?h_InvalidSettled ?y_InvalidSettled ?g_InvalidTable ?h_InvalidTable ?y_InvalidTable ?g_InvalidValue ?h_InvalidValue ?y_InvalidValue ?g_InvalidView ?h_InvalidView ?y_InvalidView ?g_NotACertificate ?h_NotACertificate ?y_NotACertificate ?g_NotAtPeace ?h_NotAtPeace ?y_NotAtPeace ?g_RuleError ?h_RuleError ?y_RuleError ?b_RuleError ?e_get ?e_tk ?k_InvalidColumns ?x_InvalidColumns ?s_InvalidColumns ?q_InvalidColumns ?r_InvalidColumns ?p_InvalidColumns ?o_InvalidColumns ?u_InvalidColumns_AtWar ?u_InvalidColumns_Broken ?u_InvalidColumns_Full ?u_InvalidColumns_InvalidCells ?u_InvalidColumns_InvalidColumns ?u_InvalidColumns_InvalidGiven ?u_InvalidColumns_InvalidMark ?u_InvalidColumns_InvalidNumber ?u_InvalidColumns_InvalidRow ?u_InvalidColumns_InvalidRule ?u_InvalidColumns_InvalidRules ?u_InvalidColumns_InvalidSettled ?u_InvalidColumns_InvalidTable ?u_InvalidColumns_InvalidValue ?u_InvalidColumns_InvalidView ?u_InvalidColumns_NotACertificate ?u_InvalidColumns_NotAtPeace ?u_InvalidColumns_RuleError ?v_InvalidColumns ?k_InvalidTable ?x_InvalidTable ?s_InvalidTable ?q_InvalidTable ?r_InvalidTable ?p_InvalidTable ?o_InvalidTable ?u_InvalidTable_AtWar ?u_InvalidTable_Broken ?u_InvalidTable_Full ?u_InvalidTable_InvalidCells ?u_InvalidTable_InvalidColumns ?u_InvalidTable_InvalidGiven ?u_InvalidTable_InvalidMark ?u_InvalidTable_InvalidNumber ?u_InvalidTable_InvalidRow ?u_InvalidTable_InvalidRule ?u_InvalidTable_InvalidRules ?u_InvalidTable_InvalidSettled ?u_InvalidTable_InvalidTable ?u_InvalidTable_InvalidValue ?u_InvalidTable_InvalidView ?u_InvalidTable_NotACertificate ?u_InvalidTable_NotAtPeace ?u_InvalidTable_RuleError ?v_InvalidTable ?k_InvalidView ?x_InvalidView ?s_InvalidView ?q_InvalidView ?r_InvalidView ?p_InvalidView ?o_InvalidView ?u_InvalidView_AtWar ?u_InvalidView_Broken ?u_InvalidView_Full ?u_InvalidView_InvalidCells ?u_InvalidView_InvalidColumns ?u_InvalidView_InvalidGiven ?u_InvalidView_InvalidMark ?u_InvalidView_InvalidNumber ?u_InvalidView_InvalidRow ?u_InvalidView_InvalidRule ?u_InvalidView_InvalidRules ?u_InvalidView_InvalidSettled ?u_InvalidView_InvalidTable ?u_InvalidView_InvalidValue ?u_InvalidView_InvalidView ?u_InvalidView_NotACertificate ?u_InvalidView_NotAtPeace ?u_InvalidView_RuleError ?v_InvalidView
    (case a0 => k_is)
    (case l0 => k_is)
    (case c0 => k_is)
    (case k0 => k_is)
    (case a1 => k_is)
    (case l1 => k_is)
    (case c1 => k_is)
    (case k1 => k_is)
    (case a2 => k_is)
    (case l2 => k_is)
    (case c2 => k_is)
    (case k2 => k_is)
    (case a3 => k_is)
    (case l3 => k_is)
    (case c3 => k_is)
    (case k3 => k_is)
    (case a4 => k_is)
    (case l4 => k_is)
    (case c4 => k_is)
    (case k4 => k_is)
    (case a5 => k_is)
    (case l5 => k_is)
    (case c5 => k_is)
    (case k5 => k_is)
    (case a6 => k_is)
    (case l6 => k_is)
    (case c6 => k_is)
    (case k6 => k_is)
    (case a7 => k_is)
    (case l7 => k_is)
    (case c7 => k_is)
    (case k7 => k_is)
    (case a8 => k_is)
    (case l8 => k_is)
    (case c8 => k_is)
    (case k8 => k_is)
    (case a9 => k_is)
    (case l9 => k_is)
    (case c9 => k_is)
    (case k9 => k_is)
    (case a10 => k_is)
    (case l10 => k_is)
    (case c10 => k_is)
    (case k10 => k_is)
    (case a11 => k_is)
    (case l11 => k_is)
    (case c11 => k_is)
    (case k11 => k_is)
    (case a12 => k_is)
    (case l12 => k_is)
    (case c12 => k_is)
    (case k12 => k_is)
    (case a13 => k_is)
    (case l13 => k_is)
    (case c13 => k_is)
    (case k13 => k_is)
    (case a14 => k_is)
    (case l14 => k_is)
    (case c14 => k_is)
    (case k14 => k_is)
    (case a15 => k_is)
    (case l15 => k_is)
    (case c15 => k_is)
    (case k15 => k_is)
    (case a16 => k_is)
    (case l16 => k_is)
    (case c16 => k_is)
    (case k16 => k_is)
    (case a17 => k_is)
    (case l17 => k_is)
    (case c17 => k_is)
    (case k17 => k_is)
    (case a18 => k_is)
    (case l18 => k_is)
    (case c18 => k_is)
    (case k18 => k_is)
    (case a19 => k_is)
    (case l19 => k_is)
    (case c19 => k_is)
    (case k19 => k_is)
    (case a20 => k_is)
    (case l20 => k_is)
    (case c20 => k_is)
    (case k20 => k_is)
    (case a21 => k_is)
    (case l21 => k_is)
    (case c21 => k_is)
    (case k21 => k_is)
    (case a22 => k_is)
    (case l22 => k_is)
    (case c22 => k_is)
    (case k22 => k_is)
    (case a23 => k_is)
    (case l23 => k_is)
    (case c23 => k_is)
    (case k23 => k_is)
    (case a24 => k_is)
    (case l24 => k_is)
    (case c24 => k_is)
    (case k24 => k_is)
    (case a25 => k_is)
    (case l25 => k_is)
    (case c25 => k_is)
    (case k25 => k_is)
    (case a26 => k_is)
    (case l26 => k_is)
    (case c26 => k_is)
    (case k26 => k_is)
    (case a27 => k_is)
    (case l27 => k_is)
    (case c27 => k_is)
    (case k27 => k_is)
    (case a28 => k_is)
    (case l28 => k_is)
    (case c28 => k_is)
    (case k28 => k_is)
    (case a29 => k_is)
    (case l29 => k_is)
    (case c29 => k_is)
    (case k29 => k_is)
    (case a30 => k_is)
    (case l30 => k_is)
    (case c30 => k_is)
    (case k30 => k_is)
    (case a31 => k_is)
    (case l31 => k_is)
    (case c31 => k_is)
    (case k31 => k_is)
    (case a32 => k_is)
    (case l32 => k_is)
    (case c32 => k_is)
    (case k32 => k_is)
    (case a33 => k_is)
    (case l33 => k_is)
    (case c33 => k_is)
    (case k33 => k_is)
    (case a34 => k_is)
    (case l34 => k_is)
    (case c34 => k_is)
    (case k34 => k_is)
    (case a35 => k_is)
    (case l35 => k_is)
    (case c35 => k_is)
    (case k35 => k_is)
    (case a36 => k_is)
    (case l36 => k_is)
    (case c36 => k_is)
    (case k36 => k_is)
    (case a37 => k_is)
    (case l37 => k_is)
    (case c37 => k_is)
    (case k37 => k_is)
    (case a38 => k_is)
    (case l38 => k_is)
    (case c38 => k_is)
    (case k38 => k_is)
    (case a39 => k_is)
    (case l39 => k_is)
    (case c39 => k_is)
    (case k39 => k_is)
    (case a40 => k_is)
    (case l40 => k_is)
    (case c40 => k_is)
    (case k40 => k_is)
    (case a41 => k_is)
    (case l41 => k_is)
    (case c41 => k_is)
    (case k41 => k_is)
    (case z_ValueError => k_is)
    (case z_bool => k_is)
    (case z_enumerate => k_is)
    (case z_int => k_is)
    (case z_isinstance => k_is)
    (case z_len => k_is)
    (case z_list => k_is)
    (case z_min => k_is)
    (case z_range => k_is)
    (case z_repr => k_is)
    (case z_set => k_is)
    (case z_sorted => k_is)
    (case z_tuple => k_is)
    (case z_zip => k_is)
    (case m_MOST_BRANCHES => k_is)
    (case m_MOST_CLOSED => k_is)
    (case m_MOST_COLUMNS => k_is)
    (case m_MOST_ROWS => k_is)
    (case m_MOST_VALUES => k_is)
    (case g_AtWar => k_is)
    (case h_AtWar => k_is)
    (case y_AtWar => k_is)
    (case g_Broken => k_is)
    (case h_Broken => k_is)
    (case y_Broken => k_is)
    (case g_Full => k_is)
    (case h_Full => k_is)
    (case y_Full => k_is)
    (case g_InvalidCells => k_is)
    (case h_InvalidCells => k_is)
    (case y_InvalidCells => k_is)
    (case g_InvalidColumns => k_is)
    (case h_InvalidColumns => k_is)
    (case y_InvalidColumns => k_is)
    (case g_InvalidGiven => k_is)
    (case h_InvalidGiven => k_is)
    (case y_InvalidGiven => k_is)
    (case g_InvalidMark => k_is)
    (case h_InvalidMark => k_is)
    (case y_InvalidMark => k_is)
    (case g_InvalidNumber => k_is)
    (case h_InvalidNumber => k_is)
    (case y_InvalidNumber => k_is)
    (case g_InvalidRow => k_is)
    (case h_InvalidRow => k_is)
    (case y_InvalidRow => k_is)
    (case g_InvalidRule => k_is)
    (case h_InvalidRule => k_is)
    (case y_InvalidRule => k_is)
    (case g_InvalidRules => k_is)
    (case h_InvalidRules => k_is)
    (case y_InvalidRules => k_is)
    (case g_InvalidSettled => k_is)
    (case h_InvalidSettled => k_is)
    (case y_InvalidSettled => k_is)
    (case g_InvalidTable => k_is)
    (case h_InvalidTable => k_is)
    (case y_InvalidTable => k_is)
    (case g_InvalidValue => k_is)
    (case h_InvalidValue => k_is)
    (case y_InvalidValue => k_is)
    (case g_InvalidView => k_is)
    (case h_InvalidView => k_is)
    (case y_InvalidView => k_is)
    (case g_NotACertificate => k_is)
    (case h_NotACertificate => k_is)
    (case y_NotACertificate => k_is)
    (case g_NotAtPeace => k_is)
    (case h_NotAtPeace => k_is)
    (case y_NotAtPeace => k_is)
    (case g_RuleError => k_is)
    (case h_RuleError => k_is)
    (case y_RuleError => k_is)
    (case b_RuleError => k_is)
    (case e_get => k_is)
    (case e_tk => k_is)
    (case k_InvalidColumns => k_is)
    (case x_InvalidColumns => k_exc)
    (case s_InvalidColumns => k_is)
    (case q_InvalidColumns => k_is)
    (case r_InvalidColumns => k_is)
    (case p_InvalidColumns => k_is)
    (case o_InvalidColumns => k_is)
    (case u_InvalidColumns_AtWar => first | rfl | k_is)
    (case u_InvalidColumns_Broken => first | rfl | k_is)
    (case u_InvalidColumns_Full => first | rfl | k_is)
    (case u_InvalidColumns_InvalidCells => first | rfl | k_is)
    (case u_InvalidColumns_InvalidColumns => first | rfl | k_is)
    (case u_InvalidColumns_InvalidGiven => first | rfl | k_is)
    (case u_InvalidColumns_InvalidMark => first | rfl | k_is)
    (case u_InvalidColumns_InvalidNumber => first | rfl | k_is)
    (case u_InvalidColumns_InvalidRow => first | rfl | k_is)
    (case u_InvalidColumns_InvalidRule => first | rfl | k_is)
    (case u_InvalidColumns_InvalidRules => first | rfl | k_is)
    (case u_InvalidColumns_InvalidSettled => first | rfl | k_is)
    (case u_InvalidColumns_InvalidTable => first | rfl | k_is)
    (case u_InvalidColumns_InvalidValue => first | rfl | k_is)
    (case u_InvalidColumns_InvalidView => first | rfl | k_is)
    (case u_InvalidColumns_NotACertificate => first | rfl | k_is)
    (case u_InvalidColumns_NotAtPeace => first | rfl | k_is)
    (case u_InvalidColumns_RuleError => first | rfl | k_is)
    (case v_InvalidColumns => k_is)
    (case k_InvalidTable => k_is)
    (case x_InvalidTable => k_exc)
    (case s_InvalidTable => k_is)
    (case q_InvalidTable => k_is)
    (case r_InvalidTable => k_is)
    (case p_InvalidTable => k_is)
    (case o_InvalidTable => k_is)
    (case u_InvalidTable_AtWar => first | rfl | k_is)
    (case u_InvalidTable_Broken => first | rfl | k_is)
    (case u_InvalidTable_Full => first | rfl | k_is)
    (case u_InvalidTable_InvalidCells => first | rfl | k_is)
    (case u_InvalidTable_InvalidColumns => first | rfl | k_is)
    (case u_InvalidTable_InvalidGiven => first | rfl | k_is)
    (case u_InvalidTable_InvalidMark => first | rfl | k_is)
    (case u_InvalidTable_InvalidNumber => first | rfl | k_is)
    (case u_InvalidTable_InvalidRow => first | rfl | k_is)
    (case u_InvalidTable_InvalidRule => first | rfl | k_is)
    (case u_InvalidTable_InvalidRules => first | rfl | k_is)
    (case u_InvalidTable_InvalidSettled => first | rfl | k_is)
    (case u_InvalidTable_InvalidTable => first | rfl | k_is)
    (case u_InvalidTable_InvalidValue => first | rfl | k_is)
    (case u_InvalidTable_InvalidView => first | rfl | k_is)
    (case u_InvalidTable_NotACertificate => first | rfl | k_is)
    (case u_InvalidTable_NotAtPeace => first | rfl | k_is)
    (case u_InvalidTable_RuleError => first | rfl | k_is)
    (case v_InvalidTable => k_is)
    (case k_InvalidView => k_is)
    (case x_InvalidView => k_exc)
    (case s_InvalidView => k_is)
    (case q_InvalidView => k_is)
    (case r_InvalidView => k_is)
    (case p_InvalidView => k_is)
    (case o_InvalidView => k_is)
    (case u_InvalidView_AtWar => first | rfl | k_is)
    (case u_InvalidView_Broken => first | rfl | k_is)
    (case u_InvalidView_Full => first | rfl | k_is)
    (case u_InvalidView_InvalidCells => first | rfl | k_is)
    (case u_InvalidView_InvalidColumns => first | rfl | k_is)
    (case u_InvalidView_InvalidGiven => first | rfl | k_is)
    (case u_InvalidView_InvalidMark => first | rfl | k_is)
    (case u_InvalidView_InvalidNumber => first | rfl | k_is)
    (case u_InvalidView_InvalidRow => first | rfl | k_is)
    (case u_InvalidView_InvalidRule => first | rfl | k_is)
    (case u_InvalidView_InvalidRules => first | rfl | k_is)
    (case u_InvalidView_InvalidSettled => first | rfl | k_is)
    (case u_InvalidView_InvalidTable => first | rfl | k_is)
    (case u_InvalidView_InvalidValue => first | rfl | k_is)
    (case u_InvalidView_InvalidView => first | rfl | k_is)
    (case u_InvalidView_NotACertificate => first | rfl | k_is)
    (case u_InvalidView_NotAtPeace => first | rfl | k_is)
    (case u_InvalidView_RuleError => first | rfl | k_is)
    (case v_InvalidView => k_is)
#print axioms PySem.Challenge.cw_whererules_k30_views_and_their_rows_holds
