import PyProof.Rows.All
import Wide.All
import OpenK.AllK
import Wide.FinOn
import HandS.ForMost
import HandS.ForExc
import HandS.Walk
import HandS.IsInst
import HandS.Deep
import HandS.Wide
import HandS.TupAny
import HandS.TupMul
import HandS.Style
import PyProof.StrLawsRepr
import HandS.More
import HandS.SortInts
import HandS.Zip
import HandS.ExcIs
import HandS.ExcValue
import HandS.SetFor
import HandS.Strs
import HandS.TryMany
import KE.GoesMore
import PyProof.Draws
import HandS.Dict
import HandS.TupSets
import HandS.Conv
import PyProof.ZipIter
import PyProof.CallType
import PyProof.Walk
import PyProof.WalkLemmas
import PyProof.RangeIter
import PyProof.RulesTry
import HandS.RepeatKit
import HandS.Iter
import KE.SortData
import KE.DataMinMax
import HandS.Flow
import KE.GoesZip
import PyProof.ListNew
import KE.KItemsList
import HandS.Defaults
import HandS.Text
import HandS.Sort
import KE.KIndexOf
import KE.KDictPairs
import KE.SortCalls
import PySem.Challenge.RW_whererules_k46_stops
set_option Elab.async false
set_option linter.all false
set_option maxRecDepth 100000
set_option
      maxHeartbeats 4000000
set_option exponentiation.threshold 10000
set_option
      maxHeartbeats 1000000
/-! A layer over data: what a def does is told over plain data (PyData), without the heap. -/
namespace L2.DL
open PySem PySem.Spec
      PyProof.Rows
abbrev D := PyData
/-- the drawing pen, an error of the class at C, an instance of the class at C: as data that no program can write -/
abbrev penD : D := .dict []
abbrev excD (C : Addr) : D := .dict [(.none, .int (C : Nat))]
abbrev objD (C : Addr) (fs : List (Str × D)) : D := .dict ((.bool true, .int (C : Nat)) :: fs.map fun f => (.str f.1, f.2))
/-- the law's script, as data that no program can write -/
abbrev scrD (ns : List Int) : D := .dict [(.bool false, .list (ns.map PyData.int))]
/-- a tuple of which it is known that it has no attributes of its own, as data that no program can write -/
abbrev frtD (ds : List D) : D := .dict [(.int 0, .tuple ds)]
/-- the list at the address a, as data that no program can write -/
abbrev adrD (a : Addr) (ds : List D) : D := .dict [(.bool true, .tuple [.int (a : Nat), .list ds])]
/-- the list at the address a, of which nothing is said, as data that no program can write -/
abbrev mutD (a : Addr) : D := .dict [(.str "m", .int (a : Nat))]
def ExC (C a : Addr) : HO := .ext fun h => ∃ (oe : Obj) (vs : Array Value), h.get? a = some oe ∧ Zc (.ref C) none oe ∧ oe.data = .fields vs
mutual
/-- the value v stands for the data d, over the ground G of things that do not change -/
inductive R (K : PySem.W.Frag) (p : Option Addr) (G : Hp) : V → D → Prop
  | non : R K p G .non .none
  | bl (b : Bool) : R K p G (.bl b) (.bool b)
  | int (i : Int) : R K p G (.int i) (.int i)
  | str (x : Str) : R K p G (.str x) (.str x)
  | lst {a : Addr} {xs : List V} {ds : List D} : G a = some (.lst xs) → RA K p G xs ds → R K p G (.ref a) (.list ds)
  | tup {a : Addr} {xs : List V} {ds : List D} : SqT K G a xs → RA K p G xs ds → R K p G (.ref a) (.tuple ds)
  | pen {a : Addr} {d : D} : p = some a → d = penD → R K p G (.ref a) d
  | exc {a C : Addr} {d : D} : G a = some (ExC C a) → d = excD C → R K p G (.ref a) d
  | obj {a C dx : Addr} {fvs : List (Str × V)} {fs : List (Str × D)} {d : D} : G a = some (.ins C dx fvs) → RF K p G fvs fs → d = objD C fs → R K p G (.ref a) d
  | scr {a : Addr} {ns : List Int} {d : D} : SqL K G a (ns.map V.int) → d = scrD ns → R K p G (.ref a) d
  | frt {a : Addr} {o : Obj} {xs : List V} {ds : List D} {d : D} : G a = some (.frz o (.tup xs)) → o.dict = none → RA K p G xs ds → d = frtD ds → R K p G (.ref a) d
  | adr {a : Addr} {xs : List V} {ds : List D} {d : D} : G a = some (.lst xs) → RA K p G xs ds → d = adrD a ds → R K p G (.ref a) d
  | mtl {a : Addr} {d : D} : d = mutD a → R K p G (.ref a) d
inductive RA (K : PySem.W.Frag) (p : Option Addr) (G : Hp) : List V → List D → Prop
  | nil : RA K p G [] []
  | cons {v : V} {vs : List V} {d : D} {ds : List D} : R K p G v d → RA K p G vs ds → RA K p G (v :: vs) (d :: ds)
inductive RF (K : PySem.W.Frag) (p : Option Addr) (G : Hp) : List (Str × V) → List (Str × D) → Prop
  | nil : RF K p G [] []
  | cons {n : Str} {v : V} {vs : List (Str × V)} {d : D} {ds : List (Str × D)} : R K p G v d → RF K p G vs ds → RF K p G ((n, v) :: vs) ((n, d) :: ds)
end
theorem sameT {K : PySem.W.Frag} {H H' : Hp} {a : Addr} {xs : List V} (e : Same H H') (h : SqT K H a xs) : SqT K H' a xs := by
  rcases h with (h | ⟨o,
        h⟩) | h
  · exact .inl (.inl (e _ _ h))
  · exact .inl (.inr ⟨o,
        e _ _ h⟩)
  · exact .inr h
section
variable {K : PySem.W.Frag} {p : Option Addr} {G G' : Hp}
mutual
theorem R.mono (s : Same G G') : ∀ {v : V} {d : D}, R K p G v d → R K p G' v d
  | _, _, .non => .non
  | _, _, .bl b => .bl b
  | _, _, .int i => .int i
  | _, _, .str x => .str x
  | _, _, .lst h r => .lst (s _ _ h) (RA.mono s r)
  | _, _, .tup h r => .tup (sameT s h) (RA.mono s r)
  | _, _, .pen h e => .pen h e
  | _, _, .exc h e => .exc (s _ _ h) e
  | _, _, .obj h r e => .obj (s _ _ h) (RF.mono s r) e
  | _, _, .scr h e => .scr (s.seq h) e
  | _, _, .frt h n r e => .frt (s _ _ h) n (RA.mono s r) e
  | _, _, .adr h r e => .adr (s _ _ h) (RA.mono s r) e
  | _, _, .mtl e => .mtl e
theorem RA.mono (s : Same G G') : ∀ {vs : List V} {ds : List D}, RA K p G vs ds → RA K p G' vs ds
  | _, _, .nil => .nil
  | _, _, .cons h t => .cons (R.mono s h) (RA.mono s t)
theorem RF.mono (s : Same G G') : ∀ {vs : List (Str × V)} {ds : List (Str × D)}, RF K p G vs ds → RF K p G' vs ds
  | _, _, .nil => .nil
  | _, _, .cons h t => .cons (R.mono s h) (RF.mono s t)
end
theorem R.bl_inv {v : V} {b : Bool} (h : R K p G v (.bool b)) : v = .bl b := by cases h <;> first | rfl | contradiction
theorem R.int_inv {v : V} {i : Int} (h : R K p G v (.int i)) : v = .int i := by cases h <;> first | rfl | contradiction
theorem R.str_inv {v : V} {x : Str} (h : R K p G v (.str x)) : v = .str x := by cases h <;> first | rfl | contradiction
theorem R.lst_inv {v : V} {ds : List D} (h : R K p G v (.list ds)) : ∃ a xs, v = .ref a ∧ G a = some (.lst xs) ∧ RA K p G xs ds := by
  cases h <;> first | contradiction | skip
  rename_i h1 h2
  exact ⟨_, _, rfl, h1, h2⟩
theorem R.tup_inv {v : V} {ds : List D} (h : R K p G v (.tuple ds)) : ∃ a xs, v = .ref a ∧ SqT K G a xs ∧ RA K p G xs ds := by
  cases h <;> first | contradiction | skip
  rename_i h1 h2
  exact ⟨_, _, rfl, h1, h2⟩
theorem R.pen_inv {v : V} (h : R K p G v penD) : ∃ a, v = .ref a ∧ p = some a := by
  cases h with
  | pen h1 h2 => exact ⟨_, rfl, h1⟩
  | exc h1 h2 => cases h2
  | obj h1 h2 h3 => cases h3
  | scr h1 h2 => cases h2
  | frt h1 h2 h3 h4 => cases h4
  | adr h1 h2 h3 => cases h3
  | mtl h1 => cases h1
theorem ints_inj : ∀ {xs ys : List Int}, xs.map PyData.int = ys.map PyData.int → xs = ys
  | [], [], _ => rfl
  | [], _ :: _, h => by cases h
  | _ :: _, [], h => by cases h
  | x :: xs, y :: ys, h => by
    injection h with h1 h2
    injection h1 with h1
    rw [h1, ints_inj h2]
theorem R.scr_inv {v : V} {ns : List Int} (h : R K p G v (scrD ns)) : ∃ a, v = .ref a ∧ SqL K G a (ns.map V.int) := by
  cases h with
  | pen h1 h2 => cases h2
  | exc h1 h2 =>
    injection h2 with e
    injection e with e _
    injection e with e _
    cases e
  | obj h1 h2 h3 =>
    injection h3 with e
    injection e with e _
    injection e with e _
    cases e
  | scr h1 h2 =>
    injection h2 with e
    injection e with e _
    injection e with _ e
    injection e with e
    rw [ints_inj e]
    exact ⟨_, rfl, h1⟩
  | frt h1 h2 h3 h4 =>
    injection h4 with e
    injection e with e _
    injection e with e _
    cases e
  | mtl h1 =>
    injection h1 with e
    injection e with e _
    injection e with e _
    cases e
  | adr h1 h2 h3 =>
    injection h3 with e
    injection e with e _
    injection e with e _
    cases e
theorem R.adr_inv {v : V} {a : Addr} {ds : List D} (h : R K p G v (adrD a ds)) : v = .ref a ∧ ∃ xs, G a = some (.lst xs) ∧ RA K p G xs ds := by
  cases h with
  | pen h1 h2 => cases h2
  | exc h1 h2 =>
    injection h2 with e
    injection e with e _
    injection e with e _
    cases e
  | obj h1 h2 h3 =>
    injection h3 with e
    injection e with e _
    injection e with _ e
    cases e
  | scr h1 h2 =>
    injection h2 with e
    injection e with e _
    injection e with e _
    cases e
  | frt h1 h2 h3 h4 =>
    injection h4 with e
    injection e with e _
    injection e with e _
    cases e
  | mtl h1 =>
    injection h1 with e
    injection e with e _
    injection e with e _
    cases e
  | adr h1 h2 h3 =>
    injection h3 with e
    injection e with e _
    injection e with _ e
    injection e with e
    injection e with e1 e2
    injection e1 with e1
    injection e2 with e2 _
    injection e2 with e2
    have e3 := Int.ofNat.inj e1
    subst e3
    subst e2
    exact ⟨rfl, _, h1, h2⟩
theorem R.mut_inv {v : V} {a : Addr} (h : R K p G v (mutD a)) : v = .ref a := by
  have k : ∀ {x y : D} {d e : List (D × D)} {u w : D}, PyData.dict ((x, u) :: d) = .dict ((y, w) :: e) → x = y ∧ u = w := fun h => by
    injection h with h
    injection h with h _
    injection h with h1 h2
    exact ⟨h1, h2⟩
  cases h with
  | pen h1 h2 => cases h2
  | exc h1 h2 => have := (k h2).1; cases this
  | obj h1 h2 h3 => have := (k h3).1; cases this
  | scr h1 h2 => have := (k h2).1; cases this
  | frt h1 h2 h3 h4 => have := (k h4).1; cases this
  | adr h1 h2 h3 => have := (k h3).1; cases this
  | mtl h1 =>
    have e := (k h1).2
    injection e with e
    have e3 := Int.ofNat.inj e
    subst e3
    rfl
end
section
variable {K : PySem.W.Frag} {p : Option Addr} {G G' : Hp}
theorem RA.length : ∀ {vs : List V} {ds : List D}, RA K p G vs ds → vs.length = ds.length
  | _, _, .nil => rfl
  | _, _, .cons _ t => by rw [List.length_cons, List.length_cons, RA.length t]
theorem RA.get : ∀ {vs : List V} {ds : List D} {i : Nat} {d : D}, RA K p G vs ds → ds[i]? = some d → ∃ v, vs[i]? = some v ∧ R K p G v d
  | _, _, _, _, .nil,
        e => by simp at e
  | _, _, 0, _, .cons r _, e =>
        by simp at e; subst e; exact ⟨_, rfl, r⟩
  | _, _, i + 1, d, .cons _ t, e => by
    obtain ⟨u, h1, h2⟩ := RA.get (i := i) (d := d) t (by simpa using e)
    exact ⟨u,
          by simpa using h1, h2⟩
theorem RA.append : ∀ {xs ys : List V} {ds es : List D}, RA K p G xs ds → RA K p G ys es → RA K p G (xs ++ ys) (ds ++ es)
  | _, _, _, _, .nil, s => s
  | _, _, _, _, .cons r t, s => .cons r (RA.append t s)
theorem RA.take : ∀ {xs : List V} {ds : List D} (n : Nat), RA K p G xs ds → RA K p G (xs.take n) (ds.take n)
  | _, _, 0, _ => .nil
  | _, _, _ + 1, .nil => .nil
  | _, _, n + 1, .cons r t => .cons r (RA.take n t)
theorem RA.drop : ∀ {xs : List V} {ds : List D} (n : Nat), RA K p G xs ds → RA K p G (xs.drop n) (ds.drop n)
  | _, _, 0, r => r
  | _, _, _ + 1, .nil => .nil
  | _, _, n + 1, .cons _ t => RA.drop n t
theorem RA.set {x : V} {u : D} (r : R K p G x u) : ∀ {xs : List V} {us : List D} (i : Nat), RA K p G xs us → RA K p G (xs.set i x) (us.set i u)
  | _, _, _, .nil => .nil
  | _, _, 0,
        .cons _ t => .cons r t
  | _, _, i + 1, .cons q t => .cons q (RA.set r i t)
theorem RA.reverse : ∀ {xs : List V} {ds : List D}, RA K p G xs ds → RA K p G xs.reverse ds.reverse
  | _, _, .nil => .nil
  | _, _, .cons r t => by
    rw [List.reverse_cons,
          List.reverse_cons]
    exact (RA.reverse t).append (.cons r .nil)
theorem RA.rep {xs : List V} {ds : List D} (h : RA K p G xs ds) : ∀ k : Nat, RA K p G (List.replicate k xs).flatten (List.replicate k ds).flatten
  | 0 => .nil
  | k + 1 => by
    rw [List.replicate_succ, List.replicate_succ,
          List.flatten_cons, List.flatten_cons]
    exact h.append (RA.rep h k)
theorem RA.nil_iff {xs : List V} {ds : List D} (h : RA K p G xs ds) : xs = [] ↔ ds = [] := by
  cases h <;> simp
end
end L2.DL
set_option
      maxHeartbeats 1000000
namespace L2.DL
open PySem PySem.Spec
      PyProof.Rows
/-- a slot of a def: nothing known, data, a list that this slot alone holds; a list at a told address, a list of lists at told addresses, which nothing else of the def holds -/
inductive Slot where
  | un | dat (d : D) | own (ds : List D) | bor (a : Addr) (ds : List D) | nest (a : Addr) (rows : List (Addr × List D))
/-- the lists, each with its address, that a slot stands for -/
def Slot.pcs : Slot → List (Addr × List D)
  | .bor a ds => [(a, ds)]
  | .nest a rows => (a, rows.map fun r => mutD r.1) :: rows
  | _ => []
def Slot.hd : Slot → Option Addr
  | .bor a _ => some a
  | .nest a _ => some a
  | _ => none
/-- the slots, and how many draws are left -/
structure En where
  s : List Slot
  k : Nat
/-- most draws of a run -/
abbrev most : Nat := 1000000
structure Wd (K : PySem.W.Frag) (p : Option Addr) (k : Nat) (G H : Hp) : Prop where
  same : Same G H
  pen : ∀ a, p = some a → G a = none ∧ ∃ (c : Addr) (xs : List Int) (i r : Int), H a = some (.lst [.ref c, .int i, .int r]) ∧ G c = some (.lst (xs.map V.int)) ∧ xs.length ≤ 12 ∧ 0 ≤ i ∧ i + (k : Int) ≤ most
/-- the pen at a draws from the list at c -/
def HasC (H : Hp) (a c : Addr) : Prop := ∃ i r : Int, H a = some (.lst [.ref c, .int i, .int r])
structure Stp (p : Option Addr) (G₀ H₀ G H : Hp) : Prop where
  gg : Same G₀ G
  hh : ∀ b o, H₀ b = some o → p ≠ some b → H b = some o
  nn : ∀ b o, H₀ b = some o → G₀ b = none → G b = none
  pc : ∀ a c, p = some a → HasC H₀ a c → HasC H a c
/-- the lists at told addresses -/
structure Bo (K : PySem.W.Frag) (p : Option Addr) (G H₀ H : Hp) (σ : St) (s : List Slot) (α : Nat → Addr) : Prop where
  hd : ∀ (i : Nat) z a, s[i]? = some z → z.hd = some a → σ[i]? = some (some (.ref a))
  pc : ∀ (i : Nat) z b ds, s[i]? = some z → (b, ds) ∈ z.pcs → ∃ xs, H b = some (.lst xs) ∧ G b = none ∧ H₀ b = none ∧ p ≠ some b ∧ RA K p G xs ds
  nd : ∀ (i : Nat) z, s[i]? = some z → (z.pcs.map (·.1)).Nodup
  sep : ∀ (i j : Nat) z y b ds es, s[i]? = some z → s[j]? = some y → i ≠ j → (b, ds) ∈ z.pcs → (b, es) ∉ y.pcs
  osep : ∀ (i j : Nat) z ds b es, s[i]? = some (.own ds) → s[j]? = some z → (b, es) ∈ z.pcs → α i ≠ b
structure Rel (K : PySem.W.Frag) (p : Option Addr) (G₀ H₀ G H : Hp) (σ : St) (e : En) (α : Nat → Addr) : Prop where
  w : Wd K p e.k G H
  st : Stp p G₀ H₀ G H
  len : σ.length = e.s.length
  dat : ∀ (i : Nat) d, e.s[i]? = some (.dat d) → ∃ v, σ[i]? = some (some v) ∧ R K p G v d
  own : ∀ (i : Nat) ds, e.s[i]? = some (.own ds) → ∃ xs, σ[i]? = some (some (.ref (α i))) ∧ H (α i) = some (.lst xs) ∧ G (α i) = none ∧ H₀ (α i) = none ∧ p ≠ some (α i) ∧ RA K p G xs ds
  sep : ∀ (i j : Nat) ds es, e.s[i]? = some (.own ds) → e.s[j]? = some (.own es) → i ≠ j → α i ≠ α j
  bo : Bo K p G H₀ H σ e.s α
def Rl (K : PySem.W.Frag) (p : Option Addr) (G₀ H₀ G H : Hp) (σ : St) (e : En) : Prop := ∃ α, Rel K p G₀ H₀ G H σ e α
theorem Stp.refl {p : Option Addr} {G H : Hp} : Stp p G H G H := ⟨fun _ _ h => h, fun _ _ h _ => h, fun _ _ _ h => h, fun _ _ _ h => h⟩
section
variable {K : PySem.W.Frag} {p : Option Addr} {G₀ H₀ G H G' H' H₀' : Hp} {σ σ' : St} {s s' : List Slot} {α α' : Nat → Addr}
/-- no such slot -/
theorem Bo.none (h : ∀ (i : Nat) z, s[i]? = some z → z.pcs = [] ∧ z.hd = .none) : Bo K p G H₀ H σ s α :=
  ⟨fun i z a hz q => by
    rw [(h i z hz).2] at q
    exact (nomatch q), fun i z b ds hz q => by
    rw [(h i z hz).1] at q
    exact (nomatch q), fun i z hz => by
    rw [(h i z hz).1]
    exact List.nodup_nil, fun i j z y b ds es hz hy _ q => by
    rw [(h i z hz).1] at q
    exact (nomatch q), fun i j z ds b es _ hz q => by
    rw [(h j z hz).1] at q
    exact (nomatch q)⟩
/-- the heap changes, but not there -/
theorem Bo.heap (r : Bo K p G H₀ H σ s α) (g : Same G G') (h : ∀ b xs, H b = some (.lst xs) → G b = .none → H₀ b = .none → p ≠ some b → (∀ (i : Nat) ds, s[i]? = some (.own ds) → α i ≠ b) → H' b = some (.lst xs) ∧ G' b = .none ∧ H₀' b = .none) : Bo K p G' H₀' H' σ s α :=
  ⟨r.hd, fun i z b ds hz q => by
    obtain ⟨xs, h1, h2, h3, h4, h5⟩ := r.pc i z b ds hz q
    obtain ⟨k1, k2, k3⟩ := h b xs h1 h2 h3 h4 fun j es hj => r.osep j i z es b ds hj hz q
    exact ⟨xs, k1, k2, k3, h4, h5.mono g⟩, r.nd, r.sep, r.osep⟩
/-- slots come and go, but no such ones come -/
theorem Bo.env (r : Bo K p G H₀ H σ s α) (h : ∀ (j : Nat) z, s'[j]? = some z → (z.pcs = [] ∧ z.hd = .none) ∨ (s[j]? = some z ∧ σ'[j]? = σ[j]?))
    (ho : ∀ (j : Nat) ds, s'[j]? = some (.own ds) → (∃ es, s[j]? = some (.own es) ∧ α' j = α j) ∨ H (α' j) = .none ∨ H₀ (α' j) ≠ .none) : Bo K p G H₀ H σ' s' α' :=
  have old : ∀ (j : Nat) z, s'[j]? = some z → ∀ b ds, (b, ds) ∈ z.pcs → s[j]? = some z ∧ σ'[j]? = σ[j]? := fun j z hz b ds q => by
    rcases h j z hz with h1 | h1
    · rw [h1.1] at q; cases q
    · exact h1
  ⟨fun i z a hz q => by
    rcases h i z hz with h1 | h1
    · rw [h1.2] at q; exact (nomatch q)
    · rw [h1.2]; exact r.hd i z a h1.1 q, fun i z b ds hz q => r.pc i z b ds (old i z hz b ds q).1 q, fun i z hz => by
    rcases h i z hz with h1 | h1
    · rw [h1.1]; exact List.nodup_nil
    · exact r.nd i z h1.1, fun i j z y b ds es hz hy hij q q' => r.sep i j z y b ds es (old i z hz b ds q).1 (old j y hy b es q').1 hij q q', fun i j z ds b es hi hz q => by
    have hz' := (old j z hz b es q).1
    rcases ho i ds hi with ⟨fs, h1, h2⟩ | h1 | h1
    · rw [h2]; exact r.osep i j z fs b es h1 hz' q
    · obtain ⟨xs, k1, _⟩ := r.pc j z b es hz' q
      intro e; rw [e, k1] at h1; cases h1
    · obtain ⟨xs, _, _, k3, _⟩ := r.pc j z b es hz' q
      intro e; rw [e] at h1; exact h1 k3⟩
end
section
variable {K : PySem.W.Frag} {p : Option Addr} {k : Nat} {G₀ H₀ G H G' H' : Hp} {σ : St} {e : En}
/-- behind a call -/
theorem Rl.step {k' : Nat} (r : Rl K p G₀ H₀ G H σ e) (s : Stp p G H G' H') (w : Wd K p k' G' H') : Rl K p G₀ H₀ G' H' σ { e with k := k' } := by
  obtain ⟨α, r⟩ := r
  refine ⟨α, w, ⟨fun b o h => s.gg _ _ (r.st.gg _ _ h), fun b o h n => s.hh _ _ (r.st.hh _ _ h n) n, fun b o h n => ?_, fun a c ea h => s.pc a c ea (r.st.pc a c ea h)⟩, r.len, fun i d h => ?_, fun i ds h => ?_, r.sep, ?_⟩
  · by_cases hp : p = some b
    · exact (w.pen b hp).1
    · exact s.nn b o (r.st.hh _ _ h hp) (r.st.nn _ _ h n)
  · obtain ⟨v, h1, h2⟩ := r.dat i d h
    exact ⟨v, h1, h2.mono s.gg⟩
  · obtain ⟨xs, h1, h2, h3, h4, h5, h6⟩ := r.own i ds h
    exact ⟨xs, h1, s.hh _ _ h2 h5, s.nn _ _ h2 h3, h4, h5, h6.mono s.gg⟩
  · exact r.bo.heap s.gg fun b xs h1 h2 h3 h4 _ => ⟨s.hh _ _ h1 h4, s.nn _ _ h1 h2, h3⟩
theorem Rl.wd (r : Rl K p G₀ H₀ G H σ e) : Wd K p e.k G H := let ⟨_, r⟩ := r; r.w
theorem Rl.same (r : Rl K p G₀ H₀ G H σ e) : Same G H := r.wd.same
/-- something new and unchanging has been laid -/
theorem Stp.new {q : Addr} {o : HO} (w : Same G H) (hq : H q = none) : Stp p G H (upd G q o) (upd H q o) ∧ Same G (upd G q o) := by
  have gq : G q = none := w.free hq
  have s1 : Same G (upd G q o) := fun b u h => by rw [upd_ne (ne_of_none h gq)]; exact h
  refine ⟨⟨s1, fun b u h _ => by rw [upd_ne (ne_of_none h hq)]; exact h, fun b u h n => by rw [upd_ne (ne_of_none h hq)]; exact n, fun a c _ ⟨i, r, h⟩ => ⟨i, r, by rw [upd_ne (ne_of_none h hq)]; exact h⟩⟩, s1⟩
theorem Wd.new {q : Addr} {o : HO} (w : Wd K p k G H) (hq : H q = none) : Wd K p k (upd G q o) (upd H q o) := by
  refine ⟨fun b u h => ?_, fun a e => ?_⟩
  · by_cases hb : b = q
    · subst hb; rw [upd_same] at h ⊢; exact h
    · rw [upd_ne hb] at h ⊢; exact w.same _ _ h
  · obtain ⟨h1, c, xs, i, r, h2, h3, h4⟩ := w.pen a e
    have n := ne_of_none h2 hq
    exact ⟨by rw [upd_ne n]; exact h1, c, xs, i, r, by rw [upd_ne n]; exact h2, (Stp.new (p := p) (o := o) w.same hq).2 _ _ h3, h4⟩
theorem Rl.new {q : Addr} {o : HO} (r : Rl K p G₀ H₀ G H σ e) (hq : H q = none) : Rl K p G₀ H₀ (upd G q o) (upd H q o) σ e :=
  r.step (Stp.new r.same hq).1 (r.wd.new hq)
theorem sameNew {q : Addr} {o : HO} (w : Same G H) (hq : H q = none) : Same G (upd G q o) := (Stp.new (p := none) w hq).2
end
/-! ### the judgements -/
abbrev PD := D → En → Prop
abbrev WEx := En → PD → PD → Prop
def PQ (K : PySem.W.Frag) (p : Option Addr) (G₀ H₀ : Hp) (G : Hp) (σ : St) (Q : VK) : PD := fun d e' => ∀ v G' H', Same G G' → Rl K p G₀ H₀ G' H' σ e' → R K p G' v d → Q v H'
def PX (K : PySem.W.Frag) (p : Option Addr) (G₀ H₀ : Hp) (W : WX) (G : Hp) (σ : St) : PD := fun x e' => ∀ C G' H', Same G G' → Rl K p G₀ H₀ G' H' σ e' → x = excD C → W (.ref C) none σ H'
/-- what a def fixes: the ground and the heap at its entry, the pen, the wish about errors -/
structure Fx where
  p : Option Addr
  G₀ : Hp
  H₀ : Hp
  W : WX
def tE (K : PySem.W.Frag) (F : Fx) (w : WEx) : TE := fun σ H Q => ∃ e G, Rl K F.p F.G₀ F.H₀ G H σ e ∧ w e (PQ K F.p F.G₀ F.H₀ G σ Q) (PX K F.p F.G₀ F.H₀ F.W G σ)
def Mono (w : WEx) : Prop := ∀ e Q Q' x x', (∀ d e, Q d e → Q' d e) → (∀ d e, x d e → x' d e) → w e Q x → w e Q' x'
structure DE (X : Cx) (F : Fx) (e : Expr) (w : WEx) : Prop where
  run : PE X e (tE X.K F w)
  mono : Mono w
section
variable {K : PySem.W.Frag} {F : Fx} {σ : St} {H : Hp} {Q : VK}
theorem PQ.mono {p : Option Addr} {G₀ H₀ G G' : Hp} {d : D} {e : En} (s : Same G G') (h : PQ K p G₀ H₀ G σ Q d e) : PQ K p G₀ H₀ G' σ Q d e := fun v G2 H2 s2 => h v G2 H2 (s.trans s2)
theorem PX.mono {p : Option Addr} {G₀ H₀ G G' : Hp} {W : WX} {d : D} {e : En} (s : Same G G') (h : PX K p G₀ H₀ W G σ d e) : PX K p G₀ H₀ W G' σ d e := fun C G2 H2 s2 => h C G2 H2 (s.trans s2)
/-- the first of two -/
theorem tE.bind {w : WEx} {f : D → WEx} {e : En} {G : Hp} (m : Mono w) (mf : ∀ d, Mono (f d)) (r : Rl K F.p F.G₀ F.H₀ G H σ e) (h : w e (fun d e1 => f d e1 (PQ K F.p F.G₀ F.H₀ G σ Q) (PX K F.p F.G₀ F.H₀ F.W G σ)) (PX K F.p F.G₀ F.H₀ F.W G σ)) :
    tE K F w σ H (fun v H1 => ∃ e1 G1 d, Same G G1 ∧ Rl K F.p F.G₀ F.H₀ G1 H1 σ e1 ∧ R K F.p G1 v d ∧ f d e1 (PQ K F.p F.G₀ F.H₀ G1 σ Q) (PX K F.p F.G₀ F.H₀ F.W G1 σ)) := by
  refine ⟨e, G, r, m e _ _ _ _ (fun d e1 q => ?_) (fun _ _ q => q) h⟩
  intro v G' H' s r' rv
  exact ⟨e1, G', d, s, r', rv, mf d _ _ _ _ _ (fun _ _ => PQ.mono s) (fun _ _ => PX.mono s) q⟩
end
/-- the word of an expression in a def's statement: what it asks of the slots -/
def wVar (i : Nat) : WEx := fun e Q _ => ∃ d, e.s[i]? = some (.dat d) ∧ Q d e
def wC (d : D) : WEx := fun e Q _ => Q d e
theorem wVar.mono (i : Nat) : Mono (wVar i) := fun e Q Q' x x' h _ ⟨d, h1, h2⟩ => ⟨d, h1, h _ _ h2⟩
theorem wC.mono (d : D) : Mono (wC d) := fun e Q Q' x x' h _ q => h _ _ q
section
variable {X : Cx} {F : Fx} {pos : Pos}
theorem de_of {e : Expr} {t : TE} {w : WEx} (h : PE X e t) (m : Mono w) (i : ∀ σ H Q, tE X.K F w σ H Q → t σ H Q) : DE X F e w :=
  ⟨⟨fun pins s σ H Q I q => h.run pins s σ H Q I (i σ H Q q)⟩, m⟩
theorem de_var {i : Nat} {x : Str} (h : PE X (.Name x pos) (tVar i)) : DE X F (.Name x pos) (wVar i) :=
  de_of h (wVar.mono i) fun σ H Q ⟨e, G, r, d, h1, h2⟩ => by
    obtain ⟨α, r'⟩ := id r
    obtain ⟨v, h3, h4⟩ := r'.dat i d h1
    exact ⟨v, h3, h2 v G H (Same.refl G) r h4⟩
theorem de_c {e : Expr} {v : V} {d : D} (h : PE X e (tC v)) (hr : ∀ K p G, R K p G v d) : DE X F e (wC d) :=
  de_of h (wC.mono d) fun σ H Q ⟨e, G, r, q⟩ => q v G H (Same.refl G) r (hr _ _ _)
theorem de_int {i : Int} {j : Nat} : DE X F (.Constant (.int i) j pos) (wC (.int i)) := de_c pe_int fun _ _ _ => .int i
theorem de_bl {b : Bool} {j : Nat} : DE X F (.Constant (.bool b) j pos) (wC (.bool b)) := de_c pe_bl fun _ _ _ => .bl b
theorem de_non {j : Nat} : DE X F (.Constant .none j pos) (wC .none) := de_c pe_non fun _ _ _ => .non
end
end L2.DL
set_option
      maxHeartbeats 4000000
namespace L2.DL
open PySem PySem.Spec
      PyProof.Rows
/-! ### a tuple once: the tuple itself -/
theorem tuple_once (l : Addr) (items : Array Value) (n : Nat) (dd : Option Addr) (sl : Array (Option Value)) (u : Tok) :
    Meets (Builtin.«tuple.__mul__» ⟨[.ref l, .int 1 u], []⟩) (fun _ R s => s.heap.get? l = some { cls := .type "tuple", dict := dd, data := .seq items n, slots := sl } ∧ R (.ok (.ret (Value.ref l))) s) :=
  .of_wp fun prog
        w A R s h => by
    obtain ⟨hp, g,
          d, tk, os⟩ := s
    obtain ⟨hl, h⟩ := h
    have f1 := AutoSeq1.idx_int
    wp_walk using
          wpAny_loadPart' hl
    exact ⟨_, rfl, h⟩
def rOnce (K : PySem.W.Frag) : R2 := fun x y H Q => ∃ l xs, x = .ref l ∧ y = .int 1 ∧ SqT K H l xs ∧ Q (.ref l) H
theorem op_once {X : Cx} : OpR X (binaryOp .Mult) (rOnce X.K) := by
  intro pins s σ H x
        y v u Q I rx ry h
  obtain ⟨l, xs, rfl, rfl, hT, q⟩ := h
  cases rx
  obtain ⟨t, rfl⟩ := ry
  obtain ⟨its, r, ⟨⟨cls, dd, data, sl⟩,
        ho, hc, n, hd⟩, hs⟩ := I.tuple hT
  simp only at hc hd
  subst hc hd
  refine wpAny_binaryOp_repeat_ref (T := "tuple") (U := "int") (by decide) ⟨_, ho, rfl⟩ (fun s' => typeIs_int s' 1 t) noFill_tuple_mul F.fills_int_mul F.slot_int_rmul repeat_tuple F.slot_int_index.lookup
    (call_meets F.slot_int_rmul (typeIs_int s 1 t) F.entry_int_rmul (F.args_int_rmul_2 _ _) (int_rmul_tuple 1 t l its.toArray n dd sl)
      ⟨ho, rfl, ⟨_, ho, rfl⟩, call_meets F.slot_tuple_mul ⟨_, ho, rfl⟩ F.entry_tuple_mul (F.args_tuple_mul_2 _ _) (tuple_once l its.toArray n dd sl t) ⟨ho, ?_⟩⟩)
  exact ⟨.ref l, H, I.kept (t' := s.toks) fun _ _ z => z, rfl, q⟩
end L2.DL
set_option
      maxHeartbeats 1000000
namespace L2.DL
open PySem PySem.Spec
      PyProof.Rows
/-! ### data that may be compared and shown -/
mutual
def fine : D → Bool
  | .none => true
  | .bool _ => true
  | .int i => decide (i.natAbs < 2 ^ 120)
  | .str x => PyData.canLay0 (.str x)
  | .list xs => fineAll xs
  | .tuple xs => fineAll xs
  | .dict _ => false
def fineAll : List D → Bool
  | [] => true
  | d :: ds => fine d && fineAll ds
end
mutual
def wt : D → Nat
  | .none => 1
  | .bool _ => 1
  | .int _ => 1
  | .str x => x.length / 100 + 1
  | .list xs => wtAll xs + 1
  | .tuple xs => wtAll xs + 1
  | .dict _ => 1
def wtAll : List D → Nat
  | [] => 0
  | d :: ds => wt d + wtAll ds
end
/-- small enough -/
structure Ok (n m : Nat) (d : D) : Prop where
  f : fine d = true
  w : wt d ≤ n
  d : d.depth ≤ m
abbrev Good (d : D) : Prop := Ok 8000 50 d
mutual
theorem fine.lay : ∀ d : D, fine d = true → d.canLay0 = true
  | .none, _ => rfl
  | .bool _, _ => rfl
  | .int _, _ => rfl
  | .str x, h => by
    unfold fine at h
    exact h
  | .list xs, h => by
    unfold PyData.canLay0
    exact fineAll.lay xs (by simpa only [fine] using h)
  | .tuple xs, h => by
    unfold PyData.canLay0
    exact fineAll.lay xs (by simpa only [fine] using h)
  | .dict _, h => by simp only [fine] at h; cases h
theorem fineAll.lay : ∀ ds : List D, fineAll ds = true → PyData.canLayAll0 ds = true
  | [], _ => rfl
  | d :: ds, h => by
    unfold fineAll at h
    rw [Bool.and_eq_true] at h
    unfold PyData.canLayAll0
    rw [fine.lay d h.1, fineAll.lay ds h.2]
    rfl
end
theorem Ok.shaped {n m : Nat} {d : D} (h : Ok n m d) (hm : m ≤ 64) : SeqAt.shaped d = true := by
  unfold SeqAt.shaped
  rw [fine.lay d h.f, decide_eq_true (Nat.le_trans h.d hm)]
  rfl
theorem Ok.noDict {n m : Nat} {d : D} (h : Ok n m d) : d.hasDict = false := PyData.hasDict_of_canLay d (fine.lay d h.f)
theorem log2_120 {i : Int} (h : i.natAbs < 2 ^ 120) : i.natAbs.log2 < 1920 := Nat.lt_of_lt_of_le (PySem.Flt.log2_lt_of (by decide) h) (by decide)
mutual
theorem fine.showable : ∀ d : D, fine d = true → d.showable = true
  | .none, _ => by simp only [PyData.showable]
  | .bool _, _ => by simp only [PyData.showable]
  | .int i, h => by
    unfold fine at h
    unfold PyData.showable
    exact decide_eq_true (log2_120 (of_decide_eq_true h))
  | .str _, _ => by simp only [PyData.showable]
  | .list xs, h => by
    unfold PyData.showable
    exact fineAll.showable xs (by simpa only [fine] using h)
  | .tuple xs, h => by
    unfold PyData.showable
    exact fineAll.showable xs (by simpa only [fine] using h)
  | .dict _, h => by simp only [fine] at h; cases h
theorem fineAll.showable : ∀ ds : List D, fineAll ds = true → PyData.showableAll ds = true
  | [], _ =>
        by simp only [PyData.showableAll]
  | d :: ds, h => by
    unfold fineAll at h
    rw [Bool.and_eq_true] at h
    unfold PyData.showableAll
    rw [fine.showable d h.1, fineAll.showable ds h.2]
    rfl
end
theorem shownAll_length : ∀ ds : List D, (PyData.shownAll ds).length = ds.length
  | [] => by simp [PyData.shownAll]
  | d :: ds => by simp [PyData.shownAll, shownAll_length ds]
theorem wtAll_length : ∀ ds : List D, ds.length ≤ wtAll ds
  | [] => by simp [wtAll]
  | d :: ds => by
    have h := wtAll_length ds
    have : 1 ≤ wt d := by cases d <;> simp [wt]
    simp only [wtAll, List.length_cons]
    omega
theorem small_text {i : Int} (h : i.natAbs < 2 ^ 120) : ((toString i : String) : Str).length ≤ 400 := by
  have z := PySem.int_text_length_le (a := i) (k := 120) (by decide) (PySem.Flt.log2_lt_of (by decide) h)
  rw [PySem.ofString_length]
  omega
mutual
theorem fine.len : ∀ d : D, fine d = true → d.shown.length + 3 ≤ 2000 * wt d
  | .none, _ => by simp only [PyData.shown, wt]; decide
  | .bool b, _ => by cases b <;> (simp only [PyData.shown, wt]; decide)
  | .int i, h => by
    unfold fine at h
    simp only [PyData.shown, wt]
    have z := small_text (of_decide_eq_true h)
    omega
  | .str x, h => by
    unfold fine at h
    simp only [PyData.shown, wt]
    have z := PySem.StrLaws.reprText_len x (fun c hc => by
      have q : PyData.strOk x = true := h
      unfold PyData.strOk at q
      rw [Array.all_eq_true_iff_forall_mem] at q
      have := of_decide_eq_true (q c (by simpa using hc))
      omega)
    omega
  | .list xs, h => by
    have q := fineAll.len xs (by simpa only [fine] using h)
    simp only [PyData.shown, wt]
    have z := PySem.listText_len_le (PyData.shownAll xs)
    rw [shownAll_length] at z
    have l := wtAll_length xs
    omega
  | .tuple xs, h => by
    have q := fineAll.len xs (by simpa only [fine] using h)
    simp only [PyData.shown, wt]
    have z := PySem.tupleText_len_le (PyData.shownAll xs)
    rw [shownAll_length] at z
    have l := wtAll_length xs
    omega
  | .dict _, h => by simp only [fine] at h; cases h
theorem fineAll.len : ∀ ds : List D, fineAll ds = true → ((PyData.shownAll ds).map (·.length)).sum + 3 * ds.length ≤ 2000 * wtAll ds
  | [], _ => by simp [PyData.shownAll, wtAll]
  | d :: ds, h => by
    unfold fineAll at h
    rw [Bool.and_eq_true] at h
    have a := fine.len d h.1
    have b := fineAll.len ds h.2
    have : 1 ≤ wt d := by cases d <;> simp [wt]
    simp only [PyData.shownAll, wtAll, List.map_cons, List.sum_cons, List.length_cons]
    omega
end
theorem Good.shownLen {d : D} (h : Good d) : d.shown.length ≤ sizeLine := by
  have z := fine.len d h.f
  have w := h.w
  rw [sizeLine_eq]
  omega
/-! ### data as the library's own data -/
section
variable {K : PySem.W.Frag} {p : Option Addr} {G H : Hp}
mutual
theorem R.dp (s : Same G H) : ∀ {v : V} {d : D}, R K p G v d → d.hasDict = false → Dp K H v d
  | _, _, .non, _ => .non
  | _, _, .bl b, _ => .bl b
  | _, _, .int i, _ => .int i
  | _, _, .str x, _ => .str x
  | _, _, .lst h r, n => .lst (SqL.of (s _ _ h)) (RA.dp s r (by simpa only [PyData.hasDict] using n))
  | _, _, .tup h r, n => .tup (sameT s h) (RA.dp s r (by simpa only [PyData.hasDict] using n))
  | _, _, .pen h e, n => by subst e; simp only [PyData.hasDict] at n; cases n
  | _, _, .exc h e, n => by subst e; simp only [PyData.hasDict] at n; cases n
  | _, _, .obj h r e, n => by subst e; simp only [PyData.hasDict] at n; cases n
  | _, _, .scr h e, n => by subst e; simp only [PyData.hasDict] at n; cases n
  | _, _, .frt h _ _ e, n => by subst e; simp only [PyData.hasDict] at n; cases n
  | _, _, .adr _ _ e, n => by subst e; simp only [PyData.hasDict] at n; cases n
  | _, _, .mtl e, n => by subst e; simp only [PyData.hasDict] at n; cases n
theorem RA.dp (s : Same G H) : ∀ {vs : List V} {ds : List D}, RA K p G vs ds → PyData.hasDictAll ds = false → DpAll K H vs ds
  | _, _, .nil, _ => .nil
  | _, _, .cons h t, n => by
    unfold PyData.hasDictAll at n
    rw [Bool.or_eq_false_iff] at n
    exact .cons (R.dp s h n.1) (RA.dp s t n.2)
end
end
/-! ### operations on two data -/
abbrev B2 := D → D → (D → Prop) → Prop
def B2.Mono (f : B2) : Prop := ∀ a b P P', (∀ d, P d → P' d) → f a b P → f a b P'
def wBin (f : B2) (wa wb : WEx) : WEx := fun e Q x => wa e (fun d1 e1 => wb e1 (fun d2 e2 => f d1 d2 (fun d => Q d e2)) x) x
/-- the rule r of the heap does what f says of data -/
def Fits (K : PySem.W.Frag) (f : B2) (r : R2) : Prop := ∀ (p : Option Addr) (G₀ H₀ G H : Hp) (σ : L2.St) (e : En) (x y : V) (a b : D) (P : D → Prop) (Q : VK),
  Rl K p G₀ H₀ G H σ e → R K p G x a → R K p G y b → f a b P → (∀ d, P d → ∀ v G' H', Same G G' → Rl K p G₀ H₀ G' H' σ e → R K p G' v d → Q v H') → r x y H Q
section
variable {X : Cx} {F : Fx} {a b : Expr} {wa wb : WEx} {pos : Pos}
theorem wBin.mono {f : B2} (hf : f.Mono) (ha : Mono wa) (hb : Mono wb) : Mono (wBin f wa wb) := fun e Q Q' x x' h1 h2 q =>
  ha e _ _ _ _ (fun d1 e1 q1 => hb e1 _ _ _ _ (fun d2 e2 q2 => hf d1 d2 _ _ (fun d q3 => h1 d e2 q3) q2) h2 q1) h2 q
theorem tE.mono {K : PySem.W.Frag} {w : WEx} (m : Mono w) {σ : L2.St} {H : Hp} {Q Q' : VK} (h : ∀ v H, Q v H → Q' v H) (q : tE K F w σ H Q) : tE K F w σ H Q' := by
  obtain ⟨e, G, r, q⟩ := q
  exact ⟨e, G, r, m e _ _ _ _ (fun d e1 q1 v G' H' s r' rv => h _ _ (q1 v G' H' s r' rv)) (fun _ _ z => z) q⟩
/-- two in a row, the result by a rule of two values -/
theorem tE.two {K : PySem.W.Frag} {f : B2} {r : R2} (hf : f.Mono) (ft : Fits K f r) (ha : Mono wa) (hb : Mono wb) {σ : L2.St} {H : Hp} {Q : VK} (q : tE K F (wBin f wa wb) σ H Q) :
    tE K F wa σ H fun x H1 => tE K F wb σ H1 fun y H2 => r x y H2 Q := by
  obtain ⟨e, G, r0, q⟩ := q
  refine tE.mono ha (fun v1 H1 q1 => ?_) (tE.bind (w := wa) (f := fun d1 e1 Q x => wb e1 (fun d2 e2 => f d1 d2 (fun d => Q d e2)) x) ha (fun d1 e1 Q Q' x x' h1 h2 q => hb e1 _ _ _ _ (fun d2 e2 q2 => hf d1 d2 _ _ (fun d q3 => h1 d e2 q3) q2) h2 q) r0 q)
  obtain ⟨e1, G1, d1, s1, r1, rv1, q1⟩ := q1
  refine tE.mono hb (fun v2 H2 q2 => ?_) (tE.bind (w := wb) (f := fun d2 e2 Q x => f d1 d2 (fun d => Q d e2)) hb (fun d2 e2 Q Q' x x' h1 h2 q => hf d1 d2 _ _ (fun d q3 => h1 d e2 q3) q) r1 q1)
  obtain ⟨e2, G2, d2, s2, r2, rv2, q2⟩ := q2
  exact ft F.p F.G₀ F.H₀ G2 H2 σ e2 v1 v2 d1 d2 _ Q r2 (rv1.mono s2) rv2 q2 fun d z v G' H' s r' rv => z v G' H' s r' rv
theorem de_bin {op : Operator} {f : B2} {r : R2} (ho : OpR X (binaryOp op) r) (hf : f.Mono) (ft : Fits X.K f r) (ha : DE X F a wa) (hb : DE X F b wb) : DE X F (.BinOp a op b pos) (wBin f wa wb) :=
  de_of (pe_op ho ha.run hb.run) (wBin.mono hf ha.mono hb.mono) fun σ H Q q => tE.two hf ft ha.mono hb.mono q
theorem de_cmp {op : CmpOp} {f : B2} {r : R2} (ho : OpR X (compareOp op) r) (hf : f.Mono) (ft : Fits X.K f r) (ha : DE X F a wa) (hb : DE X F b wb) (hm : behindInMarks op b = false := by first | exact nomark _ (by decide) (by decide) | rfl) : DE X F (.Compare a [op] [b] pos) (wBin f wa wb) :=
  de_of (pe_cmpR ho ha.run hb.run hm) (wBin.mono hf ha.mono hb.mono) fun σ H Q q => tE.two hf ft ha.mono hb.mono q
end
/-! #### what the operations say of data -/
def addD : B2
  | .int i, .int j, P => P (.int (i + j))
  | .str a, .str b, P => a.length + b.length ≤ sizeLine ∧ P (.str (a ++ b))
  | .list xs, .list ys, P => xs.length + ys.length ≤ sizeLine ∧ P (.list (xs ++ ys))
  | .tuple xs, .tuple ys, P => xs.length + ys.length ≤ sizeLine ∧ P (.tuple (xs ++ ys))
  | _, _, _ => False
def subD : B2
  | .int i, .int j, P => P (.int (i - j))
  | _, _, _ => False
def mulD : B2
  | .int i, .int j, P => CMul i j ∧ P (.int (i * j))
  | .list xs, .int k, P => 0 ≤ k ∧ k ≤ 1000 ∧ xs.length ≤ 1000 ∧ P (.list (List.replicate k.toNat xs).flatten)
  | .tuple xs, .int k, P => xs ≠ [] ∧ 1 ≤ k ∧ k ≤ 1000 ∧ xs.length ≤ 1000 ∧ P (.tuple (List.replicate k.toNat xs).flatten)
  | _, _, _ => False
def powD : B2
  | .int i, .int j, P => CPow i j ∧ P (.int (i ^ j.toNat))
  | _, _, _ => False
def modD : B2
  | .int i, .int j, P => 0 < j ∧ P (.int (i % j))
  | _, _, _ => False
def divD : B2
  | .int i, .int j, P => (0 < j ∧ j.natAbs < 2 ^ 9000) ∧ P (.int (i / j))
  | _, _, _ => False
def cmpD (c : Int → Int → Bool) : B2
  | .int i, .int j, P => P (.bool (c i j))
  | _, _, _ => False
def twoInts : D → D → Bool
  | .int _, .int _ => true
  | .str _, .str _ => true
  | _, _ => false
def eqD : B2 := fun a b P => (twoInts a b = true ∨ (Good a ∧ Good b)) ∧ P (.bool (PyData.eqv a b))
def neD : B2 := fun a b P => (twoInts a b = true ∨ (Good a ∧ Good b)) ∧ P (.bool (!PyData.eqv a b))
def items : D → Option (List D)
  | .list xs => some xs
  | .tuple xs => some xs
  | _ => none
def inB (a : D) (xs : List D) : Bool := xs.any fun z => PyData.eqv z a
def inD : B2 := fun a b P => Good a ∧ Good b ∧ ∃ xs, items b = some xs ∧ P (.bool (inB a xs))
def notInD : B2 := fun a b P => Good a ∧ Good b ∧ ∃ xs, items b = some xs ∧ P (.bool (!inB a xs))
theorem addD.mono : B2.Mono addD := by
  intro a b P P' h q
  unfold addD at q ⊢
  split at q
  · exact h _ q
  · exact ⟨q.1, h _ q.2⟩
  · exact ⟨q.1, h _ q.2⟩
  · exact ⟨q.1, h _ q.2⟩
  · exact q.elim
theorem subD.mono : B2.Mono subD := by
  intro a b P P' h q
  unfold subD at q ⊢
  split at q
  · exact h _ q
  · exact q.elim
theorem mulD.mono : B2.Mono mulD := by
  intro a b P P' h q
  unfold mulD at q ⊢
  split at q
  · exact ⟨q.1, h _ q.2⟩
  · exact ⟨q.1, q.2.1, q.2.2.1, h _ q.2.2.2⟩
  · exact ⟨q.1, q.2.1, q.2.2.1, q.2.2.2.1, h _ q.2.2.2.2⟩
  · exact q.elim
theorem powD.mono : B2.Mono powD := by
  intro a b P P' h q
  unfold powD at q ⊢
  split at q
  · exact ⟨q.1, h _ q.2⟩
  · exact q.elim
theorem modD.mono : B2.Mono modD := by
  intro a b P P' h q
  unfold modD at q ⊢
  split at q
  · exact ⟨q.1, h _ q.2⟩
  · exact q.elim
theorem divD.mono : B2.Mono divD := by
  intro a b P P' h q
  unfold divD at q ⊢
  split at q
  · exact ⟨q.1, h _ q.2⟩
  · exact q.elim
theorem cmpD.mono {c : Int → Int → Bool} : B2.Mono (cmpD c) := by
  intro a b P P' h q
  unfold cmpD at q ⊢
  split at q
  · exact h _ q
  · exact q.elim
theorem eqD.mono : B2.Mono eqD := fun _ _ _ _ h q => ⟨q.1, h _ q.2⟩
theorem neD.mono : B2.Mono neD := fun _ _ _ _ h q => ⟨q.1, h _ q.2⟩
theorem twoInts_inv {a b : D} (h : twoInts a b = true) : (∃ i j, a = .int i ∧ b = .int j) ∨ ∃ i j, a = .str i ∧ b = .str j := by
  unfold twoInts at h
  split at h
  · exact .inl ⟨_, _, rfl, rfl⟩
  · exact .inr ⟨_, _, rfl, rfl⟩
  · cases h
theorem inD.mono : B2.Mono inD := fun _ _ _ _ h q => ⟨q.1, q.2.1, let ⟨xs, e, z⟩ := q.2.2; ⟨xs, e, h _ z⟩⟩
theorem notInD.mono : B2.Mono notInD := fun _ _ _ _ h q => ⟨q.1, q.2.1, let ⟨xs, e, z⟩ := q.2.2; ⟨xs, e, h _ z⟩⟩
section
variable {K : PySem.W.Frag} {p : Option Addr} {G₀ H₀ G H : Hp} {σ : L2.St} {e : En} {Q : VK} {P : D → Prop}
/-- a plain answer -/
theorem ans {d : D} {v : V} (r : Rl K p G₀ H₀ G H σ e) (rv : R K p G v d) (k : ∀ d, P d → ∀ v G' H', Same G G' → Rl K p G₀ H₀ G' H' σ e → R K p G' v d → Q v H') (h : P d) : Q v H := k d h v G H (Same.refl G) r rv
/-- a new list, a new tuple -/
theorem ansL {xs : List V} {ds : List D} {q : Addr} (r : Rl K p G₀ H₀ G H σ e) (rv : RA K p G xs ds) (k : ∀ d, P d → ∀ v G' H', Same G G' → Rl K p G₀ H₀ G' H' σ e → R K p G' v d → Q v H') (h : P (.list ds)) (hq : H q = none) : Q (.ref q) (upd H q (.lst xs)) :=
  k _ h _ (upd G q (.lst xs)) _ (sameNew r.same hq) (r.new hq) (.lst upd_same (rv.mono (sameNew r.same hq)))
theorem ansT {xs : List V} {ds : List D} {q : Addr} (r : Rl K p G₀ H₀ G H σ e) (rv : RA K p G xs ds) (k : ∀ d, P d → ∀ v G' H', Same G G' → Rl K p G₀ H₀ G' H' σ e → R K p G' v d → Q v H') (h : P (.tuple ds)) (hq : H q = none) : Q (.ref q) (upd H q (.tup xs)) :=
  k _ h _ (upd G q (.tup xs)) _ (sameNew r.same hq) (r.new hq) (.tup (SqT.of upd_same) (rv.mono (sameNew r.same hq)))
end
/-- the rules of the heap, put together -/
def rAddA (K : PySem.W.Frag) : R2 := fun x y H Q => rI0 (fun i j => .int (i + j)) x y H Q ∨ (∃ i j, x = .str i ∧ y = .str j ∧ i.length + j.length ≤ sizeLine ∧ Q (.str (i ++ j)) H) ∨ rCat x y H Q ∨ rCatA K x y H Q
theorem op_addA {X : Cx} : OpR X (binaryOp .Add) (rAddA X.K) := op_add.or (op_add_str.or (op_cat.or op_catA))
theorem fitsAdd {K : PySem.W.Frag} : Fits K addD (rAddA K) := by
  intro p G₀ H₀ G H σ e x y a b P Q r ra rb q k
  unfold addD at q
  split at q
  · cases ra.int_inv; cases rb.int_inv
    exact .inl ⟨_, _, rfl, rfl, ans r (.int _) k q⟩
  · cases ra.str_inv; cases rb.str_inv
    exact .inr (.inl ⟨_, _, rfl, rfl, q.1, ans r (.str _) k q.2⟩)
  · obtain ⟨l, xs, rfl, h1, r1⟩ := ra.lst_inv
    obtain ⟨m, ys, rfl, h2, r2⟩ := rb.lst_inv
    exact .inr (.inr (.inl ⟨l, m, xs, ys, rfl, rfl, r.same _ _ h1, r.same _ _ h2, by rw [r1.length, r2.length]; exact q.1, fun z hz => ansL r (r1.append r2) k q.2 hz⟩))
  · obtain ⟨l, xs, rfl, h1, r1⟩ := ra.tup_inv
    obtain ⟨m, ys, rfl, h2, r2⟩ := rb.tup_inv
    refine .inr (.inr (.inr ⟨l, m, xs, ys, rfl, rfl, sameT r.same h1, sameT r.same h2, by rw [r1.length, r2.length]; exact q.1, fun z => ?_, fun _ z => ?_, fun _ _ z hz => ansT r (r1.append r2) k q.2 hz⟩))
    · have e1 := r1.nil_iff.mp z
      have q2 := q.2
      rw [e1, List.nil_append] at q2
      exact ans r rb k q2
    · have e1 := r2.nil_iff.mp z
      have q2 := q.2
      rw [e1, List.append_nil] at q2
      exact ans r ra k q2
  · exact q.elim
theorem fitsSub {K : PySem.W.Frag} : Fits K subD (rI0 fun i j => .int (i - j)) := by
  intro p G₀ H₀ G H σ e x y a b P Q r ra rb q k
  unfold subD at q
  split at q
  · cases ra.int_inv; cases rb.int_inv
    exact ⟨_, _, rfl, rfl, ans r (.int _) k q⟩
  · exact q.elim
def rMulA (K : PySem.W.Frag) : R2 := fun x y H Q => rI CMul (fun i j => .int (i * j)) x y H Q ∨ rRep x y H Q ∨ rRepT K x y H Q ∨ rOnce K x y H Q
theorem op_mulA {X : Cx} : OpR X (binaryOp .Mult) (rMulA X.K) := op_mul.or (op_rep.or (op_repT.or op_once))
theorem fitsMul {K : PySem.W.Frag} : Fits K mulD (rMulA K) := by
  intro p G₀ H₀ G H σ e x y a b P Q r ra rb q k
  unfold mulD at q
  split at q
  · cases ra.int_inv; cases rb.int_inv
    exact .inl ⟨_, _, rfl, rfl, q.1, ans r (.int _) k q.2⟩
  · obtain ⟨l, xs, rfl, h1, r1⟩ := ra.lst_inv
    cases rb.int_inv
    obtain ⟨q1, q2, q3, q4⟩ := q
    refine .inr (.inl ⟨l, _, xs, rfl, rfl, r.same _ _ h1, by omega, by omega, ?_, fun z hz => ansL r (r1.rep _) k q4 hz⟩)
    rw [sizeLine_eq, r1.length]
    exact Nat.le_trans (Nat.mul_le_mul q3 (show _ ≤ 1000 by omega)) (by decide)
  · obtain ⟨l, xs, rfl, h1, r1⟩ := ra.tup_inv
    cases rb.int_inv
    obtain ⟨q0, q1, q2, q3, q4⟩ := q
    rename_i i
    by_cases e1 : i = 1
    · subst e1
      refine .inr (.inr (.inr ⟨l, xs, rfl, rfl, sameT r.same h1, ans r (.tup h1 r1) k ?_⟩))
      simpa using q4
    · exact .inr (.inr (.inl ⟨l, _, xs, rfl, rfl, sameT r.same h1, fun z => q0 (r1.nil_iff.mp z), by omega, q2, by rw [r1.length]; exact q3, fun z hz => ansT r (r1.rep _) k q4 hz⟩))
  · exact q.elim
theorem fitsPow {K : PySem.W.Frag} : Fits K powD (rI CPow fun i j => .int (i ^ j.toNat)) := by
  intro p G₀ H₀ G H σ e x y a b P Q r ra rb q k
  unfold powD at q
  split at q
  · cases ra.int_inv; cases rb.int_inv
    exact ⟨_, _, rfl, rfl, q.1, ans r (.int _) k q.2⟩
  · exact q.elim
theorem fitsMod {K : PySem.W.Frag} : Fits K modD (rI (fun _ j => 0 < j) fun i j => .int (i % j)) := by
  intro p G₀ H₀ G H σ e x y a b P Q r ra rb q k
  unfold modD at q
  split at q
  · cases ra.int_inv; cases rb.int_inv
    exact ⟨_, _, rfl, rfl, q.1, ans r (.int _) k q.2⟩
  · exact q.elim
theorem fitsDiv {K : PySem.W.Frag} : Fits K divD (rI CDivW fun i j => .int (i / j)) := by
  intro p G₀ H₀ G H σ e x y a b P Q r ra rb q k
  unfold divD at q
  split at q
  · cases ra.int_inv; cases rb.int_inv
    exact ⟨_, _, rfl, rfl, wide_div (b := 9000) q.1.1 q.1.2 (by decide) (Nat.le_refl _), ans r (.int _) k q.2⟩
  · exact q.elim
theorem fitsCmp {K : PySem.W.Frag} {c : Int → Int → Bool} : Fits K (cmpD c) (rI0 fun i j => .bl (c i j)) := by
  intro p G₀ H₀ G H σ e x y a b P Q r ra rb q k
  unfold cmpD at q
  split at q
  · cases ra.int_inv; cases rb.int_inv
    exact ⟨_, _, rfl, rfl, ans r (.bl _) k q⟩
  · exact q.elim
def rEqA (K : PySem.W.Frag) : R2 := fun x y H Q => rEq x y H Q ∨ rEqD K x y H Q
def rNeA (K : PySem.W.Frag) : R2 := fun x y H Q => rNe x y H Q ∨ rNeD K x y H Q
theorem op_eqA {X : Cx} (hu : X.A.units + 64 < cLine) : OpR X (compareOp .Eq) (rEqA X.K) := op_eq.or (op_eqD hu)
theorem op_neA {X : Cx} (hu : X.A.units + 64 < cLine) : OpR X (compareOp .NotEq) (rNeA X.K) := op_ne.or (op_neD hu)
theorem eqv_int (i j : Int) : PyData.eqv (.int i) (.int j) = decide (V.int i = V.int j) := by
  rw [dec_int]
  simp only [PyData.eqv]
theorem eqv_str (i j : Str) : PyData.eqv (.str i) (.str j) = decide (V.str i = V.str j) := by
  rw [dec_str]
  simp only [PyData.eqv]
theorem fitsEq {K : PySem.W.Frag} : Fits K eqD (rEqA K) := by
  intro p G₀ H₀ G H σ e x y a b P Q r ra rb q k
  obtain ⟨q | ⟨q1, q2⟩, z⟩ := q
  · rcases twoInts_inv q with ⟨i, j, rfl, rfl⟩ | ⟨i, j, rfl, rfl⟩
    · cases ra.int_inv; cases rb.int_inv
      refine .inl ⟨rfl, ?_⟩
      rw [← eqv_int]
      exact ans r (.bl _) k z
    · cases ra.str_inv; cases rb.str_inv
      refine .inl ⟨rfl, ?_⟩
      rw [← eqv_str]
      exact ans r (.bl _) k z
  · exact .inr ⟨a, b, ra.dp r.same q1.noDict, rb.dp r.same q2.noDict, q1.shaped (by decide), q2.shaped (by decide), ans r (.bl _) k z⟩
theorem fitsNe {K : PySem.W.Frag} : Fits K neD (rNeA K) := by
  intro p G₀ H₀ G H σ e x y a b P Q r ra rb q k
  obtain ⟨q | ⟨q1, q2⟩, z⟩ := q
  · rcases twoInts_inv q with ⟨i, j, rfl, rfl⟩ | ⟨i, j, rfl, rfl⟩
    · cases ra.int_inv; cases rb.int_inv
      refine .inl ⟨rfl, ?_⟩
      rw [← eqv_int]
      exact ans r (.bl _) k z
    · cases ra.str_inv; cases rb.str_inv
      refine .inl ⟨rfl, ?_⟩
      rw [← eqv_str]
      exact ans r (.bl _) k z
  · exact .inr ⟨a, b, ra.dp r.same q1.noDict, rb.dp r.same q2.noDict, q1.shaped (by decide), q2.shaped (by decide), ans r (.bl _) k z⟩
/-- x in a list or a tuple, at any depth -/
def rInA (K : PySem.W.Frag) (neg : Bool) : R2 := fun x y H Q => ∃ d c ds, Dp K H x d ∧ Dp K H y c ∧ items c = some ds ∧ SeqAt.shaped d = true ∧ SeqAt.shaped c = true ∧ Q (.bl (if neg then !inB d ds else inB d ds)) H
theorem op_inA {X : Cx} (hu : X.A.units + 65 < cLine) : OpR X (compareOp .In) (rInA X.K false) := by
  intro pins s σ H x
        y v u Q I rx ry h
  obtain ⟨d, c, ds, hd, he, hc, sd, se, q⟩ := h
  obtain ⟨as, r1⟩ :=
        Dp.reads I d x v hd rx
  obtain ⟨bs, r2⟩ := Dp.reads I c y u he ry
  cases c <;> simp only [items, Option.some.injEq, reduceCtorEq] at hc
  · subst hc
    exact SeqAt.in_list_reads r2 r1 (SeqAt.canLay_of_shaped se)
          (SeqAt.canLay_of_shaped sd) (room_in_shaped sd hu) ⟨.bl _, H, I, rfl, q⟩
  · subst hc
    exact SeqAt.in_tuple_reads r2 r1 (SeqAt.canLay_of_shaped se) (SeqAt.canLay_of_shaped sd) (room_in_shaped sd hu) ⟨.bl _, H, I, rfl, q⟩
theorem op_notInA {X : Cx} (hu : X.A.units + 65 < cLine) : OpR X (compareOp .NotIn) (rInA X.K true) := by
  intro pins s σ H x
        y v u Q I rx ry h
  obtain ⟨d, c, ds, hd, he, hc, sd, se, q⟩ := h
  obtain ⟨as, r1⟩ :=
        Dp.reads I d x v hd rx
  obtain ⟨bs, r2⟩ := Dp.reads I c y u he ry
  cases c <;> simp only [items, Option.some.injEq, reduceCtorEq] at hc
  · subst hc
    exact SeqAt.notIn_list_reads r2 r1 (SeqAt.canLay_of_shaped se)
          (SeqAt.canLay_of_shaped sd) (room_in_shaped sd hu) ⟨.bl _, H, I, rfl, q⟩
  · subst hc
    exact SeqAt.notIn_tuple_reads r2 r1 (SeqAt.canLay_of_shaped se) (SeqAt.canLay_of_shaped sd) (room_in_shaped sd hu) ⟨.bl _, H, I, rfl, q⟩
theorem fitsIn {K : PySem.W.Frag} : Fits K inD (rInA K false) := by
  intro p G₀ H₀ G H σ e x y a b P Q r ra rb q k
  obtain ⟨q1, q2, xs, e1, q3⟩ := q
  exact ⟨a, b, xs, ra.dp r.same q1.noDict, rb.dp r.same q2.noDict, e1, q1.shaped (by decide), q2.shaped (by decide), ans r (.bl _) k q3⟩
theorem fitsNotIn {K : PySem.W.Frag} : Fits K notInD (rInA K true) := by
  intro p G₀ H₀ G H σ e x y a b P Q r ra rb q k
  obtain ⟨q1, q2, xs, e1, q3⟩ := q
  exact ⟨a, b, xs, ra.dp r.same q1.noDict, rb.dp r.same q2.noDict, e1, q1.shaped (by decide), q2.shaped (by decide), ans r (.bl _) k q3⟩
end L2.DL
set_option
      maxHeartbeats 1000000
namespace L2.DL
open PySem PySem.Spec
      PyProof.Rows
/-! ### tests -/
abbrev WTx := En → (Bool → En → Prop) → PD → Prop
def MonoT (w : WTx) : Prop := ∀ e Q Q' x x', (∀ b e, Q b e → Q' b e) → (∀ d e, x d e → x' d e) → w e Q x → w e Q' x'
def PT_ (K : PySem.W.Frag) (F : Fx) (G : Hp) (σ : L2.St) (Q : Bool → Hp → Prop) : Bool → En → Prop := fun b e' => ∀ G' H', Same G G' → Rl K F.p F.G₀ F.H₀ G' H' σ e' → Q b H'
def tT (K : PySem.W.Frag) (F : Fx) (w : WTx) : TT := fun σ H Q => ∃ e G, Rl K F.p F.G₀ F.H₀ G H σ e ∧ w e (PT_ K F G σ Q) (PX K F.p F.G₀ F.H₀ F.W G σ)
structure DT (X : Cx) (F : Fx) (e : Expr) (w : WTx) : Prop where
  run : PT X e (tT X.K F w)
  mono : MonoT w
structure DW (X : Cx) (F : Fx) (e : Expr) (w : WTx) : Prop where
  run : PW X e (tT X.K F w)
  mono : MonoT w
def wTest (w : WEx) : WTx := fun e Q x => w e (fun d e' => ∃ b, d = .bool b ∧ Q b e') x
def wAnd (a b : WTx) : WTx := fun e Q x => a e (fun c e1 => if c = true then b e1 Q x else Q false e1) x
def wOr (a b : WTx) : WTx := fun e Q x => a e (fun c e1 => if c = true then Q true e1 else b e1 Q x) x
def wNot (a : WTx) : WTx := fun e Q x => a e (fun c e1 => Q (!c) e1) x
def wIf (c : WTx) (a b : WEx) : WEx := fun e Q x => c e (fun k e1 => if k = true then a e1 Q x else b e1 Q x) x
section
variable {K : PySem.W.Frag} {F : Fx} {σ : L2.St} {H : Hp} {X : Cx} {pos : Pos} {a b c : Expr} {rest : List Expr}
theorem PT_.mono {G G' : Hp} {Q : Bool → Hp → Prop} {d : Bool} {e : En} (s : Same G G') (h : PT_ K F G σ Q d e) : PT_ K F G' σ Q d e := fun G2 H2 s2 => h G2 H2 (s.trans s2)
theorem tT.mono {w : WTx} (m : MonoT w) {Q Q' : Bool → Hp → Prop} (h : ∀ b H, Q b H → Q' b H) (q : tT K F w σ H Q) : tT K F w σ H Q' := by
  obtain ⟨e, G, r, q⟩ := q
  exact ⟨e, G, r, m e _ _ _ _ (fun d e1 q1 G' H' s r' => h _ _ (q1 G' H' s r')) (fun _ _ z => z) q⟩
theorem tT.bind {w : WTx} {P : Bool → En → Prop} {e : En} {G : Hp} (m : MonoT w) (r : Rl K F.p F.G₀ F.H₀ G H σ e) (h : w e P (PX K F.p F.G₀ F.H₀ F.W G σ)) :
    tT K F w σ H (fun k H1 => ∃ e1 G1, Same G G1 ∧ Rl K F.p F.G₀ F.H₀ G1 H1 σ e1 ∧ P k e1) :=
  ⟨e, G, r, m e _ _ _ _ (fun k e1 q G' H' s r' => ⟨e1, G', s, r', q⟩) (fun _ _ z => z) h⟩
theorem dt_of {e : Expr} {t : TT} {w : WTx} (h : PT X e t) (m : MonoT w) (i : ∀ σ H Q, tT X.K F w σ H Q → t σ H Q) : DT X F e w :=
  ⟨⟨fun pins s σ H Q I q => h.run pins s σ H Q I (i σ H Q q)⟩, m⟩
theorem dw_of {e : Expr} {t : TT} {w : WTx} (h : PW X e t) (m : MonoT w) (i : ∀ σ H Q, tT X.K F w σ H Q → t σ H Q) : DW X F e w :=
  ⟨⟨fun wh pins s σ H Q I q => h.run wh pins s σ H Q I (i σ H Q q)⟩, m⟩
theorem wTest.mono {w : WEx} (m : Mono w) : MonoT (wTest w) := fun e Q Q' x x' h1 h2 q => m e _ _ _ _ (fun d e1 ⟨b, eb, z⟩ => ⟨b, eb, h1 b e1 z⟩) h2 q
theorem dt_val {e : Expr} {w : WEx} (h : DE X F e w) (he : ∀ whole, isTrue e X.env whole = (do let v ← whole; standAt e.pos; holding [v] (truthy v)) := by intro _; rfl) : DT X F e (wTest w) :=
  dt_of (pt_val h.run he) (wTest.mono h.mono) fun σ H Q ⟨e, G, r, q⟩ =>
    ⟨e, G, r, h.mono e _ _ _ _ (fun d e1 ⟨b, eb, z⟩ v G' H' s r' rv => by
      subst eb
      exact ⟨b, rv.bl_inv, z G' H' s r'⟩) (fun _ _ z => z) q⟩
theorem wAnd.mono {u v : WTx} (mu : MonoT u) (mv : MonoT v) : MonoT (wAnd u v) := fun e Q Q' x x' h1 h2 q => mu e _ _ _ _ (fun c e1 z => by
  cases c with
  | true => exact mv e1 _ _ _ _ h1 h2 z
  | false => exact h1 _ _ z) h2 q
theorem wOr.mono {u v : WTx} (mu : MonoT u) (mv : MonoT v) : MonoT (wOr u v) := fun e Q Q' x x' h1 h2 q => mu e _ _ _ _ (fun c e1 z => by
  cases c with
  | true => exact h1 _ _ z
  | false => exact mv e1 _ _ _ _ h1 h2 z) h2 q
theorem wNot.mono {u : WTx} (mu : MonoT u) : MonoT (wNot u) := fun e Q Q' x x' h1 h2 q => mu e _ _ _ _ (fun c e1 z => h1 _ _ z) h2 q
theorem wIf.mono {u : WTx} {v w : WEx} (mu : MonoT u) (mv : Mono v) (mw : Mono w) : Mono (wIf u v w) := fun e Q Q' x x' h1 h2 q => mu e _ _ _ _ (fun c e1 z => by
  cases c with
  | true => exact mv e1 _ _ _ _ h1 h2 z
  | false => exact mw e1 _ _ _ _ h1 h2 z) h2 q
variable {u v : WTx} {wa wb wc : WEx}
theorem dw_and1 (ha : DT X F a u) : DW X F (.BoolOp .And [a] pos) u := dw_of (pw_and1 ha.run) ha.mono fun _ _ _ q => q
theorem dw_or1 (ha : DT X F a u) : DW X F (.BoolOp .Or [a] pos) u := dw_of (pw_or1 ha.run) ha.mono fun _ _ _ q => q
theorem tT.and {σ : L2.St} {H : Hp} {Q : Bool → Hp → Prop} (mu : MonoT u) (mv : MonoT v) (q : tT K F (wAnd u v) σ H Q) : tAnd (tT K F u) (tT K F v) σ H Q := by
  obtain ⟨e, G, r, q⟩ := q
  refine tT.mono mu (fun k H1 z => ?_) (tT.bind mu r q)
  obtain ⟨e1, G1, s1, r1, z⟩ := z
  cases k with
  | true => exact ⟨e1, G1, r1, mv e1 _ _ _ _ (fun _ _ => PT_.mono s1) (fun _ _ => PX.mono s1) z⟩
  | false => exact z G1 H1 s1 r1
theorem tT.or {σ : L2.St} {H : Hp} {Q : Bool → Hp → Prop} (mu : MonoT u) (mv : MonoT v) (q : tT K F (wOr u v) σ H Q) : tOr (tT K F u) (tT K F v) σ H Q := by
  obtain ⟨e, G, r, q⟩ := q
  refine tT.mono mu (fun k H1 z => ?_) (tT.bind mu r q)
  obtain ⟨e1, G1, s1, r1, z⟩ := z
  cases k with
  | false => exact ⟨e1, G1, r1, mv e1 _ _ _ _ (fun _ _ => PT_.mono s1) (fun _ _ => PX.mono s1) z⟩
  | true => exact z G1 H1 s1 r1
theorem dw_and (ha : DT X F a u) (hb : DW X F (.BoolOp .And (b :: rest) pos) v) : DW X F (.BoolOp .And (a :: b :: rest) pos) (wAnd u v) :=
  dw_of (pw_and ha.run hb.run) (wAnd.mono ha.mono hb.mono) fun _ _ _ q => tT.and ha.mono hb.mono q
theorem dw_or (ha : DT X F a u) (hb : DW X F (.BoolOp .Or (b :: rest) pos) v) : DW X F (.BoolOp .Or (a :: b :: rest) pos) (wOr u v) :=
  dw_of (pw_or ha.run hb.run) (wOr.mono ha.mono hb.mono) fun _ _ _ q => tT.or ha.mono hb.mono q
theorem DW.dt (h : DW X F a u) : DT X F a u := ⟨h.run.pt, h.mono⟩
theorem dt_not (ha : DT X F a u) : DT X F (.UnaryOp .Not a pos) (wNot u) :=
  dt_of (pt_not ha.run) (wNot.mono ha.mono) fun σ H Q ⟨e, G, r, q⟩ => ⟨e, G, r, ha.mono e _ _ _ _ (fun _ _ z => z) (fun _ _ z => z) q⟩
theorem de_if (hc : DT X F c u) (ha : DE X F a wa) (hb : DE X F b wb) : DE X F (.IfExp c a b pos) (wIf u wa wb) :=
  de_of (pe_ifExp hc.run ha.run hb.run) (wIf.mono hc.mono ha.mono hb.mono) fun σ H Q ⟨e, G, r, q⟩ => by
    refine tT.mono hc.mono (fun k H1 z => ?_) (tT.bind hc.mono r q)
    obtain ⟨e1, G1, s1, r1, z⟩ := z
    cases k with
    | true => exact ⟨e1, G1, r1, ha.mono e1 _ _ _ _ (fun _ _ => PQ.mono s1) (fun _ _ => PX.mono s1) z⟩
    | false => exact ⟨e1, G1, r1, hb.mono e1 _ _ _ _ (fun _ _ => PQ.mono s1) (fun _ _ => PX.mono s1) z⟩
/-! ### bools as values -/
def wAndV (wa wb : WEx) : WEx := fun e Q x => wa e (fun d e1 => ∃ c, d = .bool c ∧ if c = true then wb e1 Q x else Q (.bool false) e1) x
def wOrV (wa wb : WEx) : WEx := fun e Q x => wa e (fun d e1 => ∃ c, d = .bool c ∧ if c = true then Q (.bool true) e1 else wb e1 Q x) x
def wNotV (wa : WEx) : WEx := fun e Q x => wa e (fun d e1 => ∃ c, d = .bool c ∧ Q (.bool (!c)) e1) x
theorem wAndV.mono (ma : Mono wa) (mb : Mono wb) : Mono (wAndV wa wb) := fun e Q Q' x x' h1 h2 q => ma e _ _ _ _ (fun d e1 ⟨c, ec, z⟩ => ⟨c, ec, by
  cases c with
  | true => exact mb e1 _ _ _ _ h1 h2 z
  | false => exact h1 _ _ z⟩) h2 q
theorem wOrV.mono (ma : Mono wa) (mb : Mono wb) : Mono (wOrV wa wb) := fun e Q Q' x x' h1 h2 q => ma e _ _ _ _ (fun d e1 ⟨c, ec, z⟩ => ⟨c, ec, by
  cases c with
  | true => exact h1 _ _ z
  | false => exact mb e1 _ _ _ _ h1 h2 z⟩) h2 q
theorem wNotV.mono (ma : Mono wa) : Mono (wNotV wa) := fun e Q Q' x x' h1 h2 q => ma e _ _ _ _ (fun d e1 ⟨c, ec, z⟩ => ⟨c, ec, h1 _ _ z⟩) h2 q
theorem de_one {op} (h : DE X F a wa) : DE X F (.BoolOp op [a] pos) wa := de_of (pe_one h.run) h.mono fun _ _ _ q => q
theorem de_and (ha : DE X F a wa) (hb : DE X F (.BoolOp .And (b :: rest) pos) wb) : DE X F (.BoolOp .And (a :: b :: rest) pos) (wAndV wa wb) :=
  de_of (pe_and ha.run hb.run) (wAndV.mono ha.mono hb.mono) fun σ H Q ⟨e, G, r, q⟩ => ⟨e, G, r, ha.mono e _ _ _ _ (fun d e1 ⟨k, ek, z⟩ v G' H' s r' rv => by
    subst ek
    refine ⟨k, rv.bl_inv, ?_⟩
    cases k with
    | true => exact ⟨e1, G', r', hb.mono e1 _ _ _ _ (fun _ _ => PQ.mono s) (fun _ _ => PX.mono s) z⟩
    | false => exact z _ G' H' s r' (.bl false)) (fun _ _ z => z) q⟩
theorem de_or (ha : DE X F a wa) (hb : DE X F (.BoolOp .Or (b :: rest) pos) wb) : DE X F (.BoolOp .Or (a :: b :: rest) pos) (wOrV wa wb) :=
  de_of (pe_or ha.run hb.run) (wOrV.mono ha.mono hb.mono) fun σ H Q ⟨e, G, r, q⟩ => ⟨e, G, r, ha.mono e _ _ _ _ (fun d e1 ⟨k, ek, z⟩ v G' H' s r' rv => by
    subst ek
    refine ⟨k, rv.bl_inv, ?_⟩
    cases k with
    | false => exact ⟨e1, G', r', hb.mono e1 _ _ _ _ (fun _ _ => PQ.mono s) (fun _ _ => PX.mono s) z⟩
    | true => exact z _ G' H' s r' (.bl true)) (fun _ _ z => z) q⟩
theorem de_not (ha : DE X F a wa) : DE X F (.UnaryOp .Not a pos) (wNotV wa) :=
  de_of (pe_not ha.run) (wNotV.mono ha.mono) fun σ H Q ⟨e, G, r, q⟩ => ⟨e, G, r, ha.mono e _ _ _ _ (fun d e1 ⟨k, ek, z⟩ v G' H' s r' rv => by
    subst ek
    exact ⟨k, rv.bl_inv, z _ G' H' s r' (.bl _)⟩) (fun _ _ z => z) q⟩
/-! ### is None -/
def isN : D → Bool
  | .none => true
  | _ => false
def wIsN (wa : WEx) : WEx := fun e Q x => wa e (fun d e1 => Q (.bool (isN d)) e1) x
def wNotN (wa : WEx) : WEx := fun e Q x => wa e (fun d e1 => Q (.bool (!isN d)) e1) x
theorem wIsN.mono (ma : Mono wa) : Mono (wIsN wa) := fun e Q Q' x x' h1 h2 q => ma e _ _ _ _ (fun d e1 z => h1 _ _ z) h2 q
theorem wNotN.mono (ma : Mono wa) : Mono (wNotN wa) := fun e Q Q' x x' h1 h2 q => ma e _ _ _ _ (fun d e1 z => h1 _ _ z) h2 q
theorem R.isN {p : Option Addr} {G : Hp} {x : V} {d : D} (h : R K p G x d) : decide (x = .non) = DL.isN d := by
  cases h <;> first | rfl | (rename_i e; subst e; rfl) | (rename_i _ e; subst e; rfl)
theorem de_isN {j} {p2 : Pos} (ha : DE X F a wa) : DE X F (.Compare a [.Is] [.Constant .none j p2] pos) (wIsN wa) :=
  de_of (pe_cmp (pc_isN ha.run) rfl) (wIsN.mono ha.mono) fun σ H Q ⟨e, G, r, q⟩ => ⟨e, G, r, ha.mono e _ _ _ _ (fun d e1 z v G' H' s r' rv => by
    show Q (.bl (decide (v = .non))) H'
    rw [rv.isN]
    exact z _ G' H' s r' (.bl _)) (fun _ _ z => z) q⟩
theorem de_notN {j} {p2 : Pos} (ha : DE X F a wa) : DE X F (.Compare a [.IsNot] [.Constant .none j p2] pos) (wNotN wa) :=
  de_of (pe_cmp (pc_notN ha.run) rfl) (wNotN.mono ha.mono) fun σ H Q ⟨e, G, r, q⟩ => ⟨e, G, r, ha.mono e _ _ _ _ (fun d e1 z v G' H' s r' rv => by
    show Q (.bl (!decide (v = .non))) H'
    rw [rv.isN]
    exact z _ G' H' s r' (.bl _)) (fun _ _ z => z) q⟩
/-! ### -n -/
def wNeg (wa : WEx) : WEx := fun e Q x => wa e (fun d e1 => ∃ i, d = .int i ∧ Q (.int (-i)) e1) x
theorem wNeg.mono (ma : Mono wa) : Mono (wNeg wa) := fun e Q Q' x x' h1 h2 q => ma e _ _ _ _ (fun d e1 ⟨i, ei, z⟩ => ⟨i, ei, h1 _ _ z⟩) h2 q
theorem de_neg (ha : DE X F a wa) : DE X F (.UnaryOp .USub a pos) (wNeg wa) :=
  de_of (pe_un un_neg ha.run) (wNeg.mono ha.mono) fun σ H Q ⟨e, G, r, q⟩ => ⟨e, G, r, ha.mono e _ _ _ _ (fun d e1 ⟨i, ei, z⟩ v G' H' s r' rv => by
    subst ei
    exact ⟨i, rv.int_inv, z _ G' H' s r' (.int _)⟩) (fun _ _ z => z) q⟩
/-! ### a < b < c -/
def wChain (f g : B2) (wa wb wc : WEx) : WEx := fun e Q x => wa e (fun d1 e1 => wb e1 (fun d2 e2 => f d1 d2 fun z => ∃ k, z = .bool k ∧ if k = true then wc e2 (fun d3 e3 => g d2 d3 fun d => Q d e3) x else Q (.bool false) e2) x) x
theorem wChain.mono {f g : B2} (hf : f.Mono) (hg : g.Mono) (ma : Mono wa) (mb : Mono wb) (mc : Mono wc) : Mono (wChain f g wa wb wc) := fun e Q Q' x x' h1 h2 q =>
  ma e _ _ _ _ (fun d1 e1 q1 => mb e1 _ _ _ _ (fun d2 e2 q2 => hf d1 d2 _ _ (fun z ⟨k, ek, y⟩ => ⟨k, ek, by
    cases k with
    | true => exact mc e2 _ _ _ _ (fun d3 e3 q3 => hg d2 d3 _ _ (fun d q4 => h1 d e3 q4) q3) h2 y
    | false => exact h1 _ _ y⟩) q2) h2 q1) h2 q
theorem tE.chain {f g : B2} {r r' : R2} (hf : f.Mono) (hg : g.Mono) (ft : Fits K f r) (gt : Fits K g r') (ma : Mono wa) (mb : Mono wb) (mc : Mono wc) {σ : L2.St} {H : Hp} {Q : VK} (q : tE K F (wChain f g wa wb wc) σ H Q) :
    tChain r r' (tE K F wa) (tE K F wb) (tE K F wc) σ H Q := by
  obtain ⟨e, G, r0, q⟩ := q
  refine tE.mono ma (fun v1 H1 q1 => ?_) (tE.bind (w := wa) (f := fun d1 e1 Q x => wb e1 (fun d2 e2 => f d1 d2 fun z => ∃ k, z = .bool k ∧ if k = true then wc e2 (fun d3 e3 => g d2 d3 fun d => Q d e3) x else Q (.bool false) e2) x) ma
    (fun d1 e1 Q Q' x x' h1 h2 q => mb e1 _ _ _ _ (fun d2 e2 q2 => hf d1 d2 _ _ (fun z ⟨k, ek, y⟩ => ⟨k, ek, by
      cases k with
      | true => exact mc e2 _ _ _ _ (fun d3 e3 q3 => hg d2 d3 _ _ (fun d q4 => h1 d e3 q4) q3) h2 y
      | false => exact h1 _ _ y⟩) q2) h2 q) r0 q)
  obtain ⟨e1, G1, d1, s1, r1, rv1, q1⟩ := q1
  refine tE.mono mb (fun v2 H2 q2 => ?_) (tE.bind (w := wb) (f := fun d2 e2 Q x => f d1 d2 fun z => ∃ k, z = .bool k ∧ if k = true then wc e2 (fun d3 e3 => g d2 d3 fun d => Q d e3) x else Q (.bool false) e2) mb
    (fun d2 e2 Q Q' x x' h1 h2 q => hf d1 d2 _ _ (fun z ⟨k, ek, y⟩ => ⟨k, ek, by
      cases k with
      | true => exact mc e2 _ _ _ _ (fun d3 e3 q3 => hg d2 d3 _ _ (fun d q4 => h1 d e3 q4) q3) h2 y
      | false => exact h1 _ _ y⟩) q) r1 q1)
  obtain ⟨e2, G2, d2, s2, r2, rv2, q2⟩ := q2
  refine ft F.p F.G₀ F.H₀ G2 H2 σ e2 v1 v2 d1 d2 _ _ r2 (rv1.mono s2) rv2 q2 fun d z v G' H' s r' rv => ?_
  obtain ⟨k, ek, z⟩ := z
  subst ek
  refine ⟨k, rv.bl_inv, ?_⟩
  cases k with
  | false => exact z _ G' H' s r' (.bl false)
  | true =>
    refine tE.mono mc (fun v3 H3 q3 => ?_) (tE.bind (w := wc) (f := fun d3 e3 Q x => g d2 d3 fun d => Q d e3) mc (fun d3 e3 Q Q' x x' h1 h2 q => hg d2 d3 _ _ (fun d q4 => h1 d e3 q4) q) r'
      (mc e2 _ _ _ _ (fun d3 e3 q3 => hg d2 d3 _ _ (fun d q4 => PQ.mono s q4) q3) (fun _ _ => PX.mono s) z))
    obtain ⟨e3, G3, d3, s3, r3, rv3, q3⟩ := q3
    exact gt F.p F.G₀ F.H₀ G3 H3 σ e3 v2 v3 d2 d3 _ Q r3 (rv2.mono (s.trans s3)) rv3 q3 fun d z v G' H' s r' rv => z v G' H' s r' rv
theorem de_chain {op op' : CmpOp} {f g : B2} {r r' : R2} (ho : OpR X (compareOp op) r) (ho' : OpR X (compareOp op') r') (hf : f.Mono) (hg : g.Mono) (ft : Fits X.K f r) (gt : Fits X.K g r') (ha : DE X F a wa) (hb : DE X F b wb) (hc : DE X F c wc)
    (hm : lastMarks [op, op'] [b, c] = false := by with_unfolding_all rfl) : DE X F (.Compare a [op, op'] [b, c] pos) (wChain f g wa wb wc) :=
  de_of (pe_chain ho ho' ha.run hb.run hc.run hm) (wChain.mono hf hg ha.mono hb.mono hc.mono) fun _ _ _ q => tE.chain hf hg ft gt ha.mono hb.mono hc.mono q
theorem dt_chain {op op' : CmpOp} {f g : B2} {r r' : R2} (ho : OpR X (compareOp op) r) (ho' : OpR X (compareOp op') r') (hf : f.Mono) (hg : g.Mono) (ft : Fits X.K f r) (gt : Fits X.K g r') (ha : DE X F a wa) (hb : DE X F b wb) (hc : DE X F c wc)
    (hm : lastMarks [op, op'] [b, c] = false := by with_unfolding_all rfl) : DT X F (.Compare a [op, op'] [b, c] pos) (wTest (wChain f g wa wb wc)) :=
  dt_of (pt_chain ho ho' ha.run hb.run hc.run hm) (wTest.mono (wChain.mono hf hg ha.mono hb.mono hc.mono)) fun σ H Q ⟨e, G, r, q⟩ =>
    tE.chain (Q := fun x H' => ∃ k, x = .bl k ∧ Q k H') hf hg ft gt ha.mono hb.mono hc.mono ⟨e, G, r, wChain.mono hf hg ha.mono hb.mono hc.mono e _ _ _ _ (fun d e1 ⟨k, ek, z⟩ v G' H' s r' rv => by
      subst ek
      exact ⟨k, rv.bl_inv, z G' H' s r'⟩) (fun _ _ z => z) q⟩
end
end L2.DL
set_option
      maxHeartbeats 1000000
namespace L2.DL
open PySem PySem.Spec
      PyProof.Rows
/-! ### arguments -/
abbrev WAx := En → (List D → En → Prop) → PD → Prop
def MonoA (w : WAx) : Prop := ∀ e Q Q' x x', (∀ b e, Q b e → Q' b e) → (∀ d e, x d e → x' d e) → w e Q x → w e Q' x'
def PA_ (K : PySem.W.Frag) (F : Fx) (G : Hp) (σ : L2.St) (Q : List V → Hp → Prop) : List D → En → Prop := fun ds e' => ∀ vs G' H', Same G G' → Rl K F.p F.G₀ F.H₀ G' H' σ e' → RA K F.p G' vs ds → Q vs H'
def tA (K : PySem.W.Frag) (F : Fx) (w : WAx) : TA := fun σ H Q => ∃ e G, Rl K F.p F.G₀ F.H₀ G H σ e ∧ w e (PA_ K F G σ Q) (PX K F.p F.G₀ F.H₀ F.W G σ)
structure DA (X : Cx) (F : Fx) (es : List Expr) (w : WAx) : Prop where
  run : PA X es (tA X.K F w)
  mono : MonoA w
def wNil : WAx := fun e Q _ => Q [] e
def wCons (wa : WEx) (wr : WAx) : WAx := fun e Q x => wa e (fun d e1 => wr e1 (fun ds e2 => Q (d :: ds) e2) x) x
section
variable {K : PySem.W.Frag} {F : Fx} {σ : L2.St} {H : Hp} {X : Cx} {pos : Pos} {a b c : Expr} {es : List Expr} {wa wb : WEx} {wr : WAx}
theorem PA_.mono {G G' : Hp} {Q : List V → Hp → Prop} {ds : List D} {e : En} (s : Same G G') (h : PA_ K F G σ Q ds e) : PA_ K F G' σ Q ds e := fun vs G2 H2 s2 => h vs G2 H2 (s.trans s2)
theorem tA.mono (m : MonoA wr) {Q Q' : List V → Hp → Prop} (h : ∀ b H, Q b H → Q' b H) (q : tA K F wr σ H Q) : tA K F wr σ H Q' := by
  obtain ⟨e, G, r, q⟩ := q
  exact ⟨e, G, r, m e _ _ _ _ (fun d e1 q1 vs G' H' s r' rv => h _ _ (q1 vs G' H' s r' rv)) (fun _ _ z => z) q⟩
theorem tA.bind {P : List D → En → Prop} {e : En} {G : Hp} (m : MonoA wr) (r : Rl K F.p F.G₀ F.H₀ G H σ e) (h : wr e P (PX K F.p F.G₀ F.H₀ F.W G σ)) :
    tA K F wr σ H (fun vs H1 => ∃ e1 G1 ds, Same G G1 ∧ Rl K F.p F.G₀ F.H₀ G1 H1 σ e1 ∧ RA K F.p G1 vs ds ∧ P ds e1) :=
  ⟨e, G, r, m e _ _ _ _ (fun ds e1 q vs G' H' s r' rv => ⟨e1, G', ds, s, r', rv, q⟩) (fun _ _ z => z) h⟩
theorem wNil.mono : MonoA wNil := fun _ _ _ _ _ h _ q => h _ _ q
theorem wCons.mono (ma : Mono wa) (mr : MonoA wr) : MonoA (wCons wa wr) := fun e Q Q' x x' h1 h2 q => ma e _ _ _ _ (fun d e1 z => mr e1 _ _ _ _ (fun ds e2 y => h1 _ _ y) h2 z) h2 q
theorem da_nil : DA X F [] wNil := ⟨⟨fun pos pins s σ H Q I ⟨e, G, r, q⟩ => pa_nil.run pos pins s σ H Q I (q [] G H (Same.refl G) r .nil)⟩, wNil.mono⟩
theorem tE.any {P : D → En → Prop} {e : En} {G : Hp} (m : Mono wa) (r : Rl K F.p F.G₀ F.H₀ G H σ e) (h : wa e P (PX K F.p F.G₀ F.H₀ F.W G σ)) :
    tE K F wa σ H (fun v H1 => ∃ e1 G1 d, Same G G1 ∧ Rl K F.p F.G₀ F.H₀ G1 H1 σ e1 ∧ R K F.p G1 v d ∧ P d e1) :=
  ⟨e, G, r, m e _ _ _ _ (fun d e1 q v G' H' s r' rv => ⟨e1, G', d, s, r', rv, q⟩) (fun _ _ z => z) h⟩
theorem da_cons (ha : DE X F a wa) (hr : DA X F es wr) (hs : starEach (a :: es) X.env = (false, eval a X.env) :: starEach es X.env := by rfl) : DA X F (a :: es) (wCons wa wr) := by
  refine ⟨⟨fun pos pins s σ H Q I q => (pa_cons ha.run hr.run hs).run pos pins s σ H Q I ?_⟩, wCons.mono ha.mono hr.mono⟩
  obtain ⟨e, G, r, q⟩ := q
  refine tE.mono ha.mono (fun v1 H1 q1 => ?_) (tE.any ha.mono r q)
  obtain ⟨e1, G1, d1, s1, r1, rv1, q1⟩ := q1
  exact ⟨e1, G1, r1, hr.mono e1 _ _ _ _ (fun ds e2 y xs G' H' s r' rv => y (v1 :: xs) G' H' (s1.trans s) r' (.cons (rv1.mono s) rv)) (fun _ _ => PX.mono s1) q1⟩
/-! ### displays -/
def wTup (w : WAx) : WEx := fun e Q x => w e (fun ds e1 => ds.length ≤ 1000 ∧ Q (.tuple ds) e1) x
def wLst (w : WAx) : WEx := fun e Q x => w e (fun ds e1 => ds.length ≤ 1000 ∧ Q (.list ds) e1) x
theorem wTup.mono (m : MonoA wr) : Mono (wTup wr) := fun e Q Q' x x' h1 h2 q => m e _ _ _ _ (fun ds e1 z => ⟨z.1, h1 _ _ z.2⟩) h2 q
theorem wLst.mono (m : MonoA wr) : Mono (wLst wr) := fun e Q Q' x x' h1 h2 q => m e _ _ _ _ (fun ds e1 z => ⟨z.1, h1 _ _ z.2⟩) h2 q
theorem le_line {n : Nat} (h : n ≤ 1000) : n ≤ sizeLine := Nat.le_trans h (by decide)
theorem de_tup {k} (h : DA X F es wr) : DE X F (.Tuple es k pos) (wTup wr) :=
  de_of (pe_tup h.run) (wTup.mono h.mono) fun σ H Q ⟨e, G, r, q⟩ => ⟨e, G, r, h.mono e _ _ _ _ (fun ds e1 z vs G' H' s r' rv => ⟨by rw [rv.length]; exact le_line z.1, fun p hp =>
    z.2 _ (upd G' p (.tup vs)) _ (s.trans (sameNew r'.same hp)) (r'.new hp) (.tup (SqT.of upd_same) (rv.mono (sameNew r'.same hp)))⟩) (fun _ _ z => z) q⟩
theorem de_lst (h : DA X F es wr) : DE X F (.List es pos) (wLst wr) :=
  de_of (pe_lst h.run) (wLst.mono h.mono) fun σ H Q ⟨e, G, r, q⟩ => ⟨e, G, r, h.mono e _ _ _ _ (fun ds e1 z vs G' H' s r' rv => ⟨by rw [rv.length]; exact le_line z.1, fun p hp =>
    z.2 _ (upd G' p (.lst vs)) _ (s.trans (sameNew r'.same hp)) (r'.new hp) (.lst upd_same (rv.mono (sameNew r'.same hp)))⟩) (fun _ _ z => z) q⟩
/-! ### built-ins -/
abbrev BL := List D → (D → Prop) → Prop
def BL.Mono (f : BL) : Prop := ∀ a P P', (∀ d, P d → P' d) → f a P → f a P'
def wBi (f : BL) (w : WAx) : WEx := fun e Q x => w e (fun ds e1 => f ds fun d => Q d e1) x
def FitsL (K : PySem.W.Frag) (f : BL) (r : List V → Hp → VK → Prop) : Prop := ∀ (p : Option Addr) (G₀ H₀ G H : Hp) (σ : L2.St) (e : En) (xs : List V) (ds : List D) (P : D → Prop) (Q : VK),
  Rl K p G₀ H₀ G H σ e → RA K p G xs ds → f ds P → (∀ d, P d → ∀ v G' H', Same G G' → Rl K p G₀ H₀ G' H' σ e → R K p G' v d → Q v H') → r xs H Q
theorem wBi.mono {f : BL} (hf : f.Mono) (m : MonoA wr) : Mono (wBi f wr) := fun e Q Q' x x' h1 h2 q => m e _ _ _ _ (fun ds e1 z => hf ds _ _ (fun d y => h1 _ _ y) z) h2 q
theorem tA.bi {f : BL} {r : List V → Hp → VK → Prop} (hf : f.Mono) (ft : FitsL K f r) (m : MonoA wr) {Q : VK} (q : tE K F (wBi f wr) σ H Q) : tCB r (tA K F wr) σ H Q := by
  obtain ⟨e, G, r0, q⟩ := q
  refine tA.mono m (fun vs H1 z => ?_) (tA.bind m r0 q)
  obtain ⟨e1, G1, ds, s1, r1, rv, z⟩ := z
  exact ft F.p F.G₀ F.H₀ G1 H1 σ e1 vs ds _ Q r1 rv z fun d y v G' H' s r' rv' => y v G' H' (s1.trans s) r' rv'
theorem de_bi {x : Str} {id : String} {f : BL} {r : List V → Hp → VK → Prop} {p : Pos} (hf : f.Mono) (ft : FitsL X.K f r) (hc : CallR X (.builtin id) r) (ha : DA X F (a :: es) wr) (hm : X.mg x = none) (hg : Gl X x := by rfl) (hv : bootBuiltins x = some (.builtin id) := by decide +kernel)
    (hn : x ≠ "__name__" := by decide) (hdb : (x == ("__debug__" : Str)) = false := by decide) (he : starEach (a :: es) X.env = (false, eval a X.env) :: starEach es X.env := by rfl) (hpl : (backTo pos (starEach es X.env)).any (·.1) = false := by rfl) :
    DE X F (.Call (.Name x p) (a :: es) [] pos) (wBi f wr) :=
  de_of (pe_callB hc hg hm hv ha.run hn hdb he hpl) (wBi.mono hf ha.mono) fun _ _ _ q => tA.bi hf ft ha.mono q
theorem de_bt {x : Str} {T : String} {f : BL} {r : List V → Hp → VK → Prop} {p : Pos} (hf : f.Mono) (ft : FitsL X.K f r) (hc : CallR X (.type T) r) (ha : DA X F (a :: es) wr) (hm : X.mg x = none) (hg : Gl X x := by rfl) (hv : bootBuiltins x = some (.type T) := by decide +kernel)
    (hn : x ≠ "__name__" := by decide) (hdb : (x == ("__debug__" : Str)) = false := by decide) (he : starEach (a :: es) X.env = (false, eval a X.env) :: starEach es X.env := by rfl) (hpl : (backTo pos (starEach es X.env)).any (·.1) = false := by rfl) :
    DE X F (.Call (.Name x p) (a :: es) [] pos) (wBi f wr) :=
  de_of (pe_callTy hc hg hm hv ha.run hn hdb he hpl) (wBi.mono hf ha.mono) fun _ _ _ q => tA.bi hf ft ha.mono q
def lenD : BL
  | [.list xs], P => P (.int xs.length)
  | [.tuple xs], P => P (.int xs.length)
  | _, _ => False
def intD : BL
  | [.int i], P => P (.int i)
  | _, _ => False
def listD : BL
  | [.list xs], P => P (.list xs)
  | [.tuple xs], P => P (.list xs)
  | _, _ => False
def tupleD : BL
  | [.list xs], P => P (.tuple xs)
  | [.tuple xs], P => P (.tuple xs)
  | _, _ => False
def reprD : BL
  | [d], P => Good d ∧ P (.str d.shown)
  | _, _ => False
theorem lenD.mono : BL.Mono lenD := by
  intro a P P' h q
  unfold lenD at q ⊢
  split at q <;> first | exact h _ q | exact q.elim
theorem intD.mono : BL.Mono intD := by
  intro a P P' h q
  unfold intD at q ⊢
  split at q <;> first | exact h _ q | exact q.elim
theorem listD.mono : BL.Mono listD := by
  intro a P P' h q
  unfold listD at q ⊢
  split at q <;> first | exact h _ q | exact q.elim
theorem tupleD.mono : BL.Mono tupleD := by
  intro a P P' h q
  unfold tupleD at q ⊢
  split at q <;> first | exact h _ q | exact q.elim
theorem reprD.mono : BL.Mono reprD := by
  intro a P P' h q
  unfold reprD at q ⊢
  split at q
  · exact ⟨q.1, h _ q.2⟩
  · exact q.elim
theorem RA.one {p : Option Addr} {G : Hp} {xs : List V} {d : D} (h : RA K p G xs [d]) : ∃ x, xs = [x] ∧ R K p G x d := by
  cases h with
  | cons a b => cases b; exact ⟨_, rfl, a⟩
theorem fitsLen : FitsL K lenD (fun xs H Q => ∃ p ys, xs = [.ref p] ∧ (SqL K H p ys ∨ SqT K H p ys) ∧ Q (.int ys.length) H) := by
  intro p G₀ H₀ G H σ e xs ds P Q r ra q k
  unfold lenD at q
  split at q
  · obtain ⟨x, rfl, rx⟩ := ra.one
    obtain ⟨a, ys, rfl, h1, r1⟩ := rx.lst_inv
    exact ⟨a, ys, rfl, .inl (SqL.of (r.same _ _ h1)), by rw [r1.length]; exact ans r (.int _) k q⟩
  · obtain ⟨x, rfl, rx⟩ := ra.one
    obtain ⟨a, ys, rfl, h1, r1⟩ := rx.tup_inv
    exact ⟨a, ys, rfl, .inr (sameT r.same h1), by rw [r1.length]; exact ans r (.int _) k q⟩
  · exact q.elim
theorem fitsInt : FitsL K intD (fun xs H Q => (∃ i, xs = [.int i] ∧ Q (.int i) H) ∨ ∃ k, xs = [.bl k] ∧ Q (.int (if k then 1 else 0)) H) := by
  intro p G₀ H₀ G H σ e xs ds P Q r ra q k
  unfold intD at q
  split at q
  · obtain ⟨x, rfl, rx⟩ := ra.one
    cases rx.int_inv
    exact .inl ⟨_, rfl, ans r (.int _) k q⟩
  · exact q.elim
theorem fitsTuple : FitsL K tupleD (fun xs H Q => ∃ p ys, xs = [.ref p] ∧ ((SqL K H p ys ∧ ∀ l, H l = none → Q (.ref l) (upd H l (.tup ys))) ∨ (SqT K H p ys ∧ Q (.ref p) H))) := by
  intro p G₀ H₀ G H σ e xs ds P Q r ra q k
  unfold tupleD at q
  split at q
  · obtain ⟨x, rfl, rx⟩ := ra.one
    obtain ⟨a, ys, rfl, h1, r1⟩ := rx.lst_inv
    exact ⟨a, ys, rfl, .inl ⟨SqL.of (r.same _ _ h1), fun l hl => ansT r r1 k q hl⟩⟩
  · obtain ⟨x, rfl, rx⟩ := ra.one
    obtain ⟨a, ys, rfl, h1, r1⟩ := rx.tup_inv
    exact ⟨a, ys, rfl, .inr ⟨sameT r.same h1, ans r rx k q⟩⟩
  · exact q.elim
/-- repr of data -/
def rRepr (K : PySem.W.Frag) : List V → Hp → VK → Prop := fun xs H Q => ∃ x d, xs = [x] ∧ Dp K H x d ∧ Good d ∧ Q (.str d.shown) H
theorem call_reprD (hg : X.A.guards = some []) (hu : X.A.units + 64 < cLine) : CallR X (.builtin "repr") (rRepr X.K) := by
  intro pins s σ
        H xs us Q I r h
  obtain ⟨x, d, rfl, hd, ok, q⟩ := h
  obtain ⟨u, rfl,
        ru⟩ := vals1 r
  obtain ⟨as, rd⟩ := Dp.reads I d x u hd ru
  have fin : ∀ h' tk t, (∀ b o, s.heap.get? b = some o → h'.get? b = some o) → EP X pins σ Q (.str d.shown t) { s with heap := h', toks := tk } := fun h' tk t k => ⟨.str d.shown, H, I.kept (t' := tk) k, ⟨_, rfl⟩, q⟩
  have far : ∀ a, u = .ref a → wpAny (model X.prog X.w) X.A (call (.builtin "repr") [u]) (EP X pins σ Q) X.xe s := fun a e => by
    subst e
    exact repr_of_reads' rd (fine.showable d ok.f) (PyData.noDict_hsm ok.noDict) hg (by have := ok.d; omega) (fun _ _ z => z) (fun h' t tk k => fin h' tk t k) ok.shownLen
  cases hd with
  | non => cases ru; exact PySem.P.repr_of_none (fin s.heap _ _ fun _ _ z => z)
  | bl b => cases ru; exact PySem.P.repr_of_bool (fin s.heap _ _ fun _ _ z => z)
  | int i =>
    obtain ⟨t, rfl⟩ := ru
    exact PySem.P.repr_of_int (log2_120 (of_decide_eq_true (by have := ok.f; unfold fine at this; exact this))) (fin s.heap _ _ fun _ _ z => z)
  | str z =>
    obtain ⟨t, rfl⟩ := ru
    exact PySem.P.repr_of_str (fin s.heap _ _ fun _ _ z => z) ok.shownLen
  | lst _ _ => exact far _ ru
  | tup _ _ => exact far _ ru
theorem fitsRepr : FitsL K reprD (rRepr K) := by
  intro p G₀ H₀ G H σ e xs ds P Q r ra q k
  unfold reprD at q
  split at q
  · obtain ⟨x, rfl, rx⟩ := ra.one
    exact ⟨x, _, rfl, rx.dp r.same q.1.noDict, q.1, ans r (.str _) k q.2⟩
  · exact q.elim
/-! ### xs[i], xs[a:b] -/
def idxD : B2
  | .list xs, .int i, P => ∃ d, atI xs i = some d ∧ P d
  | .tuple xs, .int i, P => ∃ d, atI xs i = some d ∧ P d
  | _, _, _ => False
theorem idxD.mono : B2.Mono idxD := by
  intro a b P P' h q
  unfold idxD at q ⊢
  split at q
  · obtain ⟨d, e, z⟩ := q; exact ⟨d, e, h _ z⟩
  · obtain ⟨d, e, z⟩ := q; exact ⟨d, e, h _ z⟩
  · exact q.elim
theorem RA.at {p : Option Addr} {G : Hp} {xs : List V} {ds : List D} {i : Int} {d : D} (h : RA K p G xs ds) (e : atI ds i = some d) : ∃ v, atI xs i = some v ∧ R K p G v d := by
  unfold atI at e ⊢
  rw [h.length]
  cases hn : ixN ds.length i with
  | none => rw [hn] at e; cases e
  | some j =>
    rw [hn] at e
    exact h.get (i := j) e
theorem fitsIdx : Fits K idxD (fun x y H Q => rIxL K x y H Q ∨ rIxT K x y H Q) := by
  intro p G₀ H₀ G H σ e x y a b P Q r ra rb q k
  unfold idxD at q
  split at q
  · obtain ⟨l, xs, rfl, h1, r1⟩ := ra.lst_inv
    cases rb.int_inv
    obtain ⟨d, ed, z⟩ := q
    obtain ⟨v, ev, rv⟩ := r1.at ed
    exact .inl ⟨l, xs, _, v, rfl, rfl, SqL.of (r.same _ _ h1), ev, ans r rv k z⟩
  · obtain ⟨l, xs, rfl, h1, r1⟩ := ra.tup_inv
    cases rb.int_inv
    obtain ⟨d, ed, z⟩ := q
    obtain ⟨v, ev, rv⟩ := r1.at ed
    exact .inr ⟨l, xs, _, v, rfl, rfl, sameT r.same h1, ev, ans r rv k z⟩
  · exact q.elim
theorem de_idx (ha : DE X F a wa) (hb : DE X F b wb) (hs : PlainIx b := by intro _ _; rfl) : DE X F (.Subscript a b pos) (wBin idxD wa wb) :=
  de_of (pe_ix (ix_list.or ix_tup) ha.run hb.run hs) (wBin.mono idxD.mono ha.mono hb.mono) fun σ H Q q => tE.two idxD.mono fitsIdx ha.mono hb.mono q
/-- an end of a slice -/
abbrev WOx := En → (Option Int → En → Prop) → PD → Prop
def MonoO (w : WOx) : Prop := ∀ e Q Q' x x', (∀ b e, Q b e → Q' b e) → (∀ d e, x d e → x' d e) → w e Q x → w e Q' x'
def tO (K : PySem.W.Frag) (F : Fx) (w : WOx) : TO := fun σ H Q => ∃ e G, Rl K F.p F.G₀ F.H₀ G H σ e ∧ w e (fun o e' => ∀ G' H', Same G G' → Rl K F.p F.G₀ F.H₀ G' H' σ e' → Q o H') (PX K F.p F.G₀ F.H₀ F.W G σ)
structure DO (X : Cx) (F : Fx) (e : Option Expr) (w : WOx) : Prop where
  run : PO X e (tO X.K F w)
  mono : MonoO w
def wNo : WOx := fun e Q _ => Q none e
def wSo (w : WEx) : WOx := fun e Q x => w e (fun d e1 => ∃ i, d = .int i ∧ Q (some i) e1) x
theorem do_none : DO X F none wNo := ⟨⟨fun pins s σ H Q I ⟨e, G, r, q⟩ => po_none.run pins s σ H Q I (q G H (Same.refl G) r)⟩, fun _ _ _ _ _ h _ q => h _ _ q⟩
theorem do_some (h : DE X F a wa) : DO X F (some a) (wSo wa) :=
  ⟨⟨fun pins s σ H Q I ⟨e, G, r, q⟩ => (po_some h.run).run pins s σ H Q I ⟨e, G, r, h.mono e _ _ _ _ (fun d e1 ⟨i, ei, z⟩ v G' H' s r' rv => by
    subst ei
    exact ⟨i, rv.int_inv, z G' H' s r'⟩) (fun _ _ z => z) q⟩⟩, fun e Q Q' x x' h1 h2 q => h.mono e _ _ _ _ (fun d e1 ⟨i, ei, z⟩ => ⟨i, ei, h1 _ _ z⟩) h2 q⟩
def cutD (xs : List D) (lo hi : Option Int) : List D := (xs.drop (HT.sIx xs.length 0 lo)).take (HT.sIx xs.length xs.length hi - HT.sIx xs.length 0 lo)
def slD : D → Option Int → Option Int → (D → Prop) → Prop
  | .list xs, lo, hi, P => P (.list (cutD xs lo hi))
  | .tuple xs, lo, hi, P => P (.tuple (cutD xs lo hi))
  | _, _, _, _ => False
theorem slD.mono {a : D} {lo hi : Option Int} {P P' : D → Prop} (h : ∀ d, P d → P' d) (q : slD a lo hi P) : slD a lo hi P' := by
  unfold slD at q ⊢
  split at q <;> first | exact h _ q | exact q.elim
def wSl (wa : WEx) (wl wh : WOx) : WEx := fun e Q x => wa e (fun d e1 => wl e1 (fun lo e2 => wh e2 (fun hi e3 => slD d lo hi fun z => Q z e3) x) x) x
variable {wl wh : WOx} {lo hi : Option Expr}
theorem RA.cut {p : Option Addr} {G : Hp} {xs : List V} {ds : List D} (h : RA K p G xs ds) (lo hi : Option Int) : RA K p G (cutV xs lo hi) (cutD ds lo hi) := by
  unfold cutV cutD
  rw [h.length]
  exact (h.drop _).take _
theorem cutD_whole {ds : List D} {lo hi : Option Int} (h : HT.sIx ds.length 0 lo = 0 ∧ HT.sIx ds.length ds.length hi = ds.length) : cutD ds lo hi = ds := by
  unfold cutD
  rw [h.1, h.2]
  simp
theorem de_sl {p2 : Pos} (ha : DE X F a wa) (hl : DO X F lo wl) (hh : DO X F hi wh) : DE X F (.Subscript a (.Slice lo hi none p2) pos) (wSl wa wl wh) := by
  refine de_of (pe_slice (sl_list.or sl_tupA) ha.run hl.run hh.run) (fun e Q Q' x x' h1 h2 q => ha.mono e _ _ _ _ (fun d e1 q1 => hl.mono e1 _ _ _ _ (fun o e2 q2 => hh.mono e2 _ _ _ _ (fun u e3 q3 => slD.mono (fun z y => h1 _ _ y) q3) h2 q2) h2 q1) h2 q) fun σ H Q q => ?_
  obtain ⟨e, G, r, q⟩ := q
  refine tE.mono ha.mono (fun v H1 z => ?_) (tE.any ha.mono r q)
  obtain ⟨e1, G1, d, s1, r1, rv, z⟩ := z
  refine ⟨e1, G1, r1, hl.mono e1 _ _ _ _ (fun o e2 z2 G2 H2 s2 r2 => ?_) (fun _ _ => PX.mono s1) z⟩
  refine ⟨e2, G2, r2, hh.mono e2 _ _ _ _ (fun u e3 z3 G3 H3 s3 r3 => ?_) (fun _ _ => PX.mono (s1.trans s2)) z2⟩
  have rv3 := rv.mono (s2.trans s3)
  have s13 := s1.trans (s2.trans s3)
  cases d with
  | list ds =>
    obtain ⟨l, xs, rfl, g1, ra⟩ := rv3.lst_inv
    exact .inl ⟨l, xs, rfl, SqL.of (r3.same _ _ g1), fun p hp => z3 _ (upd G3 p (.lst (cutV xs o u))) _ (s13.trans (sameNew r3.same hp)) (r3.new hp) (.lst upd_same ((ra.cut o u).mono (sameNew r3.same hp)))⟩
  | tuple ds =>
    obtain ⟨l, xs, rfl, g1, ra⟩ := rv3.tup_inv
    refine .inr ⟨l, xs, rfl, sameT r3.same g1, fun hw => ?_, fun hw p hp => z3 _ (upd G3 p (.tup (cutV xs o u))) _ (s13.trans (sameNew r3.same hp)) (r3.new hp) (.tup (SqT.of upd_same) ((ra.cut o u).mono (sameNew r3.same hp)))⟩
    rw [ra.length] at hw
    have z4 : _ := z3
    simp only [slD, cutD_whole hw] at z4
    exact z4 _ G3 _ s13 r3 rv3
  | _ => exact z3.elim
end
end L2.DL
set_option
      maxHeartbeats 1000000
namespace L2.DL
open PySem PySem.Spec
      PyProof.Rows
/-! ### defs, where nothing is being shown (repr wants that known) -/
structure FnG (P : Program) (w : World) (K : PySem.W.Frag) (mg : Str → Option Value) (base : Heap) (k : Nat) (f : Addr) (fd : FuncData) (ps : List Str) (sp : Sp) : Prop where
  len : ∀ vs H Q E,
        sp vs H Q E → vs.length = ps.length
  run : ∀ (A : Around) (outer : List Env) (s : Shared) (H : Hp) (args : Args) (us : List Value) (vs : List V) (Q : VK) (E : XK), A.guards = some [] → Room k A → Env0 P w K mg base A outer s H → BindsTo s fd args (ps.zip us) → Vals vs us →
    sp vs H Q E → codeAny (model P w) A (.call (.ref f) args) (CR (L2.CX P w) outer P w H s Q E) s
section
variable {P : Program} {w : World} {K :
      PySem.W.Frag} {mg : Str → Option Value} {base : Heap}
theorem FnG.mono {j k : Nat} {f : Addr} {fd : FuncData} {ps : List Str} {sp : Sp} (F : FnG P w K mg base j f fd ps sp) (h : j ≤ k) : FnG P w K mg base k f fd ps sp :=
  ⟨F.len, fun A outer s H args us vs Q E hg hr => F.run A outer s H args us vs Q E hg (hr.mono h)⟩
theorem FnG.imp {k : Nat} {f : Addr} {fd : FuncData} {ps : List Str} {sp sp' : Sp} (F : FnG P w K mg base k f fd ps sp) (h : ∀ vs H Q E, sp' vs H Q E → sp vs H Q E) : FnG P w K mg base k f fd ps sp' :=
  ⟨fun vs H Q E q => F.len vs H Q E (h _ _ _ _ q), fun A outer s H args us vs Q E hg hr e b r q => F.run A outer s H args us vs Q E hg hr e b r (h _ _ _ _ q)⟩
/-- a def by its body -/
theorem fnG_of {x qual : Str} {st : Stmt} {f : Addr} {fd : FuncData} {N ps : List Str} {k : Nat} {sp : Sp} (F : Fun K x qual st f fd) (S : FnScope N ps (defScope st)) (len : ∀ vs H Q E, sp vs H Q E → vs.length = ps.length)
    (hbody : ∀ (cdv : Value) (A : Around) (outer : List Env) (s : Shared) (H : Hp) (vs : List V) (Q : VK) (E : XK), A.guards = some [] → Room k (A.deeper (envOfC qual (defScope st) s.heap.objs.size f cdv)) → sp vs H Q E →
      ∃ t, PSs (cxOf (L2.CX P w) P w K mg base N qual (defScope st) f cdv A outer s H E) (defBody st) t ∧ t { nx := fun _ H' => Q .non H', rt := Q } (start N vs) H) : FnG P w K mg base (k + 1) f fd ps sp := by
  obtain ⟨oc, od, kV, doc, pm, an,
        cdv, ct, osl, rfl, lk, hcd⟩ := F.ex
  refine ⟨len, ?_⟩
  intro A outer s H args us vs Q E hg hr e0 hb rv hsp
  have kept : K.In s.heap := e0.mod.kin.keeps fun b o e => (e0.bs b o e).1
  have nlim : s.heap.NoLimit := e0.mod.nolimit.keeps fun b o e => (e0.bs b o e).1
  have names : ∀ y ∈ ps.zip us, (defScope st).names.lookup y.1 = some .local ∨ ((defScope st).names.lookup y.1 = some .cell ∧ ((cellsFrom (s.heap.objs.size + 1) (defScope st).names []).lookup y.1).isSome = true) := by
    intro y hy
    rcases S.par y.1 (List.of_mem_zip (a := y.1) (b := y.2) hy).1 with q | q
    · exact Or.inl q
    · exact Or.inr ⟨q, PySem.W.cellsFrom_some _ _ _ (Or.inl q)⟩
  apply codeAny_call_function hr.depth (kept _ _ lk) rfl S.co S.gen rfl (PySem.W.codeRec_of kept hcd)
  apply hb
  apply wpAny_newFunctionEnv_cells S.kind names
  intro env he s1 x
  cases he
  refine ⟨nlim.keeps x.toInCall.keep, codeAny_func ?_⟩
  obtain ⟨t, ht, hq⟩ := hbody cdv A outer s H vs Q E hg (hr.deeper _) hsp
  have J := inv_start (CX := L2.CX P w) (E := E) S hr.hd e0 (len _ _ _ _ hsp) rv x
  refine wpAny_mono (ht.run [] s1 (start N vs) H _ J hq) ?_ fun e s' z => z
  intro fl s' z
  cases fl with
  | ret u => obtain ⟨v, σ', H', J', r', q⟩ := z; exact ⟨v, H', J'.os, J'.bare, J'.base, J'.hok, r', q⟩
  | next => obtain ⟨σ', H', J', q⟩ := z; exact ⟨V.non, H', J'.os, J'.bare, J'.base, J'.hok, rfl, q⟩
  | brk => obtain ⟨_, _, _, q⟩ := z; exact q.elim
  | cont => obtain ⟨_, _, _, q⟩ := z; exact q.elim
end
/-! ### calls -/
abbrev Wc := List D → Nat → (D → Nat → Prop) → (D → Nat → Prop) → Prop
def Wc.Mono (w : Wc) : Prop := ∀ ds k Q Q' x x', (∀ d k, Q d k → Q' d k) → (∀ d k, x d k → x' d k) → w ds k Q x → w ds k Q' x'
/-- a def's promise over data -/
def spD (K : PySem.W.Frag) (w : Wc) : Sp := fun vs H Q E => ∃ p G ds k, Wd K p k G H ∧ RA K p G vs ds ∧
  w ds k (fun d k' => ∀ v G' H', Stp p G H G' H' → Wd K p k' G' H' → R K p G' v d → Q v H') (fun x k' => ∀ C G' H', Stp p G H G' H' → Wd K p k' G' H' → x = excD C → E (.ref C) none H')
def wCall (wf : Wc) (wa : WAx) : WEx := fun e Q x => wa e (fun ds e1 => wf ds e1.k (fun d k' => Q d { e1 with k := k' }) (fun y k' => x y { e1 with k := k' })) x
section
variable {X : Cx} {F : Fx} {pos : Pos} {a : Expr} {es : List Expr} {wr : WAx}
theorem wCall.mono {wf : Wc} (mf : wf.Mono) (m : MonoA wr) : Mono (wCall wf wr) := fun e Q Q' x x' h1 h2 q => m e _ _ _ _ (fun ds e1 z => mf ds e1.k _ _ _ _ (fun d k => h1 _ _) (fun d k => h2 _ _) z) h2 q
theorem run_fnG {W : WX} {k : Nat} {f : Addr} {fd : FuncData} {ps : List Str} {sp : Sp} {pins : List (Addr × Obj)} {σ : L2.St} {H : Hp} {s : Shared} {Q : VK} {us : List Value} {vs : List V}
    (FN : FnG X.prog X.w X.K X.mg X.base k f fd ps sp) (hg : X.A.guards = some []) (hr : Room k X.A) (hb : Binds X.K fd ps []) (tk : Takes X W) (I : Inv X pins σ H s) (r : Vals vs us) (h : sp vs H Q (WE W σ)) :
    wpAny (model X.prog X.w) X.A (call (.ref
          f) us) (EP X pins σ Q) X.xe s := by
  have hl : us.length = ps.length := by rw [← r.length]; exact FN.len _ _ _ _ h
  have b :=
        hb s us I.kIn (by rw [List.append_nil]; exact hl)
  rw [List.append_nil] at b
  apply wpAny_call
  refine codeAny_mono (FN.run X.A X.stack s H ⟨us, []⟩ us vs Q (WE W σ) hg hr I.env0 b r h) ?_
  intro res s' z
  cases res with
  | error e => exact passAt tk σ pins H s e s' I z
  | ok fl =>
    cases fl with
    | ret u => exact I.after z
    | next => exact z.elim
    | brk => exact z.elim
    | cont => exact z.elim
theorem pe_callG {W : WX} {k : Nat} {f : Addr} {fd : FuncData} {ps : List Str} {sp : Sp} {x : Str} {p : Pos} {t : TA} (FN : FnG X.prog X.w X.K X.mg X.base k f fd ps sp) (hgd : X.A.guards = some []) (hr : Room k X.A) (hg : Gl X x) (hm : X.mg x = some (.ref f)) (hk : PySem.W.keepIn X.K (.ref f) = true)
    (hb : Binds X.K fd ps []) (tk : Takes X W) (ha : PA X (a :: es) t) (hdb : (x == ("__debug__" : Str)) = false) (he : starEach (a :: es) X.env = (false, eval a X.env) :: starEach es X.env) (hpl : (backTo pos (starEach es X.env)).any (·.1) = false) :
    PE X (.Call (.Name x p) (a :: es) [] pos) (tCallS sp (WE W) t) := by
  constructor
  intro pins s σ H Q I h
  apply wpAny_Call_Name_kw
  apply ld_glob I hg hm _ hdb
  apply PySem.W.callWith_K (h₀ := X.base) I.ok.mod.kin hk _ he hpl
  exact thn (ha.run pos pins s σ H _ I h) fun us s1 ⟨vs, H1, I1, r, q⟩ => ⟨I1.kIn, run_fnG FN hgd hr hb tk I1 r q⟩
theorem tA.call {K : PySem.W.Frag} {wf : Wc} (mf : wf.Mono) (m : MonoA wr) {σ : L2.St} {H : Hp} {Q : VK} (q : tE K F (wCall wf wr) σ H Q) : tCallS (spD K wf) (WE F.W) (tA K F wr) σ H Q := by
  obtain ⟨e, G, r0, q⟩ := q
  refine tA.mono m (fun vs H1 z => ?_) (tA.bind m r0 q)
  obtain ⟨e1, G1, ds, s1, r1, ra, z⟩ := z
  exact ⟨F.p, G1, ds, e1.k, r1.wd, ra, mf ds e1.k _ _ _ _ (fun d k' h v G' H' st wd rv => h v G' H' (s1.trans st.gg) (r1.step st wd) rv) (fun y k' h C G' H' st wd ec => h C G' H' (s1.trans st.gg) (r1.step st wd) ec) z⟩
theorem de_call {wf : Wc} {k : Nat} {f : Addr} {fd : FuncData} {ps : List Str} {x : Str} {p : Pos} (FN : FnG X.prog X.w X.K X.mg X.base k f fd ps (spD X.K wf)) (mf : wf.Mono) (hgd : X.A.guards = some []) (hr : Room k X.A) (hm : X.mg x = some (.ref f)) (hk : PySem.W.keepIn X.K (.ref f) = true)
    (hb : Binds X.K fd ps []) (tk : Takes X F.W) (ha : DA X F (a :: es) wr) (hg : Gl X x := by rfl) (hdb : (x == ("__debug__" : Str)) = false := by decide) (he : starEach (a :: es) X.env = (false, eval a X.env) :: starEach es X.env := by rfl) (hpl : (backTo pos (starEach es X.env)).any (·.1) = false := by rfl) :
    DE X F (.Call (.Name x p) (a :: es) [] pos) (wCall wf wr) :=
  de_of (pe_callG FN hgd hr hg hm hk hb tk ha.run hdb he hpl) (wCall.mono mf ha.mono) fun _ _ _ q => tA.call mf ha.mono q
end
/-! ### statements -/
structure DEnds where
  nx : En → Prop
  rt : PD
  bk : En → Prop
  ct : En → Prop
  ex : PD
structure DEnds.le (A B : DEnds) : Prop where
  nx : ∀ e, A.nx e → B.nx e
  rt : ∀ d e, A.rt d e → B.rt d e
  bk : ∀ e, A.bk e → B.bk e
  ct : ∀ e, A.ct e → B.ct e
  ex : ∀ d e, A.ex d e → B.ex d e
abbrev WSt := En → DEnds → Prop
def MonoS (w : WSt) : Prop := ∀ e A B, DEnds.le A B → w e A → w e B
def endsOf (K : PySem.W.Frag) (F : Fx) (G : Hp) (D : Ends) : DEnds where
  nx := fun e' => ∀ σ' G' H', Same G G' → Rl K F.p F.G₀ F.H₀ G' H' σ' e' → D.nx σ' H'
  rt := fun d e' => ∀ v σ' G' H', Same G G' → Rl K F.p F.G₀ F.H₀ G' H' σ' e' → R K F.p G' v d → D.rt v H'
  bk := fun e' => ∀ σ' G' H', Same G G' → Rl K F.p F.G₀ F.H₀ G' H' σ' e' → D.bk σ' H'
  ct := fun e' => ∀ σ' G' H', Same G G' → Rl K F.p F.G₀ F.H₀ G' H' σ' e' → D.ct σ' H'
  ex := fun x e' => ∀ C σ' G' H', Same G G' → Rl K F.p F.G₀ F.H₀ G' H' σ' e' → x = excD C → F.W (.ref C) none σ' H'
def tS (K : PySem.W.Frag) (F : Fx) (w : WSt) : TS := fun D σ H => ∃ e G, Rl K F.p F.G₀ F.H₀ G H σ e ∧ w e (endsOf K F G D)
structure DS (X : Cx) (F : Fx) (st : Stmt) (w : WSt) : Prop where
  run : PS X st (tS X.K F w)
  mono : MonoS w
structure DSs (X : Cx) (F : Fx) (st : List Stmt) (w : WSt) : Prop where
  run : PSs X st (tS X.K F w)
  mono : MonoS w
def put (e : En) (i : Nat) (z : Slot) : En := { e with s := e.s.set i z }
section
variable {K : PySem.W.Frag} {F : Fx} {σ : L2.St} {H : Hp} {X : Cx} {pos : Pos} {a b c : Expr} {st : Stmt} {rest : List Stmt} {wa wb : WEx} {w1 w2 : WSt}
theorem endsOf.le {G G' : Hp} {D : Ends} (s : Same G G') : DEnds.le (endsOf K F G D) (endsOf K F G' D) :=
  ⟨fun _ h σ' G2 H2 s2 => h σ' G2 H2 (s.trans s2), fun _ _ h v σ' G2 H2 s2 => h v σ' G2 H2 (s.trans s2), fun _ h σ' G2 H2 s2 => h σ' G2 H2 (s.trans s2), fun _ h σ' G2 H2 s2 => h σ' G2 H2 (s.trans s2), fun _ _ h C σ' G2 H2 s2 => h C σ' G2 H2 (s.trans s2)⟩
theorem DEnds.le.refl (A : DEnds) : DEnds.le A A := ⟨fun _ z => z, fun _ _ z => z, fun _ z => z, fun _ z => z, fun _ _ z => z⟩
theorem ds_of {t : TS} {w : WSt} (h : PS X st t) (m : MonoS w) (i : ∀ D σ H, tS X.K F w D σ H → t D σ H) : DS X F st w :=
  ⟨⟨fun pins s σ H D I q => h.run pins s σ H D I (i D σ H q)⟩, m⟩
theorem dss_of {t : TS} {w : WSt} {sts : List Stmt} (h : PSs X sts t) (m : MonoS w) (i : ∀ D σ H, tS X.K F w D σ H → t D σ H) : DSs X F sts w :=
  ⟨⟨fun pins s σ H D I q => h.run pins s σ H D I (i D σ H q)⟩, m⟩
def wNext : WSt := fun e D => D.nx e
def wSeq (w1 w2 : WSt) : WSt := fun e D => w1 e { D with nx := fun e' => w2 e' D }
theorem wSeq.mono (m1 : MonoS w1) (m2 : MonoS w2) : MonoS (wSeq w1 w2) := fun e A B l q => m1 e { A with nx := fun e' => w2 e' A } _ ⟨fun e' z => m2 e' _ _ l z, l.rt, l.bk, l.ct, l.ex⟩ q
theorem tS.seq (m1 : MonoS w1) (m2 : MonoS w2) {D : Ends} (q : tS K F (wSeq w1 w2) D σ H) : tSeq (tS K F w1) (tS K F w2) D σ H := by
  obtain ⟨e, G, r, q⟩ := q
  exact ⟨e, G, r, m1 e { endsOf K F G D with nx := fun e' => w2 e' (endsOf K F G D) } _ ⟨fun e' z σ' G' H' s r' => ⟨e', G', r', m2 e' _ _ (endsOf.le s) z⟩, fun _ _ z => z, fun _ z => z, fun _ z => z, fun _ _ z => z⟩ q⟩
theorem dss_nil : DSs X F [] wNext := dss_of pss_nil (fun _ _ _ l z => l.nx _ z) fun D σ H ⟨e, G, r, q⟩ => q σ G H (Same.refl G) r
theorem dss_one (h : DS X F st w1) : DSs X F [st] w1 := dss_of (pss_one h.run) h.mono fun _ _ _ q => q
theorem dss_cons (h1 : DS X F st w1) (h2 : DSs X F rest w2) : DSs X F (st :: rest) (wSeq w1 w2) := dss_of (pss_cons h1.run h2.run) (wSeq.mono h1.mono h2.mono) fun _ _ _ q => tS.seq h1.mono h2.mono q
/-- an expression in a statement -/
theorem tS.expr {w : WEx} {k : DEnds → PD} {D : Ends} {T : VK} (m : Mono w) {e : En} {G : Hp} (r : Rl K F.p F.G₀ F.H₀ G H σ e) (q : w e (k (endsOf K F G D)) (endsOf K F G D).ex)
    (hk : ∀ d e' v G' H', Same G G' → Rl K F.p F.G₀ F.H₀ G' H' σ e' → R K F.p G' v d → k (endsOf K F G D) d e' → T v H') : tE K F w σ H T :=
  ⟨e, G, r, m e _ _ _ _ (fun d e' z v G' H' s r' rv => hk d e' v G' H' s r' rv z) (fun y e' z C G' H' s r' ec => z C σ G' H' s r' ec) q⟩
def wDrop (w : WEx) : WSt := fun e D => w e (fun _ e1 => D.nx e1) D.ex
def wRet (w : WEx) : WSt := fun e D => w e D.rt D.ex
def wSet (i : Nat) (w : WEx) : WSt := fun e D => w e (fun d e1 => D.nx (put e1 i (.dat d))) D.ex
theorem wDrop.mono (m : Mono wa) : MonoS (wDrop wa) := fun e A B l q => m e _ _ _ _ (fun _ _ z => l.nx _ z) l.ex q
theorem wRet.mono (m : Mono wa) : MonoS (wRet wa) := fun e A B l q => m e _ _ _ _ l.rt l.ex q
theorem wSet.mono {i : Nat} (m : Mono wa) : MonoS (wSet i wa) := fun e A B l q => m e _ _ _ _ (fun _ _ z => l.nx _ z) l.ex q
theorem ds_drop (h : DE X F a wa) (hs : swapsWith a none pos.line X.env = pure false := by rfl) : DS X F (.Expr a pos) (wDrop wa) :=
  ds_of (ps_expr h.run hs) (wDrop.mono h.mono) fun D σ H ⟨e, G, r, q⟩ => tS.expr (k := fun D _ e1 => D.nx e1) h.mono r q fun d e' v G' H' s r' rv z => z σ G' H' s r'
theorem ds_ret (h : DE X F a wa) : DS X F (.Return (some a) pos) (wRet wa) :=
  ds_of (ps_ret h.run) (wRet.mono h.mono) fun D σ H ⟨e, G, r, q⟩ => tS.expr (k := fun D => D.rt) h.mono r q fun d e' v G' H' s r' rv z => z v σ G' H' s r' rv
theorem Rl.put {p : Option Addr} {G₀ H₀ G : Hp} {e : En} {i : Nat} {v : V} {d : D} (r : Rl K p G₀ H₀ G H σ e) (rv : R K p G v d) : Rl K p G₀ H₀ G H (σ.set i (some v)) (put e i (.dat d)) := by
  obtain ⟨α, r⟩ := r
  have own_ne : ∀ {j : Nat} {ds}, (e.s.set i (.dat d))[j]? = some (.own ds) → j ≠ i ∧ e.s[j]? = some (.own ds) := fun {j ds} h => by
    by_cases hj : i = j
    · subst hj
      by_cases hl : i < e.s.length
      · rw [List.getElem?_set_self hl] at h; cases h
      · rw [List.getElem?_eq_none (by simpa using hl)] at h; cases h
    · rw [List.getElem?_set_ne hj] at h
      exact ⟨Ne.symm hj, h⟩
  refine ⟨α, r.w, r.st, by simpa [DL.put] using r.len, fun j d' h => ?_, fun j ds h => ?_, fun j k ds es h1 h2 => r.sep j k ds es (own_ne h1).2 (own_ne h2).2, r.bo.env (fun j z h => ?_) fun j ds h => .inl ⟨ds, (own_ne h).2, rfl⟩⟩
  · have h' : (e.s.set i (.dat d))[j]? = some (.dat d') := h
    by_cases hj : i = j
    · subst hj
      by_cases hl : i < e.s.length
      · rw [List.getElem?_set_self hl] at h'
        cases h'
        exact ⟨v, List.getElem?_set_self (by rw [r.len]; exact hl), rv⟩
      · rw [List.getElem?_eq_none (by simpa using hl)] at h'; cases h'
    · rw [List.getElem?_set_ne hj] at h'
      rw [List.getElem?_set_ne hj]
      exact r.dat j d' h'
  · obtain ⟨hj, h'⟩ := own_ne h
    rw [List.getElem?_set_ne (Ne.symm hj)]
    exact r.own j ds h'
  · have h : (e.s.set i (.dat d))[j]? = some z := h
    by_cases hj : i = j
    · subst hj
      by_cases hl : i < e.s.length
      · rw [List.getElem?_set_self hl] at h
        cases h
        exact .inl ⟨rfl, rfl⟩
      · rw [List.getElem?_eq_none (by simpa using hl)] at h; cases h
    · rw [List.getElem?_set_ne hj] at h
      exact .inr ⟨h, List.getElem?_set_ne hj⟩
theorem ds_set {i : Nat} {x : Str} {p2 : Pos} (h : DE X F a wa) (hN : X.N.Nodup) (hi : X.N[i]? = some x := by rfl) (hx : Loc X.env.scope x := by first | exact Or.inl rfl | exact Or.inr rfl) (hs : swapsWith a (some (.Name x p2)) pos.line X.env = pure false := by rfl)
    (hf : X.fn x = true ∨ X.env.scope.names.lookup x = some .local := by first | exact Or.inl rfl | exact Or.inr rfl) : DS X F (.Assign [.Name x p2] a pos) (wSet i wa) :=
  ds_of (ps_set hN hi hx h.run hs hf) (wSet.mono h.mono) fun D σ H ⟨e, G, r, q⟩ => tS.expr (k := fun D d e1 => D.nx (DL.put e1 i (.dat d))) h.mono r q fun d e' v G' H' s r' rv z => z _ G' H' s (r'.put rv)
def wIfS (c : WTx) (u v : WSt) : WSt := fun e D => c e (fun k e1 => if k = true then u e1 D else v e1 D) D.ex
theorem wIfS.mono {cw : WTx} (m : MonoT cw) (m1 : MonoS w1) (m2 : MonoS w2) : MonoS (wIfS cw w1 w2) := fun e A B l q => m e _ _ _ _ (fun k e1 z => by
  cases k with
  | true => exact m1 e1 _ _ l z
  | false => exact m2 e1 _ _ l z) l.ex q
theorem ds_if {cw : WTx} {xs ys : List Stmt} (hc : DT X F c cw) (h1 : DSs X F xs w1) (h2 : DSs X F ys w2) : DS X F (.If c xs ys pos) (wIfS cw w1 w2) :=
  ds_of (ps_if hc.run h1.run h2.run) (wIfS.mono hc.mono h1.mono h2.mono) fun D σ H ⟨e, G, r, q⟩ =>
    ⟨e, G, r, hc.mono e _ _ _ _ (fun k e1 z G' H' s r' => by
      cases k with
      | true => exact ⟨e1, G', r', h1.mono e1 _ _ (endsOf.le s) z⟩
      | false => exact ⟨e1, G', r', h2.mono e1 _ _ (endsOf.le s) z⟩) (fun y e' z C G' H' s r' ec => z C σ G' H' s r' ec) q⟩
end
end L2.DL
set_option
      maxHeartbeats 1000000
namespace L2.DL
open PySem PySem.Spec
      PyProof.Rows
/-! ### targets -/
abbrev WG := D → En → (En → Prop) → Prop
def MonoG (g : WG) : Prop := ∀ d e Q Q', (∀ e, Q e → Q' e) → g d e Q → g d e Q'
def tG (K : PySem.W.Frag) (F : Fx) (g : WG) : TG := fun v σ H Q => ∃ e G d, Rl K F.p F.G₀ F.H₀ G H σ e ∧ R K F.p G v d ∧ g d e fun e' => ∀ σ' H', Rl K F.p F.G₀ F.H₀ G H' σ' e' → Q σ' H'
structure DG (X : Cx) (F : Fx) (e : Expr) (g : WG) : Prop where
  run : PG X e (tG X.K F g)
  mono : MonoG g
def gNm (i : Nat) : WG := fun d e Q => Q (put e i (.dat d))
def puts : En → List Nat → List D → En
  | e, i :: is, d :: ds => puts (put e i (.dat d)) is ds
  | e, _, _ => e
def gTp (is : List Nat) : WG := fun d e Q => ∃ ds, d = .tuple ds ∧ ds.length = is.length ∧ Q (puts e is ds)
def setsV : L2.St → List Nat → List V → L2.St
  | σ, i :: is, v :: vs => setsV (σ.set i (some v)) is vs
  | σ, _, _ => σ
section
variable {K : PySem.W.Frag} {F : Fx} {σ : L2.St} {H : Hp} {X : Cx} {pos : Pos}
theorem gNm.mono {i : Nat} : MonoG (gNm i) := fun _ _ _ _ h q => h _ q
theorem gTp.mono {is : List Nat} : MonoG (gTp is) := fun _ _ _ _ h ⟨ds, e, l, q⟩ => ⟨ds, e, l, h _ q⟩
theorem dg_nm {i : Nat} {x : Str} (hN : X.N.Nodup) (hi : X.N[i]? = some x := by rfl) (hx : Loc X.env.scope x := by first | exact Or.inl rfl | exact Or.inr rfl) (hf : X.fn x = true ∨ X.env.scope.names.lookup x = some .local := by first | exact Or.inl rfl | exact Or.inr rfl) : DG X F (.Name x pos) (gNm i) :=
  ⟨⟨fun pins s σ H v u Q I r ⟨e, G, d, rl, rv, q⟩ => (pg_name hN hi hx hf).run pins s σ H v u Q I r (q _ _ (rl.put rv))⟩, gNm.mono⟩
/-- names one after another -/
structure DGs (X : Cx) (es : List Expr) (is : List Nat) : Prop where
  run : PGs X es (fun vs σ H Q => vs.length = is.length ∧ Q (setsV σ is vs) H)
theorem dgs_nil : DGs X [] [] := ⟨⟨fun pins s σ H vs us Q I r h => by
  obtain ⟨hl, q⟩ := h
  cases vs with
  | nil => exact pgs_nil.run pins s σ H [] us Q I r ⟨rfl, q⟩
  | cons v vs => cases hl⟩⟩
theorem dgs_cons {i : Nat} {is : List Nat} {x : Str} {es : List Expr} (hN : X.N.Nodup) (h : DGs X es is) (hi : X.N[i]? = some x := by rfl) (hx : Loc X.env.scope x := by first | exact Or.inl rfl | exact Or.inr rfl) (hf : X.fn x = true ∨ X.env.scope.names.lookup x = some .local := by first | exact Or.inl rfl | exact Or.inr rfl)
    (hs : (assignEach (.Name x pos :: es) X.env).map (·.2) = assign (.Name x pos) X.env :: (assignEach es X.env).map (·.2) := by rfl) : DGs X (.Name x pos :: es) (i :: is) := ⟨⟨fun pins s σ H vs us Q I r h' => by
  obtain ⟨hl, q⟩ := h'
  cases vs with
  | nil => cases hl
  | cons v vs => exact (pgs_cons (pg_name hN hi hx hf) h.run hs).run pins s σ H _ us Q I r ⟨v, vs, rfl, Nat.succ.inj hl, q⟩⟩⟩
theorem Rl.puts {p : Option Addr} {G₀ H₀ G : Hp} : ∀ {is : List Nat} {vs : List V} {ds : List D} {σ : L2.St} {e : En}, Rl K p G₀ H₀ G H σ e → RA K p G vs ds → Rl K p G₀ H₀ G H (setsV σ is vs) (DL.puts e is ds)
  | [], _, _, _, _, r, _ => by unfold setsV DL.puts; exact r
  | i :: is, _, _, _, _, r, .nil => by unfold setsV DL.puts; exact r
  | i :: is, _, _, _, _, r, .cons h t => by
    unfold setsV DL.puts
    exact Rl.puts (r.put h) t
theorem dg_tp {is : List Nat} {es : List Expr} {k : Nat} (hc : X.calm = true) (h : DGs X es is) (hn : (assignEach es X.env).length = is.length := by rfl) (hst : (assignEach es X.env).findIdx? (·.1) = none := by rfl) : DG X F (.Tuple es k pos) (gTp is) :=
  ⟨⟨fun pins s σ H v u Q I r ⟨e, G, d, rl, rv, ds, ed, hl, q⟩ => by
    subst ed
    obtain ⟨a, xs, rfl, h1, ra⟩ := rv.tup_inv
    exact (pg_tup hc h.run hn hst).run pins s σ H _ u Q I r ⟨a, xs, rfl, sameT rl.same h1, by rw [ra.length]; exact hl, by rw [ra.length]; exact hl, q _ _ (rl.puts ra)⟩⟩, gTp.mono⟩
end
/-! ### what is walked -/
structure WalkD (K : PySem.W.Frag) (p : Option Addr) (J : It) (ds : List D) (G : Hp) : Prop where
  goes : ∀ i H, i < ds.length → Same G H → J.go i H
  stops : ∀ H, Same G H → J.stop ds.length H
  yields : ∀ i H x H' d, ds[i]? = some d → Same G H → J.yld i H x H' → (H' = H ∧ R K p G x d) ∨ ∃ T xs es, x = .ref T ∧ H T = none ∧ H' = upd H T (.tup xs) ∧ d = .tuple es ∧ RA K p G xs es
def tI (K : PySem.W.Frag) (F : Fx) (w : WAx) : TI := fun σ H R => ∃ e G, Rl K F.p F.G₀ F.H₀ G H σ e ∧
  w e (fun ds e' => ∀ J G' H', Same G G' → Rl K F.p F.G₀ F.H₀ G' H' σ e' → WalkD K F.p J ds G' → R J H') (PX K F.p F.G₀ F.H₀ F.W G σ)
structure DI (X : Cx) (F : Fx) (tg iter : Expr) (w : WAx) : Prop where
  run : PI X tg iter (tI X.K F w)
  mono : MonoA w
def wSeqI (w : WEx) : WAx := fun e Q x => w e (fun d e1 => ∃ ds, items d = some ds ∧ Q ds e1) x
theorem wSeqI.mono {w : WEx} (m : Mono w) : MonoA (wSeqI w) := fun e Q Q' x x' h1 h2 q => m e _ _ _ _ (fun d e1 ⟨ds, i, z⟩ => ⟨ds, i, h1 _ _ z⟩) h2 q
section
variable {K : PySem.W.Frag} {F : Fx} {σ : L2.St} {H : Hp} {X : Cx} {pos : Pos} {a b tg : Expr} {wa wb : WEx} {p : Option Addr} {G : Hp}
theorem walkD_list {l : Addr} {xs : List V} {ds : List D} (h : G l = some (.lst xs)) (r : RA K p G xs ds) : WalkD K p (Itl K l) ds G where
  goes := fun i H hi s => (walk_list (K := K) (a := l) (xs := xs)).goes i H (by rw [r.length]; exact hi) (SqL.of (s _ _ h))
  stops := fun H s => by have q := (walk_list (K := K) (a := l) (xs := xs)).stops H (SqL.of (s _ _ h)); rw [r.length] at q; exact q
  yields := fun i H x H' d hd s y => by
    obtain ⟨v, hv, rv⟩ := r.get hd
    obtain ⟨e1, e2⟩ := (walk_list (K := K) (a := l) (xs := xs)).yields i H x H' (by rw [r.length]; exact (List.getElem?_eq_some_iff.mp hd).1) (SqL.of (s _ _ h)) y
    rw [hv] at e2
    cases e2
    exact .inl ⟨e1, rv⟩
theorem walkD_tup {l : Addr} {xs : List V} {ds : List D} (h : SqT K G l xs) (r : RA K p G xs ds) : WalkD K p (Itt K l) ds G where
  goes := fun i H hi s => (walk_tup (K := K) (a := l) (xs := xs)).goes i H (by rw [r.length]; exact hi) (sameT s h)
  stops := fun H s => by have q := (walk_tup (K := K) (a := l) (xs := xs)).stops H (sameT s h); rw [r.length] at q; exact q
  yields := fun i H x H' d hd s y => by
    obtain ⟨v, hv, rv⟩ := r.get hd
    obtain ⟨e1, e2⟩ := (walk_tup (K := K) (a := l) (xs := xs)).yields i H x H' (by rw [r.length]; exact (List.getElem?_eq_some_iff.mp hd).1) (sameT s h) y
    rw [hv] at e2
    cases e2
    exact .inl ⟨e1, rv⟩
/-- a list or a tuple is walked -/
theorem di_seq (h : DE X F a wa) : DI X F tg a (wSeqI wa) := by
  refine ⟨⟨fun pins s σ H R I q => ?_⟩, wSeqI.mono h.mono⟩
  obtain ⟨e, G, r, q⟩ := q
  refine thn (h.run.run pins s σ H _ I (tE.any h.mono r q)) fun v s1 hv => ?_
  obtain ⟨x, H1, I1, rx, e1, G1, d, s1', r1, rd, ds, hi, z⟩ := hv
  have new : ∀ (o : Obj) (J : It) (tn : Nat → Heap → Prop), Turn X.prog X.w X.K tg J [s1.heap.objs.size] s1.heap.objs.size tn → tn 0 (s1.heap.push o) → R J H1 → PIE X pins σ tg R (.ref s1.heap.objs.size) { s1 with heap := s1.heap.push o } := fun o J tn T st q =>
    ⟨s1.heap.objs.size, [s1.heap.objs.size], tn, J, H1, rfl, I1.kept (t' := s1.toks) fun b o e => Heap.get?_push_of_some _ e, T, st, fun b hb => by
      cases List.mem_singleton.mp hb
      exact I1.fpOk (Nat.le_refl _) (I1.hok.fresh (Nat.le_refl _)), q⟩
  cases d with
  | list es =>
    cases hi
    obtain ⟨l, xs, rfl, g1, ra⟩ := rd.lst_inv
    cases rx
    obtain ⟨its, rv, pl, hz⟩ := I1.list (SqL.of (K := X.K) (r1.same _ _ g1))
    exact wpAny_pyIter_list pl.isList (new _ _ _ (turn_list l _) ⟨_, Heap.get?_push_size _ rfl, rfl, rfl⟩ (z _ G1 H1 s1' r1 (walkD_list g1 ra)))
  | tuple es =>
    cases hi
    obtain ⟨l, xs, rfl, g1, ra⟩ := rd.tup_inv
    cases rx
    obtain ⟨its, rv, pl, hz⟩ := I1.tuple (sameT r1.same g1)
    exact wpAny_pyIter_tuple pl (new _ _ _ (turn_tuple l _) ⟨_, Heap.get?_push_size _ rfl, rfl, rfl⟩ (z _ G1 H1 s1' r1 (walkD_tup g1 ra)))
  | none => cases hi
  | bool b => cases hi
  | int i => cases hi
  | str x => cases hi
  | dict kvs => cases hi
/-- range(n), range(m, n) -/
def rngD (lo : Int) (n : Nat) : List D := (List.range n).map fun i => .int (lo + (i : Nat))
theorem rngD_at {lo : Int} {n i : Nat} {d : D} (h : (rngD lo n)[i]? = some d) : i < n ∧ d = .int (lo + (i : Nat)) := by
  unfold rngD at h
  rw [List.getElem?_map] at h
  by_cases hi : i < n
  · rw [List.getElem?_range hi] at h
    cases h
    exact ⟨hi, rfl⟩
  · rw [List.getElem?_eq_none (by simpa using hi)] at h
    cases h
theorem rngD_length {lo : Int} {n : Nat} : (rngD lo n).length = n := by unfold rngD; simp
theorem walkD_range {lo : Int} {n : Nat} : WalkD K p (Itr lo n) (rngD lo n) G where
  goes := fun i H hi _ => by rw [rngD_length] at hi; exact hi
  stops := fun H _ => by rw [rngD_length]; exact Nat.le_refl _
  yields := fun i H x H' d hd _ y => by
    obtain ⟨_, rfl⟩ := rngD_at hd
    obtain ⟨e1, e2⟩ := y
    subst e2
    exact .inl ⟨e1, .int _⟩
def wRng1 (w : WEx) : WAx := fun e Q x => w e (fun d e1 => ∃ j, d = .int j ∧ -(2 ^ 62) ≤ j ∧ j < 2 ^ 62 ∧ Q (rngD 0 j.toNat) e1) x
def wRng2 (w u : WEx) : WAx := fun e Q x => w e (fun d e1 => u e1 (fun d' e2 => ∃ i j, d = .int i ∧ d' = .int j ∧ (-(2 ^ 62) ≤ i ∧ i < 2 ^ 62 ∧ -(2 ^ 62) ≤ j ∧ j < 2 ^ 62) ∧ Q (rngD i (j - i).toNat) e2) x) x
theorem wRng1.mono (m : Mono wa) : MonoA (wRng1 wa) := fun e Q Q' x x' h1 h2 q => m e _ _ _ _ (fun d e1 ⟨j, i1, i2, i3, z⟩ => ⟨j, i1, i2, i3, h1 _ _ z⟩) h2 q
theorem wRng2.mono (m : Mono wa) (m' : Mono wb) : MonoA (wRng2 wa wb) := fun e Q Q' x x' h1 h2 q => m e _ _ _ _ (fun d e1 z => m' e1 _ _ _ _ (fun d' e2 ⟨i, j, i1, i2, i3, z⟩ => ⟨i, j, i1, i2, i3, h1 _ _ z⟩) h2 z) h2 q
theorem di_of {iter : Expr} {t : TI} {w : WAx} (h : PI X tg iter t) (m : MonoA w) (i : ∀ σ H Q, tI X.K F w σ H Q → t σ H Q) : DI X F tg iter w := ⟨⟨fun pins s σ H R I q => h.run pins s σ H R I (i σ H R q)⟩, m⟩
theorem di_rng1 {q : Pos} (h : DE X F a wa) (hm : X.mg "range" = none) (hg : Gl X "range" := by rfl) (hs : starEach [a] X.env = [(false, eval a X.env)] := by rfl) : DI X F tg (.Call (.Name "range" q) [a] [] pos) (wRng1 wa) :=
  di_of (pi_range1 hg hm (pa_cons h.run pa_nil hs) hs) (wRng1.mono h.mono) fun σ H R ⟨e, G, r, z⟩ => by
    refine tE.mono h.mono (fun v H1 z => ?_) (tE.any h.mono r z)
    obtain ⟨e1, G1, d, s1, r1, rd, j, rfl, i1, i2, z⟩ := z
    cases rd.int_inv
    exact ⟨j, rfl, i1, i2, z _ G1 H1 s1 r1 walkD_range⟩
theorem di_rng2 {q : Pos} (h : DE X F a wa) (h' : DE X F b wb) (hm : X.mg "range" = none) (hg : Gl X "range" := by rfl) (hs : starEach [a, b] X.env = [(false, eval a X.env), (false, eval b X.env)] := by rfl) (hs2 : starEach [b] X.env = [(false, eval b X.env)] := by rfl) : DI X F tg (.Call (.Name "range" q) [a, b] [] pos) (wRng2 wa wb) :=
  di_of (pi_range2 hg hm (pa_cons h.run (pa_cons h'.run pa_nil hs2) (by rw [hs, hs2])) hs hs2) (wRng2.mono h.mono h'.mono) fun σ H R ⟨e, G, r, z⟩ => by
    refine tE.mono h.mono (fun v H1 z => ?_) (tE.any h.mono r z)
    obtain ⟨e1, G1, d, s1, r1, rd, z⟩ := z
    refine tE.mono h'.mono (fun v' H2 z => ?_) (tE.any h'.mono r1 (h'.mono e1 _ _ _ _ (fun _ _ z => z) (fun _ _ => PX.mono s1) z))
    obtain ⟨e2, G2, d', s2, r2, rd', i, j, rfl, rfl, i3, z⟩ := z
    cases rd.int_inv
    cases rd'.int_inv
    exact ⟨i, j, rfl, i3, z _ G2 H2 (s1.trans s2) r2 walkD_range⟩
/-- enumerate(xs) of a list, zip of two lists or of two tuples -/
def pairs (xs ys : List D) : List D := List.zipWith (fun x y => .tuple [x, y]) xs ys
def wEnum (w : WEx) : WAx := fun e Q x => w e (fun d e1 => ∃ ds, d = .list ds ∧ Q (pairs (rngD 0 ds.length) ds) e1) x
theorem wEnum.mono (m : Mono wa) : MonoA (wEnum wa) := fun e Q Q' x x' h1 h2 q => m e _ _ _ _ (fun d e1 ⟨ds, i, z⟩ => ⟨ds, i, h1 _ _ z⟩) h2 q
def wZip (w u : WEx) : WAx := fun e Q x => w e (fun d e1 => u e1 (fun d' e2 => ∃ xs ys, ((d = .list xs ∧ d' = .list ys) ∨ (d = .tuple xs ∧ d' = .tuple ys)) ∧ Q (pairs xs ys) e2) x) x
theorem wZip.mono (m : Mono wa) (m' : Mono wb) : MonoA (wZip wa wb) := fun e Q Q' x x' h1 h2 q => m e _ _ _ _ (fun d e1 z => m' e1 _ _ _ _ (fun d' e2 ⟨xs, ys, i, z⟩ => ⟨xs, ys, i, h1 _ _ z⟩) h2 z) h2 q
theorem pairs_at {xs ys : List D} {i : Nat} {d : D} (h : (pairs xs ys)[i]? = some d) : ∃ x y, xs[i]? = some x ∧ ys[i]? = some y ∧ d = .tuple [x, y] := by
  unfold pairs at h
  rw [List.getElem?_zipWith] at h
  cases h1 : xs[i]? with
  | none =>
        rw [h1] at h; cases h
  | some x =>
    cases h2 : ys[i]? with
    | none => rw [h1,
          h2] at h; cases h
    | some y => rw [h1, h2] at h; cases h; exact ⟨x, y, rfl, rfl, rfl⟩
theorem pairs_length {xs ys : List D} : (pairs xs ys).length = min xs.length ys.length := by unfold pairs; simp
theorem walkD_enum {l : Addr} {xs : List V} {ds : List D} (h : G l = some (.lst xs)) (r : RA K p G xs ds) : WalkD K p (Ite K l) (pairs (rngD 0 ds.length) ds) G where
  goes := fun i H hi s => (walk_enum (K := K) (a := l) (xs := xs)).goes i H (by rw [pairs_length, rngD_length] at hi; rw [r.length]; omega) (SqL.of (s _ _ h))
  stops := fun H s => by have q := (walk_enum (K := K) (a := l) (xs := xs)).stops H (SqL.of (s _ _ h)); rw [r.length] at q; rw [pairs_length, rngD_length, Nat.min_self]; exact q
  yields := fun i H x H' d hd s y => by
    obtain ⟨d1, d2, h1, h2, rfl⟩ := pairs_at hd
    obtain ⟨_, rfl⟩ := rngD_at h1
    obtain ⟨v, hv, rv⟩ := r.get h2
    obtain ⟨T, x1, x2, e1, e2, e3, e4, e5⟩ := (walk_enum (K := K) (a := l) (xs := xs)).yields i H x H' (by rw [r.length]; exact (List.getElem?_eq_some_iff.mp h2).1) (SqL.of (s _ _ h)) y
    dsimp only at e4 e5
    rw [hv] at e5
    cases e5
    cases e4
    exact .inr ⟨T, _, _, e1, e2, e3, rfl, .cons (by rw [Int.zero_add]; exact .int _) (.cons rv .nil)⟩
theorem di_enum {q tp : Pos} {elts : List Expr} {kk : Nat} (h : DE X F a wa) (hm : X.mg "enumerate" = none) (hg : Gl X "enumerate" := by rfl) (hs : starEach [a] X.env = [(false, eval a X.env)] := by rfl) : DI X F (.Tuple elts kk tp) (.Call (.Name "enumerate" q) [a] [] pos) (wEnum wa) :=
  di_of (pi_enum hg hm (pa_cons h.run pa_nil hs) hs) (wEnum.mono h.mono) fun σ H R ⟨e, G, r, z⟩ => by
    refine tE.mono h.mono (fun v H1 z => ?_) (tE.any h.mono r z)
    obtain ⟨e1, G1, d, s1, r1, rd, ds, rfl, z⟩ := z
    obtain ⟨l, xs, rfl, g1, ra⟩ := rd.lst_inv
    exact ⟨l, xs, rfl, SqL.of (r1.same _ _ g1), z _ G1 H1 s1 r1 (walkD_enum g1 ra)⟩
theorem walkD_zipL {l m : Addr} {xs ys : List V} {ds es : List D} (h : G l = some (.lst xs)) (h' : G m = some (.lst ys)) (r : RA K p G xs ds) (r' : RA K p G ys es) : WalkD K p (Itz K l m) (pairs ds es) G where
  goes := fun i H hi s => by
    rw [pairs_length] at hi
    exact (walk_zip (K := K) (a := l) (b := m) (xs := xs) (ys := ys) rfl).goes i H (by rw [r.length, r'.length]; exact hi) ⟨SqL.of (s _ _ h), SqL.of (s _ _ h')⟩
  stops := fun H s => by have q := (walk_zip (K := K) (a := l) (b := m) (xs := xs) (ys := ys) rfl).stops H ⟨SqL.of (s _ _ h), SqL.of (s _ _ h')⟩; rw [r.length, r'.length] at q; rw [pairs_length]; exact q
  yields := fun i H x H' d hd s y => by
    obtain ⟨d1, d2, h1, h2, rfl⟩ := pairs_at hd
    obtain ⟨v, hv, rv⟩ := r.get h1
    obtain ⟨v', hv', rv'⟩ := r'.get h2
    obtain ⟨T, x1, x2, e1, e2, e3, e4, e5⟩ := (walk_zip (K := K) (a := l) (b := m) (xs := xs) (ys := ys) rfl).yields i H x H' (by have := (List.getElem?_eq_some_iff.mp hv).1; have := (List.getElem?_eq_some_iff.mp hv').1; omega) ⟨SqL.of (s _ _ h), SqL.of (s _ _ h')⟩ y
    dsimp only at e4 e5
    rw [hv] at e4
    rw [hv'] at e5
    cases e5
    cases e4
    exact .inr ⟨T, _, _, e1, e2, e3, rfl, .cons rv (.cons rv' .nil)⟩
theorem walkD_zipT {l m : Addr} {xs ys : List V} {ds es : List D} (h : SqT K G l xs) (h' : SqT K G m ys) (r : RA K p G xs ds) (r' : RA K p G ys es) : WalkD K p (RZ.ItzT K l m) (pairs ds es) G where
  goes := fun i H hi s => by
    rw [pairs_length] at hi
    have h1 : i < xs.length := by rw [r.length]; omega
    have h2 : i < ys.length := by rw [r'.length]; omega
    exact ⟨xs, ys, xs[i], ys[i], sameT s h, sameT s h', by simp [h1], by simp [h2]⟩
  stops := fun H s => ⟨xs, ys, sameT s h, sameT s h', by rw [pairs_length, r.length, r'.length]; omega⟩
  yields := fun i H x H' d hd s y => by
    obtain ⟨d1, d2, h1, h2, rfl⟩ := pairs_at hd
    obtain ⟨v, hv, rv⟩ := r.get h1
    obtain ⟨v', hv', rv'⟩ := r'.get h2
    obtain ⟨T, x1, x2, e1, e2, e3, e4, e5⟩ := y
    have e4 := e4 xs (sameT s h)
    have e5 := e5 ys (sameT s h')
    rw [hv] at e4
    rw [hv'] at e5
    cases e5
    cases e4
    exact .inr ⟨T, _, _, e1, e2, e3, rfl, .cons rv (.cons rv' .nil)⟩
theorem di_zip {q tp : Pos} {elts : List Expr} {kk : Nat} (h : DE X F a wa) (h' : DE X F b wb) (hm : X.mg "zip" = none) (hg : Gl X "zip" := by rfl) (hs2 : starEach [b] X.env = [(false, eval b X.env)] := by rfl)
    (hs : starEach [a, b] X.env = (false, eval a X.env) :: starEach [b] X.env := by rfl) (hpl : (backTo pos (starEach [b] X.env)).any (·.1) = false := by rfl) : DI X F (.Tuple elts kk tp) (.Call (.Name "zip" q) [a, b] [] pos) (wZip wa wb) :=
  di_of (RZ.pi_zipA hg hm (pa_cons h.run (pa_cons h'.run pa_nil hs2) hs) hs hpl) (wZip.mono h.mono h'.mono) fun σ H R ⟨e, G, r, z⟩ => by
    refine tE.mono h.mono (fun v H1 z => ?_) (tE.any h.mono r z)
    obtain ⟨e1, G1, d, s1, r1, rd, z⟩ := z
    refine tE.mono h'.mono (fun v' H2 z => ?_) (tE.any h'.mono r1 (h'.mono e1 _ _ _ _ (fun _ _ z => z) (fun _ _ => PX.mono s1) z))
    obtain ⟨e2, G2, d', s2, r2, rd', xs, ys, i, y⟩ := z
    rcases i with ⟨i1, i2⟩ | ⟨i1, i2⟩
    · rw [i1] at rd
      rw [i2] at rd'
      obtain ⟨l, vs, ev, g1, ra⟩ := (rd.mono s2).lst_inv
      obtain ⟨m, ws, ew, g2, ra'⟩ := rd'.lst_inv
      exact ⟨l, m, vs, ws, by rw [ev, ew], .inl ⟨SqL.of (r2.same _ _ g1), SqL.of (r2.same _ _ g2), y _ G2 H2 (s1.trans s2) r2 (walkD_zipL g1 g2 ra ra')⟩⟩
    · rw [i1] at rd
      rw [i2] at rd'
      obtain ⟨l, vs, ev, g1, ra⟩ := (rd.mono s2).tup_inv
      obtain ⟨m, ws, ew, g2, ra'⟩ := rd'.tup_inv
      exact ⟨l, m, vs, ws, by rw [ev, ew], .inr ⟨sameT r2.same g1, sameT r2.same g2, y _ G2 H2 (s1.trans s2) r2 (walkD_zipT g1 g2 ra ra')⟩⟩
end
/-! ### for -/
def wLoop (g : WG) (wb : WSt) (B : DEnds) : List D → En → Prop
  | [], e => B.nx e
  | d :: ds, e => g d e fun e1 => wb e1 { B with nx := fun e2 => wLoop g wb B ds e2, ct := fun e2 => wLoop g wb B ds e2, bk := B.nx }
def wFor (wi : WAx) (g : WG) (wb : WSt) : WSt := fun e B => wi e (fun ds e1 => wLoop g wb B ds e1) B.ex
section
variable {K : PySem.W.Frag} {F : Fx} {σ : L2.St} {H : Hp} {X : Cx} {pos : Pos} {tg iter : Expr} {body : List Stmt} {wi : WAx} {g : WG} {wb : WSt}
theorem wLoop.mono (mg : MonoG g) (mb : MonoS wb) {A B : DEnds} (l : DEnds.le A B) : ∀ {ds : List D} {e : En}, wLoop g wb A ds e → wLoop g wb B ds e
  | [], _, q => l.nx _ q
  | d :: ds, e, q => mg d e _ _ (fun e1 z => mb e1 { A with nx := fun e2 => wLoop g wb A ds e2, ct := fun e2 => wLoop g wb A ds e2, bk := A.nx } _ ⟨fun e2 y => wLoop.mono mg mb l y, l.rt, fun e2 y => l.nx _ y, fun e2 y => wLoop.mono mg mb l y, l.ex⟩ z) q
theorem wFor.mono (mi : MonoA wi) (mg : MonoG g) (mb : MonoS wb) : MonoS (wFor wi g wb) := fun e A B l q => mi e _ _ _ _ (fun ds e1 z => wLoop.mono mg mb l z) l.ex q
theorem ds_for (hp : PassesOwn (model X.prog X.w) X.A X.env X.xe) (hc : X.calm = true) (hi : DI X F tg iter wi) (hg : DG X F tg g) (hb : DSs X F body wb) (hs : ∀ x, foldedSetIterable iter X.env x = pure x := by intro _; rfl) : DS X F (.For tg iter body [] pos) (wFor wi g wb) :=
  ds_of (ps_for hp hc hi.run hg.run hb.run hs) (wFor.mono hi.mono hg.mono hb.mono) fun D σ H ⟨e, G, r, q⟩ => by
    refine ⟨e, G, r, hi.mono e _ _ _ _ (fun ds e1 z J G1 H1 s1 r1 wk => ?_) (fun y e' z C G' H' s r' ec => z C σ G' H' s r' ec) q⟩
    have wk' : Walk J ds.length (Same G1) (fun i H x H' => ∀ d, ds[i]? = some d → (H' = H ∧ R X.K F.p G1 x d) ∨ ∃ T xs es, x = .ref T ∧ H T = none ∧ H' = upd H T (.tup xs) ∧ d = .tuple es ∧ RA X.K F.p G1 xs es) :=
      ⟨wk.goes, wk.stops, fun i H x H' _ s y d hd => wk.yields i H x H' d hd s y⟩
    refine for_it wk' (fun i σ H => ∃ e2 G2, Same G1 G2 ∧ Rl X.K F.p F.G₀ F.H₀ G2 H σ e2 ∧ wLoop g wb (endsOf X.K F G2 D) (ds.drop i) e2) ⟨e1, G1, Same.refl G1, r1, wLoop.mono hg.mono hb.mono (endsOf.le s1) z⟩
      (fun i σ H _ ⟨e2, G2, s2, r2, _⟩ => s2.trans r2.same) (fun i x σ H H' hlt ⟨e2, G2, s2, r2, z2⟩ y => ?_) (fun σ H ⟨e2, G2, s2, r2, z2⟩ => ?_)
    · rw [List.drop_eq_getElem_cons hlt] at z2
      have hd : ds[i]? = some ds[i] := List.getElem?_eq_getElem hlt
      have after : ∀ G3, Same G2 G3 → ∀ e3, wb e3 { endsOf X.K F G2 D with nx := fun e2 => wLoop g wb (endsOf X.K F G2 D) (ds.drop (i + 1)) e2, ct := fun e2 => wLoop g wb (endsOf X.K F G2 D) (ds.drop (i + 1)) e2, bk := (endsOf X.K F G2 D).nx } → ∀ σ' H', Rl X.K F.p F.G₀ F.H₀ G3 H' σ' e3 →
          tS X.K F wb { D with nx := fun σ H => ∃ e2 G2, Same G1 G2 ∧ Rl X.K F.p F.G₀ F.H₀ G2 H σ e2 ∧ wLoop g wb (endsOf X.K F G2 D) (ds.drop (i + 1)) e2, ct := fun σ H => ∃ e2 G2, Same G1 G2 ∧ Rl X.K F.p F.G₀ F.H₀ G2 H σ e2 ∧ wLoop g wb (endsOf X.K F G2 D) (ds.drop (i + 1)) e2, bk := D.nx } σ' H' := fun G3 s3 e3 z3 σ' H' r3 => by
        have le3 := endsOf.le (K := X.K) (F := F) (D := D) s3
        refine ⟨e3, G3, r3, hb.mono e3 { endsOf X.K F G2 D with nx := fun e2 => wLoop g wb (endsOf X.K F G2 D) (ds.drop (i + 1)) e2, ct := fun e2 => wLoop g wb (endsOf X.K F G2 D) (ds.drop (i + 1)) e2, bk := (endsOf X.K F G2 D).nx } _ ⟨fun e4 y4 σ4 G4 H4 s4 r4 => ⟨e4, G4, s2.trans (s3.trans s4), r4, wLoop.mono hg.mono hb.mono (endsOf.le (s3.trans s4)) y4⟩, le3.rt, fun e4 y4 => le3.nx e4 y4,
          fun e4 y4 σ4 G4 H4 s4 r4 => ⟨e4, G4, s2.trans (s3.trans s4), r4, wLoop.mono hg.mono hb.mono (endsOf.le (s3.trans s4)) y4⟩, le3.ex⟩ z3⟩
      rcases y _ hd with ⟨rfl, rv⟩ | ⟨T, xs, es, rfl, hT, rfl, ed, rxs⟩
      · exact ⟨e2, G2, _, r2, rv.mono s2, hg.mono _ _ _ _ (fun e3 z3 σ' H' r3 => after G2 (Same.refl G2) e3 z3 σ' H' r3) z2⟩
      · have s3 := sameNew (o := .tup xs) r2.same hT
        exact ⟨e2, upd G2 T (.tup xs), _, r2.new hT, by rw [ed]; exact .tup (SqT.of upd_same) (rxs.mono (s2.trans s3)), hg.mono _ _ _ _ (fun e3 z3 σ' H' r3 => after _ s3 e3 z3 σ' H' r3) z2⟩
    · rw [List.drop_length] at z2
      exact z2 σ G2 H (Same.refl G2) r2
end
end L2.DL
set_option
      maxHeartbeats 1000000
namespace L2.DL
open PySem PySem.Spec
      PyProof.Rows
/-! ### comprehensions -/
def hide (vs : List Nat) (i : Nat) : Slot → Slot
  | .own _ => .un
  | .bor _ _ => .un
  | .nest _ _ => .un
  | z => if i ∈ vs then .un else z
def wipeE (e : En) (vs : List Nat) : En := { e with s := e.s.mapIdx (hide vs) }
def NoOwn (e : En) : Prop := ∀ (i : Nat) z, e.s[i]? = some z → z.pcs = [] ∧ z.hd = none ∧ ∀ ds, z ≠ .own ds
theorem NoOwn.no {e : En} (h : NoOwn e) (i : Nat) (ds : List D) : e.s[i]? ≠ some (.own ds) := fun z => (h i _ z).2.2 ds rfl
theorem NoOwn.bo {K : PySem.W.Frag} {p : Option Addr} {G H₀ H : Hp} {σ : L2.St} {α : Nat → Addr} {e : En} (h : NoOwn e) : Bo K p G H₀ H σ e.s α := Bo.none fun i z hz => ⟨(h i z hz).1, (h i z hz).2.1⟩
theorem free_dat {d : D} : (Slot.dat d).pcs = [] ∧ (Slot.dat d).hd = none ∧ ∀ ds, Slot.dat d ≠ .own ds := ⟨rfl, rfl, fun _ z => nomatch z⟩
theorem free_un : Slot.un.pcs = [] ∧ Slot.un.hd = none ∧ ∀ ds, Slot.un ≠ .own ds := ⟨rfl, rfl, fun _ z => nomatch z⟩
theorem wipe_in {σ : L2.St} {i : Nat} : ∀ {vs : List Nat}, i ∈ vs → i < σ.length → (wipe σ vs)[i]? = some none
  | v :: vs, h, hl => by
    unfold wipe
    by_cases e : v = i
    · subst e
      rw [List.getElem?_set_self (by rw [wipe_length]; exact hl)]
    · rw [List.getElem?_set_ne e]
      exact wipe_in ((List.mem_cons.mp h).resolve_left (Ne.symm e)) hl
theorem wipe_set {σ : L2.St} {i : Nat} {z : Option V} {vs : List Nat} (h : i ∈ vs) : wipe (σ.set i z) vs = wipe σ vs := by
  apply List.ext_getElem?
  intro j
  by_cases hj : j ∈ vs
  · by_cases hl : j < σ.length
    · rw [wipe_in hj hl, wipe_in hj (by simpa using hl)]
    · rw [List.getElem?_eq_none (by rw [wipe_length]; simpa using hl), List.getElem?_eq_none (by rw [wipe_length]; simpa using hl)]
  · rw [wipe_out hj, wipe_out hj, List.getElem?_set_ne (fun e => hj (by rw [← e]; exact h))]
theorem wipe_wipe {σ : L2.St} {vs : List Nat} : wipe (wipe σ vs) vs = wipe σ vs := by
  apply List.ext_getElem?
  intro j
  by_cases hj : j ∈ vs
  · by_cases hl : j < σ.length
    · rw [wipe_in hj hl, wipe_in hj (by rw [wipe_length]; exact hl)]
    · rw [List.getElem?_eq_none (by rw [wipe_length, wipe_length]; simpa using hl), List.getElem?_eq_none (by rw [wipe_length]; simpa using hl)]
  · rw [wipe_out hj, wipe_out hj]
theorem wipe_sets {vs : List Nat} : ∀ {is : List Nat} {xs : List V} {σ : L2.St}, (∀ i ∈ is, i ∈ vs) → wipe (setsV σ is xs) vs = wipe σ vs
  | [], _, _, _ => by unfold setsV; rfl
  | i :: is, [], _, _ => by unfold setsV; rfl
  | i :: is, x :: xs, σ, h => by
    unfold setsV
    rw [wipe_sets fun j hj => h j (List.mem_cons_of_mem _ hj), wipe_set (h i List.mem_cons_self)]
theorem wipeE_dat {e : En} {vs : List Nat} {i : Nat} {d : D} (h : (wipeE e vs).s[i]? = some (.dat d)) : i ∉ vs ∧ e.s[i]? = some (.dat d) := by
  unfold wipeE at h
  simp only [List.getElem?_mapIdx] at h
  cases q : e.s[i]? with
  | none => rw [q] at h; cases h
  | some z =>
    rw [q] at h
    cases z with
    | un =>
      simp only [Option.map_some, hide, Option.some.injEq] at h
      split at h <;> cases h
    | own ds => simp only [Option.map_some, hide, Option.some.injEq, reduceCtorEq] at h
    | bor a ds => simp only [Option.map_some, hide, Option.some.injEq, reduceCtorEq] at h
    | nest a ds => simp only [Option.map_some, hide, Option.some.injEq, reduceCtorEq] at h
    | dat d' =>
      simp only [Option.map_some, hide, Option.some.injEq] at h
      split at h
      · cases h
      · cases h
        exact ⟨by assumption, rfl⟩
theorem wipeE_own {e : En} {vs : List Nat} : NoOwn (wipeE e vs) := by
  intro i y h
  unfold wipeE at h
  simp only [List.getElem?_mapIdx] at h
  cases q : e.s[i]? with
  | none => rw [q] at h; cases h
  | some z =>
    rw [q] at h
    cases z with
    | un =>
      simp only [Option.map_some, hide, Option.some.injEq] at h
      split at h <;> (rw [← h]; exact free_un)
    | own ds =>
      simp only [Option.map_some, hide, Option.some.injEq] at h
      rw [← h]; exact free_un
    | bor a ds =>
      simp only [Option.map_some, hide, Option.some.injEq] at h
      rw [← h]; exact free_un
    | nest a ds =>
      simp only [Option.map_some, hide, Option.some.injEq] at h
      rw [← h]; exact free_un
    | dat d' =>
      simp only [Option.map_some, hide, Option.some.injEq] at h
      split at h
      · rw [← h]; exact free_un
      · rw [← h]; exact free_dat
theorem NoOwn.put {e : En} {i : Nat} {d : D} (h : NoOwn e) : NoOwn (put e i (.dat d)) := by
  intro j z q
  have q : (e.s.set i (.dat d))[j]? = some z := q
  by_cases hj : i = j
  · subst hj
    by_cases hl : i < e.s.length
    · rw [List.getElem?_set_self hl] at q; cases q; exact free_dat
    · rw [List.getElem?_eq_none (by simpa using hl)] at q; cases q
  · rw [List.getElem?_set_ne hj] at q
    exact h j z q
theorem NoOwn.puts : ∀ {is : List Nat} {ds : List D} {e : En}, NoOwn e → NoOwn (puts e is ds)
  | [], _, _, h => by unfold DL.puts; exact h
  | _ :: _, [], _, h => by unfold DL.puts; exact h
  | i :: is, d :: ds, e, h => by
    unfold DL.puts
    exact NoOwn.puts h.put
/-- a target within a comprehension: it changes none but the slots vs -/
def tGc (K : PySem.W.Frag) (F : Fx) (g : WG) (vs : List Nat) : TG := fun v σ H Q => ∃ e G d, Rl K F.p F.G₀ F.H₀ G H σ e ∧ R K F.p G v d ∧ NoOwn e ∧ g d e fun e' => ∀ σ', Rl K F.p F.G₀ F.H₀ G H σ' e' → NoOwn e' → wipe σ' vs = wipe σ vs → Q σ' H
structure DGc (X : Cx) (F : Fx) (e : Expr) (g : WG) (vs : List Nat) : Prop where
  run : PG X e (tGc X.K F g vs)
  mono : MonoG g
section
variable {X : Cx} {F : Fx} {pos : Pos}
theorem dgc_nm {i : Nat} {x : Str} {vs : List Nat} (hN : X.N.Nodup) (hv : i ∈ vs) (hi : X.N[i]? = some x := by rfl) (hx : Loc X.env.scope x := by first | exact Or.inl rfl | exact Or.inr rfl) (hf : X.fn x = true ∨ X.env.scope.names.lookup x = some .local := by first | exact Or.inl rfl | exact Or.inr rfl) : DGc X F (.Name x pos) (gNm i) vs :=
  ⟨⟨fun pins s σ H v u Q I r ⟨e, G, d, rl, rv, no, q⟩ => (pg_name hN hi hx hf).run pins s σ H v u Q I r (q _ (rl.put rv) no.put (wipe_set hv))⟩, gNm.mono⟩
theorem dgc_tp {is vs : List Nat} {es : List Expr} {k : Nat} (hc : X.calm = true) (h : DGs X es is) (hv : ∀ i ∈ is, i ∈ vs) (hn : (assignEach es X.env).length = is.length := by rfl) (hst : (assignEach es X.env).findIdx? (·.1) = none := by rfl) : DGc X F (.Tuple es k pos) (gTp is) vs :=
  ⟨⟨fun pins s σ H v u Q I r ⟨e, G, d, rl, rv, no, ds, ed, hl, q⟩ => by
    subst ed
    obtain ⟨a, xs, rfl, h1, ra⟩ := rv.tup_inv
    exact (pg_tup hc h.run hn hst).run pins s σ H _ u Q I r ⟨a, xs, rfl, sameT rl.same h1, by rw [ra.length]; exact hl, by rw [ra.length]; exact hl, q _ (rl.puts ra) no.puts (wipe_sets hv)⟩⟩, gTp.mono⟩
/-- the tests of a comprehension -/
structure DTs (X : Cx) (F : Fx) (ifs : List Expr) (w : WTx) : Prop where
  run : PTs X ifs (tT X.K F w)
  mono : MonoT w
def wYes : WTx := fun e Q _ => Q true e
theorem dts_nil : DTs X F [] wYes := ⟨⟨fun pins s σ H Q I ⟨e, G, r, q⟩ => pts_nil.run pins s σ H Q I (q G H (Same.refl G) r)⟩, fun _ _ _ _ _ h _ q => h _ _ q⟩
theorem dts_one {c : Expr} {w : WTx} (h : DT X F c w) : DTs X F [c] w := ⟨pts_one h.run, h.mono⟩
end
abbrev noX : PD := fun _ _ => False
def lcLoop (g : WG) (wt : WTx) (we : WEx) (e₀ : En) : List D → List D → Nat → (List D → Nat → Prop) → Prop
  | acc, [], k, P => P acc k
  | acc, d :: ds, k, P => g d { e₀ with k := k } fun e1 => wt e1 (fun b e2 => if b = true then we e2 (fun y e3 => acc.length < 1000 ∧ lcLoop g wt we e₀ (acc ++ [y]) ds e3.k P) noX else lcLoop g wt we e₀ acc ds e2.k P) noX
def wLc (wi : WAx) (g : WG) (wt : WTx) (we : WEx) (vs : List Nat) : WEx := fun e Q x => wi e (fun ds e1 => lcLoop g wt we (wipeE e1 vs) [] ds e1.k fun acc k => Q (.list acc) { e1 with k := k }) x
section
variable {K : PySem.W.Frag} {F : Fx} {σ : L2.St} {H : Hp} {g : WG} {wt : WTx} {we : WEx} {wi : WAx} {vs : List Nat}
theorem lcLoop.mono (mg : MonoG g) (mt : MonoT wt) (me : Mono we) {e₀ : En} {P P' : List D → Nat → Prop} (h : ∀ a k, P a k → P' a k) : ∀ {ds acc : List D} {k : Nat}, lcLoop g wt we e₀ acc ds k P → lcLoop g wt we e₀ acc ds k P'
  | [], _, _, q => h _ _ q
  | d :: ds, acc, k, q => mg d _ _ _ (fun e1 z => mt e1 _ _ _ _ (fun b e2 y => by
    cases b with
    | true => exact me e2 _ _ _ _ (fun d' e3 u => ⟨u.1, lcLoop.mono mg mt me h u.2⟩) (fun _ _ u => u) y
    | false => exact lcLoop.mono mg mt me h y) (fun _ _ u => u) z) q
theorem wLc.mono (mi : MonoA wi) (mg : MonoG g) (mt : MonoT wt) (me : Mono we) : Mono (wLc wi g wt we vs) := fun e Q Q' x x' h1 h2 q => mi e _ _ _ _ (fun ds e1 z => lcLoop.mono mg mt me (fun acc k => h1 _ _) z) h2 q
theorem Rl.rebase {p : Option Addr} {G₀ H₀ G : Hp} {e : En} (r : Rl K p G₀ H₀ G H σ e) (no : NoOwn e) : Rl K p G H G H σ e := by
  obtain ⟨α, r⟩ := r
  exact ⟨α, r.w, Stp.refl, r.len, r.dat, fun i ds h => absurd h (no.no i ds), fun i j ds es h => absurd h (no.no i ds), no.bo⟩
/-- a list of ours that no slot holds is changed -/
theorem Rl.upd {p : Option Addr} {G₀ H₀ G : Hp} {e : En} {q : Addr} {o : HO} (r : Rl K p G₀ H₀ G H σ e) (no : NoOwn e) (g : G q = none) (h : H₀ q = none) (n : p ≠ some q) : Rl K p G₀ H₀ G (L2.upd H q o) σ e := by
  obtain ⟨α, r⟩ := r
  refine ⟨α, ⟨fun b u z => ?_, fun a ea => ?_⟩, ⟨r.st.gg, fun b u z np => ?_, r.st.nn, fun a c ea h => ?_⟩, r.len, r.dat, fun i ds h => absurd h (no.no i ds), fun i j ds es h => absurd h (no.no i ds), no.bo⟩
  · rw [upd_ne (ne_of_none z g)]
    exact r.w.same _ _ z
  · obtain ⟨h1, c, xs, i, t, h2, h3⟩ := r.w.pen a ea
    exact ⟨h1, c, xs, i, t, by rw [upd_ne (fun z => n (by rw [← z]; exact ea))]; exact h2, h3⟩
  · rw [upd_ne (ne_of_none z h)]
    exact r.st.hh b u z np
  · obtain ⟨i, t, z⟩ := r.st.pc a c ea h
    exact ⟨i, t, by rw [upd_ne (fun z => n (by rw [← z]; exact ea))]; exact z⟩
theorem Rl.block {p : Option Addr} {G₀ H₀ G : Hp} {e : En} {q : Addr} {o : HO} (r : Rl K p G₀ H₀ G H σ e) (hq : H q = none) : Rl K p G H G (L2.upd H q o) (wipe σ vs) (wipeE e vs) := by
  obtain ⟨α, r⟩ := r
  refine ⟨α, ⟨fun b u z => ?_, fun a ea => ?_⟩, ⟨fun _ _ z => z, fun b u z np => ?_, fun _ _ _ z => z, fun a c ea ⟨i, t, z⟩ => ⟨i, t, by rw [upd_ne (ne_of_none z hq)]; exact z⟩⟩, ?_, fun i d h => ?_, fun i ds h => absurd h (wipeE_own.no i ds), fun i j ds es h => absurd h (wipeE_own.no i ds), wipeE_own.bo⟩
  · rw [upd_ne (ne_of_none (r.w.same _ _ z) hq)]
    exact r.w.same _ _ z
  · obtain ⟨h1, c, xs, i, t, h2, h3⟩ := r.w.pen a ea
    exact ⟨h1, c, xs, i, t, by rw [upd_ne (ne_of_none h2 hq)]; exact h2, h3⟩
  · rw [upd_ne (ne_of_none z hq)]
    exact z
  · rw [wipe_length, r.len]
    unfold wipeE
    simp
  · obtain ⟨h1, h2⟩ := wipeE_dat h
    rw [wipe_out h1]
    exact r.dat i d h2
theorem tE.lc {F : Fx} (mi : MonoA wi) (mg : MonoG g) (mt : MonoT wt) (me : Mono we) {tg' : TG} {tt : TT} {te : TE}
    (hg : ∀ G₀ H₀ v σ H Q, tGc K ⟨F.p, G₀, H₀, fun _ _ _ _ => False⟩ g vs v σ H Q → tg' v σ H Q) (ht : ∀ G₀ H₀ σ H Q, tT K ⟨F.p, G₀, H₀, fun _ _ _ _ => False⟩ wt σ H Q → tt σ H Q) (he : ∀ G₀ H₀ σ H Q, tE K ⟨F.p, G₀, H₀, fun _ _ _ _ => False⟩ we σ H Q → te σ H Q)
    {Q : VK} (q : tE K F (wLc wi g wt we vs) σ H Q) : tLc (tI K F wi) tg' tt te vs σ H Q := by
  obtain ⟨e, G, r, q⟩ := q
  refine ⟨e, G, r, mi e _ _ _ _ (fun ds e1 z J G1 H1 s1 r1 wk D hD => ?_) (fun _ _ z => z) q⟩
  have wk' : Walk J ds.length (Same G1) (fun i H x H' => ∀ d, ds[i]? = some d → (H' = H ∧ R K F.p G1 x d) ∨ ∃ T xs es, x = .ref T ∧ H T = none ∧ H' = L2.upd H T (.tup xs) ∧ d = .tuple es ∧ RA K F.p G1 xs es) :=
    ⟨wk.goes, wk.stops, fun i H x H' _ s y d hd => wk.yields i H x H' d hd s y⟩
  have nG : G1 D = none := r1.same.free hD
  have np : F.p ≠ some D := fun ep => by
    obtain ⟨_, c, xs, i, t, h2, _⟩ := r1.wd.pen D ep
    rw [hD] at h2; cases h2
  refine lc_it wk' (fun i H => ∃ acc as k G, Same G1 G ∧ H D = some (.lst as) ∧ G D = none ∧ RA K F.p G as acc ∧ Rl K F.p G1 H1 G H (wipe σ vs) { wipeE e1 vs with k := k } ∧ lcLoop g wt we (wipeE e1 vs) acc (ds.drop i) k fun acc k => PQ K F.p F.G₀ F.H₀ G1 σ Q (.list acc) { e1 with k := k })
    ⟨[], [], e1.k, G1, Same.refl G1, upd_same, nG, .nil, r1.block hD, lcLoop.mono mg mt me (fun _ _ => PQ.mono s1) z⟩
    (fun i H _ ⟨_, _, _, G2, s2, _, _, _, r2, _⟩ => s2.trans r2.same) (fun i x H H' hlt ⟨acc, as, k, G2, s2, hd2, gd2, ra2, r2, z2⟩ y => ?_) (fun H ⟨acc, as, k, G2, s2, hd2, gd2, ra2, r2, z2⟩ => ?_)
  · rw [List.drop_eq_getElem_cons hlt] at z2
    have hd : ds[i]? = some ds[i] := List.getElem?_eq_getElem hlt
    -- the turn, from any ground
    have turn : ∀ G3 H3 v, Same G2 G3 → H3 D = some (.lst as) → G3 D = none → Rl K F.p G1 H1 G3 H3 (wipe σ vs) { wipeE e1 vs with k := k } → R K F.p G3 v ds[i] →
        tg' v (wipe σ vs) H3 fun σ2 H2 => wipe σ2 vs = wipe σ vs ∧ tt σ2 H2 fun b H3 => if b = true then te σ2 H3 fun y H4 => ∃ acc, H4 D = some (.lst acc) ∧ acc.length < sizeLine ∧
          (∃ acc' as k G, Same G1 G ∧ (L2.upd H4 D (.lst (acc ++ [y]))) D = some (.lst as) ∧ G D = none ∧ RA K F.p G as acc' ∧ Rl K F.p G1 H1 G (L2.upd H4 D (.lst (acc ++ [y]))) (wipe σ vs) { wipeE e1 vs with k := k } ∧ lcLoop g wt we (wipeE e1 vs) acc' (ds.drop (i + 1)) k fun acc k => PQ K F.p F.G₀ F.H₀ G1 σ Q (.list acc) { e1 with k := k })
          else (∃ acc as k G, Same G1 G ∧ H3 D = some (.lst as) ∧ G D = none ∧ RA K F.p G as acc ∧ Rl K F.p G1 H1 G H3 (wipe σ vs) { wipeE e1 vs with k := k } ∧ lcLoop g wt we (wipeE e1 vs) acc (ds.drop (i + 1)) k fun acc k => PQ K F.p F.G₀ F.H₀ G1 σ Q (.list acc) { e1 with k := k }) := fun G3 H3 v s3 hd3 gd3 r3 rv => by
      have no : NoOwn { wipeE e1 vs with k := k } := wipeE_own (e := e1) (vs := vs)
      refine hg G3 H3 _ _ _ _ ⟨{ wipeE e1 vs with k := k }, G3, _, r3.rebase no, rv, no, mg _ _ _ _ (fun e4 z4 σ4 r4 no4 w4 => ⟨w4.trans wipe_wipe, ?_⟩) z2⟩
      refine ht G3 H3 _ _ _ ⟨e4, G3, r4, mt e4 _ _ _ _ (fun b e5 z5 G5 H5 s5 r5 => ?_) (fun _ _ u => u.elim) z4⟩
      have step := fun (G6 H6 : Hp) (e6 : En) (r6 : Rl K F.p G3 H3 G6 H6 σ4 e6) => (⟨let ⟨_, q⟩ := r6; q.st, r6.wd⟩ : Stp F.p G3 H3 G6 H6 ∧ Wd K F.p e6.k G6 H6)
      cases b with
      | false =>
        obtain ⟨st, wd⟩ := step G5 H5 e5 r5
        exact ⟨acc, as, e5.k, G5, s2.trans (s3.trans s5), st.hh _ _ hd3 np, st.nn _ _ hd3 gd3, ra2.mono (s3.trans s5), r3.step st wd, z5⟩
      | true =>
        refine he G3 H3 _ _ _ ⟨e5, G5, r5, me e5 _ _ _ _ (fun dy e6 z6 y G6 H6 s6 r6 ry => ?_) (fun _ _ u => u.elim) z5⟩
        obtain ⟨st, wd⟩ := step G6 H6 e6 r6
        have hd6 := st.hh _ _ hd3 np
        have gd6 := st.nn _ _ hd3 gd3
        have s36 := s3.trans (s5.trans s6)
        refine ⟨as, hd6, by rw [ra2.length]; exact Nat.lt_of_lt_of_le z6.1 (by decide), acc ++ [dy], as ++ [y], e6.k, G6, s2.trans s36, upd_same, gd6, (ra2.mono s36).append (.cons ry .nil), ?_, z6.2⟩
        exact (r3.step st wd).upd (wipeE_own (e := e1) (vs := vs)) gd6 hD np
    rcases y _ hd with ⟨rfl, rv⟩ | ⟨T, xs, es, rfl, hT, rfl, ed, rxs⟩
    · exact turn G2 _ x (Same.refl G2) hd2 gd2 r2 (rv.mono s2)
    · have s3 := sameNew (o := .tup xs) r2.same hT
      have nT : D ≠ T := ne_of_none hd2 hT
      exact turn (L2.upd G2 T (.tup xs)) _ (.ref T) s3 (by rw [upd_ne nT]; exact hd2) (by rw [upd_ne nT]; exact gd2) (r2.new hT) (by rw [ed]; exact .tup (SqT.of upd_same) (rxs.mono (s2.trans s3)))
  · rw [List.drop_length] at z2
    obtain ⟨α, r3⟩ := id r2
    have sD : Same G2 (L2.upd G2 D (.lst as)) := fun b u z => by rw [upd_ne (ne_of_none z gd2)]; exact z
    refine z2 _ (L2.upd G2 D (.lst as)) H (s2.trans sD) (r1.step (k' := k) ⟨fun b u z => sD _ _ (r3.st.gg _ _ z), r3.st.hh, fun b u z n => ?_, r3.st.pc⟩ ⟨fun b u z => ?_, fun a ea => ?_⟩) (.lst upd_same (ra2.mono sD))
    · rw [upd_ne (ne_of_none z hD)]
      exact r3.st.nn _ _ z n
    · by_cases hb : b = D
      · subst hb; rw [upd_same] at z; rw [hd2]; exact z
      · rw [upd_ne hb] at z; exact r3.w.same _ _ z
    · obtain ⟨h1, h2⟩ := r3.w.pen a ea
      exact ⟨by rw [upd_ne (fun z => np (by rw [← z]; exact ea))]; exact h1, by
        obtain ⟨c, xs, i, t, h3, h4, h5⟩ := h2
        exact ⟨c, xs, i, t, h3, sD _ _ h4, h5⟩⟩
end
end L2.DL
set_option
      maxHeartbeats 1000000
namespace L2.DL
open PySem PySem.Spec
      PyProof.Rows
section
variable {X : Cx} {F : Fx} {pos : Pos} {elt tg iter : Expr} {ifs : List Expr} {scope : Scope} {own : List (Str × Nat)} {wi : WAx} {g : WG} {wt : WTx} {we : WEx}
abbrev inn (p : Option Addr) (G₀ H₀ : Hp) : Fx := ⟨p, G₀, H₀, fun _ _ _ _ => False⟩
/-- the rules that a comprehension's block is read by -/
theorem lc_parts (hc : X.calm = true) (hN : X.N.Nodup) (hi : DI X F tg iter wi)
    (hg : ∀ (s : Shared) (H : Hp) (C : Addr) (cl : List (Str × Addr)) (fp : List Addr) (G₀ H₀ : Hp), DGc (X.blk s H scope (compEnvC scope cl C X.env) fp) (inn F.p G₀ H₀) tg g (own.map (·.2)))
    (ht : ∀ (s : Shared) (H : Hp) (C : Addr) (cl : List (Str × Addr)) (fp : List Addr) (G₀ H₀ : Hp), DTs (X.blk s H scope (compEnvC scope cl C X.env) fp) (inn F.p G₀ H₀) ifs wt)
    (he : ∀ (s : Shared) (H : Hp) (C : Addr) (cl : List (Str × Addr)) (fp : List Addr) (G₀ H₀ : Hp), DE (X.blk s H scope (compEnvC scope cl C X.env) fp) (inn F.p G₀ H₀) elt we) :
    ∃ (tg' : TG) (tt : TT) (te : TE), (∀ (s : Shared) (H : Hp) (C : Addr) (cl : List (Str × Addr)) (fp : List Addr), PG (X.blk s H scope (compEnvC scope cl C X.env) fp) tg tg') ∧
      (∀ (s : Shared) (H : Hp) (C : Addr) (cl : List (Str × Addr)) (fp : List Addr), PTs (X.blk s H scope (compEnvC scope cl C X.env) fp) ifs tt) ∧
      (∀ (s : Shared) (H : Hp) (C : Addr) (cl : List (Str × Addr)) (fp : List Addr), PE (X.blk s H scope (compEnvC scope cl C X.env) fp) elt te) ∧
      ∀ σ H Q, tE X.K F (wLc wi g wt we (own.map (·.2))) σ H Q → tLc (tI X.K F wi) tg' tt te (own.map (·.2)) σ H Q := by
  refine ⟨fun v σ H Q => ∃ G₀ H₀, tGc X.K (inn F.p G₀ H₀) g (own.map (·.2)) v σ H Q, fun σ H Q => ∃ G₀ H₀, tT X.K (inn F.p G₀ H₀) wt σ H Q, fun σ H Q => ∃ G₀ H₀, tE X.K (inn F.p G₀ H₀) we σ H Q,
    fun s H C cl fp => ⟨fun pins s' σ H' v u Q I r ⟨G₀, H₀, q⟩ => (hg s H C cl fp G₀ H₀).run.run pins s' σ H' v u Q I r q⟩,
    fun s H C cl fp => ⟨fun pins s' σ H' Q I ⟨G₀, H₀, q⟩ => (ht s H C cl fp G₀ H₀).run.run pins s' σ H' Q I q⟩,
    fun s H C cl fp => ⟨fun pins s' σ H' Q I ⟨G₀, H₀, q⟩ => (he s H C cl fp G₀ H₀).run.run pins s' σ H' Q I q⟩, fun σ H Q q => ?_⟩
  exact tE.lc hi.mono (hg X.s_0 X.H_0 0 [] [] X.H_0 X.H_0).mono (ht X.s_0 X.H_0 0 [] [] X.H_0 X.H_0).mono (he X.s_0 X.H_0 0 [] [] X.H_0 X.H_0).mono
    (fun G₀ H₀ _ _ _ _ z => ⟨G₀, H₀, z⟩) (fun G₀ H₀ _ _ _ z => ⟨G₀, H₀, z⟩) (fun G₀ H₀ _ _ _ z => ⟨G₀, H₀, z⟩) q
theorem de_lc (hc : X.calm = true) (hN : X.N.Nodup) (hi : DI X F tg iter wi) (ok : BlkOk X.N X.env.scope scope own)
    (hg : ∀ (s : Shared) (H : Hp) (C : Addr) (cl : List (Str × Addr)) (fp : List Addr) (G₀ H₀ : Hp), DGc (X.blk s H scope (compEnvC scope cl C X.env) fp) (inn F.p G₀ H₀) tg g (own.map (·.2)))
    (ht : ∀ (s : Shared) (H : Hp) (C : Addr) (cl : List (Str × Addr)) (fp : List Addr) (G₀ H₀ : Hp), DTs (X.blk s H scope (compEnvC scope cl C X.env) fp) (inn F.p G₀ H₀) ifs wt)
    (he : ∀ (s : Shared) (H : Hp) (C : Addr) (cl : List (Str × Addr)) (fp : List Addr) (G₀ H₀ : Hp), DE (X.blk s H scope (compEnvC scope cl C X.env) fp) (inn F.p G₀ H₀) elt we)
    (hs : ∀ x, foldedSetIterable iter X.env x = pure x := by intro _; rfl) : DE X F (.ListComp elt [⟨tg, iter, ifs, 0⟩] scope pos) (wLc wi g wt we (own.map (·.2))) := by
  obtain ⟨tg', tt, te, h1, h2, h3, h4⟩ := lc_parts hc hN hi hg ht he
  exact de_of (pe_lc hc hN hi.run ok h1 h2 h3 hs) (wLc.mono hi.mono (hg X.s_0 X.H_0 0 [] [] X.H_0 X.H_0).mono (ht X.s_0 X.H_0 0 [] [] X.H_0 X.H_0).mono (he X.s_0 X.H_0 0 [] [] X.H_0 X.H_0).mono) h4
/-- name = [..], on one line -/
theorem ds_setLc {i : Nat} {y : Str} {py spos : Pos} (hc : X.calm = true) (hN : X.N.Nodup) (hi : DI X F tg iter wi) (ok : BlkOk X.N X.env.scope scope own)
    (hg : ∀ (s : Shared) (H : Hp) (C : Addr) (cl : List (Str × Addr)) (fp : List Addr) (G₀ H₀ : Hp), DGc (X.blk s H scope (compEnvC scope cl C X.env) fp) (inn F.p G₀ H₀) tg g (own.map (·.2)))
    (ht : ∀ (s : Shared) (H : Hp) (C : Addr) (cl : List (Str × Addr)) (fp : List Addr) (G₀ H₀ : Hp), DTs (X.blk s H scope (compEnvC scope cl C X.env) fp) (inn F.p G₀ H₀) ifs wt)
    (he : ∀ (s : Shared) (H : Hp) (C : Addr) (cl : List (Str × Addr)) (fp : List Addr) (G₀ H₀ : Hp), DE (X.blk s H scope (compEnvC scope cl C X.env) fp) (inn F.p G₀ H₀) elt we)
    (hsw : swapsWith (.ListComp elt [⟨tg, iter, ifs, 0⟩] scope pos) (some (.Name y py)) spos.line X.env = pure true) (hy : X.N[i]? = some y := by rfl) (hyl : X.env.scope.names.lookup y = some .local := by rfl)
    (hs : ∀ x, foldedSetIterable iter X.env x = pure x := by intro _; rfl) : DS X F (.Assign [.Name y py] (.ListComp elt [⟨tg, iter, ifs, 0⟩] scope pos) spos) (wSet i (wLc wi g wt we (own.map (·.2)))) := by
  obtain ⟨tg', tt, te, h1, h2, h3, h4⟩ := lc_parts hc hN hi hg ht he
  have m := wLc.mono (vs := own.map (·.2)) hi.mono (hg X.s_0 X.H_0 0 [] [] X.H_0 X.H_0).mono (ht X.s_0 X.H_0 0 [] [] X.H_0 X.H_0).mono (he X.s_0 X.H_0 0 [] [] X.H_0 X.H_0).mono
  exact ds_of (ps_setLc hc hN hy hyl hsw hi.run ok h1 h2 h3 hs) (wSet.mono m) fun D σ H ⟨e, G, r, q⟩ => h4 _ _ _ (tS.expr (k := fun D d e1 => D.nx (DL.put e1 i (.dat d))) m r q fun d e' v G' H' s r' rv z => z _ G' H' s (r'.put rv))
end
/-! ### lists that one slot alone holds -/
def PF (K : PySem.W.Frag) (F : Fx) (G : Hp) (σ : L2.St) (Q : VK) : List D → En → Prop := fun ds e' => ∀ a xs G' H', Same G G' → Rl K F.p F.G₀ F.H₀ G' H' σ e' → H' a = none → RA K F.p G' xs ds → Q (.ref a) (L2.upd H' a (.lst xs))
def tF (K : PySem.W.Frag) (F : Fx) (w : WAx) : TE := fun σ H Q => ∃ e G, Rl K F.p F.G₀ F.H₀ G H σ e ∧ w e (PF K F G σ Q) (PX K F.p F.G₀ F.H₀ F.W G σ)
/-- an expression that gives a new list -/
structure DF (X : Cx) (F : Fx) (e : Expr) (w : WAx) : Prop where
  run : PE X e (tF X.K F w)
  mono : MonoA w
section
variable {K : PySem.W.Frag} {F : Fx} {σ : L2.St} {H : Hp} {X : Cx} {pos : Pos} {a b : Expr} {es : List Expr} {wa wb : WEx} {wr : WAx}
theorem df_of {e : Expr} {t : TE} {w : WAx} (h : PE X e t) (m : MonoA w) (i : ∀ σ H Q, tF X.K F w σ H Q → t σ H Q) : DF X F e w := ⟨⟨fun pins s σ H Q I q => h.run pins s σ H Q I (i σ H Q q)⟩, m⟩
def wLstF (w : WAx) : WAx := fun e Q x => w e (fun ds e1 => ds.length ≤ 1000 ∧ Q ds e1) x
theorem df_lst (h : DA X F es wr) : DF X F (.List es pos) (wLstF wr) :=
  df_of (pe_lst h.run) (fun e Q Q' x x' h1 h2 q => h.mono e _ _ _ _ (fun ds e1 z => ⟨z.1, h1 _ _ z.2⟩) h2 q) fun σ H Q ⟨e, G, r, q⟩ => ⟨e, G, r, h.mono e _ _ _ _ (fun ds e1 z vs G' H' s r' rv => ⟨by rw [rv.length]; exact le_line z.1, fun p hp => z.2 p vs G' H' s r' hp rv⟩) (fun _ _ z => z) q⟩
def wListF (w : WEx) : WAx := fun e Q x => w e (fun d e1 => ∃ ds, items d = some ds ∧ Q ds e1) x
theorem df_list {q : Pos} (h : DE X F a wa) (hm : X.mg "list" = none) (hg : Gl X "list" := by rfl) (hv : bootBuiltins "list" = some (.type "list") := by decide +kernel) (hs : starEach [a] X.env = (false, eval a X.env) :: starEach [] X.env := by rfl)
    (hpl : (backTo pos (starEach [] X.env)).any (·.1) = false := by rfl) : DF X F (.Call (.Name "list" q) [a] [] pos) (wListF wa) :=
  df_of (pe_callTy call_list_of hg hm hv (pa_cons h.run pa_nil hs) (by decide) (by decide) hs hpl) (fun e Q Q' x x' h1 h2 q => h.mono e _ _ _ _ (fun d e1 ⟨ds, i, z⟩ => ⟨ds, i, h1 _ _ z⟩) h2 q) fun σ H Q ⟨e, G, r, q⟩ =>
    ⟨e, G, r, h.mono e _ _ _ _ (fun d e1 ⟨ds, i, z⟩ v G' H' s r' rv => by
      cases d with
      | list es =>
        cases i
        obtain ⟨l, ys, rfl, h1, r1⟩ := rv.lst_inv
        exact ⟨l, ys, rfl, .inl (SqL.of (r'.same _ _ h1)), fun l hl => z l ys G' H' s r' hl r1⟩
      | tuple es =>
        cases i
        obtain ⟨l, ys, rfl, h1, r1⟩ := rv.tup_inv
        exact ⟨l, ys, rfl, .inr (sameT r'.same h1), fun l hl => z l ys G' H' s r' hl r1⟩
      | none => cases i
      | bool b => cases i
      | int i => cases i
      | str x => cases i
      | dict kvs => cases i) (fun _ _ z => z) q⟩
def wRepF (wa wb : WEx) : WAx := fun e Q x => wa e (fun d e1 => wb e1 (fun d' e2 => ∃ ds k, d = .list ds ∧ d' = .int k ∧ 0 ≤ k ∧ k ≤ 1000 ∧ ds.length ≤ 1000 ∧ Q (List.replicate k.toNat ds).flatten e2) x) x
/-! #### the relation when such a list comes, changes, is let go -/
theorem own_ne {e : En} {i j : Nat} {ds es : List D} (h : (put e i (.own es)).s[j]? = some (.own ds)) : (j = i ∧ i < e.s.length ∧ ds = es) ∨ (j ≠ i ∧ e.s[j]? = some (.own ds)) := by
  have h : (e.s.set i (.own es))[j]? = some (.own ds) := h
  by_cases hj : i = j
  · subst hj
    by_cases hl : i < e.s.length
    · rw [List.getElem?_set_self hl] at h
      cases h
      exact .inl ⟨rfl, hl, rfl⟩
    · rw [List.getElem?_eq_none (by simpa using hl)] at h; cases h
  · rw [List.getElem?_set_ne hj] at h
    exact .inr ⟨Ne.symm hj, h⟩
theorem own_dat {e : En} {i j : Nat} {es : List D} {d : D} (h : (put e i (.own es)).s[j]? = some (.dat d)) : j ≠ i ∧ e.s[j]? = some (.dat d) := by
  have h : (e.s.set i (.own es))[j]? = some (.dat d) := h
  by_cases hj : i = j
  · subst hj
    by_cases hl : i < e.s.length
    · rw [List.getElem?_set_self hl] at h; cases h
    · rw [List.getElem?_eq_none (by simpa using hl)] at h; cases h
  · rw [List.getElem?_set_ne hj] at h
    exact ⟨Ne.symm hj, h⟩
theorem Rl.own {p : Option Addr} {G₀ H₀ G : Hp} {e : En} {i : Nat} {q : Addr} {xs : List V} {ds : List D} (r : Rl K p G₀ H₀ G H σ e) (hq : H q = none) (ra : RA K p G xs ds) : Rl K p G₀ H₀ G (L2.upd H q (.lst xs)) (σ.set i (some (.ref q))) (DL.put e i (.own ds)) := by
  obtain ⟨α, r⟩ := r
  have np : p ≠ some q := fun ep => by
    obtain ⟨_, c, xs, i, t, h2, _⟩ := r.w.pen q ep
    rw [hq] at h2; cases h2
  have n0 : H₀ q = none := by
    cases z : H₀ q with
    | none => rfl
    | some o => have := r.st.hh q o z np; rw [hq] at this; cases this
  have gq : G q = none := r.w.same.free hq
  refine ⟨fun j => if j = i then q else α j, ⟨fun b u z => ?_, fun a ea => ?_⟩, ⟨r.st.gg, fun b u z n => ?_, r.st.nn, fun a c ea h => ?_⟩, by simpa [DL.put] using r.len, fun j d h => ?_, fun j es h => ?_, fun j k es fs h1 h2 hjk => ?_, (r.bo.env (σ' := σ.set i (some (.ref q))) (s' := (DL.put e i (.own ds)).s) (α' := fun j => if j = i then q else α j) (fun j z h => ?_) fun j es h => ?_).heap (Same.refl G) fun b ys g1 g2 g3 g4 _ => ⟨by rw [upd_ne (ne_of_none g1 hq)]; exact g1, g2, g3⟩⟩
  · rw [upd_ne (ne_of_none z gq)]; exact r.w.same _ _ z
  · obtain ⟨h1, c, xs, i, t, h2, h3⟩ := r.w.pen a ea
    exact ⟨h1, c, xs, i, t, by rw [upd_ne (ne_of_none h2 hq)]; exact h2, h3⟩
  · rw [upd_ne (ne_of_none z n0)]; exact r.st.hh b u z n
  · obtain ⟨i, t, z⟩ := r.st.pc a c ea h
    exact ⟨i, t, by rw [upd_ne (ne_of_none z hq)]; exact z⟩
  · obtain ⟨hj, h'⟩ := own_dat h
    rw [List.getElem?_set_ne (Ne.symm hj)]
    exact r.dat j d h'
  · rcases own_ne h with ⟨rfl, hl, rfl⟩ | ⟨hj, h'⟩
    · simp only [if_true]
      exact ⟨xs, List.getElem?_set_self (by rw [r.len]; exact hl), upd_same, gq, n0, np, ra⟩
    · obtain ⟨ys, q1, q2, q3, q4, q5, q6⟩ := r.own j es h'
      simp only [if_neg hj]
      exact ⟨ys, by rw [List.getElem?_set_ne (Ne.symm hj)]; exact q1, by rw [upd_ne (ne_of_none q2 hq)]; exact q2, q3, q4, q5, q6⟩
  · rcases own_ne h1 with ⟨rfl, _, rfl⟩ | ⟨hj, h1'⟩
    · rcases own_ne h2 with ⟨rfl, _, rfl⟩ | ⟨hk, h2'⟩
      · exact absurd rfl hjk
      · obtain ⟨ys, q1, q2, _⟩ := r.own k fs h2'
        simp only [if_true, if_neg hk]
        exact Ne.symm (ne_of_none q2 hq)
    · rcases own_ne h2 with ⟨rfl, _, rfl⟩ | ⟨hk, h2'⟩
      · obtain ⟨ys, q1, q2, _⟩ := r.own j es h1'
        simp only [if_true, if_neg hj]
        exact ne_of_none q2 hq
      · simp only [if_neg hj, if_neg hk]
        exact r.sep j k es fs h1' h2' hjk
  · have h : (e.s.set i (.own ds))[j]? = some z := h
    by_cases hj : i = j
    · subst hj
      by_cases hl : i < e.s.length
      · rw [List.getElem?_set_self hl] at h
        cases h
        exact .inl ⟨rfl, rfl⟩
      · rw [List.getElem?_eq_none (by simpa using hl)] at h; cases h
    · rw [List.getElem?_set_ne hj] at h
      exact .inr ⟨h, List.getElem?_set_ne hj⟩
  · rcases own_ne h with ⟨rfl, _, rfl⟩ | ⟨hj, h'⟩
    · exact .inr (.inl (by simp only [if_true]; exact hq))
    · exact .inl ⟨es, h', by simp only [if_neg hj]⟩
theorem Rl.mut {p : Option Addr} {G₀ H₀ G : Hp} {e : En} {i : Nat} {q : Addr} {ys : List V} {ds es : List D} (r : Rl K p G₀ H₀ G H σ e) (hi : e.s[i]? = some (.own ds)) (hs : σ[i]? = some (some (.ref q))) (ra : RA K p G ys es) : Rl K p G₀ H₀ G (L2.upd H q (.lst ys)) σ (DL.put e i (.own es)) := by
  obtain ⟨α, r⟩ := r
  obtain ⟨xs, q1, q2, q3, q4, q5, q6⟩ := r.own i ds hi
  have eq : α i = q := by rw [hs] at q1; cases q1; rfl
  rw [eq] at q2 q3 q4 q5
  refine ⟨α, ⟨fun b u z => ?_, fun a ea => ?_⟩, ⟨r.st.gg, fun b u z n => ?_, r.st.nn, fun a c ea h => ?_⟩, by simpa [DL.put] using r.len, fun j d h => ?_, fun j fs h => ?_, fun j k fs gs h1 h2 hjk => ?_, (r.bo.env (σ' := σ) (s' := (DL.put e i (.own es)).s) (α' := α) (fun j z h => ?_) fun j fs h => ?_).heap (Same.refl G) fun b us g1 g2 g3 g4 g5 => ⟨by
    by_cases hl : i < e.s.length
    · have n := g5 i es (List.getElem?_set_self hl)
      rw [eq] at n
      rw [upd_ne (Ne.symm n)]; exact g1
    · rw [List.getElem?_eq_none (by simpa using hl)] at hi; exact (nomatch hi), g2, g3⟩⟩
  · rw [upd_ne (ne_of_none z q3)]; exact r.w.same _ _ z
  · obtain ⟨h1, c, xs, i, t, h2, h3⟩ := r.w.pen a ea
    exact ⟨h1, c, xs, i, t, by rw [upd_ne (fun z => q5 (by rw [← z]; exact ea))]; exact h2, h3⟩
  · rw [upd_ne (ne_of_none z q4)]; exact r.st.hh b u z n
  · obtain ⟨i, t, z⟩ := r.st.pc a c ea h
    exact ⟨i, t, by rw [upd_ne (fun z => q5 (by rw [← z]; exact ea))]; exact z⟩
  · obtain ⟨hj, h'⟩ := own_dat h
    exact r.dat j d h'
  · rcases own_ne h with ⟨rfl, hl, rfl⟩ | ⟨hj, h'⟩
    · rw [eq]
      exact ⟨ys, hs, upd_same, q3, q4, q5, ra⟩
    · obtain ⟨zs, z1, z2, z3⟩ := r.own j fs h'
      have n := r.sep j i fs ds h' hi hj
      rw [eq] at n
      exact ⟨zs, z1, by rw [upd_ne n]; exact z2, z3⟩
  · have o : ∀ {j : Nat} {fs}, (DL.put e i (Slot.own es)).s[j]? = some (.own fs) → ∃ gs, e.s[j]? = some (Slot.own gs) := fun {j fs} h => by
      rcases own_ne h with ⟨rfl, _, rfl⟩ | ⟨_, h'⟩
      · exact ⟨_, hi⟩
      · exact ⟨_, h'⟩
    obtain ⟨a1, b1⟩ := o h1
    obtain ⟨a2, b2⟩ := o h2
    exact r.sep j k a1 a2 b1 b2 hjk
  · have h : (e.s.set i (.own es))[j]? = some z := h
    by_cases hj : i = j
    · subst hj
      by_cases hl : i < e.s.length
      · rw [List.getElem?_set_self hl] at h
        cases h
        exact .inl ⟨rfl, rfl⟩
      · rw [List.getElem?_eq_none (by simpa using hl)] at h; cases h
    · rw [List.getElem?_set_ne hj] at h
      exact .inr ⟨h, rfl⟩
  · rcases own_ne h with ⟨rfl, _, rfl⟩ | ⟨hj, h'⟩
    · exact .inl ⟨_, hi, rfl⟩
    · exact .inl ⟨_, h', rfl⟩
def lend : Slot → Slot
  | .own ds => .dat (.list ds)
  | .bor _ ds => .dat (.list ds)
  | .nest _ rows => .dat (.list (rows.map fun r => .list r.2))
  | z => z
def lendE (e : En) : En := { e with s := e.s.map lend }
def heldAt (e : En) (α : Nat → Addr) (b : Addr) : Prop := (∃ (j : Nat) (ds : List D), e.s[j]? = some (.own ds) ∧ α j = b) ∨ ∃ (j : Nat) (z : Slot) (ds : List D), e.s[j]? = some z ∧ (b, ds) ∈ z.pcs
theorem Rel.held {p : Option Addr} {G₀ H₀ G : Hp} {e : En} {α : Nat → Addr} {b : Addr} (r : Rel K p G₀ H₀ G H σ e α) (h : heldAt e α b) : ∃ xs, H b = some (.lst xs) ∧ G b = none ∧ H₀ b = none ∧ p ≠ some b := by
  rcases h with ⟨j, ds, hj, ej⟩ | ⟨j, z, ds, hj, hz⟩
  · obtain ⟨xs, _, h2, h3, h4, h5, _⟩ := r.own j ds hj
    rw [ej] at h2 h3 h4 h5
    exact ⟨xs, h2, h3, h4, h5⟩
  · obtain ⟨xs, h2, h3, h4, h5, _⟩ := r.bo.pc j z b ds hj hz
    exact ⟨xs, h2, h3, h4, h5⟩
open Classical in
/-- the ground with the lists let go; without them -/
noncomputable def plus (G H : Hp) (e : En) (α : Nat → Addr) : Hp := fun b => if heldAt e α b then H b else G b
open Classical in
noncomputable def minus (G : Hp) (e : En) (α : Nat → Addr) : Hp := fun b => if heldAt e α b then none else G b
theorem lendE_at {e : En} {i : Nat} {z : Slot} (h : (lendE e).s[i]? = some z) : ∃ y, e.s[i]? = some y ∧ z = lend y := by
  have h : (e.s.map lend)[i]? = some z := h
  rw [List.getElem?_map] at h
  cases q : e.s[i]? with
  | none => rw [q] at h; cases h
  | some y =>
    rw [q] at h
    exact ⟨y, rfl, (Option.some.inj h).symm⟩
theorem lendE_own {e : En} : NoOwn (lendE e) := by
  intro i z h
  obtain ⟨y, _, rfl⟩ := lendE_at h
  cases y <;> first | exact free_dat | exact free_un
theorem Rel.plus {p : Option Addr} {G₀ H₀ G : Hp} {e : En} {α : Nat → Addr} (r : Rel K p G₀ H₀ G H σ e α) : Same G (DL.plus G H e α) ∧ Rl K p G₀ H₀ (DL.plus G H e α) H σ (lendE e) := by
  have s1 : Same G (DL.plus G H e α) := fun b u z => by
    unfold DL.plus
    split
    · exact r.w.same _ _ z
    · exact z
  have s2 : Same (DL.plus G H e α) H := fun b u z => by
    unfold DL.plus at z
    split at z
    · exact z
    · exact r.w.same _ _ z
  have at' : ∀ {b : Addr} {xs : List V}, heldAt e α b → H b = some (.lst xs) → DL.plus G H e α b = some (.lst xs) := fun {b xs} hb h => by
    unfold DL.plus
    rw [if_pos hb]
    exact h
  refine ⟨s1, α, ⟨s2, fun a ea => ?_⟩, ⟨fun b u z => s1 _ _ (r.st.gg _ _ z), r.st.hh, fun b u z n => ?_, r.st.pc⟩, by simpa [lendE] using r.len, fun i d h => ?_, fun i ds h => absurd h (lendE_own.no i ds), fun i j ds es h => absurd h (lendE_own.no i ds), lendE_own.bo⟩
  · obtain ⟨h1, c, xs, i, t, h2, h3, h4⟩ := r.w.pen a ea
    refine ⟨?_, c, xs, i, t, h2, s1 _ _ h3, h4⟩
    unfold DL.plus
    rw [if_neg]
    · exact h1
    · intro hb
      obtain ⟨_, _, _, _, n⟩ := r.held hb
      exact n ea
  · unfold DL.plus
    rw [if_neg]
    · exact r.st.nn b u z n
    · intro hb
      obtain ⟨_, _, _, n0, _⟩ := r.held hb
      rw [z] at n0; cases n0
  · obtain ⟨y, hy, ey⟩ := lendE_at h
    cases y with
    | un => cases ey
    | dat d' =>
      cases ey
      obtain ⟨v, h1, h2⟩ := r.dat i d hy
      exact ⟨v, h1, h2.mono s1⟩
    | own ds =>
      cases ey
      obtain ⟨xs, h1, h2, h3, h4, h5, h6⟩ := r.own i ds hy
      exact ⟨_, h1, .lst (at' (.inl ⟨i, ds, hy, rfl⟩) h2) (h6.mono s1)⟩
    | bor a ds =>
      cases ey
      have m : (a, ds) ∈ (Slot.bor a ds).pcs := List.mem_singleton.mpr rfl
      obtain ⟨xs, h2, _, _, _, h6⟩ := r.bo.pc i _ a ds hy m
      exact ⟨_, r.bo.hd i _ a hy rfl, .lst (at' (.inr ⟨i, _, ds, hy, m⟩) h2) (h6.mono s1)⟩
    | nest a rows =>
      cases ey
      have m : (a, rows.map fun r => mutD r.1) ∈ (Slot.nest a rows).pcs := List.mem_cons_self
      obtain ⟨xs, h2, _, _, _, h6⟩ := r.bo.pc i _ a _ hy m
      refine ⟨_, r.bo.hd i _ a hy rfl, .lst (at' (.inr ⟨i, _, _, hy, m⟩) h2) ?_⟩
      have go : ∀ (rs : List (Addr × List D)) (ys : List V), (∀ q ∈ rs, q ∈ (Slot.nest a rows).pcs) → RA K p G ys (rs.map fun r => mutD r.1) → RA K p (DL.plus G H e α) ys (rs.map fun r => .list r.2) := by
        intro rs
        induction rs with
        | nil =>
          intro ys _ ra
          cases ra
          exact .nil
        | cons q rs ih =>
          intro ys hm ra
          obtain ⟨b, es⟩ := q
          cases ra with
          | cons rv rt =>
            cases rv.mut_inv
            have mb := hm (b, es) List.mem_cons_self
            obtain ⟨zs, k2, _, _, _, k6⟩ := r.bo.pc i _ b es hy mb
            exact .cons (.lst (at' (.inr ⟨i, _, es, hy, mb⟩) k2) (k6.mono s1)) (ih _ (fun q hq => hm q (List.mem_cons_of_mem _ hq)) rt)
      exact go rows xs (fun q hq => List.mem_cons_of_mem _ hq) h6
mutual
/-- no list within -/
def noL : D → Bool
  | .none => true
  | .bool _ => true
  | .int _ => true
  | .str _ => true
  | .tuple ds => noLs ds
  | .list _ => false
  | .dict _ => false
def noLs : List D → Bool
  | [] => true
  | d :: ds => noL d && noLs ds
end
mutual
theorem R.less {p : Option Addr} {G G' : Hp} (h : ∀ b o, G b = some o → (∀ xs, o ≠ .lst xs) → G' b = some o) : ∀ {v : V} {d : D}, R K p G v d → noL d = true → R K p G' v d
  | _, _, .non, _ => .non
  | _, _, .bl b, _ => .bl b
  | _, _, .int i, _ => .int i
  | _, _, .str x, _ => .str x
  | _, _, .lst _ _, n => by simp only [noL] at n; cases n
  | _, _, .tup q r, n => .tup (by
      rcases q with (q | ⟨o, q⟩) | q
      · exact .inl (.inl (h _ _ q fun xs z => nomatch z))
      · exact .inl (.inr ⟨o, h _ _ q fun xs z => nomatch z⟩)
      · exact .inr q) (RA.less h r (by simpa only [noL] using n))
  | _, _, .pen _ e, n => by subst e; simp only [noL] at n; cases n
  | _, _, .exc _ e, n => by subst e; simp only [noL] at n; cases n
  | _, _, .obj _ _ e, n => by subst e; simp only [noL] at n; cases n
  | _, _, .scr _ e, n => by subst e; simp only [noL] at n; cases n
  | _, _, .frt _ _ _ e, n => by subst e; simp only [noL] at n; cases n
  | _, _, .adr _ _ e, n => by subst e; simp only [noL] at n; cases n
  | _, _, .mtl e, n => by subst e; simp only [noL] at n; cases n
theorem RA.less {p : Option Addr} {G G' : Hp} (h : ∀ b o, G b = some o → (∀ xs, o ≠ .lst xs) → G' b = some o) : ∀ {vs : List V} {ds : List D}, RA K p G vs ds → noLs ds = true → RA K p G' vs ds
  | _, _, .nil, _ => .nil
  | _, _, .cons q t, n => by
    unfold noLs at n
    rw [Bool.and_eq_true] at n
    exact .cons (R.less h q n.1) (RA.less h t n.2)
end
def wLend (w : WEx) : WEx := fun e Q x => w (lendE e) (fun d e' => noL d = true ∧ Q d { e with k := e'.k }) noX
theorem wLend.mono (m : Mono wa) : Mono (wLend wa) := fun e Q Q' x x' h1 h2 q => m _ _ _ _ _ (fun d e1 z => ⟨z.1, h1 _ _ z.2⟩) (fun _ _ z => z) q
/-- an expression that reads such lists and gives nothing of them away -/
theorem de_lend (h : ∀ G₀ H₀, DE X (inn F.p G₀ H₀) a wa) : DE X F a (wLend wa) := by
  have hr : PE X a (fun σ H Q => ∃ G₀ H₀, tE X.K (inn F.p G₀ H₀) wa σ H Q) := ⟨fun pins s σ H Q I ⟨G₀, H₀, q⟩ => (h G₀ H₀).run.run pins s σ H Q I q⟩
  have m := (h X.H_0 X.H_0).mono
  refine de_of hr (wLend.mono m) fun σ H Q ⟨e, G, r, q⟩ => ?_
  obtain ⟨α, r0⟩ := id r
  obtain ⟨s1, r1⟩ := r0.plus
  refine ⟨DL.plus G H e α, H, lendE e, DL.plus G H e α, r1.rebase lendE_own, m _ _ _ _ _ (fun d e1 z v G' H' s r' rv => ?_) (fun _ _ z => z.elim) q⟩
  obtain ⟨β, r2⟩ := id r'
  have held : ∀ b, heldAt e α b → ∃ xs, H b = some (.lst xs) ∧ G' b = some (.lst xs) ∧ G b = none ∧ F.H₀ b = none ∧ F.p ≠ some b := fun b hb => by
    obtain ⟨xs, h2, h3, h4, h5⟩ := r0.held hb
    exact ⟨xs, h2, s _ _ (by unfold DL.plus; rw [if_pos hb]; exact h2), h3, h4, h5⟩
  have sG : Same G (minus G' e α) := fun b u z => by
    unfold minus
    rw [if_neg (fun hb => by obtain ⟨_, _, _, n, _⟩ := held b hb; rw [z] at n; cases n)]
    exact s _ _ (s1 _ _ z)
  have sH : Same (minus G' e α) H' := fun b u z => by
    unfold minus at z
    split at z
    · cases z
    · exact r'.same _ _ z
  refine z.2 v (minus G' e α) H' sG (r.step (k' := e1.k) ⟨sG, r2.st.hh, fun b u z n => ?_, r2.st.pc⟩ ⟨sH, fun a ea => ?_⟩) (rv.less (fun b o z nl => ?_) z.1)
  · unfold minus
    split
    · rfl
    · rename_i hb
      refine r2.st.nn b u z ?_
      show DL.plus G H e α b = none
      unfold DL.plus
      rw [if_neg hb]
      exact n
  · obtain ⟨h1, c, xs, i, t, h2, h3, h4, h5, h6⟩ := r'.wd.pen a ea
    obtain ⟨_, c', xs', i', t', g2, g3, g4, _⟩ := r0.w.pen a ea
    obtain ⟨i2, t2, h2'⟩ := r2.st.pc a c' ea ⟨i', t', g2⟩
    rw [h2] at h2'
    cases h2'
    exact ⟨by unfold minus; split <;> first | rfl | exact h1, c, xs', i, t, h2, sG _ _ g3, g4, h5, h6⟩
  · unfold minus
    rw [if_neg (fun hb => by obtain ⟨ys, _, g', _⟩ := held b hb; rw [z] at g'; cases g'; exact nl _ rfl)]
    exact z
end
/-! #### statements that change them -/
section
variable {K : PySem.W.Frag} {F : Fx} {σ : L2.St} {H : Hp} {X : Cx} {pos : Pos} {a b : Expr} {es : List Expr} {wa wb : WEx} {wr : WAx} {sts : List Stmt} {ws : WSt}
def wRel (w : WSt) : WSt := fun e D => w (lendE e) D
theorem dss_rel (h : DSs X F sts ws) : DSs X F sts (wRel ws) := dss_of h.run (fun e A B l q => h.mono _ _ _ l q) fun D σ H ⟨e, G, r, q⟩ => by
  obtain ⟨α, r0⟩ := id r
  obtain ⟨s1, r1⟩ := r0.plus
  exact ⟨lendE e, _, r1, h.mono _ _ _ (endsOf.le s1) q⟩
def wOwn (i : Nat) (w : WAx) : WSt := fun e D => w e (fun ds e1 => D.nx (put e1 i (.own ds))) D.ex
theorem ds_own {i : Nat} {x : Str} {p2 : Pos} (h : DF X F a wr) (hN : X.N.Nodup) (hi : X.N[i]? = some x := by rfl) (hx : Loc X.env.scope x := by first | exact Or.inl rfl | exact Or.inr rfl) (hs : swapsWith a (some (.Name x p2)) pos.line X.env = pure false := by rfl)
    (hf : X.fn x = true ∨ X.env.scope.names.lookup x = some .local := by first | exact Or.inl rfl | exact Or.inr rfl) : DS X F (.Assign [.Name x p2] a pos) (wOwn i wr) :=
  ds_of (ps_set hN hi hx h.run hs hf) (fun e A B l q => h.mono e _ _ _ _ (fun _ _ z => l.nx _ z) l.ex q) fun D σ H ⟨e, G, r, q⟩ =>
    ⟨e, G, r, h.mono e _ _ _ _ (fun ds e1 z q xs G' H' s r' hq ra => z _ G' _ s (r'.own hq ra)) (fun y e' z C G' H' s r' ec => z C σ G' H' s r' ec) q⟩
def wApp (i : Nat) (w : WEx) : WSt := fun e D => (∃ ds, e.s[i]? = some (.own ds)) ∧ w e (fun d e1 => ∃ ds, e1.s[i]? = some (.own ds) ∧ ds.length < 1000 ∧ D.nx (put e1 i (.own (ds ++ [d])))) D.ex
theorem ds_app {i : Nat} {x : Str} {p1 p2 p3 : Pos} (h : DE X F a wa) (hv : PE X (.Name x p1) (tVar i)) (hs : starEach [a] X.env = (false, eval a X.env) :: starEach [] X.env := by rfl)
    (hpe : PE X (.Call (.Attribute (.Name x p1) "append" p2) [a] [] p3) (tBM X.K "list" rAppend (tVar i) (tCons (tE X.K F wa) tNil))) (hsw : swapsWith (.Call (.Attribute (.Name x p1) "append" p2) [a] [] p3) none pos.line X.env = pure false := by rfl) :
    DS X F (.Expr (.Call (.Attribute (.Name x p1) "append" p2) [a] [] p3) pos) (wApp i wa) :=
  ds_of (ps_expr hpe hsw) (fun e A B l q => ⟨q.1, h.mono e _ _ _ _ (fun d e1 ⟨ds, i1, i2, z⟩ => ⟨ds, i1, i2, l.nx _ z⟩) l.ex q.2⟩) fun D σ H ⟨e, G, r, ⟨ds0, h0⟩, q⟩ => by
    obtain ⟨α, r0⟩ := id r
    obtain ⟨xs, h1, h2, _⟩ := r0.own i ds0 h0
    refine ⟨.ref (α i), h1, .inl ⟨rfl, _, .inl (.inl h2)⟩, ?_⟩
    refine tE.mono h.mono (fun v H1 z => ?_) (tS.expr (k := fun D d e1 => ∃ ds, e1.s[i]? = some (.own ds) ∧ ds.length < 1000 ∧ D.nx (put e1 i (.own (ds ++ [d])))) (T := fun v H1 => ∃ e1 G1 d ds, Same G G1 ∧ Rl X.K F.p F.G₀ F.H₀ G1 H1 σ e1 ∧ R X.K F.p G1 v d ∧ e1.s[i]? = some (.own ds) ∧ ds.length < 1000 ∧ (endsOf X.K F G D).nx (put e1 i (.own (ds ++ [d])))) h.mono r q
      fun d e' v G' H' s r' rv ⟨ds, i1, i2, z⟩ => ⟨e', G', d, ds, s, r', rv, i1, i2, z⟩)
    obtain ⟨e1, G1, d, ds, s1, r1, rv, i1, i2, z⟩ := z
    obtain ⟨β, r2⟩ := id r1
    obtain ⟨ys, g1, g2, _, _, _, ra⟩ := r2.own i ds i1
    rw [h1] at g1
    have eb : α i = β i := by injection g1 with g1; injection g1 with g1; injection g1
    rw [← eb] at g2
    exact ⟨α i, ys, v, rfl, rfl, g2, by rw [ra.length]; exact Nat.lt_of_lt_of_le i2 (by decide), z σ G1 _ s1 (r1.mut i1 h1 (ra.append (.cons rv .nil)))⟩
def wIns (i : Nat) (wk w : WEx) : WSt := fun e D => (∃ ds, e.s[i]? = some (.own ds)) ∧ wk e (fun dk e1 => w e1 (fun d e2 => ∃ ds k, e2.s[i]? = some (.own ds) ∧ dk = .int k ∧ 0 ≤ k ∧ k < 1000 ∧ ds.length < 1000 ∧ D.nx (put e2 i (.own (ds.take k.toNat ++ [d] ++ ds.drop k.toNat)))) D.ex) D.ex
def wSetIx (i : Nat) (wk w : WEx) : WSt := fun e D => w e (fun d e1 => (∃ ds, e1.s[i]? = some (.own ds)) ∧ wk e1 (fun dk e2 => ∃ ds k j, e2.s[i]? = some (.own ds) ∧ dk = .int k ∧ ixN ds.length k = some j ∧ D.nx (put e2 i (.own (ds.set j d)))) D.ex) D.ex
theorem ds_setix {i : Nat} {x : Str} {p1 p2 : Pos} (hk : DE X F b wb) (h : DE X F a wa) (hv : PE X (.Name x p1) (tVar i))
    (ha : ∀ v, assign (.Subscript (.Name x p1) b p2) X.env v = (do
      let ov ← holding [v] (eval (.Name x p1) X.env)
      let iv ← holding [v, ov] (eval b X.env)
      standAt p2
      holding [v, ov,
            iv] (setItem ov iv v)
      release [v, ov, iv] []) := by intro _; rfl)
    (hs : swapsWithSole [.Subscript (.Name x p1) b p2] a pos.line X.env = pure false := by rfl) (hw : swappedStores [.Subscript (.Name x p1) b p2] a X.env = pure none := by rfl) (h1 : (assignEach [.Subscript (.Name x p1) b p2] X.env).map (·.2) = [assign (.Subscript (.Name x p1) b p2) X.env] := by rfl) :
    DS X F (.Assign [.Subscript (.Name x p1) b p2] a pos) (wSetIx i wb wa) :=
  ds_of (ps_asg h.run (pg_sub hv hk.run set_list ha) hs hw h1) (fun e A B l q => h.mono e _ _ _ _ (fun d e1 z => ⟨z.1, hk.mono e1 _ _ _ _ (fun dk e2 ⟨ds, k, j, i1, i2, i3, y⟩ => ⟨ds, k, j, i1, i2, i3, l.nx _ y⟩) l.ex z.2⟩) l.ex q) fun D σ H ⟨e, G, r, q⟩ => by
    refine tE.mono h.mono (fun v H1 z => ?_) (tE.any h.mono r (h.mono e _ _ _ _ (fun _ _ z => z) (fun y e' z C G' H' s r' ec => z C σ G' H' s r' ec) q))
    obtain ⟨e1, G1, d, s1, r1, rv, ⟨ds0, h0⟩, z⟩ := z
    obtain ⟨α, r0⟩ := id r1
    obtain ⟨xs, g1, g2, _⟩ := r0.own i ds0 h0
    refine ⟨.ref (α i), g1, ?_⟩
    refine tE.mono hk.mono (fun v' H2 z => ?_) (tE.any hk.mono r1 (hk.mono e1 _ _ _ _ (fun _ _ z => z) (fun y e' z C G' H' s r' ec => z C σ G' H' (s1.trans s) r' ec) z))
    obtain ⟨e2, G2, dk, s2, r2, rk, ds, k, j, i1, ek, i2, z⟩ := z
    subst ek
    obtain ⟨β, r3⟩ := id r2
    obtain ⟨ys, q1, q2, _, _, _, ra⟩ := r3.own i ds i1
    rw [g1] at q1
    have eb : α i = β i := by injection q1 with q1; injection q1 with q1; injection q1
    rw [← eb] at q2
    exact ⟨α i, ys, k, j, rfl, rk.int_inv, q2, by rw [ra.length]; exact i2, z σ G2 _ (s1.trans s2) (r2.mut i1 g1 (ra.set (rv.mono s2) j))⟩
/-! ### a, b = e -/
def wAsg (g : WG) (w : WEx) : WSt := fun e D => w e (fun d e1 => g d e1 D.nx) D.ex
theorem ds_asg {tg : Expr} {g : WG} (h : DE X F a wa) (hg : DG X F tg g) (hs : swapsWithSole [tg] a pos.line X.env = pure false := by rfl) (hw : swappedStores [tg] a X.env = pure none := by rfl) (h1 : (assignEach [tg] X.env).map (·.2) = [assign tg X.env] := by rfl) : DS X F (.Assign [tg] a pos) (wAsg g wa) :=
  ds_of (ps_asg h.run hg.run hs hw h1) (fun e A B l q => h.mono e _ _ _ _ (fun d e1 z => hg.mono _ _ _ _ l.nx z) l.ex q) fun D σ H ⟨e, G, r, q⟩ =>
    ⟨e, G, r, h.mono e _ _ _ _ (fun d e1 z v G' H' s r' rv => ⟨e1, G', d, r', rv, hg.mono _ _ _ _ (fun e2 y σ' H2 r2 => y σ' G' H2 s r2) z⟩) (fun y e' z C G' H' s r' ec => z C σ G' H' s r' ec) q⟩
/-- a, b = x, y -/
def wPar (i j : Nat) (wa wb : WEx) : WSt := fun e D => wa e (fun d e1 => wb e1 (fun d' e2 => D.nx (put (put e2 i (.dat d)) j (.dat d'))) D.ex) D.ex
end
end L2.DL
set_option
      maxHeartbeats 1000000
namespace L2.DL
open PySem PySem.Spec
      PyProof.Rows
/-! ### isinstance -/
def tyN : D → String
  | .none => "NoneType"
  | .bool _ => "bool"
  | .int _ => "int"
  | .str _ => "str"
  | .list _ => "list"
  | .tuple _ => "tuple"
  | .dict _ => ""
def wIsi (T : String) (w : WEx) : WEx := fun e Q x => w e (fun d e1 => ∃ b, kitB (tyN d) T = some b ∧ (∀ kv, d ≠ .dict kv) ∧ Q (.bool b) e1) x
section
variable {K : PySem.W.Frag} {F : Fx} {σ : L2.St} {H : Hp} {X : Cx} {pos : Pos} {a b : Expr} {es : List Expr} {wa wb : WEx} {wr : WAx}
theorem wIsi.mono {T : String} (m : Mono wa) : Mono (wIsi T wa) := fun e Q Q' x x' h1 h2 q => m e _ _ _ _ (fun d e1 ⟨b, i1, i2, z⟩ => ⟨b, i1, i2, h1 _ _ z⟩) h2 q
theorem R.ty {p : Option Addr} {G : Hp} {v : V} {d : D} (s : Same G H) (r : R K p G v d) (h : ∀ kv, d ≠ .dict kv) : TyX K H v (.type (tyN d)) := by
  cases r with
  | non => exact .base .non
  | bl b => exact .base (.bl b)
  | int i => exact .base (.int i)
  | str x => exact .base (.str x)
  | lst g _ => exact .base (.lst (s _ _ g))
  | tup g _ =>
    rcases g with (g | ⟨o, g⟩) | ⟨o, _, _, hk, hc, _⟩
    · exact .base (.tup (s _ _ g))
    · exact .fTuple (s _ _ g)
    · exact .kTuple hk hc
  | pen _ e => exact absurd e (h _)
  | exc _ e => exact absurd e (h _)
  | obj _ _ e => exact absurd e (h _)
  | scr _ e => exact absurd e (h _)
  | frt _ _ _ e => exact absurd e (h _)
  | adr _ _ e => exact absurd e (h _)
  | mtl e => exact absurd e (h _)
theorem de_isi {T : String} {x : Str} {p1 p2 : Pos} (h : DE X F a wa) (hm : X.mg "isinstance" = none) (hT : X.mg x = none) (hv2 : bootBuiltins x = some (.type T)) (hg : Gl X "isinstance" := by rfl) (hgT : Gl X x := by rfl) (hv : bootBuiltins "isinstance" = some (.builtin "isinstance") := by decide +kernel)
    (hn : x ≠ "__name__" := by decide) (hd : (x == ("__debug__" : Str)) = false := by decide) (hs : starEach [a, .Name x p2] X.env = (false, eval a X.env) :: starEach [.Name x p2] X.env := by rfl) (hs2 : starEach [.Name x p2] X.env = (false, eval (.Name x p2) X.env) :: starEach [] X.env := by rfl)
    (hpl : (backTo pos (starEach [.Name x p2] X.env)).any (·.1) = false := by rfl) : DE X F (.Call (.Name "isinstance" p1) [a, .Name x p2] [] pos) (wIsi T wa) :=
  de_of (pe_callB call_isi hg hm hv (pa_cons h.run (pa_cons (pe_bltn (v := .ty T) hgT hT hv2 rfl hn hd) pa_nil hs2) hs) (by decide) (by decide) hs hpl) (wIsi.mono h.mono) fun σ H Q ⟨e, G, r, q⟩ =>
    ⟨e, G, r, h.mono e _ _ _ _ (fun d e1 ⟨b, i1, i2, z⟩ v G' H' s r' rv => ⟨v, .ty T, .type (tyN d), .type T, b, rfl, .ty T, rv.ty r'.same i2, kit_ty i1, z _ G' H' s r' (.bl b)⟩) (fun _ _ z => z) q⟩
/-- isinstance(e, C), e an error -/
def wIsC (K : PySem.W.Frag) (c : Value) (w : WEx) : WEx := fun e Q x => w e (fun d e1 => ∃ C b, d = excD C ∧ ExcC K C ∧ PySem.W.kitOne K (.ref C) c = some b ∧ Q (.bool b) e1) x
theorem wIsC.mono {K : PySem.W.Frag} {c : Value} (m : Mono wa) : Mono (wIsC K c wa) := fun e Q Q' x x' h1 h2 q => m e _ _ _ _ (fun d e1 ⟨C, b, i1, i2, i3, z⟩ => ⟨C, b, i1, i2, i3, h1 _ _ z⟩) h2 q
/-! ### sorted of ints, count and index of flat things -/
def sortedD : BL
  | [.list xs], P => ∃ ns : List Int, xs = ns.map PyData.int ∧ ∀ ns' : List Int, ns'.Perm ns → ns'.Pairwise (· ≤ ·) → P (.list (ns'.map PyData.int))
  | _, _ => False
theorem sortedD.mono : BL.Mono sortedD := by
  intro a P P' h q
  unfold sortedD at q ⊢
  split at q
  · obtain ⟨ns, e, z⟩ := q
    exact ⟨ns, e, fun ns' p1 p2 => h _ (z ns' p1 p2)⟩
  · exact q.elim
theorem RA.ofInts {p : Option Addr} {G : Hp} : ∀ {ns : List Int} {xs : List V}, RA K p G xs (ns.map PyData.int) → xs = ns.map V.int
  | [], _, h => by cases h; rfl
  | n :: ns, _, h => by
    cases h with
    | cons h t => rw [RA.ofInts t, h.int_inv]; rfl
theorem RA.toInts {p : Option Addr} {G : Hp} : ∀ ns : List Int, RA K p G (ns.map V.int) (ns.map PyData.int)
  | [] => .nil
  | n :: ns => .cons (.int n) (RA.toInts ns)
/-! ### raise -/
def wRaise (C : Addr) : WSt := fun e D => D.ex (excD C) e
theorem ds_raise {C : Addr} {bmB : List Value} {B newId initId : String} {x m : Str} {j : Nat} {p1 p2 p3 : Pos} (hc : X.calm = true) (tk : Takes X F.W) (FB : ExcBaseFacts B newId initId bmB) (q : PySem.W.excIn X.K C bmB newId = true) (gC : X.mg x = some (.ref C)) (kC : PySem.W.keepIn X.K (.ref C) = true)
    (r : Raises X (.ref C)) (hg : Gl X x := by rfl) (hdb : (x == ("__debug__" : Str)) = false := by decide) : DS X F (.Raise (some (.Call (.Name x p1) [.Constant (.str m) j p2] [] p3)) none pos) (wRaise C) :=
  ds_of (ps_raise hc tk (pmk_own FB q gC kC r hg hdb)) (fun e A B l q => l.ex _ _ q) fun D σ H ⟨e, G, r, q⟩ => q C σ G H (Same.refl G) r rfl
end
end L2.DL
set_option
      maxHeartbeats 2000000
namespace L2.DL
open PySem PySem.Spec
      PyProof.Rows
/-! ### try: body, except X as n: m = n; the error stays known behind it -/
def putUn (e : En) (i : Nat) : En := { e with s := e.s.set i .un }
section
variable {K : PySem.W.Frag} {F : Fx} {σ : L2.St} {H : Hp} {X : Cx} {x n m : Str} {i j : Nat} {CR : Value} {body : List Stmt} {np np2 mp ap pos pos' : Pos} {wb : WSt}
theorem Rl.un {p : Option Addr} {G₀ H₀ G : Hp} {e : En} {i : Nat} {z : Option V} (r : Rl K p G₀ H₀ G H σ e) : Rl K p G₀ H₀ G H (σ.set i z) (putUn e i) := by
  obtain ⟨α, r⟩ := r
  have ne : ∀ {j : Nat} {q : Slot}, (e.s.set i .un)[j]? = some q → q ≠ .un → j ≠ i ∧ e.s[j]? = some q := fun {j q} h hq => by
    by_cases hj : i = j
    · subst hj
      by_cases hl : i < e.s.length
      · rw [List.getElem?_set_self hl] at h; cases h; exact absurd rfl hq
      · rw [List.getElem?_eq_none (by simpa using hl)] at h; cases h
    · rw [List.getElem?_set_ne hj] at h
      exact ⟨Ne.symm hj, h⟩
  refine ⟨α, r.w, r.st, by simpa [putUn] using r.len, fun j d h => ?_, fun j ds h => ?_, fun j k ds es h1 h2 => r.sep j k ds es (ne h1 (fun z => nomatch z)).2 (ne h2 (fun z => nomatch z)).2, r.bo.env (fun j z h => ?_) fun j ds h => .inl ⟨ds, (ne h (fun z => nomatch z)).2, rfl⟩⟩
  · obtain ⟨hj, h'⟩ := ne h (fun z => nomatch z)
    rw [List.getElem?_set_ne (Ne.symm hj)]
    exact r.dat j d h'
  · obtain ⟨hj, h'⟩ := ne h (fun z => nomatch z)
    rw [List.getElem?_set_ne (Ne.symm hj)]
    exact r.own j ds h'
  · cases hz : z with
    | un => exact .inl ⟨rfl, rfl⟩
    | _ =>
      rw [← hz]
      obtain ⟨hj, h'⟩ := ne h (fun q => by rw [hz] at q; exact nomatch q)
      exact .inr ⟨h', List.getElem?_set_ne (Ne.symm hj)⟩
def wTry (K : PySem.W.Frag) (CR : Value) (i j : Nat) (wb : WSt) : WSt := fun e D => wb e { D with ex := fun y e' => ∃ C, y = excD C ∧ PySem.W.exmOne K (.ref C) CR = some true ∧ D.nx (putUn (put (putUn e' i) j (.dat y)) i) }
theorem excD_inj {C C' : Addr} (h : excD C = excD C') : C = C' := by
  injection h with e
  injection e with e _
  injection e with _ e
  injection e with e
  exact Int.ofNat.inj e
end
end L2.DL
set_option
      maxHeartbeats 1000000
namespace L2.DL
open PySem PySem.Spec
      PyProof.Rows
/-! ### a def over data -/
def enOf (N : List Str) (ds : List D) (k : Nat) : En := ⟨ds.map .dat ++ List.replicate (N.length - ds.length) .un, k⟩
abbrev defEnds (Q x : D → Nat → Prop) : DEnds := ⟨fun e => Q .none e.k, fun d e => Q d e.k, fun _ => False, fun _ => False, fun d e => x d e.k⟩
section
variable {P : Program} {w : World} {K :
      PySem.W.Frag} {mg : Str → Option Value} {base : Heap}
theorem Rl.start {p : Option Addr} {G H : Hp} {N : List Str} {vs : List V} {ds : List D} {k : Nat} (wd : Wd K p k G H) (ra : RA K p G vs ds) : Rl K p G H G H (L2.start N vs) (enOf N ds k) := by
  have dat : ∀ {i : Nat} {q : Slot}, (ds.map Slot.dat ++ List.replicate (N.length - ds.length) Slot.un)[i]? = some q → q = .un ∨ ∃ d, ds[i]? = some d ∧ q = .dat d := fun {i q} h => by
    by_cases hi : i < ds.length
    · rw [List.getElem?_append_left (by simpa using hi), List.getElem?_map] at h
      cases e : ds[i]? with
      | none =>
            rw [e] at h; cases h
      | some d => rw [e] at h; cases h; exact .inr ⟨d, rfl, rfl⟩
    · rw [List.getElem?_append_right (by simpa using hi), List.getElem?_replicate] at h
      split at h
      · cases h; exact .inl rfl
      · cases h
  refine ⟨fun _ => 0, wd, Stp.refl, by simp [L2.start, enOf, ra.length], fun i d h => ?_, fun i ds' h => ?_, fun i j ds' es h => ?_, Bo.none fun i z h => by
    rcases dat h with e | ⟨d, _, e⟩ <;> (subst e; exact ⟨rfl, rfl⟩)⟩
  · rcases dat h with e | ⟨d', hd, e⟩
    · cases e
    · cases e
      obtain ⟨v, hv, rv⟩ := ra.get hd
      refine ⟨v, ?_, rv⟩
      unfold L2.start
      rw [List.getElem?_append_left (by rw [List.length_map]; exact (List.getElem?_eq_some_iff.mp hv).1), List.getElem?_map, hv]
      rfl
  · rcases dat h with e | ⟨d', hd, e⟩ <;> cases e
  · rcases dat h with e | ⟨d', hd, e⟩ <;> cases e
/-- THE RULE for a def whose arguments and answer are data -/
theorem fnD {x qual : Str} {st : Stmt} {f : Addr} {fd : FuncData} {N ps : List Str} {k : Nat} {wf : Wc} (F : Fun K x qual st f fd) (S : FnScope N ps (defScope st)) (len : ∀ ds k Q x, wf ds k Q x → ds.length = ps.length)
    (body : ∀ (cdv : Value) (A : Around) (outer : List Env) (s : Shared) (H : Hp) (E : XK) (p : Option Addr) (G : Hp), A.guards = some [] → Room k (A.deeper (envOfC qual (defScope st) s.heap.objs.size f cdv)) →
      ∃ ws, DSs (cxOf (L2.CX P w) P w K mg base N qual (defScope st) f cdv A outer s H E) ⟨p, G, H, fun cls d _ H' => E cls d H'⟩ (defBody st) ws ∧ ∀ ds n Q x, wf ds n Q x → ws (enOf N ds n) (defEnds Q x)) :
    FnG P w K mg base (k + 1) f fd ps (spD K wf) := by
  refine fnG_of F S (fun vs H Q E ⟨p, G, ds, n, _, ra, q⟩ => by rw [ra.length]; exact len ds n _ _ q) fun cdv A outer s H vs Q E hg hr ⟨p, G, ds, n, wd, ra, q⟩ => ?_
  obtain ⟨ws, h, hq⟩ := body cdv A outer s H E p G hg hr
  refine ⟨_, h.run, enOf N ds n, G, Rl.start wd ra, h.mono _ _ _ ⟨?_, ?_, ?_, ?_, ?_⟩ (hq ds n _ _ q)⟩
  · exact fun e' z σ' G' H' _ r => by obtain ⟨α, r'⟩ := id r; exact z _ G' H' r'.st r'.w .non
  · exact fun d e' z v σ' G' H' _ r rv => by obtain ⟨α, r'⟩ := id r; exact z v G' H' r'.st r'.w rv
  · exact fun _ z => z.elim
  · exact fun _ z => z.elim
  · exact fun y e' z C σ' G' H' _ r ec => by obtain ⟨α, r'⟩ := id r; exact z C G' H' r'.st r'.w ec
end
/-! ### the law's call -/
/-- the law is true -/
def spTrue (K : PySem.W.Frag) : Sp := fun vs H Q _ => ∃ (a : Addr) (ns : List Int), vs = [.ref a] ∧ SqL K H a (ns.map V.int) ∧ ns.length ≤ 63 ∧ ∀ H', Q (.bl true) H'
section
variable {P : Program} {w : World} {K : PySem.W.Frag} {mg mb : Str → Option Value} {k : Nat} {fa a : Addr} {fd : FuncData} {x : Str} {s₁ : Shared} {vs : List Value} {ns : List Int}
/-- what may be tracked at the start: nothing, or the script as it stands -/
inductive Script (K : PySem.W.Frag) (a : Addr) (vs : List Value) (ns : List Int) : Hp → Prop where
  | top {o : Obj} : K.lookup a = some o → Script K a vs ns (fun _ => none)
  | own : K.lookup a = none → Script K a vs ns (fun b => if b = a then some (.frz { cls := .type "list", data := .seq vs.toArray } (.lst (ns.map V.int))) else none)
theorem Script.at {H : Hp} (h : Script K a vs ns H) : ∀ b o, H b = some o → b = a ∧ K.lookup a = none ∧ o = .frz { cls := .type "list", data := .seq vs.toArray } (.lst (ns.map V.int)) := by
  intro b o e
  cases h with
  | top _ => cases e
  | own hk =>
    dsimp only at e
    by_cases hb : b = a
    · rw [if_pos hb] at e; cases e; exact ⟨hb, hk, rfl⟩
    · rw [if_neg hb] at e; cases e
theorem law_callG (KX : K.In s₁.heap) (hns : s₁.heap.Ns mainGlobals mg) (hb : s₁.heap.Ns builtinsNs mb) (hbb : ∀ x : Str, x ≠ "__name__" → mb x = bootBuiltins x) (hlim : s₁.heap.NoLimit) (hgn : s₁.gens = #[])
    (ha : s₁.heap.get? a = some { cls := .type "list", data := .seq vs.toArray }) (hi : IntsAre vs ns) (hl : ns.length ≤ 63) (hr : Room k callerA)
    (F : ∀ base : Heap, K.In base → base.Ns mainGlobals mg → FnG P w K mg base k fa fd [x] (spTrue K)) (hbind : ∀ (s : Shared) (u : Value), BindsTo s fd ⟨[u], []⟩ [(x, u)]) :
    codeAny (model P w) callerA (.call (.ref fa) ⟨[.ref a], []⟩) (fun r s' =>
          r = .ok (.ret (.bool true)) ∧ OldK s₁.heap s'.heap ∧ s'.os = s₁.os ∧ AllBare s'.gens) s₁ := by
  have rv := vals_ints hi
  have lv : vs.length = ns.length := hi.length
  have line : ns.length ≤ sizeLine := Nat.le_trans hl (by decide)
  have pick : ∃ H : Hp, Script K a vs ns H ∧ SqL K H a (ns.map V.int) := by
    cases hk : K.lookup a with
    | some o =>
      have e := KX a o hk
      rw [ha] at e
      cases e
      exact ⟨_, .top hk, .inr ⟨_, vs.toArray, _, hk, rfl, rfl, rfl, by rw [List.size_toArray, lv]; exact line, by simpa using rv⟩⟩
    | none => exact ⟨_, .own hk, .inl (.inr ⟨_, if_pos rfl⟩)⟩
  obtain ⟨H, hS, hq⟩ := pick
  have free : ∀ {b : Addr} {o : Obj}, s₁.heap.get? b = some o → (∀ t, o ≠ { cls := .type "list", data := .seq vs.toArray, slots := t }) → H b = none := by
    intro b o e d
    cases z : H b with
    | none => rfl
    | some u =>
      obtain ⟨eb, _, _⟩ := hS.at b u z
      rw [eb, ha] at e
      cases e
      exact absurd rfl (d _)
  have nsK : ∀ {b : Addr} {m : Str → Option Value}, s₁.heap.Ns b m → (hidT s₁.heap H).Ns b m := by
    intro b m h
    obtain ⟨o, es, ep, e, d, r⟩ := h
    refine ⟨o, es, ep, hidT_get e (free e fun t z => ?_), d, r⟩
    rw [z] at d
    cases d
  have kin : K.In (hidT s₁.heap H) := by
    intro b o e
    refine hidT_get (KX b o e) ?_
    cases z : H b with
    | none => rfl
    | some u =>
      obtain ⟨eb, hk, _⟩ := hS.at b u z
      rw [eb, hk] at e; cases e
  have hok : HOk P w H s₁.heap := by
    intro b u z
    obtain ⟨rfl, _, rfl⟩ := hS.at b u z
    exact ⟨ha, by rw [List.length_map]; exact line, vs, _, rv, ha⟩
  obtain ⟨mc, l1, l2⟩ := hlim
  have e0 : Env0 P w K mg (hidT s₁.heap H) callerA [] s₁ H := ⟨rfl, ⟨kin, nsK hns, ⟨mb, nsK hb, hbb⟩, ⟨mc, nsK l1, l2⟩⟩, fun b o e => of_hidT e, Nat.le_of_eq (hidT_size _ _), trivial, (by intro b z; cases z), hok, .of_eq hgn⟩
  refine codeAny_mono ((F _ kin (nsK hns)).run callerA [] s₁ H ⟨[.ref a], []⟩ [.ref a] [.ref a] (fun v _ => v = .bl true) (fun _ _ _ => False) rfl hr e0 (hbind s₁ (.ref a)) (.cons rfl .nil) ⟨a, ns, rfl, hq, hl, fun _ => rfl⟩) ?_
  intro r s' h
  cases r with
  | error e => obtain ⟨_, _, _, _, _, _, _, _, _, _, _, _, z⟩ := h; exact z.elim
  | ok fl =>
    cases fl with
    | next => exact h.elim
    | brk => exact h.elim
    | cont => exact h.elim
    | ret u =>
      obtain ⟨v, H', os, bare,
            un, hok', r', q⟩ := h
      cases q
      cases r'
      refine ⟨rfl, OldK.of_keep fun b o e =>
            ?_, os, bare⟩
      cases q : H b with
      | none => exact un.keep b o e q (by intro z; cases z) (by intro z; cases z)
      | some u =>
        obtain ⟨_, _, rfl⟩ := hS.at b u q
        obtain ⟨e1, _⟩ := hok b _ q
        obtain ⟨e2, _⟩ := hok' b _ (un.frzs b _ _ q)
        rw [e] at e1
        cases e1
        exact e2
end
theorem walk_G {l : PySem.W.OpenLaw} {k : Nat} {q : Program} {loose : List Str} {XP : (Str → Option Value) → Heap → Prop} {YP : World → Heap → Prop} {d : DefRec} {K : Params → PySem.W.Frag} {x : Str} (hn : l.most = some 63) (hdf : d.params.defaults = []) (hr : Room k callerA)
    (hY : ∀ (w : World) (h : Heap),
          YP w h → (K w.params).In h)
    (F : ∀ (w : World) (mg : Str → Option Value) (fa : Addr) (h : Heap),
          (K w.params).In h → h.Ns mainGlobals mg → mg d.name = some (.ref fa) →
      ∃ fd : FuncData, (∀ (s : Shared) (u : Value), BindsTo s fd ⟨[u], []⟩ [(x, u)]) ∧ ∀ base : Heap, (K w.params).In base → base.Ns mainGlobals mg → FnG l.prog w (K w.params) mg base k fa fd [x] (spTrue (K w.params))) :
    PySem.W.WalkO q loose XP YP l.row.toRowW d [] (fun f vs =>
          PySem.call f vs) := by
  apply Att.attach_call hn hdf
  intro w s₀ s₁ mg mb fa o pm cd doc a vs ns G Y ho hd hcd hmg hobj hints hlen hg
  obtain ⟨fd, hb, hF⟩ := F w mg fa _ (hY w _ Y) G.T.g hmg
  exact law_callG (hY w _ Y) G.T.g G.T.b G.T.builtins G.T.nolimit hg hobj hints hlen hr hF hb
end L2.DL
set_option
      maxHeartbeats 1000000
namespace L2.DL
open PySem PySem.Spec
      PyProof.Rows
/-! ### methods of lists that change nothing -/
def wMt (f : B2) (wa wb : WEx) : WEx := fun e Q x => wa e (fun d1 e1 => (∃ xs, d1 = .list xs) ∧ wb e1 (fun d2 e2 => f d1 d2 fun d => Q d e2) x) x
/-- how many of the bools are b; where the first is -/
def cntD : B2
  | .list xs, .bool b, P => ∃ bs : List Bool, xs = bs.map PyData.bool ∧ P (.int (bs.count b))
  | _, _, _ => False
def posD : B2
  | .list xs, .bool b, P => ∃ (bs : List Bool) (j : Nat), xs = bs.map PyData.bool ∧ bs[j]? = some b ∧ (∀ m, m < j → bs[m]? ≠ some b) ∧ P (.int j)
  | _, _, _ => False
theorem cntD.mono : B2.Mono cntD := by
  intro a b P P' h q
  unfold cntD at q ⊢
  split at q
  · obtain ⟨bs, e, z⟩ := q; exact ⟨bs, e, h _ z⟩
  · exact q.elim
theorem posD.mono : B2.Mono posD := by
  intro a b P P' h q
  unfold posD at q ⊢
  split at q
  · obtain ⟨bs, j, e, i1, i2, z⟩ := q; exact ⟨bs, j, e, i1, i2, h _ z⟩
  · exact q.elim
section
variable {K : PySem.W.Frag} {F : Fx} {σ : L2.St} {H : Hp} {X : Cx} {pos : Pos} {a b : Expr} {es : List Expr} {wa wb : WEx} {wr : WAx}
theorem wMt.mono {f : B2} (hf : f.Mono) (ma : Mono wa) (mb : Mono wb) : Mono (wMt f wa wb) := fun e Q Q' x x' h1 h2 q =>
  ma e _ _ _ _ (fun d1 e1 q1 => ⟨q1.1, mb e1 _ _ _ _ (fun d2 e2 q2 => hf d1 d2 _ _ (fun d q3 => h1 d e2 q3) q2) h2 q1.2⟩) h2 q
theorem RA.ofBools {p : Option Addr} {G : Hp} : ∀ {ns : List Bool} {xs : List V}, RA K p G xs (ns.map PyData.bool) → xs = ns.map V.bl
  | [], _, h => by cases h; rfl
  | n :: ns, _, h => by
    cases h with
    | cons h t => rw [RA.ofBools t, h.bl_inv]; rfl
/-! ### short forms -/
theorem ds_append {i : Nat} {x : Str} {p1 p2 p3 : Pos} (h : DE X F a wa) (hv : PE X (.Name x p1) (tVar i)) (hs : starEach [a] X.env = (false, eval a X.env) :: starEach [] X.env := by rfl)
    (hbase : attributeBase (.Name x p1) "append" X.env (eval (.Name x p1) X.env) = eval (.Name x p1) X.env := by rfl)
    (hfew : ((backTo p3 (starEach [a] X.env)).all (fun x => !x.1) && (backToKw p3 (keywordEach [] X.env)).all (fun x => x.1.isSome) && decide ([a].length + ([] : List Keyword).length + (if ([] : List Keyword).isEmpty then 0 else 1) < 30)) = true := by rfl)
    (hline : (p2.endLine == p3.line) = true := by rfl) (hplain : (backTo p3 (starEach [] X.env)).any (·.1) = false := by rfl) (hsw : swapsWith (.Call (.Attribute (.Name x p1) "append" p2) [a] [] p3) none pos.line X.env = pure false := by rfl) :
    DS X F (.Expr (.Call (.Attribute (.Name x p1) "append" p2) [a] [] p3) pos) (wApp i wa) :=
  ds_app h hv hs (pe_bm PySem.F.plainAttrs_list PySem.F.slot_list_append PySem.F.type_list_append mt_append hv (pa_cons h.run pa_nil hs) hbase hfew hline hs hplain) hsw
end
/-! ### the text's defs -/
def FunAt (K : PySem.W.Frag) (mg : Str → Option Value) (x : Str) (st : Stmt) (ps : List Str) : Prop := ∃ f fd, Fun K x x st f fd ∧ mg x = some (.ref f) ∧ Binds K fd ps []
def Def (P : Program) (w : World) (K : PySem.W.Frag) (mg : Str → Option Value) (base : Heap) (x : Str) (k : Nat) (ps : List Str) (wf : Wc) : Prop :=
  ∃ f fd, FnG P w K mg base k f fd ps (spD K wf) ∧ mg x = some (.ref f) ∧ PySem.W.keepIn K (.ref f) = true ∧ Binds K fd ps []
section
variable {P : Program} {w : World} {K :
      PySem.W.Frag} {mg : Str → Option Value} {base : Heap}
theorem defD {x : Str} {st : Stmt} {N ps : List Str} {k : Nat} {wf : Wc} (F : FunAt K mg x st ps) (S : FnScope N ps (defScope st)) (len : ∀ ds k Q x, wf ds k Q x → ds.length = ps.length)
    (body : ∀ (f : Addr) (cdv : Value) (A : Around) (outer : List Env) (s : Shared) (H : Hp) (E : XK) (p : Option Addr) (G : Hp), A.guards = some [] → Room k (A.deeper (envOfC x (defScope st) s.heap.objs.size f cdv)) →
      ∃ ws, DSs (cxOf (L2.CX P w) P w K mg base N x (defScope st) f cdv A outer s H E) ⟨p, G, H, fun cls d _ H' => E cls d H'⟩ (defBody st) ws ∧ ∀ ds n Q x, wf ds n Q x → ws (enOf N ds n) (defEnds Q x)) : Def P w K mg base x (k + 1) ps wf := by
  obtain ⟨f, fd, h1, h2, h3⟩ := F
  exact ⟨f, fd, fnD h1 S len (body f), h2, h1.kp, h3⟩
theorem Def.mono {x : Str} {j k : Nat} {ps : List Str} {wf : Wc} (h : Def P w K mg base x j ps wf) (l : j ≤ k) : Def P w K mg base x k ps wf := by
  obtain ⟨f, fd, h1, h2⟩ := h
  exact ⟨f, fd, h1.mono l, h2⟩
end
section
variable {X : Cx} {F : Fx} {pos : Pos} {a : Expr} {es : List Expr} {wr : WAx}
theorem de_fn {wf : Wc} {j k : Nat} {ps : List Str} {x : Str} {p : Pos} (d : Def X.prog X.w X.K X.mg X.base x j ps wf) (mf : wf.Mono) (hgd : X.A.guards = some []) (hr : Room k X.A) (tk : Takes X F.W) (ha : DA X F (a :: es) wr) (hj : j ≤ k := by decide) (hg : Gl X x := by rfl) (hdb : (x == ("__debug__" : Str)) = false := by decide)
    (he : starEach (a :: es) X.env = (false, eval a X.env) :: starEach es X.env := by rfl) (hpl : (backTo pos (starEach es X.env)).any (·.1) = false := by rfl) : DE X F (.Call (.Name x p) (a :: es) [] pos) (wCall wf wr) := by
  obtain ⟨f, fd, h1, h2, h3, h4⟩ := d
  exact de_call h1 mf hgd (hr.mono hj) h2 h3 h4 tk ha hg hdb he hpl
theorem de_const {x : Str} {i : Int} {t : Tok} {p : Pos} (hm : X.mg x = some (.int i t)) (hg : Gl X x := by rfl) (hdb : (x == ("__debug__" : Str)) = false := by decide) : DE X F (.Name x p) (wC (.int i)) := de_c (pe_glob (v := .int i) hg hm ⟨t, rfl⟩ hdb) fun _ _ _ => .int i
end
theorem hr65 {k : Nat} {A : Around} (hr : Room k A) : A.units + 65 < cLine := by have := hr.un; omega
theorem dss_never {X : Cx} {F : Fx} {sts : List Stmt} : DSs X F sts (fun _ _ => False) := dss_of pss_never (fun _ _ _ _ z => z) fun D σ H ⟨_, _, _, z⟩ => z
end L2.DL
set_option
      maxHeartbeats 1000000
namespace L2.DL
open PySem PySem.Spec
      PyProof.Rows
/-! ### loops by a word over what is left -/
theorem wLoop.ind {g : WG} {wb : WSt} {B : DEnds} (I : List D → En → Prop) (hn : ∀ e, I [] e → B.nx e)
    (hs : ∀ d ds e, (∀ e', I ds e' → wLoop g wb B ds e') → I (d :: ds) e → g d e fun e1 => wb e1 { B with nx := fun e2 => wLoop g wb B ds e2, ct := fun e2 => wLoop g wb B ds e2, bk := B.nx }) : ∀ {ds : List D} {e : En}, I ds e → wLoop g wb B ds e
  | [], e, h => hn e h
  | d :: ds, e, h => hs d ds e (fun e' h' => wLoop.ind I hn hs h') h
theorem lcLoop.ind {g : WG} {wt : WTx} {we : WEx} {e₀ : En} {P : List D → Nat → Prop} (I : List D → List D → Nat → Prop) (hn : ∀ acc k, I acc [] k → P acc k)
    (hs : ∀ d ds acc k, (∀ acc' k', I acc' ds k' → lcLoop g wt we e₀ acc' ds k' P) → I acc (d :: ds) k →
      g d { e₀ with k := k } fun e1 => wt e1 (fun b e2 => if b = true then we e2 (fun y e3 => acc.length < 1000 ∧ lcLoop g wt we e₀ (acc ++ [y]) ds e3.k P) noX else lcLoop g wt we e₀ acc ds e2.k P) noX) : ∀ {ds acc : List D} {k : Nat}, I acc ds k → lcLoop g wt we e₀ acc ds k P
  | [], acc, k, h => hn acc k h
  | d :: ds, acc, k, h => hs d ds acc k (fun acc' k' h' => lcLoop.ind I hn hs h') h
/-! ### promises of one, two, three arguments, whose answer is a function's -/
def w1 (pre : D → Prop) (f : D → D) : Wc := fun ds k Q _ => ∃ a, ds = [a] ∧ pre a ∧ Q (f a) k
def w2 (pre : D → D → Prop) (f : D → D → D) : Wc := fun ds k Q _ => ∃ a b, ds = [a, b] ∧ pre a b ∧ Q (f a b) k
def w3 (pre : D → D → D → Prop) (f : D → D → D → D) : Wc := fun ds k Q _ => ∃ a b c, ds = [a, b, c] ∧ pre a b c ∧ Q (f a b c) k
theorem w1.mono {pre : D → Prop} {f : D → D} : Wc.Mono (w1 pre f) := fun ds k Q Q' x x' h _ ⟨a, e, p, q⟩ => ⟨a, e, p, h _ _ q⟩
theorem w2.mono {pre : D → D → Prop} {f : D → D → D} : Wc.Mono (w2 pre f) := fun ds k Q Q' x x' h _ ⟨a, b, e, p, q⟩ => ⟨a, b, e, p, h _ _ q⟩
theorem w3.mono {pre : D → D → D → Prop} {f : D → D → D → D} : Wc.Mono (w3 pre f) := fun ds k Q Q' x x' h _ ⟨a, b, c, e, p, q⟩ => ⟨a, b, c, e, p, h _ _ q⟩
theorem w1.len {pre : D → Prop} {f : D → D} {ds k Q x} (h : w1 pre f ds k Q x) : ds.length = 1 := by obtain ⟨a, e, _⟩ := h; rw [e]; rfl
theorem w2.len {pre : D → D → Prop} {f : D → D → D} {ds k Q x} (h : w2 pre f ds k Q x) : ds.length = 2 := by obtain ⟨a, b, e, _⟩ := h; rw [e]; rfl
theorem w3.len {pre : D → D → D → Prop} {f : D → D → D → D} {ds k Q x} (h : w3 pre f ds k Q x) : ds.length = 3 := by obtain ⟨a, b, c, e, _⟩ := h; rw [e]; rfl
/-! ### types -/
def isI : D → Bool
  | .int _ => true
  | .bool _ => true
  | _ => false
def isB : D → Bool
  | .bool _ => true
  | _ => false
def isT : D → Bool
  | .tuple _ => true
  | _ => false
def isInt : D → Bool
  | .int _ => true
  | _ => false
theorem fine.nd {d : D} (h : DL.fine d = true) : ∀ kv, d ≠ .dict kv := fun kv e => by rw [e] at h; simp only [DL.fine] at h; cases h
theorem kit_int {d : D} (h : DL.fine d = true) : kitB (tyN d) "int" = some (isI d) := by
  cases d with
  | none => exact (by decide +kernel : kitB "NoneType" "int" = some false)
  | bool _ => exact (by decide +kernel : kitB "bool" "int" = some true)
  | int _ => exact (by decide +kernel : kitB "int" "int" = some true)
  | str _ => exact (by decide +kernel : kitB "str" "int" = some false)
  | list _ => exact (by decide +kernel : kitB "list" "int" = some false)
  | tuple _ => exact (by decide +kernel : kitB "tuple" "int" = some false)
  | dict kv => exact absurd rfl (fine.nd h kv)
theorem kit_bool {d : D} (h : DL.fine d = true) : kitB (tyN d) "bool" = some (isB d) := by
  cases d with
  | none => exact (by decide +kernel : kitB "NoneType" "bool" = some false)
  | bool _ => exact (by decide +kernel : kitB "bool" "bool" = some true)
  | int _ => exact (by decide +kernel : kitB "int" "bool" = some false)
  | str _ => exact (by decide +kernel : kitB "str" "bool" = some false)
  | list _ => exact (by decide +kernel : kitB "list" "bool" = some false)
  | tuple _ => exact (by decide +kernel : kitB "tuple" "bool" = some false)
  | dict kv => exact absurd rfl (fine.nd h kv)
theorem kit_tuple {d : D} (h : DL.fine d = true) : kitB (tyN d) "tuple" = some (isT d) := by
  cases d with
  | none => exact (by decide +kernel : kitB "NoneType" "tuple" = some false)
  | bool _ => exact (by decide +kernel : kitB "bool" "tuple" = some false)
  | int _ => exact (by decide +kernel : kitB "int" "tuple" = some false)
  | str _ => exact (by decide +kernel : kitB "str" "tuple" = some false)
  | list _ => exact (by decide +kernel : kitB "list" "tuple" = some false)
  | tuple _ => exact (by decide +kernel : kitB "tuple" "tuple" = some true)
  | dict kv => exact absurd rfl (fine.nd h kv)
/-! ### small data -/
theorem fineAll.at {xs : List D} (h : fineAll xs = true) : ∀ d ∈ xs, fine d = true := by
  induction xs with
  | nil => intro d hd; cases hd
  | cons a r ih =>
    unfold fineAll at h
    rw [Bool.and_eq_true] at h
    intro d hd
    rcases List.mem_cons.mp
          hd with rfl | hd
    · exact h.1
    · exact ih h.2 d hd
theorem fineAll_of {xs : List D} (h : ∀ d ∈ xs, fine d = true) : fineAll xs = true := by
  induction xs with
  | nil => rfl
  | cons a r ih =>
    unfold fineAll
    rw [Bool.and_eq_true]
    exact ⟨h a List.mem_cons_self, ih fun d hd => h d (List.mem_cons_of_mem _ hd)⟩
theorem wtAll_mem {xs : List D} : ∀ d ∈ xs, wt d ≤ wtAll xs := by
  induction xs with
  | nil => intro d hd; cases hd
  | cons a r ih =>
    intro d hd
    unfold wtAll
    rcases List.mem_cons.mp
          hd with rfl | hd
    · omega
    · have := ih d hd; omega
theorem depthAll_mem {xs : List D} : ∀ d ∈ xs, d.depth ≤ PyData.depthAll xs := by
  induction xs with
  | nil => intro d hd; cases hd
  | cons a r ih =>
    intro d hd
    unfold PyData.depthAll
    rcases List.mem_cons.mp
          hd with rfl | hd
    · omega
    · have := ih d hd; omega
theorem depthAll_le {xs : List D} {m : Nat} (h : ∀ d ∈ xs, d.depth ≤ m) : PyData.depthAll xs ≤ m := by
  induction xs with
  | nil => simp [PyData.depthAll]
  | cons a r ih =>
    unfold PyData.depthAll
    have h1 := h a List.mem_cons_self
    have h2 := ih fun d hd => h d (List.mem_cons_of_mem _ hd)
    omega
theorem wtAll_le {xs : List D} {m : Nat} (h : ∀ d ∈ xs, wt d ≤ m) : wtAll xs ≤ xs.length * m := by
  induction xs with
  | nil => simp [wtAll]
  | cons a r ih =>
    unfold wtAll
    have h1 := h a List.mem_cons_self
    have h2 := ih fun d hd => h d (List.mem_cons_of_mem _ hd)
    rw [List.length_cons, Nat.succ_mul]
    omega
theorem Ok.tuple {n m k : Nat} {xs : List D} (h : ∀ d ∈ xs, Ok n m d) (hk : xs.length ≤ k) : Ok (k * n + 1) (m + 1) (.tuple xs) where
  f := by simp only [fine]; exact fineAll_of fun d hd => (h d hd).f
  w := by
    simp only [wt]
    have := wtAll_le fun d hd => (h d hd).w
    have := Nat.mul_le_mul_right n hk
    omega
  d := by simp only [PyData.depth]; have := depthAll_le fun d hd => (h d hd).d; omega
theorem Ok.list {n m k : Nat} {xs : List D} (h : ∀ d ∈ xs, Ok n m d) (hk : xs.length ≤ k) : Ok (k * n + 1) (m + 1) (.list xs) where
  f := by simp only [fine]; exact fineAll_of fun d hd => (h d hd).f
  w := by
    simp only [wt]
    have := wtAll_le fun d hd => (h d hd).w
    have := Nat.mul_le_mul_right n hk
    omega
  d := by simp only [PyData.depth]; have := depthAll_le fun d hd => (h d hd).d; omega
theorem Ok.mono {n m n' m' : Nat} {d : D} (h : Ok n m d) (hn : n ≤ n') (hm : m ≤ m') : Ok n' m' d := ⟨h.f, Nat.le_trans h.w hn, Nat.le_trans h.d hm⟩
theorem Ok.int {i : Int} (h : i.natAbs < 2 ^ 120) : Ok 1 0 (.int i) := ⟨by simp only [fine]; exact decide_eq_true h, by simp [wt], by simp [PyData.depth]⟩
theorem Ok.none : Ok 1 0 .none := ⟨rfl, Nat.le_refl _, Nat.le_refl _⟩
theorem Ok.bool {b : Bool} : Ok 1 0 (.bool b) := ⟨rfl, Nat.le_refl _, Nat.le_refl _⟩
theorem Ok.good {n m : Nat} {d : D} (h : Ok n m d) (hn : n ≤ 8000 := by decide) (hm : m ≤ 50 := by decide) : Good d := h.mono hn hm
theorem Ok.in_tuple {n m : Nat} {xs : List D} (h : Ok n m (.tuple xs)) : ∀ d ∈ xs, Ok n m d := fun d hd => by
  have f := h.f
  have w := h.w
  have dd := h.d
  simp only [fine, wt, PyData.depth] at f w dd
  have := wtAll_mem d hd
  have := depthAll_mem d hd
  exact ⟨fineAll.at f d hd, by omega, by omega⟩
/-- by reckoning -/
theorem good_of {d : D} (h : (fine d && decide (wt d ≤ 8000) && decide (d.depth ≤ 50)) = true) : Good d := by
  simp only [Bool.and_eq_true,
        decide_eq_true_eq] at h
  exact ⟨h.1.1, h.1.2, h.2⟩
end L2.DL
set_option
      maxHeartbeats 1000000
namespace L2.DL
open PySem PySem.Spec
      PyProof.Rows
theorem eqv_len (a b : Nat) : PyData.eqv (.int a) (.int b) = decide (a = b) := by
  rw [Bool.eq_iff_iff]
  simp only [PyData.eqv, beq_iff_eq, decide_eq_true_eq]
  omega
theorem atI_pos {xs : List D} {i : Int} (h0 : 0 ≤ i) (h1 : i < xs.length) : atI xs i = some (xs.getD i.toNat .none) := by
  obtain ⟨j, rfl⟩ :=
        Int.eq_ofNat_of_zero_le h0
  have hj : j < xs.length := by omega
  exact atI_nat (by simp [hj])
theorem getD_mem {xs : List D} {i : Int} (h0 : 0 ≤ i) (h1 : i < xs.length) : xs.getD i.toNat .none ∈ xs := by
  have hj : i.toNat < xs.length := by omega
  rw [List.getD_eq_getElem?_getD, List.getElem?_eq_getElem hj]
  exact List.getElem_mem hj
/-! #### a list made of parts of another -/
theorem wtAll_map {f : D → D} : ∀ {xs : List D}, (∀ d ∈ xs, wt (f d) ≤ wt d) → wtAll (xs.map f) ≤ wtAll xs
  | [], _ => Nat.le_refl _
  | d :: xs, h => by
    have h1 := h d List.mem_cons_self
    have h2 := wtAll_map fun d hd => h d (List.mem_cons_of_mem _ hd)
    simp only [List.map_cons, wtAll]
    omega
theorem Ok.mapL {n m : Nat} {f : D → D} {xs : List D} (h : Ok n m (.tuple xs)) (hf : ∀ d ∈ xs, fine (f d) = true ∧ wt (f d) ≤ wt d ∧ (f d).depth ≤ d.depth) : Ok n m (.list (xs.map f)) where
  f := by
    simp only [fine]
    refine fineAll_of fun d hd => ?_
    obtain ⟨e, he, rfl⟩ := List.mem_map.mp hd
    exact (hf e he).1
  w := by
    have w := h.w
    simp only [wt] at w ⊢
    have := wtAll_map fun d hd => (hf d hd).2.1
    omega
  d := by
    have d := h.d
    simp only [PyData.depth] at d ⊢
    have : PyData.depthAll (xs.map f) ≤ PyData.depthAll xs := depthAll_le fun d hd => by
      obtain ⟨e, he, rfl⟩ := List.mem_map.mp hd
      exact Nat.le_trans (hf e he).2.2 (depthAll_mem e he)
    omega
theorem Ok.part {n m : Nat} {xs : List D} (h : Ok n m (.tuple xs)) : ∀ d ∈ xs, fine d = true ∧ wt d ≤ wt (.tuple xs) ∧ d.depth ≤ (PyData.tuple xs).depth := fun d hd => by
  refine ⟨(h.in_tuple d hd).f, ?_, ?_⟩
  · simp only [wt]; have := wtAll_mem d hd; omega
  · simp only [PyData.depth]; have := depthAll_mem d hd; omega
theorem fmap_some {f : D → D} : ∀ ds : List D, ds.filterMap (fun d => some (f d)) = ds.map f
  | [] => rfl
  | d :: ds => by rw [List.filterMap_cons_some (f := fun d => some (f d)) (a := d) (b := f d) rfl, List.map_cons, fmap_some ds]
theorem rngD_succ {lo : Int} {n : Nat} : rngD lo (n + 1) = .int lo :: rngD (lo + 1) n := by
  unfold rngD
  rw [List.range_succ_eq_map,
        List.map_cons, List.map_map]
  refine congr (congrArg _ ?_) ?_
  · simp
  · refine List.map_congr_left fun i _ => ?_
    simp only [Function.comp_apply, PyData.int.injEq]
    omega
theorem ixN_pos {n : Nat} {i : Int} (h0 : 0 ≤ i) (h1 : i < n) : ixN n i = some i.toNat := by
  unfold ixN
  rw [if_pos h0, if_pos h1]
/-! ### a comprehension that draws nothing -/
theorem lcLoop.fm {g : WG} {wt : WTx} {we : WEx} {e₀ : En} {n : Nat} (f : D → Option D) {P : List D → Nat → Prop} : ∀ {ds acc : List D},
    (∀ d ∈ ds, ∀ (A : D → Nat → Prop) (B : Nat → Prop), (f d = none → B n) → (∀ y, f d = some y → A y n) → g d { e₀ with k := n } fun e1 => wt e1 (fun b e2 => if b = true then we e2 (fun y e3 => A y e3.k) noX else B e2.k) noX) →
    acc.length + ds.length ≤ 1000 → P (acc ++ ds.filterMap f) n → lcLoop g wt we e₀ acc ds n P
  | [], acc, _, _, q => by rw [List.filterMap_nil, List.append_nil] at q; exact q
  | d :: ds, acc, hs, hl, q => by
    rw [List.length_cons] at hl
    refine hs d List.mem_cons_self (fun y k => acc.length < 1000 ∧ lcLoop g wt we e₀ (acc ++ [y]) ds k P) (fun k => lcLoop g wt we e₀ acc ds k P) (fun h => ?_) (fun y h => ?_)
    · rw [List.filterMap_cons_none h] at q
      exact lcLoop.fm f (fun d hd => hs d (List.mem_cons_of_mem _ hd)) (by omega) q
    · rw [List.filterMap_cons_some h] at q
      exact ⟨by omega, lcLoop.fm f (fun d hd => hs d (List.mem_cons_of_mem _ hd)) (by rw [List.length_append, List.length_singleton]; omega) (by rw [List.append_assoc]; exact q)⟩
/-! ### the pen: what is read of it is any number, what is written is forgotten but for the count -/
section
variable {K : PySem.W.Frag} {F : Fx} {σ : L2.St} {H : Hp} {X : Cx} {pos : Pos} {a b : Expr} {wa wb : WEx} {p : Option Addr} {G₀ H₀ G : Hp} {e : En}
def penAt (i : Nat) (e : En) : Prop := e.s[i]? = some (.dat penD)
theorem Rl.pen {i : Nat} (r : Rl K p G₀ H₀ G H σ e) (h : penAt i e) : ∃ q c, ∃ (xs : List Int) (j s : Int), σ[i]? = some (some (.ref q)) ∧ p = some q ∧ G q = none ∧ H q = some (.lst [.ref c, .int j, .int s]) ∧ G c = some (.lst (xs.map V.int)) ∧ xs.length ≤ 12 ∧ 0 ≤ j ∧ j + (e.k : Int) ≤ most := by
  obtain ⟨α, r'⟩ := id r
  obtain ⟨v, h1, h2⟩ := r'.dat i _ h
  obtain ⟨q, rfl, hp⟩ := h2.pen_inv
  obtain ⟨h3, c, xs, j, s, h4, h5⟩ := r'.w.pen q hp
  exact ⟨q, c, xs, j, s, h1, hp, h3, h4, h5⟩
theorem Rl.penSet {q c : Addr} {j s j' s' : Int} {k' : Nat} (r : Rl K p G₀ H₀ G H σ e) (hp : p = some q) (hH : H q = some (.lst [.ref c, .int j, .int s])) (h0 : 0 ≤ j') (hm : j' + (k' : Int) ≤ most) : Rl K p G₀ H₀ G (L2.upd H q (.lst [.ref c, .int j', .int s'])) σ { e with k := k' } := by
  obtain ⟨α, r⟩ := r
  obtain ⟨gq, c', xs, j2, s2, h2, h3, h4, _⟩ := r.w.pen q hp
  have ec : c' = c := by rw [hH] at h2; injection h2 with h2; injection h2 with h2; injection h2 with h2 _; injection h2 with h2; exact h2.symm
  subst ec
  refine ⟨α, ⟨fun b u z => ?_, fun b ea => ?_⟩, ⟨r.st.gg, fun b u z n => ?_, r.st.nn, fun b d ea h => ?_⟩, r.len, r.dat, fun i ds h => ?_, r.sep, r.bo.heap (Same.refl G) fun b ys h1 h2 h3 h4 _ => ⟨by rw [upd_ne (fun z => h4 (by rw [hp, z]))]; exact h1, h2, h3⟩⟩
  · rw [upd_ne (ne_of_none z gq)]; exact r.w.same _ _ z
  · rw [hp] at ea; cases ea
    exact ⟨gq, _, xs, j', s', upd_same, h3, h4, h0, hm⟩
  · rw [upd_ne (fun z => n (by rw [hp, z]))]; exact r.st.hh b u z n
  · rw [hp] at ea; cases ea
    obtain ⟨i, t, z⟩ := r.st.pc _ d hp h
    rw [hH] at z
    cases z
    exact ⟨j', s', upd_same⟩
  · obtain ⟨ys, q1, q2, q3, q4, q5, q6⟩ := r.own i ds h
    exact ⟨ys, q1, by rw [upd_ne (fun z => q5 (by rw [hp, z]))]; exact q2, q3, q4, q5, q6⟩
/-- the cells that the pen draws from -/
def PenIs (F : Fx) (xs : List Int) : Prop := xs.length ≤ 12 ∧ ∀ a, F.p = some a → ∃ c, HasC F.H₀ a c ∧ F.G₀ c = some (.lst (xs.map V.int))
def wPen0 (xs : List Int) (i : Nat) : WEx := fun e Q _ => penAt i e ∧ Q (.list (xs.map PyData.int)) e
def wPen1 (i : Nat) : WEx := fun e Q _ => penAt i e ∧ ∀ j : Int, 0 ≤ j → j + (e.k : Int) ≤ most → Q (.int j) e
def wPen2 (i : Nat) : WEx := fun e Q _ => penAt i e ∧ ∀ s : Int, Q (.int s) e
variable {x : Str} {i jj : Nat} {p1 p2 p3 : Pos}
theorem de_pen0 {xs : List Int} (hP : PenIs F xs) (hv : PE X (.Name x p1) (tVar i)) (hs : PlainIx (.Constant (.int 0) jj p2) := by intro _ _; rfl) : DE X F (.Subscript (.Name x p1) (.Constant (.int 0) jj p2) p3) (wPen0 xs i) :=
  de_of (pe_ix (ix_list.or ix_tup) hv pe_int hs) (fun e Q Q' x x' h _ q => ⟨q.1, h _ _ q.2⟩) fun σ H Q ⟨e, G, r, h, q⟩ => by
    obtain ⟨a, c, ys, j, s, h1, hp, h3, h4, h5, h6, h7, h8⟩ := r.pen h
    obtain ⟨c', g1, g2⟩ := hP.2 a hp
    obtain ⟨α, r'⟩ := id r
    obtain ⟨i', t', g3⟩ := r'.st.pc a c' hp g1
    have ec : c' = c := by rw [h4] at g3; injection g3 with g3; injection g3 with g3; injection g3 with g3 _; injection g3 with g3; exact g3.symm
    subst ec
    exact ⟨_, h1, .inl ⟨a, _, 0, .ref c', rfl, rfl, SqL.of h4, rfl, q _ G H (Same.refl G) r (.lst (r'.st.gg _ _ g2) (RA.toInts xs))⟩⟩
theorem de_pen1 (hv : PE X (.Name x p1) (tVar i)) (hs : PlainIx (.Constant (.int 1) jj p2) := by intro _ _; rfl) : DE X F (.Subscript (.Name x p1) (.Constant (.int 1) jj p2) p3) (wPen1 i) :=
  de_of (pe_ix (ix_list.or ix_tup) hv pe_int hs) (fun e Q Q' x x' h _ q => ⟨q.1, fun j l m => h _ _ (q.2 j l m)⟩) fun σ H Q ⟨e, G, r, h, q⟩ => by
    obtain ⟨a, c, xs, j, s, h1, hp, h3, h4, h5, h6, h7, h8⟩ := r.pen h
    exact ⟨_, h1, .inl ⟨a, _, 1, .int j, rfl, rfl, SqL.of h4, rfl, q j h7 h8 _ G H (Same.refl G) r (.int j)⟩⟩
theorem de_pen2 (hv : PE X (.Name x p1) (tVar i)) (hs : PlainIx (.Constant (.int 2) jj p2) := by intro _ _; rfl) : DE X F (.Subscript (.Name x p1) (.Constant (.int 2) jj p2) p3) (wPen2 i) :=
  de_of (pe_ix (ix_list.or ix_tup) hv pe_int hs) (fun e Q Q' x x' h _ q => ⟨q.1, fun j => h _ _ (q.2 j)⟩) fun σ H Q ⟨e, G, r, h, q⟩ => by
    obtain ⟨a, c, xs, j, s, h1, hp, h3, h4, h5, h6, h7, h8⟩ := r.pen h
    exact ⟨_, h1, .inl ⟨a, _, 2, .int s, rfl, rfl, SqL.of h4, rfl, q s _ G H (Same.refl G) r (.int s)⟩⟩
def wPenS1 (i : Nat) (w : WEx) : WSt := fun e D => w e (fun d e1 => ∃ (j : Int) (k' : Nat), d = .int j ∧ penAt i e1 ∧ 0 ≤ j ∧ j + (k' : Int) ≤ most ∧ D.nx { e1 with k := k' }) D.ex
def wPenS2 (i : Nat) (w : WEx) : WSt := fun e D => w e (fun d e1 => ∃ j, d = .int j ∧ penAt i e1 ∧ D.nx e1) D.ex
theorem ds_pen1 (h : DE X F a wa) (hv : PE X (.Name x p1) (tVar i))
    (ha : ∀ v, assign (.Subscript (.Name x p1) (.Constant (.int 1) jj p3) p2) X.env v = (do
      let ov ← holding [v] (eval (.Name x p1) X.env)
      let iv ← holding [v, ov] (eval (.Constant (.int 1) jj p3) X.env)
      standAt p2
      holding [v, ov,
            iv] (setItem ov iv v)
      release [v, ov, iv] []) := by intro _; rfl)
    (hs : swapsWithSole [.Subscript (.Name x p1) (.Constant (.int 1) jj p3) p2] a pos.line X.env = pure false := by rfl) (hw : swappedStores [.Subscript (.Name x p1) (.Constant (.int 1) jj p3) p2] a X.env = pure none := by rfl) (h1 : (assignEach [.Subscript (.Name x p1) (.Constant (.int 1) jj p3) p2] X.env).map (·.2) = [assign (.Subscript (.Name x p1) (.Constant (.int 1) jj p3) p2) X.env] := by rfl) :
    DS X F (.Assign [.Subscript (.Name x p1) (.Constant (.int 1) jj p3) p2] a pos) (wPenS1 i wa) :=
  ds_of (ps_asg h.run (pg_sub hv pe_int set_list ha) hs hw h1) (fun e A B l q => h.mono e _ _ _ _ (fun d e1 ⟨j, k', i1, i2, i3, i4, y⟩ => ⟨j, k', i1, i2, i3, i4, l.nx _ y⟩) l.ex q) fun D σ H ⟨e, G, r, q⟩ => by
    refine tE.mono h.mono (fun v H1 z => ?_) (tE.any h.mono r (h.mono e _ _ _ _ (fun _ _ z => z) (fun y e' z C G' H' s r' ec => z C σ G' H' s r' ec) q))
    obtain ⟨e1, G1, d, s1, r1, rv, j', k', ed, pa, j0, jm, z⟩ := z
    subst ed
    cases rv.int_inv
    obtain ⟨a, c, xs, j, s, g1, hp, h3, h4, h5, h6, h7, h8⟩ := r1.pen pa
    exact ⟨_, g1, a, _, 1, 1, rfl, rfl, h4, rfl, z σ G1 _ s1 (r1.penSet hp h4 j0 jm)⟩
theorem ds_pen2 (h : DE X F a wa) (hv : PE X (.Name x p1) (tVar i))
    (ha : ∀ v, assign (.Subscript (.Name x p1) (.Constant (.int 2) jj p3) p2) X.env v = (do
      let ov ← holding [v] (eval (.Name x p1) X.env)
      let iv ← holding [v, ov] (eval (.Constant (.int 2) jj p3) X.env)
      standAt p2
      holding [v, ov,
            iv] (setItem ov iv v)
      release [v, ov, iv] []) := by intro _; rfl)
    (hs : swapsWithSole [.Subscript (.Name x p1) (.Constant (.int 2) jj p3) p2] a pos.line X.env = pure false := by rfl) (hw : swappedStores [.Subscript (.Name x p1) (.Constant (.int 2) jj p3) p2] a X.env = pure none := by rfl) (h1 : (assignEach [.Subscript (.Name x p1) (.Constant (.int 2) jj p3) p2] X.env).map (·.2) = [assign (.Subscript (.Name x p1) (.Constant (.int 2) jj p3) p2) X.env] := by rfl) :
    DS X F (.Assign [.Subscript (.Name x p1) (.Constant (.int 2) jj p3) p2] a pos) (wPenS2 i wa) :=
  ds_of (ps_asg h.run (pg_sub hv pe_int set_list ha) hs hw h1) (fun e A B l q => h.mono e _ _ _ _ (fun d e1 ⟨j, i1, i2, y⟩ => ⟨j, i1, i2, l.nx _ y⟩) l.ex q) fun D σ H ⟨e, G, r, q⟩ => by
    refine tE.mono h.mono (fun v H1 z => ?_) (tE.any h.mono r (h.mono e _ _ _ _ (fun _ _ z => z) (fun y e' z C G' H' s r' ec => z C σ G' H' s r' ec) q))
    obtain ⟨e1, G1, d, s1, r1, rv, j', ed, pa, z⟩ := z
    subst ed
    cases rv.int_inv
    obtain ⟨a, c, xs, j, s, g1, hp, h3, h4, h5, h6, h7, h8⟩ := r1.pen pa
    exact ⟨_, g1, a, _, 2, 2, rfl, rfl, h4, rfl, z σ G1 _ s1 (r1.penSet hp h4 h7 h8)⟩
/-! ### tests that compare -/
variable {op : CmpOp}
theorem toTest {w : WEx} (m : Mono w) {Q : Bool → Hp → Prop} (q : tT K F (wTest w) σ H Q) : tE K F w σ H (fun x H' => ∃ k, x = .bl k ∧ Q k H') := by
  obtain ⟨e, G, r, q⟩ := q
  exact ⟨e, G, r, m e _ _ _ _ (fun d e1 ⟨k, ek, z⟩ v G' H' s r' rv => by
    subst ek
    exact ⟨k, rv.bl_inv, z G' H' s r'⟩) (fun _ _ z => z) q⟩
theorem dt_cmp {f : B2} {r : R2} (ho : OpR X (compareOp op) r) (hf : f.Mono) (ft : Fits X.K f r) (ha : DE X F a wa) (hb : DE X F b wb) (hm : behindInMarks op b = false := by first | exact nomark _ (by decide) (by decide) | rfl) : DT X F (.Compare a [op] [b] pos) (wTest (wBin f wa wb)) :=
  dt_of (pt_cmpR ho ha.run hb.run hm) (wTest.mono (wBin.mono hf ha.mono hb.mono)) fun σ H Q q => tE.two hf ft ha.mono hb.mono (toTest (wBin.mono hf ha.mono hb.mono) q)
theorem dt_isN {j} {p2 : Pos} (ha : DE X F a wa) : DT X F (.Compare a [.Is] [.Constant .none j p2] pos) (wTest (wIsN wa)) :=
  dt_of (pt_cmp (pc_isN ha.run) rfl) (wTest.mono (wIsN.mono ha.mono)) fun σ H Q q => by
    obtain ⟨e, G, r, q⟩ := toTest (wIsN.mono ha.mono) q
    exact ⟨e, G, r, ha.mono e _ _ _ _ (fun d e1 z v G' H' s r' rv => by
      obtain ⟨k, e1, e2⟩ := z _ G' H' s r' (.bl _)
      refine ⟨k, ?_, e2⟩
      rw [← e1, rv.isN]) (fun _ _ z => z) q⟩
theorem dt_notN {j} {p2 : Pos} (ha : DE X F a wa) : DT X F (.Compare a [.IsNot] [.Constant .none j p2] pos) (wTest (wNotN wa)) :=
  dt_of (pt_cmp (pc_notN ha.run) rfl) (wTest.mono (wNotN.mono ha.mono)) fun σ H Q q => by
    obtain ⟨e, G, r, q⟩ := toTest (wNotN.mono ha.mono) q
    exact ⟨e, G, r, ha.mono e _ _ _ _ (fun d e1 z v G' H' s r' rv => by
      obtain ⟨k, e1, e2⟩ := z _ G' H' s r' (.bl _)
      refine ⟨k, ?_, e2⟩
      rw [← e1, rv.isN]) (fun _ _ z => z) q⟩
end
/-! ### a def that reads the pen's cells -/
section
variable {P : Program} {w : World} {K :
      PySem.W.Frag} {mg : Str → Option Value} {base : Heap}
theorem defDp {x : Str} {st : Stmt} {N ps : List Str} {k : Nat} {wf : Wc} (F : FunAt K mg x st ps) (S : FnScope N ps (defScope st)) (len : ∀ ds k Q x, wf ds k Q x → ds.length = ps.length)
    (body : ∀ (f : Addr) (cdv : Value) (A : Around) (outer : List Env) (s : Shared) (H : Hp) (E : XK) (p : Option Addr) (G : Hp) (xs : List Int), A.guards = some [] → Room k (A.deeper (envOfC x (defScope st) s.heap.objs.size f cdv)) → PenIs ⟨p, G, H, fun cls d _ H' => E cls d H'⟩ xs →
      ∃ ws, DSs (cxOf (L2.CX P w) P w K mg base N x (defScope st) f cdv A outer s H E) ⟨p, G, H, fun cls d _ H' => E cls d H'⟩ (defBody st) ws ∧ ∀ ds n Q x, wf ds n Q x → ws (enOf N ds n) (defEnds Q x)) : Def P w K mg base x (k + 1) ps wf := by
  obtain ⟨f, fd, h1, h2, h3⟩ := F
  refine ⟨f, fd, ?_, h2, h1.kp, h3⟩
  refine fnG_of h1 S (fun vs H Q E ⟨p, G, ds, n, _, ra, q⟩ => by rw [ra.length]; exact len ds n _ _ q) fun cdv A outer s H vs Q E hg hr ⟨p, G, ds, n, wd, ra, q⟩ => ?_
  have hx : ∃ xs, PenIs ⟨p, G, H, fun cls d _ H' => E cls d H'⟩ xs := by
    cases p with
    | none => exact ⟨[], by decide, fun _ z => nomatch z⟩
    | some a =>
      obtain ⟨_, c, xs, i, r, g1, g2, g3, _⟩ := wd.pen a rfl
      exact ⟨xs, g3, fun b eb => by cases eb; exact ⟨c, ⟨i, r, g1⟩, g2⟩⟩
  obtain ⟨xs, hx⟩ := hx
  obtain ⟨ws, h, hq⟩ := body f cdv A outer s H E p G xs hg hr hx
  refine ⟨_, h.run, enOf N ds n, G, Rl.start wd ra, h.mono _ _ _ ⟨?_, ?_, ?_, ?_, ?_⟩ (hq ds n _ _ q)⟩
  · exact fun e' z σ' G' H' _ r => by obtain ⟨α, r'⟩ := id r; exact z _ G' H' r'.st r'.w .non
  · exact fun d e' z v σ' G' H' _ r rv => by obtain ⟨α, r'⟩ := id r; exact z v G' H' r'.st r'.w rv
  · exact fun _ z => z.elim
  · exact fun _ z => z.elim
  · exact fun y e' z C σ' G' H' _ r ec => by obtain ⟨α, r'⟩ := id r; exact z C G' H' r'.st r'.w ec
end
end L2.DL
set_option
      maxHeartbeats 1000000
namespace L2.DL
open PySem PySem.Spec
      PyProof.Rows
/-! ### the law's script is cut; a fresh list is given back; a pair of which one is a list of ours -/
def wSlS (wa : WEx) (wl wh : WOx) : WEx := fun e Q x => wa e (fun d e1 => wl e1 (fun lo e2 => wh e2 (fun hi e3 => ∃ ns : List Int, d = scrD ns ∧ Q (.list (cutD (ns.map PyData.int) lo hi)) e3) x) x) x
section
variable {K : PySem.W.Frag} {F : Fx} {σ : L2.St} {H : Hp} {X : Cx} {pos : Pos} {a b : Expr} {wa wb : WEx} {wl wh : WOx} {lo hi : Option Expr} {wr : WAx}
theorem de_slS {p2 : Pos} (ha : DE X F a wa) (hl : DO X F lo wl) (hh : DO X F hi wh) : DE X F (.Subscript a (.Slice lo hi none p2) pos) (wSlS wa wl wh) := by
  refine de_of (pe_slice (sl_list.or sl_tupA) ha.run hl.run hh.run) (fun e Q Q' x x' h1 h2 q => ha.mono e _ _ _ _ (fun d e1 q1 => hl.mono e1 _ _ _ _ (fun o e2 q2 => hh.mono e2 _ _ _ _ (fun u e3 ⟨ns, ed, q3⟩ => ⟨ns, ed, h1 _ _ q3⟩) h2 q2) h2 q1) h2 q) fun σ H Q q => ?_
  obtain ⟨e, G, r, q⟩ := q
  refine tE.mono ha.mono (fun v H1 z => ?_) (tE.any ha.mono r q)
  obtain ⟨e1, G1, d, s1, r1, rv, z⟩ := z
  refine ⟨e1, G1, r1, hl.mono e1 _ _ _ _ (fun o e2 z2 G2 H2 s2 r2 => ?_) (fun _ _ => PX.mono s1) z⟩
  refine ⟨e2, G2, r2, hh.mono e2 _ _ _ _ (fun u e3 z3 G3 H3 s3 r3 => ?_) (fun _ _ => PX.mono (s1.trans s2)) z2⟩
  have rv3 := rv.mono (s2.trans s3)
  have s13 := s1.trans (s2.trans s3)
  obtain ⟨ns, ed, z3⟩ := z3
  subst ed
  obtain ⟨l, rfl, g1⟩ := rv3.scr_inv
  exact .inl ⟨l, _, rfl, r3.same.seq g1, fun p hp => z3 _ (upd G3 p (.lst (cutV (ns.map V.int) o u))) _ (s13.trans (sameNew r3.same hp)) (r3.new hp) (.lst upd_same (((RA.toInts ns).cut o u).mono (sameNew r3.same hp)))⟩
/-- a, b = x, [..] where b is ours -/
def wParO (i j : Nat) (wa : WEx) (wr : WAx) : WSt := fun e D => wa e (fun d e1 => wr e1 (fun ds e2 => D.nx (put (put e2 i (.dat d)) j (.own ds))) D.ex) D.ex
def wAddF (wa wb : WEx) : WAx := fun e Q x => wa e (fun d e1 => wb e1 (fun d' e2 => ∃ xs ys, d = .list xs ∧ d' = .list ys ∧ xs.length + ys.length ≤ sizeLine ∧ Q (xs ++ ys) e2) x) x
/-- the lists of ours are let go, an expression gives a fresh list -/
theorem Rl.lent (r : ∃ α, Rel K F.p F.G₀ F.H₀ G H σ e α) : ∃ G', Same G G' ∧ Rl K F.p F.G₀ F.H₀ G' H σ (lendE e) := by
  obtain ⟨α, r⟩ := r
  obtain ⟨s, r'⟩ := r.plus
  exact ⟨_, s, r'⟩
end
end L2.DL
set_option
      maxHeartbeats 1000000
namespace L2.DL
open PySem PySem.Spec
      PyProof.Rows
/-! ### a tuple turned round by a slice -/
section
variable {X : Cx} {F : Fx} {wa : WEx}
/-- xs[::-1], xs a tuple -/
def wRevT (w : WEx) : WEx := fun e Q x => w e (fun d e1 => ∃ ds, d = .tuple ds ∧ Q (.tuple ds.reverse) e1) x
end
end L2.DL
set_option
      maxHeartbeats 1000000
namespace L2.DL
open PySem PySem.Spec
      PyProof.Rows
/-! ### sorted(set(t)), t a tuple of ints -/
def wSortedSet (w : WEx) : WEx := fun e Q x => w e (fun d e1 => ∃ ns : List Int, d = .tuple (ns.map PyData.int) ∧ ns.length ≤ 60 ∧ ∀ ms : List Int, ms.Pairwise (· < ·) → (∀ k, k ∈ ms ↔ k ∈ ns) → ms.length ≤ ns.length → Q (.list (ms.map PyData.int)) e1) x
end L2.DL
set_option
      maxHeartbeats 1000000
namespace L2.DL
open PySem PySem.Spec
      PyProof.Rows
/-! ### all(list of bools), xs.extend(ys) -/
def allD : BL
  | [.list xs], P => ∃ bs : List Bool, xs = bs.map PyData.bool ∧ P (.bool (bs.all id))
  | _, _ => False
theorem allD.mono : BL.Mono allD := by
  intro a P P' h q
  unfold allD at q ⊢
  split at q
  · obtain ⟨bs, e, z⟩ := q; exact ⟨bs, e, h _ z⟩
  · exact q.elim
theorem fitsAll {K : PySem.W.Frag} : FitsL K allD (rAll K) := by
  intro p G₀ H₀ G H σ e xs ds P Q r ra q k
  unfold allD at q
  split at q
  · obtain ⟨x, rfl, rx⟩ := ra.one
    obtain ⟨a, ys, rfl, h1, r1⟩ := rx.lst_inv
    obtain ⟨bs, e1, z⟩ := q
    subst e1
    have ey := r1.ofBools
    subst ey
    exact ⟨a, bs, rfl, SqL.of (r.same _ _ h1), ans r (.bl _) k z⟩
  · exact q.elim
section
variable {K : PySem.W.Frag} {F : Fx} {X : Cx} {pos : Pos} {a : Expr} {wa : WEx}
def wExt (i : Nat) (w : WEx) : WSt := fun e D => (∃ ds, e.s[i]? = some (.own ds)) ∧ w e (fun d e1 => ∃ ds ys, e1.s[i]? = some (.own ds) ∧ d = .list ys ∧ ds.length + ys.length ≤ 1000 ∧ D.nx (put e1 i (.own (ds ++ ys)))) D.ex
theorem ds_extend {i : Nat} {x : Str} {p1 p2 p3 : Pos} (h : DE X F a wa) (hv : PE X (.Name x p1) (tVar i)) (hs : starEach [a] X.env = (false, eval a X.env) :: starEach [] X.env := by rfl)
    (hbase : attributeBase (.Name x p1) "extend" X.env (eval (.Name x p1) X.env) = eval (.Name x p1) X.env := by rfl)
    (hfew : ((backTo p3 (starEach [a] X.env)).all (fun x => !x.1) && (backToKw p3 (keywordEach [] X.env)).all (fun x => x.1.isSome) && decide ([a].length + ([] : List Keyword).length + (if ([] : List Keyword).isEmpty then 0 else 1) < 30)) = true := by rfl)
    (hline : (p2.endLine == p3.line) = true := by rfl) (hplain : (backTo p3 (starEach [] X.env)).any (·.1) = false := by rfl) (hsw : swapsWith (.Call (.Attribute (.Name x p1) "extend" p2) [a] [] p3) none pos.line X.env = pure false := by rfl) :
    DS X F (.Expr (.Call (.Attribute (.Name x p1) "extend" p2) [a] [] p3) pos) (wExt i wa) :=
  ds_of (ps_expr (pe_bm PySem.F.plainAttrs_list PySem.F.slot_list_extend PySem.F.type_list_extend mt_extend hv (pa_cons h.run pa_nil hs) hbase hfew hline hs hplain) hsw)
    (fun e A B l q => ⟨q.1, h.mono e _ _ _ _ (fun d e1 ⟨ds, ys, i1, i2, i3, z⟩ => ⟨ds, ys, i1, i2, i3, l.nx _ z⟩) l.ex q.2⟩) fun D σ H ⟨e, G, r, ⟨ds0, h0⟩, q⟩ => by
    obtain ⟨α, r0⟩ := id r
    obtain ⟨xs, h1, h2, _⟩ := r0.own i ds0 h0
    refine ⟨.ref (α i), h1, .inl ⟨rfl, _, .inl (.inl h2)⟩, ?_⟩
    refine tE.mono h.mono (fun v H1 z => ?_) (tE.any h.mono r (h.mono e _ _ _ _ (fun _ _ z => z) (fun y e' z C G' H' s r' ec => z C σ G' H' s r' ec) q))
    obtain ⟨e1, G1, d, s1, r1, rv, ds, ys, i1, ed, i2, z⟩ := z
    subst ed
    obtain ⟨b, ws, eb2, hb, rb⟩ := rv.lst_inv
    obtain ⟨β, r2⟩ := id r1
    obtain ⟨us, g1, g2, _, _, _, ra⟩ := r2.own i ds i1
    rw [h1] at g1
    have eb : α i = β i := by injection g1 with g1; injection g1 with g1; injection g1
    rw [← eb] at g2
    exact ⟨α i, b, us, ws, rfl, by rw [eb2], g2, r1.same _ _ hb, by rw [ra.length, rb.length, sizeLine_eq]; omega, z σ G1 _ s1 (r1.mut i1 h1 (ra.append rb))⟩
end
end L2.DL
set_option
      maxHeartbeats 4000000
namespace L2.DL
open PySem PySem.Spec
      PyProof.Rows
/-! ### set(xs), xs a list of ints -/
/-- the object that set() lays -/
abbrev setNew (w : World) : Obj := { cls := .type "set", dict := none, data := .set #[] 0 (.fresh 0 0 (!w.params.followText "set-order")) }
/-- how the heap stands behind set(xs) -/
def SetDone (w : World) (ns : List Int) (s s2 : Shared) : Prop :=
  ∃ (g : Heap) (tk c : Nat), s2 = { s with heap := g, toks := tk } ∧ SetR w g s.heap.objs.size (fun j => decide (j ∈ ns)) c ∧ c ≤ ns.length ∧ ∀ b o, s.heap.get? b = some o → g.get? b = some o
section
variable {P : Program} {w : World} {A : Around}
      {E : Value → Shared → Prop} {s : Shared}
theorem init_listI {l : Addr} {xs : Array Value} (ns : List Int) (hh : A.handled = none) (hl : s.heap.IsList l xs) (hi : IntsAre xs.toList ns) (hb : ns.length + 1 < scanBound) :
    codeAny (model P w) A (.call (.builtin "set.__init__") ⟨[.ref s.heap.objs.size, .ref l], []⟩) (wants (fun r s2 => r = .none ∧ SetDone w ns s s2) E) { s with heap := s.heap.push (setNew w) } := by
  have at0 : (s.heap.push (setNew w)).get? s.heap.objs.size = some (setNew w) := Heap.get?_push_size _ rfl
  have hz : xs.size = ns.length := by
    have := IntsAre.length hi
    rwa [Array.length_toList] at this
  have up := hl.push (setNew w)
  have ty : Shared.TypeIs { s with heap := s.heap.push (setNew w) } (.ref s.heap.objs.size) "set" :=
    ⟨_, at0, rfl⟩
  refine codeAny_call_builtin F.called_set.init.plain F.entry_set_init (check_set_init_1 ty ?_)
  have up' := up
  obtain ⟨⟨c0, d0, e0, f0⟩, at1, k0, n0, x0⟩ := up'
  dsimp only at k0 x0
  cases k0
  cases x0
  have no1 := F.sub_list_set
  have no2 := F.sub_list_frozenset
  have no3 : (Value.type "list" == Value.type "dict") = false := by decide
  have below : l < s.heap.objs.size := by
    obtain ⟨o, e, _⟩ := hl
    exact Heap.lt_size e
  have quiet : A.in1.in1.handled = none := by simp [hh]
  have one : (s.heap.push (setNew w)).objs.size = s.heap.objs.size + 1 := Heap.size_push ..
  have away : l ≠ (s.heap.push (setNew w)).objs.size := by
    rw [one]
    exact Nat.ne_of_lt (Nat.lt_succ_of_lt below)
  have at2 : ((s.heap.push (setNew w)).push { cls := .type "list_iterator", data := .fields #[.ref l, .int 0 0] }).get? s.heap.objs.size = some (setNew w) := Heap.get?_push_of_some _ at0
  unfold Builtin.«set.__init__»
        noKeywords Builtin.Frozenset.updateFrom
  generalize hit : pyIter = it
  wp_walk
  subst hit
  refine wpAny_pyIter_list up (wpAny_bind (wpAny_runValue ?_))
  have sep : s.heap.objs.size ∉ [(s.heap.push (setNew w)).objs.size, l] := by
    rw [one]
    intro z
    rcases List.mem_cons.mp
          z with z | z
    · exact Nat.ne_of_lt (Nat.lt_succ_self _) z
    · exact Nat.ne_of_lt below (List.mem_singleton.mp z).symm
  refine set_update_ints (Walks.list quiet _ l away xs).toS s.heap.objs.size sep ns hz hb (fun i v hv => ?_) (xs.size - 0) 0 _ (by omega) (Nat.zero_le _) ?s0 ?st fun s2 c mv hc R => ?_
  case s0 => exact ⟨⟨_, Heap.get?_push_size _ rfl, rfl, rfl⟩, up.push _⟩
  case st => exact ⟨0, Nat.le_refl 0, setR_new_at at2⟩
  · have lt : i < ns.length := by
      rw [← hz]
      exact (Array.getElem?_eq_some_iff.mp hv).1
    obtain ⟨t, e⟩ := hi.int_at i v (by rw [Array.getElem?_toList]; exact hv)
    exact ⟨ns[i], t, List.getElem?_eq_getElem lt, by rw [e, List.getD_eq_getElem?_getD, List.getElem?_eq_getElem lt] <;> rfl⟩
  · obtain ⟨g, gn, dr, tk, os⟩ := s2
    cases (show gn = s.gens from mv.gens)
    cases (show dr = s.drawn from mv.drawn)
    cases (show os = s.os from mv.os)
    show wpAny _ _ _ _ _ _
    refine wpAny_pure ?_
    show wpAny _ _ (ret
          Value.none) _ _ _
    rw [hz] at hc
    refine wpAny_pure ⟨rfl, g, tk, c, rfl, R, hc, fun b o e => ?_⟩
    have lt := Heap.lt_size e
    refine mv.heap b o ?_ (Heap.get?_push_of_some _ (Heap.get?_push_of_some _ e))
    rw [one]
    intro z
    rcases List.mem_cons.mp
          z with z | z
    · exact Nat.ne_of_lt lt z
    · exact Nat.ne_of_lt (Nat.lt_succ_of_lt lt) (List.mem_singleton.mp z)
theorem call_set_listI {l : Addr} {xs : Array Value} (ns : List Int) {Q : Value → Shared → Prop} (hh : A.handled = none) (hl : s.heap.IsList l xs) (hi : IntsAre xs.toList ns) (hb : ns.length + 1 < scanBound)
    (h : ∀ s2, SetDone w ns s s2 → Q (.ref s.heap.objs.size) s2) : wpAny (model P w) A (call (.type "set") [.ref l]) Q E s := by
  obtain ⟨c, tl, mro⟩ := F.called_set.mro
  have k1 := F.called_set.made
  have k2 := F.called_set.sub
  have k3 := F.called_set.notType
  have k4 := F.called_set.canCreate
  have k5 := F.typeCall_set_1 (.ref l)
  have k6 := F.called_set.init.lookup
  have ty : Shared.TypeIs { s with heap := s.heap.push (setNew w) } (.ref s.heap.objs.size) "set" := ⟨_, Heap.get?_push_size _ rfl, rfl⟩
  refine wpAny_call
        (codeAny_of_tree ?_)
  show wpAny _ _ (callAny
        (.type "set") _) _ _ _
  refine wpAny_pure ⟨Code.quiet_builtin _ (by decide +kernel),
        codeAny_builtin F.entry_type_call ?_⟩
  rw [Around.under_plain (weight_type_call_type
        "set" [.ref l] []) rfl]
  repeat (any_goals (first
        | assumption | wp_step))
  refine codeAny_mono (code_set_led1 (.ref l) (E := E) (Q₁ := fun o s1 => o = .ref s.heap.objs.size ∧ s1 = { s with heap := s.heap.push (setNew w) }) ⟨rfl, rfl⟩) fun r s1 z => ?_
  rcases r with e | (_ | _ | _ | o)
  · exact z
  iterate 3 exact z.elim
  · obtain ⟨rfl, rfl⟩ := z
    have k7 := F.called_set.init.bind (.ref s.heap.objs.size)
    repeat (any_goals (first
          | assumption | wp_step))
    refine codeAny_mono (init_listI (E := E) ns (by simp [hh]) hl hi hb) fun r s2 z => ?_
    rcases r with e | (_ | _ | _ | o)
    · exact z
    iterate 3 exact z.elim
    · obtain ⟨rfl, d⟩ := z
      repeat (any_goals (first
            | assumption | wp_step))
      exact h _ d
end
def rSetL (K : PySem.W.Frag) (w : World) : List V → Hp → VK → Prop := fun xs H Q => ∃ (l : Addr) (ns : List Int), xs = [.ref l] ∧ SqL K H l (ns.map V.int) ∧ ns.length ≤ 1000 ∧
  ∀ p S n, H p = none → (∀ k, S k = true ↔ k ∈ ns) → n ≤ ns.length → Q (.ref p) (upd H p (SetO w p S n))
theorem cr_setL {X : Cx} (hc : X.calm = true) : CallR X (.type "set") (rSetL X.K X.w) := by
  intro pins s σ
        H xs us Q I r h
  obtain ⟨l, ns, rfl, hq, hl, q⟩ := h
  rw [Vals.ref1 r]
  obtain ⟨its, rv,
        pl, hz⟩ := I.list hq
  have hi : IntsAre its.toArray.toList ns :=
        ints_of_vals rv
  refine call_set_listI ns (I.ok.hd hc) pl.isList hi (by unfold scanBound; omega) fun s2 ⟨h', tk, c, e, R1, hcn, k⟩ => ?_
  subst e
  exact ⟨.ref _, upd H s.heap.objs.size (SetO X.w s.heap.objs.size (fun j => decide (j ∈ ns)) c), I.laid (t' := tk) (fun b u e => k b u e) (Nat.le_refl _) (setO_new R1), rfl, q _ _ _ (I.hok.fresh (Nat.le_refl _)) (fun j => by simp) hcn⟩
/-- sorted(set(xs)), xs a list that nothing else holds -/
def wSortedSetL (w : WEx) : WEx := fun e Q x => w e (fun d e1 => ∃ ns : List Int, d = .list (ns.map PyData.int) ∧ ns.length ≤ 60 ∧ ∀ ms : List Int, ms.Pairwise (· < ·) → (∀ k, k ∈ ms ↔ k ∈ ns) → ms.length ≤ ns.length → Q (.list (ms.map PyData.int)) e1) x
section
variable {X : Cx} {F : Fx} {pos : Pos} {a : Expr} {wa : WEx}
theorem de_sortedSetL {p1 p2 q : Pos} (hc : X.calm = true) (h : DE X F a wa) (hm : X.mg "sorted" = none) (hm2 : X.mg "set" = none) (hg : Gl X "sorted" := by rfl) (hg2 : Gl X "set" := by rfl) (hv : bootBuiltins "sorted" = some (.builtin "sorted") := by decide +kernel) (hv2 : bootBuiltins "set" = some (.type "set") := by decide +kernel)
    (hs : starEach [a] X.env = (false, eval a X.env) :: starEach [] X.env := by rfl) (hpl : (backTo q (starEach [] X.env)).any (·.1) = false := by rfl)
    (hs2 : starEach [.Call (.Name "set" p2) [a] [] q] X.env = (false, eval (.Call (.Name "set" p2) [a] [] q) X.env) :: starEach [] X.env := by rfl) (hpl2 : (backTo pos (starEach [] X.env)).any (·.1) = false := by rfl) :
    DE X F (.Call (.Name "sorted" p1) [.Call (.Name "set" p2) [a] [] q] [] pos) (wSortedSetL wa) :=
  de_of (pe_callB (cr_sortedSet hc) hg hm hv (pa_cons (pe_callTy (cr_setL hc) hg2 hm2 hv2 (pa_cons h.run pa_nil hs) (by decide) (by decide) hs hpl) pa_nil hs2) (by decide) (by decide) hs2 hpl2)
    (fun e Q Q' x x' h1 h2 q => h.mono e _ _ _ _ (fun d e1 ⟨ns, ed, hl, z⟩ => ⟨ns, ed, hl, fun ms p1 p2 p3 => h1 _ _ (z ms p1 p2 p3)⟩) h2 q) fun σ H Q ⟨e, G, r, q⟩ =>
    ⟨e, G, r, h.mono e _ _ _ _ (fun d e1 ⟨ns, ed, hl, z⟩ v G' H' s r' rv => by
      subst ed
      obtain ⟨l, xs, rfl, g, ra⟩ := rv.lst_inv
      have ex := ra.ofInts
      subst ex
      refine ⟨l, ns, rfl, SqL.of (r'.same _ _ g), by omega, fun p S n hp hS hn => ⟨p, S, n, rfl, upd_same, by omega, fun ms q' pw hk hlen hq => ?_⟩⟩
      have r2 := r'.new (o := SetO X.w p S n) hp
      have s2 := sameNew (o := SetO X.w p S n) r'.same hp
      exact z ms pw (fun k => by rw [hk, hS]) (by omega) _ _ _ (s.trans (s2.trans (sameNew r2.same hq))) (r2.new hq) (.lst upd_same (RA.toInts ms))) (fun _ _ z => z) q⟩
end
end L2.DL
set_option
      maxHeartbeats 2000000
namespace L2.DL
open PySem PySem.Spec
      PyProof.Rows
/-! ### try: body, several clauses without a name -/
/-- what the clauses wish of an error -/
def wHs (K : PySem.W.Frag) : List (Value × WSt) → DEnds → D → En → Prop
  | [], D, y, e => D.ex y e
  | (c, ws) :: r, D, y, e => ∃ C b, y = excD C ∧ PySem.W.exmOne K (.ref C) c = some b ∧ (b = true → ws e D) ∧ (b = false → wHs K r D y e)
inductive DHs (X : Cx) (F : Fx) : List ExceptHandler → List (Value × WSt) → Prop
  | nil : DHs X F [] []
  | cons {x : Str} {c : Value} {ws : WSt} {b₀ : Stmt} {suite : List Stmt} {np pos' : Pos} {hds : List ExceptHandler} {l : List (Value × WSt)} (hc : Names X x c)
      (hsu : ∀ (a : Addr) (oe : Obj) (pn : List (Addr × Obj)), DSs (X.suite a ((a, oe) :: pn)) F (b₀ :: suite) ws) (r : DHs X F hds l) :
      DHs X F (.ExceptHandler (some (.Name x np)) none (b₀ :: suite) pos' :: hds) ((c, ws) :: l)
def wTryM (K : PySem.W.Frag) (l : List (Value × WSt)) (wb : WSt) : WSt := fun e D => wb e { D with ex := fun y e' => wHs K l D y e' }
section
variable {X : Cx} {F : Fx} {hds : List ExceptHandler} {l : List (Value × WSt)}
theorem DHs.ok (h : DHs X F hds l) : HdsOk X hds (l.map fun p => (p.1, fun _ _ _ => tS X.K F p.2)) := by
  induction h with
  | nil => exact .nil
  | cons hc hsu _ ih => exact .cons hc (fun a oe _ _ pn _ _ => (hsu a oe pn).run) ih
theorem DHs.mono (h : DHs X F hds l) : ∀ {A B : DEnds} {y : D} {e : En}, DEnds.le A B → wHs X.K l A y e → wHs X.K l B y e := by
  induction h with
  | nil => exact fun l q => l.ex _ _ q
  | cons hc hsu _ ih =>
    intro A B y e le ⟨C, b, e1, e2, q1, q2⟩
    exact ⟨C, b, e1, e2, fun hb => (hsu 0 { cls := .type "int", dict := none, data := .seq #[] } []).mono e _ _ le (q1 hb), fun hb => ih le (q2 hb)⟩
theorem DHs.to (h : DHs X F hds l) {G : Hp} {D : Ends} {C : Addr} {e : En} : wHs X.K l (endsOf X.K F G D) (excD C) e → ∀ σ' G' H', Same G G' → Rl X.K F.p F.G₀ F.H₀ G' H' σ' e → wMany X.K F.W D (l.map fun p => (p.1, fun _ _ _ => tS X.K F p.2)) (.ref C) none σ' H' := by
  induction h with
  | nil => exact fun q σ' G' H' s r => q C σ' G' H' s r rfl
  | cons hc hsu _ ih =>
    intro ⟨C', b, e1, e2, q1, q2⟩ σ' G' H' s r
    have ec := excD_inj e1
    subst ec
    exact ⟨b, e2, fun hb a _ => ⟨e, G', r, (hsu 0 { cls := .type "int", dict := none, data := .seq #[] } []).mono e _ _ (endsOf.le s) (q1 hb)⟩, fun hb => ih (q2 hb) σ' G' H' s r⟩
end
end L2.DL
set_option
      maxHeartbeats 2000000
namespace L2.DL
open PySem PySem.Spec
      PyProof.Rows
/-! ### defs whose answer is a list that nothing else holds -/
abbrev Wo := List D → Nat → (List D → Nat → Prop) → (D → Nat → Prop) → Prop
def Wo.Mono (w : Wo) : Prop := ∀ ds k Q Q' x x', (∀ es k, Q es k → Q' es k) → (∀ d k, x d k → x' d k) → w ds k Q x → w ds k Q' x'
def spO (K : PySem.W.Frag) (w : Wo) : Sp := fun vs H Q E => ∃ p G ds k, Wd K p k G H ∧ RA K p G vs ds ∧
  w ds k (fun es k' => ∀ a xs G' H', Stp p G H G' H' → Wd K p k' G' H' → H' a = none → RA K p G' xs es → Q (.ref a) (L2.upd H' a (.lst xs))) (fun x k' => ∀ C G' H', Stp p G H G' H' → Wd K p k' G' H' → x = excD C → E (.ref C) none H')
/-- the answer, as data -/
def plainO (w : Wo) : Wc := fun ds k Q x => w ds k (fun es k' => Q (.list es) k') x
theorem plainO.mono {w : Wo} (m : w.Mono) : (plainO w).Mono := fun ds k Q Q' x x' h1 h2 q => m ds k _ _ _ _ (fun es k => h1 _ _) h2 q
def DefO (P : Program) (w : World) (K : PySem.W.Frag) (mg : Str → Option Value) (base : Heap) (x : Str) (k : Nat) (ps : List Str) (wf : Wo) : Prop :=
  ∃ f fd, FnG P w K mg base k f fd ps (spO K wf) ∧ mg x = some (.ref f) ∧ PySem.W.keepIn K (.ref f) = true ∧ Binds K fd ps []
section
variable {P : Program} {w : World} {K :
      PySem.W.Frag} {mg : Str → Option Value} {base : Heap}
theorem DefO.plain {x : Str} {k : Nat} {ps : List Str} {wf : Wo} (h : DefO P w K mg base x k ps wf) (m : wf.Mono) : Def P w K mg base x k ps (plainO wf) := by
  obtain ⟨f, fd, h1, h2⟩ := h
  refine ⟨f, fd, h1.imp fun vs H Q E ⟨p, G, ds, n, wd, ra, q⟩ => ⟨p, G, ds, n, wd, ra, m ds n _ _ _ _ (fun es k' z a xs G' H' st wd' ha rx => ?_) (fun _ _ z => z) q⟩, h2⟩
  have r : Rl K p G H G' H' [] ⟨[], k'⟩ := ⟨fun _ => 0, wd', st, rfl, fun i d h => by simp at h, fun i ds h => by simp at h, fun i j ds es h => by simp at h, Bo.none fun i z h => by simp at h⟩
  obtain ⟨α, r'⟩ := r.new (o := .lst xs) ha
  exact z (.ref a) _ _ r'.st r'.w (.lst upd_same (rx.mono (sameNew wd'.same ha)))
end
/-- a call of such a def gives a new list -/
def wCallF (wf : Wo) (wa : WAx) : WAx := fun e Q x => wa e (fun ds e1 => wf ds e1.k (fun es k' => Q es { e1 with k := k' }) (fun y k' => x y { e1 with k := k' })) x
section
variable {X : Cx} {F : Fx} {pos : Pos} {a : Expr} {es : List Expr} {wr : WAx}
theorem wCallF.mono {wf : Wo} (mf : wf.Mono) (m : MonoA wr) : MonoA (wCallF wf wr) := fun e Q Q' x x' h1 h2 q => m e _ _ _ _ (fun ds e1 z => mf ds e1.k _ _ _ _ (fun d k => h1 _ _) (fun d k => h2 _ _) z) h2 q
end
/-! #### blocks that end with the return of such a list -/
abbrev WOs := En → (List D → En → Prop) → (D → En → Prop) → Prop
def RO (K : PySem.W.Frag) (F : Fx) (G : Hp) (D : Ends) : List PyData → En → Prop := fun ds e' => ∀ a xs σ' G' H', Same G G' → Rl K F.p F.G₀ F.H₀ G' H' σ' e' → H' a = none → RA K F.p G' xs ds → D.rt (.ref a) (L2.upd H' a (.lst xs))
def tOw (K : PySem.W.Frag) (F : Fx) (w : WOs) : TS := fun D σ H => ∃ e G, Rl K F.p F.G₀ F.H₀ G H σ e ∧ w e (RO K F G D) (endsOf K F G D).ex
structure DSO (X : Cx) (F : Fx) (st : List Stmt) (w : WOs) : Prop where
  run : PSs X st (tOw X.K F w)
  mono : ∀ e Q Q' x x', (∀ ds e, Q ds e → Q' ds e) → (∀ d e, x d e → x' d e) → w e Q x → w e Q' x'
theorem RO.mono {K : PySem.W.Frag} {F : Fx} {G G' : Hp} {D : Ends} (s : Same G G') : ∀ ds e, RO K F G D ds e → RO K F G' D ds e := fun ds e h a xs σ' G2 H' s2 => h a xs σ' G2 H' (s.trans s2)
section
variable {X : Cx} {F : Fx} {pos : Pos} {a : Expr} {st : Stmt} {rest : List Stmt} {wr : WAx} {w1 : WSt} {w2 : WOs}
def wSeqO (w1 : WSt) (w2 : WOs) : WOs := fun e Q x => w1 e ⟨fun e' => w2 e' Q x, fun _ _ => False, fun _ => False, fun _ => False, x⟩
theorem dso_cons (h1 : DS X F st w1) (h2 : DSO X F rest w2) : DSO X F (st :: rest) (wSeqO w1 w2) := by
  refine ⟨⟨fun pins s σ H D I q => (pss_cons h1.run h2.run).run pins s σ H D I ?_⟩, fun e Q Q' x x' h3 h4 q => h1.mono e ⟨fun e' => w2 e' Q x, fun _ _ => False, fun _ => False, fun _ => False, x⟩ ⟨fun e' => w2 e' Q' x', fun _ _ => False, fun _ => False, fun _ => False, x'⟩ ⟨fun e' z => h2.mono e' _ _ _ _ h3 h4 z, fun _ _ z => z, fun _ z => z, fun _ z => z, h4⟩ q⟩
  obtain ⟨e, G, r, q⟩ := q
  refine ⟨e, G, r, h1.mono e ⟨fun e' => w2 e' (RO X.K F G D) (endsOf X.K F G D).ex, fun _ _ => False, fun _ => False, fun _ => False, (endsOf X.K F G D).ex⟩ (endsOf X.K F G { D with nx := tOw X.K F w2 D }) ⟨fun e' z σ' G' H' s' r' => ⟨e', G', r', h2.mono e' _ _ _ _ (RO.mono s') (fun y e2 z C σ2 G2 H2 s2 => z C σ2 G2 H2 (s'.trans s2)) z⟩, fun _ _ z => z.elim, fun _ z => z.elim, fun _ z => z.elim, fun _ _ z => z⟩ q⟩
/-- without an address -/
def lessA (H : Hp) (a : Addr) : Hp := fun b => if b = a then none else H b
theorem lessA_upd {H : Hp} {a : Addr} {o : HO} (h : H a = some o) : L2.upd (lessA H a) a o = H := by
  funext b
  by_cases e : b = a
  · subst e
    rw [upd_same, h]
  · rw [upd_ne e]
    unfold lessA
    rw [if_neg e]
theorem lessA_ne {H : Hp} {a b : Addr} (h : b ≠ a) : lessA H a b = H b := if_neg h
theorem lessA_at {H : Hp} {a : Addr} : lessA H a a = none := if_pos rfl
theorem un_ne {e : En} {i j : Nat} {z : Slot} (h : (putUn e i).s[j]? = some z) (hz : z ≠ .un) : j ≠ i ∧ e.s[j]? = some z := by
  have h : (e.s.set i .un)[j]? = some z := h
  by_cases hj : i = j
  · subst hj
    by_cases hl : i < e.s.length
    · rw [List.getElem?_set_self hl] at h
      cases h
      exact absurd rfl hz
    · rw [List.getElem?_eq_none (by simpa using hl)] at h
      cases h
  · rw [List.getElem?_set_ne hj] at h
    exact ⟨Ne.symm hj, h⟩
/-- a list of ours is taken out -/
theorem Rl.out {K : PySem.W.Frag} {p : Option Addr} {G₀ H₀ G H : Hp} {σ : L2.St} {e : En} {i : Nat} {ds : List PyData} (r : Rl K p G₀ H₀ G H σ e) (h : e.s[i]? = some (.own ds)) : ∃ a xs, σ[i]? = some (some (.ref a)) ∧ H a = some (.lst xs) ∧ RA K p G xs ds ∧ Rl K p G₀ H₀ G (lessA H a) σ (putUn e i) := by
  obtain ⟨α, r⟩ := r
  obtain ⟨xs, h1, h2, h3, h4, h5, h6⟩ := r.own i ds h
  have ne : ∀ {b : Addr} {o : HO}, G b = some o → b ≠ α i := fun hb z => by rw [z, h3] at hb; cases hb
  have ne0 : ∀ {b : Addr} {o : HO}, H₀ b = some o → b ≠ α i := fun hb z => by rw [z, h4] at hb; cases hb
  have nep : ∀ {b : Addr}, p = some b → b ≠ α i := fun hb z => h5 (by rw [hb, z])
  refine ⟨α i, xs, h1, h2, h6, α, ⟨fun b o hb => ?_, fun b hb => ?_⟩, ⟨r.st.gg, fun b o hb hp => ?_, r.st.nn, fun b c hb hc => ?_⟩, by simpa [putUn] using r.len, fun j d hj => ?_, fun j es hj => ?_, fun j k es fs hj hk => ?_, (r.bo.heap (H' := lessA H (α i)) (Same.refl G) fun b ys g1 g2 g3 g4 g5 => ⟨by rw [lessA_ne (Ne.symm (g5 i ds h))]; exact g1, g2, g3⟩).env (fun j z hz => ?_) fun j es hj => .inl ⟨es, (un_ne hj (fun z => nomatch z)).2, rfl⟩⟩
  · rw [lessA_ne (ne hb)]
    exact r.w.same b o hb
  · obtain ⟨q1, c, ys, t, u, q2, q3⟩ := r.w.pen b hb
    exact ⟨q1, c, ys, t, u, by rw [lessA_ne (nep hb)]; exact q2, q3⟩
  · rw [lessA_ne (ne0 hb)]
    exact r.st.hh b o hb hp
  · obtain ⟨t, u, q⟩ := r.st.pc b c hb hc
    exact ⟨t, u, by rw [lessA_ne (nep hb)]; exact q⟩
  · exact r.dat j d (un_ne hj (fun z => nomatch z)).2
  · obtain ⟨n1, n2⟩ := un_ne hj (fun z => nomatch z)
    obtain ⟨ys, q1, q2, q3, q4, q5, q6⟩ := r.own j es n2
    exact ⟨ys, q1, by rw [lessA_ne (r.sep j i es ds n2 h n1)]; exact q2, q3, q4, q5, q6⟩
  · exact r.sep j k es fs (un_ne hj (fun z => nomatch z)).2 (un_ne hk (fun z => nomatch z)).2
  · cases ez : z with
    | un => exact .inl ⟨rfl, rfl⟩
    | _ =>
      rw [← ez]
      exact .inr ⟨(un_ne hz (fun q => by rw [ez] at q; exact nomatch q)).2, rfl⟩
/-- return of a name that alone holds its list -/
theorem dso_own {i : Nat} {x : Str} {p : Pos} (h : PE X (.Name x p) (tVar i)) : DSO X F [.Return (some (.Name x p)) pos] (fun e Q _ => ∃ ds, e.s[i]? = some (.own ds) ∧ Q ds (putUn e i)) := by
  refine ⟨⟨fun pins s σ H D I q => (pss_one (ps_ret h)).run pins s σ H D I ?_⟩, fun e Q Q' x x' h1 _ ⟨ds, h2, q⟩ => ⟨ds, h2, h1 _ _ q⟩⟩
  obtain ⟨e, G, r, ds, h2, q⟩ := q
  obtain ⟨a, xs, h3, h4, h5, r'⟩ := r.out h2
  have z := q a xs σ G (lessA H a) (Same.refl G) r' lessA_at h5
  rw [lessA_upd h4] at z
  exact ⟨.ref a, h3, z⟩
end
section
variable {P : Program} {w : World} {K :
      PySem.W.Frag} {mg : Str → Option Value} {base : Heap}
theorem fnO {x qual : Str} {st : Stmt} {f : Addr} {fd : FuncData} {N ps : List Str} {k : Nat} {wf : Wo} (F : Fun K x qual st f fd) (S : FnScope N ps (defScope st)) (len : ∀ ds k Q x, wf ds k Q x → ds.length = ps.length)
    (body : ∀ (cdv : Value) (A : Around) (outer : List Env) (s : Shared) (H : Hp) (E : XK) (p : Option Addr) (G : Hp), A.guards = some [] → Room k (A.deeper (envOfC qual (defScope st) s.heap.objs.size f cdv)) →
      ∃ ws, DSO (cxOf (L2.CX P w) P w K mg base N qual (defScope st) f cdv A outer s H E) ⟨p, G, H, fun cls d _ H' => E cls d H'⟩ (defBody st) ws ∧ ∀ ds n Q x, wf ds n Q x → ws (enOf N ds n) (fun es e => Q es e.k) (fun d e => x d e.k)) :
    FnG P w K mg base (k + 1) f fd ps (spO K wf) := by
  refine fnG_of F S (fun vs H Q E ⟨p, G, ds, n, _, ra, q⟩ => by rw [ra.length]; exact len ds n _ _ q) fun cdv A outer s H vs Q E hg hr ⟨p, G, ds, n, wd, ra, q⟩ => ?_
  obtain ⟨ws, h, hq⟩ := body cdv A outer s H E p G hg hr
  refine ⟨_, h.run, enOf N ds n, G, Rl.start wd ra, h.mono _ _ _ _ _ (fun es e' z a xs σ' G' H' _ r ha rx => ?_) (fun y e' z C σ' G' H' _ r ec => ?_) (hq ds n _ _ q)⟩
  · obtain ⟨α, r'⟩ := id r
    exact z a xs G' H' r'.st r'.w ha rx
  · obtain ⟨α, r'⟩ := id r
    exact z C G' H' r'.st r'.w ec
theorem defO {x : Str} {st : Stmt} {N ps : List Str} {k : Nat} {wf : Wo} (F : FunAt K mg x st ps) (S : FnScope N ps (defScope st)) (len : ∀ ds k Q x, wf ds k Q x → ds.length = ps.length)
    (body : ∀ (f : Addr) (cdv : Value) (A : Around) (outer : List Env) (s : Shared) (H : Hp) (E : XK) (p : Option Addr) (G : Hp), A.guards = some [] → Room k (A.deeper (envOfC x (defScope st) s.heap.objs.size f cdv)) →
      ∃ ws, DSO (cxOf (L2.CX P w) P w K mg base N x (defScope st) f cdv A outer s H E) ⟨p, G, H, fun cls d _ H' => E cls d H'⟩ (defBody st) ws ∧ ∀ ds n Q x, wf ds n Q x → ws (enOf N ds n) (fun es e => Q es e.k) (fun d e => x d e.k)) : DefO P w K mg base x (k + 1) ps wf := by
  obtain ⟨f, fd, h1, h2, h3⟩ := F
  exact ⟨f, fd, fnO h1 S len (body f), h2, h1.kp, h3⟩
end
end L2.DL
set_option
      maxHeartbeats 4000000
namespace L2.DL
open PySem PySem.Spec
      PyProof.Rows
/-! ### the empty tuple, some times: itself -/
/-- times, of a tuple that may be empty -/
def mulE : B2
  | .tuple xs, .int k, P => 1 ≤ k ∧ k ≤ 1000 ∧ xs.length ≤ 1000 ∧ P (.tuple (List.replicate k.toNat xs).flatten)
  | _, _, _ => False
theorem mulE.mono : B2.Mono mulE := by
  intro a b P P' h q
  unfold mulE at q ⊢
  split at q
  · exact ⟨q.1, q.2.1, q.2.2.1, h _ q.2.2.2⟩
  · exact q.elim
end L2.DL
set_option
      maxHeartbeats 2000000
namespace L2.DL
open PySem PySem.Spec
      PyProof.Rows
/-! ### enumerate(t), t a tuple -/
section
variable {K : PySem.W.Frag} {p : Option Addr} {G : Hp} {X : Cx} {F : Fx} {pos : Pos} {a : Expr} {wa : WEx}
def wEnumT (wa : WEx) : WAx := fun e Q x => wa e (fun d e1 => ∃ ds, d = .tuple ds ∧ Q (pairs (rngD 0 ds.length) ds) e1) x
theorem wEnumT.mono (ma : Mono wa) : MonoA (wEnumT wa) := fun e Q Q' x x' h1 h2 q => ma e _ _ _ _ (fun d e1 ⟨ds, i, z⟩ => ⟨ds, i, h1 _ _ z⟩) h2 q
end
end L2.DL
set_option
      maxHeartbeats 1000000
namespace L2.DL
open PySem PySem.Spec
      PyProof.Rows
/-! ### a dict whose keys are ints, made in a loop, of which the keys are asked for -/
def noOwnB : List Slot → Bool
  | [] => true
  | .own _ :: _ => false
  | .bor _ _ :: _ => false
  | .nest _ _ :: _ => false
  | .un :: r => noOwnB r
  | .dat _ :: r => noOwnB r
theorem noOwnB.at : ∀ {s : List Slot}, noOwnB s = true → ∀ (i : Nat) z, s[i]? = some z → z.pcs = [] ∧ z.hd = none ∧ ∀ ds, z ≠ .own ds
  | [], _, i, z, h => by simp at h
  | .own _ :: _, h, _, _, _ => nomatch h
  | .bor _ _ :: _, h, _, _, _ => nomatch h
  | .nest _ _ :: _, h, _, _, _ => nomatch h
  | .un :: r, _, 0, z, q => by simp at q; subst q; exact free_un
  | .dat _ :: r, _, 0, z, q => by simp at q; subst q; exact free_dat
  | .un :: r, h, i + 1, z, q => by
    rw [List.getElem?_cons_succ] at q
    exact noOwnB.at (s := r) h i z q
  | .dat _ :: r, h, i + 1, z, q => by
    rw [List.getElem?_cons_succ] at q
    exact noOwnB.at (s := r) h i z q
theorem noOwn_of {e : En} (h : noOwnB e.s = true) : NoOwn e := noOwnB.at h
theorem NoOwn.un {e : En} {j : Nat} (h : NoOwn e) : NoOwn (putUn e j) := by
  intro i z q
  have q : (e.s.set j .un)[i]? = some z := q
  by_cases hj : j = i
  · subst hj
    by_cases hl : j < e.s.length
    · rw [List.getElem?_set_self hl] at q; cases q; exact free_un
    · rw [List.getElem?_eq_none (by simpa using hl)] at q; cases q
  · rw [List.getElem?_set_ne hj] at q
    exact h i z q
abbrev trues (ns : List Int) : List (Key × V) := ns.map fun n => ((Sum.inl n : Key), V.bl true)
def putI (ns : List Int) (n : Int) : List Int := if n ∈ ns then ns else ns ++ [n]
theorem trues_has {ns : List Int} {n : Int} : ((trues ns).any fun kv => decide (kv.1 = (Sum.inl n : Key))) = decide (n ∈ ns) := by
  induction ns with
  | nil => rfl
  | cons m r ih =>
    show ((((Sum.inl m : Key), V.bl true) :: trues r).any fun kv => decide (kv.1 = (Sum.inl n : Key))) = _
    rw [List.any_cons, ih]
    by_cases h : m = n
    · subst h; simp
    · have h2 : ¬ n = m := fun z => h z.symm
      simp [h, h2]
theorem put_trues {ns : List Int} {n : Int} : putK (trues ns) (Sum.inl n) (V.bl true) = trues (putI ns n) := by
  unfold putK putI
  rw [trues_has]
  by_cases h : n ∈ ns
  · rw [if_pos (decide_eq_true h), if_pos h]
    unfold trues
    rw [List.map_map]
    refine List.map_congr_left fun m hm => ?_
    show (if (Sum.inl m : Key) = Sum.inl n then _ else _) = _
    by_cases e : (Sum.inl m : Key) = Sum.inl n
    · rw [if_pos e]
    · rw [if_neg e]
  · rw [if_neg (by simpa using h),
        if_neg h]
    unfold trues
    rw [List.map_append] <;> rfl
theorem mem_putI {ns : List Int} {n m : Int} : m ∈ putI ns n ↔ m ∈ ns ∨ m = n := by
  unfold putI
  by_cases h : n ∈ ns
  · rw [if_pos h]
    exact ⟨.inl, fun z => z.elim id fun e => by rw [e]; exact h⟩
  · rw [if_neg h]
    simp
theorem nodup_putI {ns : List Int} {n : Int} (d : ns.Nodup) : (putI ns n).Nodup := by
  unfold putI
  by_cases h : n ∈ ns
  · rw [if_pos h]; exact d
  · rw [if_neg h]
    exact List.nodup_append.mpr ⟨d, by simp, fun a ha b hb e => h (by rw [List.mem_singleton] at hb; rw [← hb, ← e]; exact ha)⟩
theorem len_putI {ns : List Int} {n : Int} : (putI ns n).length ≤ ns.length + 1 := by
  unfold putI
  by_cases h : n ∈ ns
  · rw [if_pos h]; omega
  · rw [if_neg h]; simp
/-- ascending, each once -/
theorem strict_of : ∀ {ys : List Int}, ys.Pairwise (· ≤ ·) → ys.Nodup → ys.Pairwise (· < ·) := fun h1 h2 => by
  refine (h1.and h2).imp fun ⟨a, b⟩ => ?_
  omega
/-- an expression that gives an int -/
def weI (we : WEx) : WEx := fun e Q x => we e (fun y e1 => ∃ n : Int, y = .int n ∧ Q y e1) x
theorem weI.mono {we : WEx} (m : Mono we) : Mono (weI we) := fun e Q Q' x x' h1 h2 q => m e _ _ _ _ (fun y e1 ⟨n, a, b⟩ => ⟨n, a, h1 _ _ b⟩) h2 q
def wKeys (j : Nat) (wi : WAx) (g : WG) (wt : WTx) (we : WEx) (vs : List Nat) : WSt := fun e B => noOwnB e.s = true ∧ j < e.s.length ∧ wi (putUn e j) (fun ds e1 => lcLoop g wt (weI we) (wipeE (putUn e j) vs) [] ds e1.k fun acc k =>
  ∃ ns : List Int, acc = ns.map PyData.int ∧ ns.length < 64 ∧ ∀ ms : List Int, ms.Pairwise (· < ·) → (∀ m, m ∈ ms ↔ m ∈ ns) → ms.length ≤ ns.length → B.rt (.list (ms.map PyData.int)) { wipeE (putUn e j) vs with k := k }) noX
theorem wKeys.mono {j : Nat} {wi : WAx} {g : WG} {wt : WTx} {we : WEx} {vs : List Nat} (mi : MonoA wi) (mg : MonoG g) (mt : MonoT wt) (me : Mono we) : MonoS (wKeys j wi g wt we vs) := fun e A B l ⟨no, hl, q⟩ =>
  ⟨no, hl, mi _ _ _ _ _ (fun ds e1 z => lcLoop.mono mg mt (weI.mono me) (fun acc k ⟨ns, a, b, c⟩ => ⟨ns, a, b, fun ms h1 h2 h3 => l.rt _ _ (c ms h1 h2 h3)⟩) z) (fun _ _ z => z) q⟩
/-- sorted(d), d's keys ints -/
abbrev rKeys : List V → Hp → VK → Prop := fun xs H Q => ∃ (a : Addr) (kvs : List (Key × V)) (ks : List Int), xs = [.ref a] ∧ Rd H a (.dK kvs) ∧ kvs.map (·.1) = ks.map Sum.inl ∧ ks.length < 64 ∧ ∀ (ys : List Int) (p : Addr), ys.Perm ks → ys.Pairwise (· ≤ ·) → H p = none → Q (.ref p) (upd H p (.lst (ys.map V.int)))
/-- over any ground -/
def kI (K : PySem.W.Frag) (p : Option Addr) (wi : WAx) : TI := fun σ H R => ∃ G₀ H₀, tI K (inn p G₀ H₀) wi σ H R
def kG (K : PySem.W.Frag) (p : Option Addr) (g : WG) (vs : List Nat) : TG := fun v σ H Q => ∃ G₀ H₀, tGc K (inn p G₀ H₀) g vs v σ H Q
def kT (K : PySem.W.Frag) (p : Option Addr) (wt : WTx) : TT := fun σ H Q => ∃ G₀ H₀, tT K (inn p G₀ H₀) wt σ H Q
def kE (K : PySem.W.Frag) (p : Option Addr) (we : WEx) : TE := fun σ H Q => ∃ G₀ H₀, tE K (inn p G₀ H₀) we σ H Q
/-- other slots that are not asked for -/
theorem Rl.turn {K : PySem.W.Frag} {p : Option Addr} {G₀ H₀ G H : Hp} {σ σ' : L2.St} {e : En} {vs : List Nat} {k : Nat} (r : Rl K p G₀ H₀ G H σ { wipeE e vs with k := k }) (w : wipe σ' vs = wipe σ vs) : Rl K p G₀ H₀ G H σ' { wipeE e vs with k := k } := by
  obtain ⟨α, r⟩ := r
  have hl : σ'.length = σ.length := by
    have z := congrArg List.length w
    rwa [wipe_length, wipe_length] at z
  refine ⟨α, r.w, r.st, by rw [hl]; exact r.len, fun i d h => ?_, fun i ds h => absurd h (wipeE_own.no (e := wipeE e vs) i ds), fun i j ds es h => absurd h (wipeE_own.no (e := wipeE e vs) i ds), wipeE_own.bo⟩
  obtain ⟨h1, h2⟩ := wipeE_dat h
  have z := congrArg (fun l => l[i]?) w
  simp only [wipe_out h1] at z
  rw [z]
  exact r.dat i d h
theorem Rl.less {K : PySem.W.Frag} {p : Option Addr} {G₀ H₀ G H : Hp} {σ : L2.St} {e : En} {vs : List Nat} (r : Rl K p G₀ H₀ G H σ e) : Rl K p G₀ H₀ G H σ (wipeE e vs) := by
  obtain ⟨α, r⟩ := r
  refine ⟨α, r.w, r.st, ?_, fun i d h => r.dat i d (wipeE_dat h).2, fun i ds h => absurd h (wipeE_own.no i ds), fun i j ds es h => absurd h (wipeE_own.no i ds), wipeE_own.bo⟩
  rw [r.len]
  unfold wipeE
  simp
/-- how it stands within the loop: the dict at a, in slot j -/
def KeysAt (K : PySem.W.Frag) (F : Fx) (D : Ends) (g : WG) (wt : WTx) (we : WEx) (e₀ : En) (a : Addr) (j : Nat) (G1 : Hp) (rest : List PyData) : L2.St → Hp → Prop := fun σ' H' =>
  ∃ acc ns k G2, Same G1 G2 ∧ σ'[j]? = some (some (V.ref a)) ∧ H' a = some (.dK (trues ns)) ∧ G2 a = none ∧ Rl K F.p F.G₀ F.H₀ G2 H' σ' { e₀ with k := k } ∧ (∀ m : Int, m ∈ ns ↔ PyData.int m ∈ acc) ∧ ns.Nodup ∧ ns.length ≤ acc.length ∧
    lcLoop g wt (weI we) e₀ acc rest k (fun acc k => ∃ ns : List Int, acc = ns.map PyData.int ∧ ns.length < 64 ∧ ∀ ms : List Int, ms.Pairwise (· < ·) → (∀ m, m ∈ ms ↔ m ∈ ns) → ms.length ≤ ns.length → (endsOf K F G2 D).rt (.list (ms.map PyData.int)) { e₀ with k := k })
section
variable {X : Cx} {F : Fx} {tg iter cond key : Expr} {wi : WAx} {g : WG} {wt : WTx} {we : WEx} {vs : List Nat}
theorem dss_keys {j : Nat} {x : Str} {p1 p2 p3 p4 p5 p6 p7 p8 p9 p10 p11 p12 p13 : Pos} {kd : Nat} (hp : PassesOwn (model X.prog X.w) X.A X.env X.xe) (hc : X.calm = true) (hu : X.A.units + 64 < cLine) (hN : X.N.Nodup) (hjv : j ∉ vs)
    (hi : ∀ G₀ H₀, DI X (inn F.p G₀ H₀) tg iter wi) (hg : ∀ G₀ H₀, DGc X (inn F.p G₀ H₀) tg g vs) (ht : ∀ G₀ H₀, DT X (inn F.p G₀ H₀) cond wt) (he : ∀ G₀ H₀, DE X (inn F.p G₀ H₀) key we) (pv : PE X (.Name x p5) (tVar j)) (pv2 : PE X (.Name x p11) (tVar j))
    (hm : X.mg "sorted" = none) (hgs : Gl X "sorted" := by rfl) (hv : bootBuiltins "sorted" = some (.builtin "sorted") := by decide +kernel) (hj : X.N[j]? = some x := by rfl) (hx : Loc X.env.scope x := by first | exact Or.inl rfl | exact Or.inr rfl)
    (hf : X.fn x = true ∨ X.env.scope.names.lookup x = some .local := by first | exact Or.inl rfl | exact Or.inr rfl) (hs : ∀ x, foldedSetIterable iter X.env x = pure x := by intro _; rfl)
    (hsw : swapsWith (.Dict [] [] p2) (some (.Name x p1)) p3.line X.env = pure false := by rfl) (hsw2 : swapsWith (.Constant (.bool true) kd p7) (some (.Subscript (.Name x p5) key p6)) p8.line X.env = pure false := by rfl)
    (hst : starEach [.Name x p11] X.env = (false, eval (.Name x p11) X.env) :: starEach [] X.env := by rfl) (hpl : (backTo p12 (starEach [] X.env)).any (·.1) = false := by rfl) :
    DSs X F [.Assign [.Name x p1] (.Dict [] [] p2) p3, .For tg iter [.If cond [.Assign [.Subscript (.Name x p5) key p6] (.Constant (.bool true) kd p7) p8] [] p9] [] p4, .Return (some (.Call (.Name "sorted" p10) [.Name x p11] [] p12)) p13] (wKeys j wi g wt we vs) := by
  refine dss_of (t := tSeq (tAsg tDNewK (gName j)) (tSeq (tFor (kI X.K F.p wi) (kG X.K F.p g vs) (tIfS (kT X.K F.p wt) (sDPut (tVar j) (kE X.K F.p we) (tC (.bl true))) tNext)) (tRet (tCB rKeys (tCons (tVar j) tNil)))))
    (pss_cons (ps_set hN hj hx pe_dnewK hsw hf) (pss_cons (ps_for hp hc ⟨fun pins s σ H R I ⟨G₀, H₀, q⟩ => (hi G₀ H₀).run.run pins s σ H R I q⟩ ⟨fun pins s' σ H' v u Q I r ⟨G₀, H₀, q⟩ => (hg G₀ H₀).run.run pins s' σ H' v u Q I r q⟩
      (pss_one (ps_if ⟨fun pins s' σ H' Q I ⟨G₀, H₀, q⟩ => (ht G₀ H₀).run.run pins s' σ H' Q I q⟩ (pss_one (ps_dput (by omega) pv ⟨fun pins s' σ H' Q I ⟨G₀, H₀, q⟩ => (he G₀ H₀).run.run pins s' σ H' Q I q⟩ pe_bl hsw2)) pss_nil)) hs)
      (pss_one (ps_ret (pe_callB (call_sortedDI hc) hgs hm hv (pa_cons pv2 pa_nil hst) (by decide) (by decide) hst hpl)))))
    (wKeys.mono (hi X.H_0 X.H_0).mono (hg X.H_0 X.H_0).mono (ht X.H_0 X.H_0).mono (he X.H_0 X.H_0).mono) fun D σ H ⟨e, G, r, no', hjs, q⟩ => ?_
  have mi := (hi X.H_0 X.H_0).mono
  have mg := (hg X.H_0 X.H_0).mono
  have mt := (ht X.H_0 X.H_0).mono
  have me := (he X.H_0 X.H_0).mono
  have no : NoOwn e := noOwn_of no'
  intro a ha
  obtain ⟨α, rr⟩ := id r
  have np : F.p ≠ some a := fun ep => by
    obtain ⟨_, c, xs, i, t, h2, _⟩ := rr.w.pen a ep
    rw [ha] at h2; cases h2
  have n0 : F.H₀ a = none := by
    cases z : F.H₀ a with
    | none => rfl
    | some o =>
      have := rr.st.hh a o z np
      rw [ha] at this; cases this
  have ga : G a = none := r.same.free ha
  have noU : NoOwn (putUn e j) := no.un
  -- the dict has come
  have r1 : Rl X.K F.p F.G₀ F.H₀ G (L2.upd H a (.dK [])) (σ.set j (some (.ref a))) (putUn e j) := r.un.upd noU ga n0 np
  have hjl : j < σ.length := by
    rw [rr.len]
    exact hjs
  refine ⟨G, L2.upd H a (.dK []), putUn e j, G, r1.rebase noU, mi _ _ _ _ _ (fun ds e1 z J G1 H1 s1 r2 wk => ?_) (fun _ _ z => z.elim) q⟩
  have step := fun (G6 H6 : Hp) (σ6 : L2.St) (e6 : En) (r6 : Rl X.K F.p G (L2.upd H a (.dK [])) G6 H6 σ6 e6) => (⟨let ⟨_, q⟩ := r6; q.st, r6.wd⟩ : Stp F.p G (L2.upd H a (.dK [])) G6 H6 ∧ Wd X.K F.p e6.k G6 H6)
  obtain ⟨st1, wd1⟩ := step G1 H1 _ e1 r2
  have r3 : Rl X.K F.p F.G₀ F.H₀ G1 H1 (σ.set j (some (.ref a))) { wipeE (putUn e j) vs with k := e1.k } := (r1.step st1 wd1).less
  have hd1 : H1 a = some (.dK []) := st1.hh _ _ upd_same np
  have gd1 : G1 a = none := st1.nn _ _ upd_same ga
  have wk' : Walk J ds.length (Same G1) (fun i H x H' => ∀ d, ds[i]? = some d → (H' = H ∧ R X.K F.p G1 x d) ∨ ∃ T xs es, x = .ref T ∧ H T = none ∧ H' = L2.upd H T (.tup xs) ∧ d = .tuple es ∧ RA X.K F.p G1 xs es) :=
    ⟨wk.goes, wk.stops, fun i H x H' _ s y d hd => wk.yields i H x H' d hd s y⟩
  have wU : ∀ k, NoOwn { wipeE (putUn e j) vs with k := k } := fun k => wipeE_own (e := putUn e j) (vs := vs)
  refine for_it (g := kG X.K F.p g vs) (tb := tIfS (kT X.K F.p wt) (sDPut (tVar j) (kE X.K F.p we) (tC (.bl true))) tNext) (D := { D with nx := tRet (tCB rKeys (tCons (tVar j) tNil)) D }) wk' (fun i => KeysAt X.K F D g wt we (wipeE (putUn e j) vs) a j G1 (ds.drop i))
    ⟨[], [], e1.k, G1, Same.refl G1, List.getElem?_set_self hjl, hd1, gd1, r3, fun m => by simp, .nil, Nat.le_refl _, lcLoop.mono mg mt (weI.mono me) (fun acc k ⟨ns, q1, q2, q3⟩ => ⟨ns, q1, q2, fun ms h1 h2 h3 => (endsOf.le s1).rt _ _ (q3 ms h1 h2 h3)⟩) z⟩
    (fun i σ' H' _ ⟨_, _, _, G2, s2, _, _, _, r2, _⟩ => s2.trans r2.same) (fun i x σ' H' H'' hlt ⟨acc, ns, k, G2, s2, hj2, hd2, gd2, r2, hm2, nd2, hl2, z2⟩ y => ?_) (fun σ' H' ⟨acc, ns, k, G2, s2, hj2, hd2, gd2, r2, hm2, nd2, hl2, z2⟩ => ?_)
  · rw [List.drop_eq_getElem_cons hlt] at z2
    have hd : ds[i]? = some ds[i] := List.getElem?_eq_getElem hlt
    have turn : ∀ G3 H3 v, Same G2 G3 → H3 a = some (.dK (trues ns)) → G3 a = none → Rl X.K F.p F.G₀ F.H₀ G3 H3 σ' { wipeE (putUn e j) vs with k := k } → R X.K F.p G3 v ds[i] →
        kG X.K F.p g vs v σ' H3 fun σ2 H2 => tIfS (kT X.K F.p wt) (sDPut (tVar j) (kE X.K F.p we) (tC (.bl true))) tNext
          { D with nx := KeysAt X.K F D g wt we (wipeE (putUn e j) vs) a j G1 (ds.drop (i + 1)), ct := KeysAt X.K F D g wt we (wipeE (putUn e j) vs) a j G1 (ds.drop (i + 1)), bk := tRet (tCB rKeys (tCons (tVar j) tNil)) D } σ2 H2 := fun G3 H3 v s3 hd3 gd3 r3 rv => by
      refine ⟨G3, H3, { wipeE (putUn e j) vs with k := k }, G3, _, r3.rebase (wU k), rv, wU k, mg _ _ _ _ (fun e4 z4 σ4 r4 no4 w4 => ?_) z2⟩
      have hj4 : σ4[j]? = some (some (V.ref a)) := by
        have z := congrArg (fun l => l[j]?) w4
        simp only [wipe_out hjv] at z
        rw [z]
        exact hj2
      refine ⟨G3, H3, e4, G3, r4, mt e4 _ _ _ _ (fun b e5 z5 G5 H5 s5 r5 => ?_) (fun _ _ u => u.elim) z4⟩
      have step := fun (G6 H6 : Hp) (e6 : En) (r6 : Rl X.K F.p G3 H3 G6 H6 σ4 e6) => (⟨let ⟨_, q⟩ := r6; q.st, r6.wd⟩ : Stp F.p G3 H3 G6 H6 ∧ Wd X.K F.p e6.k G6 H6)
      cases b with
      | false =>
        obtain ⟨st, wd⟩ := step G5 H5 e5 r5
        have s35 := s3.trans s5
        exact ⟨acc, ns, e5.k, G5, s2.trans s35, hj4, st.hh _ _ hd3 np, st.nn _ _ hd3 gd3, (r3.step st wd).turn w4, hm2, nd2, hl2,
          lcLoop.mono mg mt (weI.mono me) (fun acc k ⟨ns, q1, q2, q3⟩ => ⟨ns, q1, q2, fun ms h1 h2 h3 => (endsOf.le s35).rt _ _ (q3 ms h1 h2 h3)⟩) z5⟩
      | true =>
        refine ⟨.ref a, hj4, G3, H3, e5, G5, r5, me e5 _ _ _ _ (fun y e6 z6 v6 G6 H6 s6 r6 ry => ?_) (fun _ _ u => u.elim) z5⟩
        obtain ⟨n, ey, hla, z6⟩ := z6
        subst ey
        obtain ⟨st, wd⟩ := step G6 H6 e6 r6
        have hd6 := st.hh _ _ hd3 np
        have gd6 := st.nn _ _ hd3 gd3
        have s36 := s3.trans (s5.trans s6)
        have ev := ry.int_inv
        subst ev
        refine ⟨a, _, rfl, DPut.k (k := Sum.inl n) hd6 (by unfold trues; rw [List.length_map, sizeLine_eq]; omega), acc ++ [.int n], putI ns n, e6.k, G6, s2.trans s36, hj4, by rw [upd_same, put_trues], gd6, ((r3.step st wd).turn w4).upd (wU e6.k) gd6 n0 np, fun m => ?_, nodup_putI nd2, ?_,
          lcLoop.mono mg mt (weI.mono me) (fun acc k ⟨ns, q1, q2, q3⟩ => ⟨ns, q1, q2, fun ms h1 h2 h3 => (endsOf.le s36).rt _ _ (q3 ms h1 h2 h3)⟩) z6⟩
        · rw [mem_putI, hm2]
          simp
        · have := len_putI (ns := ns) (n := n)
          rw [List.length_append,
                List.length_singleton]
          omega
    rcases y _ hd with ⟨rfl, rv⟩ | ⟨T, xs, es, rfl, hT, rfl, ed, rxs⟩
    · exact turn G2 _ x (Same.refl G2) hd2 gd2 r2 (rv.mono s2)
    · have s3 := sameNew (o := .tup xs) r2.same hT
      have nT : a ≠ T := ne_of_none hd2 hT
      exact turn (L2.upd G2 T (.tup xs)) _ (.ref T) s3 (by rw [upd_ne nT]; exact hd2) (by rw [upd_ne nT]; exact gd2) (r2.new hT) (by rw [ed]; exact .tup (SqT.of upd_same) (rxs.mono (s2.trans s3)))
  · rw [List.drop_length] at z2
    obtain ⟨ns', ea, h64, fin⟩ := z2
    subst ea
    rw [List.length_map] at hl2
    refine ⟨.ref a, hj2, a, trues ns, ns, rfl, .inl hd2, by unfold trues; rw [List.map_map] <;> rfl, by omega, fun ys q py pw hq => ?_⟩
    have ys_nd : ys.Nodup := py.nodup_iff.mpr nd2
    have s3 := sameNew (o := .lst (ys.map V.int)) r2.same hq
    refine fin ys (strict_of pw ys_nd) (fun m => ?_) (by rw [py.length_eq]; exact hl2) _ σ' _ _ s3 (r2.new hq) (.lst upd_same (RA.toInts ys))
    rw [py.mem_iff, hm2]
    simp
end
end L2.DL
set_option
      maxHeartbeats 4000000
namespace L2.DL
open PySem PySem.Spec
      PyProof.Rows
/-! ### set(xs), xs a list of tuples of ints of which few are different -/
def FewT (ks : List (Addr × List Int)) : Prop := ∀ L : List (Addr × List Int), (L.map (·.2)).Nodup → (∀ p ∈ L, p ∈ ks) → L.length < 63
abbrev Kp (h h' : Heap) : Prop := ∀ b o, h.get? b = some o → h'.get? b = some o
section
variable {P : Program} {w : World} {A : Around}
      {E : Value → Shared → Prop} {s : Shared}
/-- one tuple more -/
theorem tup_in {S : Addr} {L : List (Addr × List Int)} {es : Array (Int × Value)} {ep : Nat} {t : SetTable} {p : Addr × List Int} {Q : Bool → Shared → Prop} (hS : SetTR P w s.heap S L es ep t) (hx : IsT P w s.heap p.2 p.1) (hu : A.units < cLine) (few : L.length < 63)
    (h : ∀ b h' L' es' ep' t', Heap.SameBut S s.heap h' → SetTR P w h' S L' es' ep' t' → (p.2 ∈ L.map (·.2) → L' = L) → (p.2 ∉ L.map (·.2) → L'.Perm (p :: L)) → Q b { s with heap := h', toks := s.toks + (p.2.length + 1) }) :
    wpAny (model P w) A (holding [Value.ref p.1] (setAdd S (.ref p.1))) Q E s := by
  refine wpAny_holding ?_
  unfold setAdd
  exact wpAny_holding (wpAny_bind (wpAny_pyHash_tuple hu hx (add_at (s := { s with toks := s.toks + (p.2.length + 1) }) hS hx hu (by omega) fun b h' L' es' ep' t' q1 q2 q3 q4 => h b h' L' es' ep' t' q1 q2 q3 q4)))
theorem loop_tups {I : Addr} {fp wr : List Addr} {G : Array GenState → Array GenState → Prop} {n : Nat} {Pv : Nat → Value → Prop} {St : Nat → Shared → Prop} {R : Result → Shared → Prop}
    (W : WalksS P w A.in1 I fp wr G n Pv St) (S : Addr) (out : S ∉ fp) (ks : List (Addr × List Int)) (hn : n = ks.length) (few : FewT ks) (hv : ∀ i v, Pv i v → ∃ p, ks[i]? = some p ∧ v = .ref p.1)
    (b0 : Heap) (hk : ∀ p ∈ ks, IsT P w b0 p.2 p.1) (S0 : b0.get? S = none) (w0 : ∀ b ∈ wr, b0.get? b = none) (hu : A.in1.units < cLine) :
    ∀ (m i : Nat) (s : Shared), n - i = m → i ≤ n → St i s → Kp b0 s.heap → (∃ L es ep t, SetTR P w s.heap S L es ep t ∧ Got ks i L) →
      (∀ s' L es ep t, Moved (S :: wr) G s s' → SetTR P w s'.heap S L es ep t → Got ks n L → Kp b0 s'.heap → R (.ok (.ret .none)) s') →
      codeAny (model P w) A (.builtin "set.update.loop" ⟨[.ref S,
            .ref I], []⟩) R s := by
  have sub : ∀ b ∈ wr, b ∈ S :: wr := fun b hb => List.mem_cons_of_mem _ hb
  have offw : S ∉ wr := fun z => out (W.sub _ z)
  have kept : ∀ {s s' : Shared}, Moved wr G s s' → Kp b0 s.heap → Kp b0 s'.heap := fun mv k b o e =>
    mv.heap b o (fun hb => by
      rw [w0 b hb] at e
      cases e) (k b o e)
  have inks : ∀ {i : Nat} {L : List (Addr × List Int)}, Got ks i L → ∀ p ∈ L, p ∈ ks := fun g p hp => List.mem_of_mem_take (g.sub p hp)
  intro m
  induction m with
  | zero =>
    rintro i s hm hi st k ⟨L, es, ep, t, T, g⟩ fin
    obtain rfl : i = n := by omega
    refine codeAny_builtin
          F.entry_set_update_loop ?_
    rw [Around.under_plainId
          F.plain_set_update_loop _]
    show wpAny _ A.in1
          (pyNext (.ref I) >>= _) _ _ s
    refine wpAny_bind (W.done s _ _ st fun s' mv => ?_)
    show wpAny _ A.in1
          (ret Value.none) _ _ s'
    have k' := kept mv k
    have T' : SetTR P w s'.heap S L es ep t := T.keep (fun o e => mv.heap S o offw e) fun p hp => isT_keep (hk p (inks g p hp)) k'
    exact wpAny_pure (fin s' L es ep t (mv.mono sub) T' g k')
  | succ m ih =>
    rintro i s hm hi st k ⟨L, es, ep, t, T, g⟩ fin
    have lt : i < n := by omega
    refine codeAny_builtin
          F.entry_set_update_loop ?_
    rw [Around.under_plainId
          F.plain_set_update_loop _]
    show wpAny _ A.in1
          (pyNext (.ref I) >>= _) _ _ s
    refine wpAny_bind (W.item i s _ _ lt st fun v s' pv st' mv => ?_)
    obtain ⟨p, ep0, rfl⟩ := hv i v pv
    have k' := kept mv k
    have T' : SetTR P w s'.heap S L es ep t := T.keep (fun o e => mv.heap S o offw e) fun p hp => isT_keep (hk p (inks g p hp)) k'
    show wpAny _ A.in1
          (holding [Value.ref p.1] (setAdd S (.ref p.1)) >>= _) _ _ s'
    refine wpAny_bind (tup_in T' (isT_keep (hk p (List.mem_of_getElem? ep0)) k') hu (few L T'.nd (inks g)) fun b h' L' es' ep' t' sb T2 c1 c2 => ?_)
    have g2 : Got ks (i + 1) L' := by
      by_cases c : p.2 ∈ L.map (·.2)
      · rw [c1 c]
        exact g.same ep0 c
      · exact g.more ep0 (c2 c)
    have k2 : Kp b0 h' := fun b o e => by
      have ne : b ≠ S := fun z => by
        rw [z, S0] at e
        cases e
      rw [sb.2 b ne]
      exact k' b o e
    have st2 := W.frame (i + 1) s' h' (s'.toks + (p.2.length + 1)) st' (Nat.le_add_right _ _) fun b hb o e => by
      rw [sb.2 b fun z => out (by rw [← z]; exact hb)]
      exact e
    refine wpAny_pure ⟨plainId_quiet F.plain_set_update_loop _, ih (i + 1) _ (by omega) lt st2 k2 ⟨L', es', ep', t', T2, g2⟩ fun s3 L3 es3 ep3 t3 mv3 T3 g3 k3 => ?_⟩
    refine fin s3 L3 es3 ep3 t3 (Moved.trans W.gtrans ((mv.mono sub).then_heap (Nat.le_add_right _ _) fun b o hb e => ?_) mv3) T3 g3 k3
    rw [sb.2 b fun z => hb (by rw [z]; exact List.mem_cons_self)]
    exact e
/-- how the heap stands behind set(xs) -/
def SetDoneT (P : Program) (w : World) (ks : List (Addr × List Int)) (s s2 : Shared) : Prop :=
  ∃ (g : Heap) (tk : Nat) (L : List (Addr × List Int)) (es : Array (Int × Value)) (ep : Nat) (t : SetTable), s2 = { s with heap := g, toks := tk } ∧ SetTR P w g s.heap.objs.size L es ep t ∧ Got ks ks.length L ∧ Kp s.heap g
theorem init_tups {l : Addr} {xs : Array Value} (ks : List (Addr × List Int)) (hh : A.handled = none) (hl : s.heap.IsList l xs) (hi : xs.toList = ks.map fun p => Value.ref p.1) (hk : ∀ p ∈ ks, IsT P w s.heap p.2 p.1) (few : FewT ks) (hu : A.units + 3 < cLine) :
    codeAny (model P w) A (.call (.builtin "set.__init__") ⟨[.ref s.heap.objs.size, .ref l], []⟩) (wants (fun r s2 => r = .none ∧ SetDoneT P w ks s s2) E) { s with heap := s.heap.push (setNew w) } := by
  have at0 : (s.heap.push (setNew w)).get? s.heap.objs.size = some (setNew w) := Heap.get?_push_size _ rfl
  have hz : xs.size = ks.length := by
    have q := congrArg List.length hi
    rwa [Array.length_toList, List.length_map] at q
  have up := hl.push (setNew w)
  have ty : Shared.TypeIs { s with heap := s.heap.push (setNew w) } (.ref s.heap.objs.size) "set" :=
    ⟨_, at0, rfl⟩
  refine codeAny_call_builtin F.called_set.init.plain F.entry_set_init (check_set_init_1 ty ?_)
  have up' := up
  obtain ⟨⟨c0, d0, e0, f0⟩, at1, k0, n0, x0⟩ := up'
  dsimp only at k0 x0
  cases k0
  cases x0
  have no1 := F.sub_list_set
  have no2 := F.sub_list_frozenset
  have no3 : (Value.type "list" == Value.type "dict") = false := by decide
  have below : l < s.heap.objs.size := by
    obtain ⟨o, e, _⟩ := hl
    exact Heap.lt_size e
  have quiet : A.in1.in1.in1.handled = none := by simp [hh]
  have one : (s.heap.push (setNew w)).objs.size = s.heap.objs.size + 1 := Heap.size_push ..
  have away : l ≠ (s.heap.push (setNew w)).objs.size := by
    rw [one]
    exact Nat.ne_of_lt (Nat.lt_succ_of_lt below)
  unfold Builtin.«set.__init__»
        noKeywords Builtin.Frozenset.updateFrom
  generalize hit : pyIter = it
  wp_walk
  subst hit
  refine wpAny_pyIter_list up (wpAny_bind (wpAny_runValue ?_))
  have sep : s.heap.objs.size ∉ [(s.heap.push (setNew w)).objs.size, l] := by
    rw [one]
    intro z
    rcases List.mem_cons.mp
          z with z | z
    · exact Nat.ne_of_lt (Nat.lt_succ_self _) z
    · exact Nat.ne_of_lt below (List.mem_singleton.mp z).symm
  have gone : ∀ b, s.heap.objs.size ≤ b → s.heap.get? b = none := fun b hb => by
    cases q : s.heap.get? b with
    | none => rfl
    | some o =>
      exact absurd (Nat.lt_of_lt_of_le (Heap.lt_size q) hb) (Nat.lt_irrefl _)
  refine loop_tups (Walks.list (by first | exact quiet | simp [hh]) _ l away xs).toS s.heap.objs.size sep ks hz few (fun i v hv => ?_) s.heap hk (gone _ (Nat.le_refl _)) (fun b hb => gone b ?_) (by first | exact hu | (simp at hu ⊢; omega)) (xs.size - 0) 0 _ (by omega) (Nat.zero_le _) ?s0 (fun b o e => Heap.get?_push_of_some _ (Heap.get?_push_of_some _ e)) ?st fun s2 L es ep t mv R g k => ?_
  case s0 => exact ⟨⟨_, Heap.get?_push_size _ rfl, rfl, rfl⟩, up.push _⟩
  case st => exact ⟨[], #[], 0, _, setTR_fresh (Heap.get?_push_of_some _ at0), Got.zero ks⟩
  · have q : xs.toList[i]? = some v := by rw [Array.getElem?_toList]; exact hv
    rw [hi, List.getElem?_map] at q
    cases e : ks[i]? with
    | none => rw [e] at q; cases q
    | some p =>
      rw [e] at q
      exact ⟨p, rfl,
            (Option.some.inj q).symm⟩
  · rw [List.mem_singleton.mp hb, one]
    exact Nat.le_succ _
  · obtain ⟨g2, gn, dr, tk, os⟩ := s2
    cases (show gn = s.gens from mv.gens)
    cases (show dr = s.drawn from mv.drawn)
    cases (show os = s.os from mv.os)
    show wpAny _ _ _ _ _ _
    refine wpAny_pure ?_
    show wpAny _ _ (ret
          Value.none) _ _ _
    rw [hz] at g
    exact wpAny_pure ⟨rfl, g2, tk, L, es, ep, t, rfl, R, g, k⟩
theorem call_set_tupsF {l : Addr} {xs : Array Value} (ks : List (Addr × List Int)) {Q : Value → Shared → Prop} (hh : A.handled = none) (hl : s.heap.IsList l xs) (hi : xs.toList = ks.map fun p => Value.ref p.1) (hk : ∀ p ∈ ks, IsT P w s.heap p.2 p.1) (few : FewT ks) (hu : A.units + 10 < cLine)
    (h : ∀ s2, SetDoneT P w ks s s2 → Q (.ref s.heap.objs.size) s2) : wpAny (model P w) A (call (.type "set") [.ref l]) Q E s := by
  obtain ⟨c, tl, mro⟩ := F.called_set.mro
  have k1 := F.called_set.made
  have k2 := F.called_set.sub
  have k3 := F.called_set.notType
  have k4 := F.called_set.canCreate
  have k5 := F.typeCall_set_1 (.ref l)
  have k6 := F.called_set.init.lookup
  have ty : Shared.TypeIs { s with heap := s.heap.push (setNew w) } (.ref s.heap.objs.size) "set" := ⟨_, Heap.get?_push_size _ rfl, rfl⟩
  refine wpAny_call
        (codeAny_of_tree ?_)
  show wpAny _ _ (callAny
        (.type "set") _) _ _ _
  refine wpAny_pure ⟨Code.quiet_builtin _ (by decide +kernel),
        codeAny_builtin F.entry_type_call ?_⟩
  rw [Around.under_plain (weight_type_call_type
        "set" [.ref l] []) rfl]
  repeat (any_goals (first
        | assumption | wp_step))
  refine codeAny_mono (code_set_led1 (.ref l) (E := E) (Q₁ := fun o s1 => o = .ref s.heap.objs.size ∧ s1 = { s with heap := s.heap.push (setNew w) }) ⟨rfl, rfl⟩) fun r s1 z => ?_
  rcases r with e | (_ | _ | _ | o)
  · exact z
  iterate 3 exact z.elim
  · obtain ⟨rfl, rfl⟩ := z
    have k7 := F.called_set.init.bind (.ref s.heap.objs.size)
    repeat (any_goals (first
          | assumption | wp_step))
    refine codeAny_mono (init_tups (E := E) ks (by simp [hh]) hl hi hk few (by first | (simp; omega) | omega)) fun r s2 z => ?_
    rcases r with e | (_ | _ | _ | o)
    · exact z
    iterate 3 exact z.elim
    · obtain ⟨rfl, d⟩ := z
      repeat (any_goals (first
            | assumption | wp_step))
      exact h _ d
end
/-- set(xs), xs a list of tuples of ints, few of them different -/
def rSetF (K : PySem.W.Frag) (P : Program) (w : World) : List V → Hp → VK → Prop := fun xs H Q => ∃ (l : Addr) (ks : List (Addr × List Int)), xs = [V.ref l] ∧ SqL K H l (ks.map fun p => V.ref p.1) ∧ (∀ p ∈ ks, SqT K H p.1 (p.2.map V.int)) ∧ FewT ks ∧
  ∀ a L, H a = none → (∀ p ∈ L, p ∈ ks) → (∀ p ∈ ks,
        p.2 ∈ L.map (·.2)) → Q (.ref a) (upd H a (SetTO P w a L))
theorem cr_setF {X : Cx} (hc : X.calm = true) (hu : X.A.units + 64 < cLine) : CallR X (.type "set") (rSetF X.K X.prog X.w) := by
  intro pins s σ
        H xs us Q I r h
  obtain ⟨l, ks, rfl, hq, hk, few, q⟩ := h
  rw [Vals.ref1 r]
  obtain ⟨its, rv,
        pl, hz⟩ := I.list hq
  refine call_set_tupsF (P := X.prog) (w := X.w) ks (I.ok.hd hc) pl.isList (by simpa using refs_of_vals rv) (fun p hp => I.isT (hk p hp)) few (by omega) fun s2 ⟨h', tk, L, es, ep, t, e, R1, g, k⟩ => ?_
  subst e
  exact ⟨.ref _, upd H s.heap.objs.size (SetTO X.prog X.w s.heap.objs.size L), I.laid (t' := tk) k (Nat.le_refl _) (setTO_new R1.t0), rfl, q _ L (I.hok.fresh (Nat.le_refl _)) (fun p hp => List.mem_of_mem_take (g.sub p hp)) fun p hp => g.all p (by rw [List.take_length]; exact hp)⟩
abbrev tupI (t : List Int) : PyData := .tuple (t.map PyData.int)
/-- few different ones among ts -/
def FewI (ts : List (List Int)) : Prop := ∀ L : List (List Int), L.Nodup → (∀ t ∈ L, t ∈ ts) → L.length < 63
theorem FewI.ks {ks : List (Addr × List Int)} (h : FewI (ks.map (·.2))) : FewT ks := fun L nd sub => by
  have := h (L.map (·.2)) nd fun t ht => by
    obtain ⟨p, hp, e⟩ := List.mem_map.mp ht
    exact List.mem_map.mpr ⟨p, sub p hp, e⟩
  rwa [List.length_map] at this
theorem RA.tups {K : PySem.W.Frag} {p : Option Addr} {G : Hp} : ∀ {ts : List (List Int)} {xs : List V}, RA K p G xs (ts.map tupI) → ∃ ks : List (Addr × List Int), xs = ks.map (fun q => V.ref q.1) ∧ ks.map (·.2) = ts ∧ ∀ q ∈ ks, SqT K G q.1 (q.2.map V.int)
  | [], _, .nil => ⟨[], rfl, rfl, fun q h => nomatch h⟩
  | t :: ts, _, .cons r rs => by
    obtain ⟨ks, e1, e2, h⟩ := RA.tups (ts := ts) rs
    obtain ⟨l, ys, rfl, g, ra⟩ := R.tup_inv r
    have ex := ra.ofInts
    subst ex
    refine ⟨(l, t) :: ks, by rw [e1, List.map_cons], by rw [List.map_cons, e2], fun q hq => ?_⟩
    rcases List.mem_cons.mp hq with z | z
    · rw [z]; exact g
    · exact h q z
theorem RA.ofTups {K : PySem.W.Frag} {p : Option Addr} {G : Hp} : ∀ {ks : List (Addr × List Int)}, (∀ q ∈ ks, SqT K G q.1 (q.2.map V.int)) → RA K p G (ks.map fun q => V.ref q.1) (ks.map fun q => tupI q.2)
  | [], _ => .nil
  | q :: ks, h => .cons (.tup (h q List.mem_cons_self) (RA.toInts q.2)) (RA.ofTups fun z hz => h z (List.mem_cons_of_mem _ hz))
/-- sorted(set(xs)), xs a list of tuples of so many ints -/
def wSortedSetT (w : WEx) : WEx := fun e Q x => w e (fun d e1 => ∃ (ts : List (List Int)) (n : Nat) (B : Int), d = .list (ts.map tupI) ∧ 1 ≤ n ∧ (∀ t ∈ ts, t.length = n ∧ TS.Bd B t) ∧ FewI ts ∧
  ∀ us : List (List Int), us.Nodup → (∀ t, t ∈ us ↔ t ∈ ts) → us.Pairwise (fun a b => TS.code B a ≤ TS.code B b) → Q (.list (us.map tupI)) e1) x
section
variable {X : Cx} {F : Fx} {pos : Pos} {a : Expr} {wa : WEx}
theorem de_sortedSetT {p1 p2 q : Pos} (hc : X.calm = true) (hu : X.A.units + 64 < cLine) (h : DE X F a wa) (hm : X.mg "sorted" = none) (hm2 : X.mg "set" = none) (hg : Gl X "sorted" := by rfl) (hg2 : Gl X "set" := by rfl) (hv : bootBuiltins "sorted" = some (.builtin "sorted") := by decide +kernel) (hv2 : bootBuiltins "set" = some (.type "set") := by decide +kernel)
    (hs : starEach [a] X.env = (false, eval a X.env) :: starEach [] X.env := by rfl) (hpl : (backTo q (starEach [] X.env)).any (·.1) = false := by rfl)
    (hs2 : starEach [.Call (.Name "set" p2) [a] [] q] X.env = (false, eval (.Call (.Name "set" p2) [a] [] q) X.env) :: starEach [] X.env := by rfl) (hpl2 : (backTo pos (starEach [] X.env)).any (·.1) = false := by rfl) :
    DE X F (.Call (.Name "sorted" p1) [.Call (.Name "set" p2) [a] [] q] [] pos) (wSortedSetT wa) :=
  de_of (pe_callB (cr_sortedT hc) hg hm hv (pa_cons (pe_callTy (cr_setF hc hu) hg2 hm2 hv2 (pa_cons h.run pa_nil hs) (by decide) (by decide) hs hpl) pa_nil hs2) (by decide) (by decide) hs2 hpl2)
    (fun e Q Q' x x' h1 h2 q => h.mono e _ _ _ _ (fun d e1 ⟨ts, n, B, ed, hn, hl, few, z⟩ => ⟨ts, n, B, ed, hn, hl, few, fun us p1 p2 p3 => h1 _ _ (z us p1 p2 p3)⟩) h2 q) fun σ H Q ⟨e, G, r, q⟩ =>
    ⟨e, G, r, h.mono e _ _ _ _ (fun d e1 ⟨ts, n, B, ed, hn, hl, few, z⟩ v G' H' s r' rv => by
      subst ed
      obtain ⟨l, xs, rfl, g, ra⟩ := rv.lst_inv
      obtain ⟨ks, rfl, rfl, hk⟩ := ra.tups
      refine ⟨l, ks, rfl, SqL.of (r'.same _ _ g), fun q hq => sameT r'.same (hk q hq), few.ks, fun b L hb s1 s2 => ⟨b, L, n, B, rfl, upd_same, fun q hq => ?_, hn, fun q hq => hl q.2 (List.mem_map.mpr ⟨q, s1 q hq, rfl⟩), fun L' q' pm nd _ pw hq => ?_⟩⟩
      · have r2 := r'.new (o := SetTO X.prog X.w b L) hb
        exact sameT r2.same (sameT (sameNew (o := SetTO X.prog X.w b L) r'.same hb) (hk q (s1 q hq)))
      have r2 := r'.new (o := SetTO X.prog X.w b L) hb
      have s3 := sameNew (o := SetTO X.prog X.w b L) r'.same hb
      have s4 := sameNew (o := .lst (L'.map fun q => V.ref q.1)) r2.same hq
      have eq : (L'.map (·.2)).map tupI = L'.map fun q => tupI q.2 := by rw [List.map_map] <;> rfl
      refine z (L'.map (·.2)) nd (fun t => ?_) ?_ _ _ _ (s.trans (s3.trans s4)) (r2.new hq) (.lst upd_same (by
        rw [eq]
        exact RA.ofTups fun q hq => sameT s4 (sameT s3 (hk q (s1 q (pm.mem_iff.mp hq))))))
      · rw [(pm.map (·.2)).mem_iff]
        refine ⟨fun ht => ?_, fun ht => ?_⟩
        · obtain ⟨q, hq, e⟩ := List.mem_map.mp ht
          exact List.mem_map.mpr ⟨q, s1 q hq, e⟩
        · obtain ⟨q, hq, e⟩ := List.mem_map.mp ht
          rw [← e]
          exact s2 q hq
      · exact List.pairwise_map.mpr pw) (fun _ _ z => z) q⟩
end
end L2.DL
set_option
      maxHeartbeats 1000000
namespace L2.DL
open PySem PySem.Spec
      PyProof.Rows
/-! ### sorted(t), t a tuple of ints -/
def rSortedTup (K : PySem.W.Frag) : List V → Hp → VK → Prop := fun xs H Q => ∃ (a : Addr) (ns : List Int), xs = [.ref a] ∧ SqT K H a (ns.map V.int) ∧ ns.length < 64 ∧
  ∀ (ys : List Int) (p : Addr), ys.Perm ns → ys.Pairwise (· ≤ ·) → H p = none → Q (.ref p) (upd H p (.lst (ys.map V.int)))
theorem cr_sortedTup {X : Cx} : CallR X (.builtin "sorted") (rSortedTup X.K) := by
  intro pins s σ
        H xs us Q I r q
  obtain ⟨a, ns, rfl, hq, few, q⟩ := q
  rw [Vals.ref1 r]
  obtain ⟨its, rv, ⟨o, ho, oc, n, od⟩, hz⟩ := I.tuple hq
  have hi : IntsAre its.toArray.toList ns :=
        ints_of_vals rv
  have len : its.toArray.toList.length = ns.length := IntsAre.length hi
  refine Calls.call_function_entry kind_sorted
        plain_sorted entry_sorted (args_sorted1 _) ?_
  unfold Builtin.«sorted»
  refine wpAny_bind (m :=
        checkCount "sorted" 1 1 _) (wpAny_pure ?_)
  refine wpAny_bind (wpAny_collect_seq a (.inr rfl) ho oc od (fun g k => ?_) (by rw [← Array.length_toList, len, sizeLine_eq]; omega))
  have I1 : Inv X pins σ H { s with heap := g } := I.kept (t' := s.toks) k
  refine wpAny_bind (wpAny_newList ?_ (by rw [len, sizeLine_eq]; omega))
  have new : (g.push (seqObj "list" its.toArray.toList.toArray 0)).get? g.objs.size = some (seqObj "list" its.toArray.toList.toArray 0) := Heap.get?_push_size _ rfl
  show wpAny _ _ _ _ _ { s with heap := g.push (seqObj "list" its.toArray.toList.toArray 0) }
  refine wpAny_bind (wpAny_holding (wpAny_call_entry slot_list_sort ⟨_, new, rfl⟩ entry_list_sort
    (list_sort_tree (s := { s with heap := g.push (seqObj "list" its.toArray.toList.toArray 0) }) new hi (by omega) fun out ys g1 g2 g3 => ⟨_, rfl, ?_⟩) (args_list_sort _)))
  obtain ⟨e, he⟩ := sortedHeap_at (vs := its.toArray.toList) (out := out) new
  have hl : (ys.map V.int).length ≤ sizeLine := by
    rw [List.length_map, g2.length_eq, sizeLine_eq]
    omega
  refine wpAny_pure ⟨_, rfl, .ref g.objs.size, upd H g.objs.size (.lst (ys.map V.int)), I1.laid (t' := s.toks) (fun b u z => ?_) (Nat.le_refl _)
    (show ObjOk X.prog X.w _ _ _ (.lst (ys.map V.int)) from ⟨hl, out.toList, e, vals_of_ints g1, by rw [Array.toArray_toList]; exact he⟩), rfl, q ys _ g2 g3 (I1.hok.fresh (Nat.le_refl _))⟩
  have lt : b < g.objs.size := Heap.lt_size z
  rw [sortedHeap_old (Nat.ne_of_lt lt) (by rw [Heap.size_push]; exact Nat.lt_succ_of_lt lt)]
  exact Heap.get?_push_of_some _ z
def sortedTD : BL
  | [.tuple xs], P => ∃ ns : List Int, xs = ns.map PyData.int ∧ ns.length < 64 ∧ ∀ ns' : List Int, ns'.Perm ns → ns'.Pairwise (· ≤ ·) → P (.list (ns'.map PyData.int))
  | _, _ => False
theorem sortedTD.mono : BL.Mono sortedTD := by
  intro a P P' h q
  unfold sortedTD at q ⊢
  split at q
  · obtain ⟨ns, e, f, z⟩ := q
    exact ⟨ns, e, f, fun ns' p1 p2 => h _ (z ns' p1 p2)⟩
  · exact q.elim
theorem fitsSortedT {K : PySem.W.Frag} : FitsL K sortedTD (rSortedTup K) := by
  intro p G₀ H₀ G H σ e xs ds P Q r ra q k
  unfold sortedTD at q
  split at q
  · obtain ⟨x, rfl, rx⟩ := ra.one
    obtain ⟨a, ys, rfl, h1, r1⟩ := rx.tup_inv
    obtain ⟨ns, e1, few, z⟩ := q
    subst e1
    have ey := r1.ofInts
    subst ey
    exact ⟨a, ns, rfl, sameT r.same h1, few, fun ns' l p1 p2 hl => ansL r (RA.toInts ns') k (z ns' p1 p2) hl⟩
  · exact q.elim
end L2.DL
set_option
      maxHeartbeats 1000000
namespace L2.DL
open PySem PySem.Spec
      PyProof.Rows
/-! ### while: a word over the slots, with a number that falls -/
def wWhile (c : WTx) (wb : WSt) : WSt := fun e B => ∃ I : Nat → En → Prop, (∃ m, I m e) ∧ ∀ m e1, I m e1 →
  c e1 (fun k e2 => if k = true then wb e2 { B with nx := fun e3 => ∃ m', m' < m ∧ I m' e3, ct := fun e3 => ∃ m', m' < m ∧ I m' e3, bk := B.nx } else B.nx e2) B.ex
section
variable {X : Cx} {F : Fx} {pos : Pos} {c : Expr} {body : List Stmt} {cw : WTx} {wb : WSt}
theorem wWhile.mono (mc : MonoT cw) (mb : MonoS wb) : MonoS (wWhile cw wb) := fun e A B l ⟨I, h0, h⟩ => ⟨I, h0, fun m e1 i => mc e1 _ _ _ _ (fun k e2 z => by
  cases k with
  | true => exact mb e2 { A with nx := fun e3 => ∃ m', m' < m ∧ I m' e3, ct := fun e3 => ∃ m', m' < m ∧ I m' e3, bk := A.nx } _ ⟨fun _ y => y, l.rt, fun _ y => l.nx _ y, fun _ y => y, l.ex⟩ z
  | false => exact l.nx _ z) l.ex (h m e1 i)⟩
theorem ds_while (hp : PassesOwn (model X.prog X.w) X.A X.env X.xe) (hc : DT X F c cw) (hb : DSs X F body wb) : DS X F (.While c body [] pos) (wWhile cw wb) :=
  ds_of (ps_while hp hc.run hb.run) (wWhile.mono hc.mono hb.mono) fun D σ H ⟨e, G, r, I, ⟨m0, i0⟩, turn⟩ => by
    refine ⟨fun m σ H => ∃ e1 G1, Same G G1 ∧ Rl X.K F.p F.G₀ F.H₀ G1 H σ e1 ∧ I m e1, ⟨m0, e, G, Same.refl G, r, i0⟩, ?_⟩
    rintro m σ1 H1 ⟨e1, G1, s1, r1, i1⟩
    have t := hc.mono e1 _ _ _ _ (fun _ _ z => z) (fun y e' (z : (endsOf X.K F G D).ex y e') => (fun C G' H' s r' ec => z C σ1 G' H' (s1.trans s) r' ec : PX X.K F.p F.G₀ F.H₀ F.W G1 σ1 y e')) (turn m e1 i1)
    refine tT.mono hc.mono (fun b H2 z => ?_) (tT.bind hc.mono r1 t)
    obtain ⟨e2, G2, s2, r2, z⟩ := z
    cases b with
    | false => exact z σ1 G2 H2 (s1.trans s2) r2
    | true =>
      rw [if_pos rfl] at z
      rw [if_pos rfl]
      have le := endsOf.le (K := X.K) (F := F) (D := D) (s1.trans s2)
      refine ⟨fun σ' H' => ∃ m', m' < m ∧ ∃ e3 G3, Same G G3 ∧ Rl X.K F.p F.G₀ F.H₀ G3 H' σ' e3 ∧ I m' e3, fun σ' H' z => z, e2, G2, r2, hb.mono e2 { endsOf X.K F G D with nx := fun e3 => ∃ m', m' < m ∧ I m' e3, ct := fun e3 => ∃ m', m' < m ∧ I m' e3, bk := (endsOf X.K F G D).nx } _ ?_ z⟩
      exact ⟨fun e4 ⟨m', lt, i⟩ σ4 G4 H4 s4 r4 => ⟨m', lt, e4, G4, (s1.trans s2).trans s4, r4, i⟩, le.rt, fun e4 y4 => le.nx e4 y4, fun e4 ⟨m', lt, i⟩ σ4 G4 H4 s4 r4 => ⟨m', lt, e4, G4, (s1.trans s2).trans s4, r4, i⟩, le.ex⟩
end
end L2.DL
set_option
      maxHeartbeats 2000000
namespace L2.DL
open PySem PySem.Spec
      PyProof.Rows
/-! ### answers: data, a list that nothing else holds, a tuple whose first item is such a list -/
inductive Ans where
  | dat (d : D) | own (ds : List D) | tup (ds rest : List D)
def Ans.data : Ans → D
  | .dat d => d
  | .own ds => .list ds
  | .tup ds rest => .tuple (.list ds :: rest)
def PAns (K : PySem.W.Frag) (p : Option Addr) (Q : VK) : Ans → Hp → Hp → Prop
  | .dat d, G, H => ∀ v, R K p G v d → Q v H
  | .own ds, G, H => ∀ a xs, H a = none → RA K p G xs ds → Q (.ref a) (L2.upd H a (.lst xs))
  | .tup ds rest, G, H => ∀ a xs T vs, H a = none → RA K p G xs ds → H T = none → a ≠ T → RA K p G vs rest → Q (.ref T) (L2.upd (L2.upd H T (.tup (.ref a :: vs))) a (.lst xs))
theorem upd_flip {H : Hp} {a b : Addr} {o u : HO} (h : a ≠ b) : L2.upd (L2.upd H a o) b u = L2.upd (L2.upd H b u) a o := by
  funext c
  by_cases e1 : c = a
  · subst e1
    rw [upd_ne h, upd_same, upd_same]
  · rw [upd_ne e1]
    by_cases e2 : c = b
    · subst e2
      rw [upd_same, upd_same]
    · rw [upd_ne e2, upd_ne e1, upd_ne e2]
abbrev Wa := List D → Nat → (Ans → Nat → Prop) → (D → Nat → Prop) → Prop
def Wa.Mono (w : Wa) : Prop := ∀ ds k Q Q' x x', (∀ es k, Q es k → Q' es k) → (∀ d k, x d k → x' d k) → w ds k Q x → w ds k Q' x'
def spA (K : PySem.W.Frag) (w : Wa) : Sp := fun vs H Q E => ∃ p G ds k, Wd K p k G H ∧ RA K p G vs ds ∧
  w ds k (fun an k' => ∀ G' H', Stp p G H G' H' → Wd K p k' G' H' → PAns K p Q an G' H') (fun x k' => ∀ C G' H', Stp p G H G' H' → Wd K p k' G' H' → x = excD C → E (.ref C) none H')
def plainA (w : Wa) : Wc := fun ds k Q x => w ds k (fun an k' => Q an.data k') x
theorem plainA.mono {w : Wa} (m : w.Mono) : (plainA w).Mono := fun ds k Q Q' x x' h1 h2 q => m ds k _ _ _ _ (fun es k => h1 _ _) h2 q
def DefA (P : Program) (w : World) (K : PySem.W.Frag) (mg : Str → Option Value) (base : Heap) (x : Str) (k : Nat) (ps : List Str) (wf : Wa) : Prop :=
  ∃ f fd, FnG P w K mg base k f fd ps (spA K wf) ∧ mg x = some (.ref f) ∧ PySem.W.keepIn K (.ref f) = true ∧ Binds K fd ps []
section
variable {P : Program} {w : World} {K :
      PySem.W.Frag} {mg : Str → Option Value} {base : Heap}
theorem DefA.plain {x : Str} {k : Nat} {ps : List Str} {wf : Wa} (h : DefA P w K mg base x k ps wf) (m : wf.Mono) : Def P w K mg base x k ps (plainA wf) := by
  obtain ⟨f, fd, h1, h2⟩ := h
  refine ⟨f, fd, h1.imp fun vs H Q E ⟨p, G, ds, n, wd, ra, q⟩ => ⟨p, G, ds, n, wd, ra, m ds n _ _ _ _ (fun an k' z G' H' st wd' => ?_) (fun _ _ z => z) q⟩, h2⟩
  have r : Rl K p G H G' H' [] ⟨[], k'⟩ := ⟨fun _ => 0, wd', st, rfl, fun i d h => by simp at h, fun i ds h => by simp at h, fun i j ds es h => by simp at h, Bo.none fun i z h => by simp at h⟩
  cases an with
  | dat d => exact fun v rv => z v _ _ st wd' rv
  | own es =>
    intro a xs ha rx
    obtain ⟨α, r'⟩ := r.new (o := .lst xs) ha
    exact z (.ref a) _ _ r'.st r'.w (.lst upd_same (rx.mono (sameNew wd'.same ha)))
  | tup es rest =>
    intro a xs T vs' ha rx hT ne rr
    have r1 := r.new (o := .lst xs) ha
    have hT' : L2.upd H' a (.lst xs) T = none := by rw [upd_ne ne.symm]; exact hT
    obtain ⟨α, r'⟩ := r1.new (o := .tup (.ref a :: vs')) hT'
    have s1 := sameNew (o := .lst xs) wd'.same ha
    have s2 := sameNew (o := .tup (.ref a :: vs')) r1.same hT'
    rw [upd_flip ne.symm]
    exact z (.ref T) _ _ r'.st r'.w (.tup (SqT.of upd_same) (.cons (.lst (s2 _ _ upd_same) (rx.mono (s1.trans s2))) (rr.mono (s1.trans s2))))
end
/-- something new that nothing will look at -/
theorem Rl.junk {K : PySem.W.Frag} {p : Option Addr} {G₀ H₀ G H : Hp} {σ : L2.St} {e : En} {q : Addr} {o : HO} (r : Rl K p G₀ H₀ G H σ e) (hq : H q = none) : Rl K p G₀ H₀ G (L2.upd H q o) σ e := by
  obtain ⟨α, r⟩ := r
  have np : p ≠ some q := fun ep => by
    obtain ⟨_, c, xs, i, t, h2, _⟩ := r.w.pen q ep
    rw [hq] at h2; cases h2
  have n0 : H₀ q = none := by
    cases z : H₀ q with
    | none => rfl
    | some o => have := r.st.hh q o z np; rw [hq] at this; cases this
  have gq : G q = none := r.w.same.free hq
  refine ⟨α, ⟨fun b u z => ?_, fun a ea => ?_⟩, ⟨r.st.gg, fun b u z n => ?_, r.st.nn, fun a c ea h => ?_⟩, r.len, r.dat, fun j es h => ?_, r.sep, r.bo.heap (Same.refl G) fun b ys g1 g2 g3 g4 _ => ⟨by rw [upd_ne (ne_of_none g1 hq)]; exact g1, g2, g3⟩⟩
  · rw [upd_ne (ne_of_none z gq)]; exact r.w.same _ _ z
  · obtain ⟨h1, c, xs, i, t, h2, h3⟩ := r.w.pen a ea
    exact ⟨h1, c, xs, i, t, by rw [upd_ne (ne_of_none h2 hq)]; exact h2, h3⟩
  · rw [upd_ne (ne_of_none z n0)]; exact r.st.hh b u z n
  · obtain ⟨i, t, z⟩ := r.st.pc a c ea h
    exact ⟨i, t, by rw [upd_ne (ne_of_none z hq)]; exact z⟩
  · obtain ⟨ys, q1, q2, q3, q4, q5, q6⟩ := r.own j es h
    exact ⟨ys, q1, by rw [upd_ne (ne_of_none q2 hq)]; exact q2, q3, q4, q5, q6⟩
/-! #### expressions that give an answer -/
abbrev WAn := En → (Ans → En → Prop) → PD → Prop
def MonoAn (w : WAn) : Prop := ∀ e Q Q' x x', (∀ b e, Q b e → Q' b e) → (∀ d e, x d e → x' d e) → w e Q x → w e Q' x'
def PN (K : PySem.W.Frag) (F : Fx) (G : Hp) (σ : L2.St) (Q : VK) : Ans → En → Prop := fun an e' => ∀ G' H', Same G G' → Rl K F.p F.G₀ F.H₀ G' H' σ e' → PAns K F.p Q an G' H'
def tAn (K : PySem.W.Frag) (F : Fx) (w : WAn) : TE := fun σ H Q => ∃ e G, Rl K F.p F.G₀ F.H₀ G H σ e ∧ w e (PN K F G σ Q) (PX K F.p F.G₀ F.H₀ F.W G σ)
structure DAn (X : Cx) (F : Fx) (e : Expr) (w : WAn) : Prop where
  run : PE X e (tAn X.K F w)
  mono : MonoAn w
section
variable {X : Cx} {F : Fx} {pos : Pos} {a : Expr} {es : List Expr} {wr : WAx} {wa : WAn} {wd : WEx}
theorem dan_of {e : Expr} {t : TE} {w : WAn} (h : PE X e t) (m : MonoAn w) (i : ∀ σ H Q, tAn X.K F w σ H Q → t σ H Q) : DAn X F e w := ⟨⟨fun pins s σ H Q I q => h.run pins s σ H Q I (i σ H Q q)⟩, m⟩
/-- a call of a def that gives an answer -/
def wCallA (wf : Wa) (wa : WAx) : WAn := fun e Q x => wa e (fun ds e1 => wf ds e1.k (fun an k' => Q an { e1 with k := k' }) (fun y k' => x y { e1 with k := k' })) x
theorem wCallA.mono {wf : Wa} (mf : wf.Mono) (m : MonoA wr) : MonoAn (wCallA wf wr) := fun e Q Q' x x' h1 h2 q => m e _ _ _ _ (fun ds e1 z => mf ds e1.k _ _ _ _ (fun d k => h1 _ _) (fun d k => h2 _ _) z) h2 q
theorem dan_fn {wf : Wa} {j k : Nat} {ps : List Str} {x : Str} {p : Pos} (d : DefA X.prog X.w X.K X.mg X.base x j ps wf) (mf : wf.Mono) (hgd : X.A.guards = some []) (hr : Room k X.A) (tk : Takes X F.W) (ha : DA X F (a :: es) wr) (hj : j ≤ k := by decide) (hg : Gl X x := by rfl) (hdb : (x == ("__debug__" : Str)) = false := by decide)
    (he : starEach (a :: es) X.env = (false, eval a X.env) :: starEach es X.env := by rfl) (hpl : (backTo pos (starEach es X.env)).any (·.1) = false := by rfl) : DAn X F (.Call (.Name x p) (a :: es) [] pos) (wCallA wf wr) := by
  obtain ⟨f, fd, h1, h2, h3, h4⟩ := d
  refine dan_of (pe_callG h1 hgd (hr.mono hj) hg h2 h3 h4 tk ha.run hdb he hpl) (wCallA.mono mf ha.mono) fun σ H Q ⟨e, G, r0, q⟩ => ?_
  refine tA.mono ha.mono (fun vs H1 z => ?_) (tA.bind ha.mono r0 q)
  obtain ⟨e1, G1, ds, s1, r1, ra, z⟩ := z
  exact ⟨F.p, G1, ds, e1.k, r1.wd, ra, mf ds e1.k _ _ _ _ (fun an k' h G' H' st wd => h G' H' (s1.trans st.gg) (r1.step st wd)) (fun y k' h C G' H' st wd ec => h C G' H' (s1.trans st.gg) (r1.step st wd) ec) z⟩
/-- the first item of such a tuple -/
def wIdx0 (w : WAn) : WAn := fun e Q x => w e (fun an e1 => ∃ ds rest, an = .tup ds rest ∧ Q (.own ds) e1) x
/-- an answer that is a list of its own -/
def wAnF (w : WAn) : WAx := fun e Q x => w e (fun an e1 => ∃ ds, an = .own ds ∧ Q ds e1) x
/-! #### statements -/
/-- x = such an answer: data, or a list of its own -/
def wSetA (i : Nat) (w : WAn) : WSt := fun e D => w e (fun an e1 => match an with
  | .dat d => D.nx (put e1 i (.dat d))
  | .own ds => D.nx (put e1 i (.own ds))
  | .tup _ _ => False) D.ex
theorem ds_setA {i : Nat} {x : Str} {p2 : Pos} (h : DAn X F a wa) (hN : X.N.Nodup) (hi : X.N[i]? = some x := by rfl) (hx : Loc X.env.scope x := by first | exact Or.inl rfl | exact Or.inr rfl) (hs : swapsWith a (some (.Name x p2)) pos.line X.env = pure false := by rfl)
    (hf : X.fn x = true ∨ X.env.scope.names.lookup x = some .local := by first | exact Or.inl rfl | exact Or.inr rfl) : DS X F (.Assign [.Name x p2] a pos) (wSetA i wa) :=
  ds_of (ps_set hN hi hx h.run hs hf) (fun e A B l q => h.mono e _ _ _ _ (fun an e1 z => by
    cases an with
    | dat d => exact l.nx _ z
    | own ds => exact l.nx _ z
    | tup ds rest => exact z) l.ex q) fun D σ H ⟨e, G, r, q⟩ =>
    ⟨e, G, r, h.mono e _ _ _ _ (fun an e1 z G' H' s r' => by
      cases an with
      | dat d => exact fun v rv => z _ G' _ s (r'.put rv)
      | own ds => exact fun q xs hq ra => z _ G' _ s (r'.own hq ra)
      | tup ds rest => exact z.elim) (fun y e' z C G' H' s r' ec => z C σ G' H' s r' ec) q⟩
/-- x, y, .. = such a tuple -/
def wUnA (is : List Nat) (w : WAn) : WSt := fun e D => w e (fun an e1 => match an with
  | .dat d => ∃ ds, d = .tuple ds ∧ ds.length = is.length ∧ D.nx (puts e1 is ds)
  | .own _ => False
  | .tup ds rest => ∃ i js, is = i :: js ∧ rest.length = js.length ∧ D.nx (puts (put e1 i (.own ds)) js rest)) D.ex
theorem ds_unA {is : List Nat} {tgs : List Expr} {k : Nat} {p2 : Pos} (hc : X.calm = true) (h : DAn X F a wa) (hg : DGs X tgs is) (hn : (assignEach tgs X.env).length = is.length := by rfl) (hst : (assignEach tgs X.env).findIdx? (·.1) = none := by rfl)
    (hs : swapsWithSole [.Tuple tgs k p2] a pos.line X.env = pure false := by rfl) (hw : swappedStores [.Tuple tgs k p2] a X.env = pure none := by rfl) (h1 : (assignEach [.Tuple tgs k p2] X.env).map (·.2) = [assign (.Tuple tgs k p2) X.env] := by rfl) : DS X F (.Assign [.Tuple tgs k p2] a pos) (wUnA is wa) :=
  ds_of (ps_asg h.run (pg_tup hc hg.run hn hst) hs hw h1) (fun e A B l q => h.mono e _ _ _ _ (fun an e1 z => by
    cases an with
    | dat d => exact let ⟨ds, e, i, z⟩ := z; ⟨ds, e, i, l.nx _ z⟩
    | own ds => exact z
    | tup ds rest => exact let ⟨i, js, e, j, z⟩ := z; ⟨i, js, e, j, l.nx _ z⟩) l.ex q) fun D σ H ⟨e, G, r, q⟩ =>
    ⟨e, G, r, h.mono e _ _ _ _ (fun an e1 z G' H' s r' => by
      cases an with
      | dat d =>
        obtain ⟨ds, rfl, hl, z⟩ := z
        intro v rv
        obtain ⟨T, xs, rfl, h2, ra⟩ := rv.tup_inv
        exact ⟨T, xs, rfl, sameT r'.same h2, by rw [ra.length]; exact hl, by rw [ra.length]; exact hl, z _ G' _ s (r'.puts ra)⟩
      | own ds => exact z.elim
      | tup ds rest =>
        obtain ⟨i, js, rfl, hl, z⟩ := z
        intro b xs T vs ha ra hT ne rv
        exact ⟨T, .ref b :: vs, rfl, SqT.of (by rw [upd_ne ne.symm, upd_same]), by rw [List.length_cons, List.length_cons, rv.length, hl], by rw [List.length_cons, List.length_cons, rv.length, hl], z _ G' _ s (((r'.junk hT).own (by rw [upd_ne ne]; exact ha) ra).puts rv)⟩) (fun y e' z C G' H' s r' ec => z C σ G' H' s r' ec) q⟩
end
/-! #### blocks that end with the return of an answer -/
abbrev WOa := En → (Ans → En → Prop) → (D → En → Prop) → Prop
def RAn (K : PySem.W.Frag) (F : Fx) (G : Hp) (D : Ends) : Ans → En → Prop := fun an e' => ∀ σ' G' H', Same G G' → Rl K F.p F.G₀ F.H₀ G' H' σ' e' → PAns K F.p D.rt an G' H'
def tAw (K : PySem.W.Frag) (F : Fx) (w : WOa) : TS := fun D σ H => ∃ e G, Rl K F.p F.G₀ F.H₀ G H σ e ∧ w e (RAn K F G D) (endsOf K F G D).ex
structure DSA (X : Cx) (F : Fx) (st : List Stmt) (w : WOa) : Prop where
  run : PSs X st (tAw X.K F w)
  mono : ∀ e Q Q' x x', (∀ ds e, Q ds e → Q' ds e) → (∀ d e, x d e → x' d e) → w e Q x → w e Q' x'
theorem RAn.mono {K : PySem.W.Frag} {F : Fx} {G G' : Hp} {D : Ends} (s : Same G G') : ∀ an e, RAn K F G D an e → RAn K F G' D an e := fun an e h σ' G2 H' s2 => h σ' G2 H' (s.trans s2)
section
variable {X : Cx} {F : Fx} {pos : Pos} {a : Expr} {st : Stmt} {rest : List Stmt} {es : List Expr} {wr : WAx} {wa : WAn} {w1 : WSt} {w2 : WOa}
def wSeqA (w1 : WSt) (w2 : WOa) : WOa := fun e Q x => w1 e ⟨fun e' => w2 e' Q x, fun d e' => Q (.dat d) e', fun _ => False, fun _ => False, x⟩
theorem dsa_cons (h1 : DS X F st w1) (h2 : DSA X F rest w2) : DSA X F (st :: rest) (wSeqA w1 w2) := by
  refine ⟨⟨fun pins s σ H D I q => (pss_cons h1.run h2.run).run pins s σ H D I ?_⟩, fun e Q Q' x x' h3 h4 q => h1.mono e ⟨fun e' => w2 e' Q x, fun d e' => Q (.dat d) e', fun _ => False, fun _ => False, x⟩ ⟨fun e' => w2 e' Q' x', fun d e' => Q' (.dat d) e', fun _ => False, fun _ => False, x'⟩ ⟨fun e' z => h2.mono e' _ _ _ _ h3 h4 z, fun _ _ z => h3 _ _ z, fun _ z => z, fun _ z => z, h4⟩ q⟩
  obtain ⟨e, G, r, q⟩ := q
  refine ⟨e, G, r, h1.mono e ⟨fun e' => w2 e' (RAn X.K F G D) (endsOf X.K F G D).ex, fun d e' => RAn X.K F G D (.dat d) e', fun _ => False, fun _ => False, (endsOf X.K F G D).ex⟩ (endsOf X.K F G { D with nx := tAw X.K F w2 D }) ⟨fun e' z σ' G' H' s' r' => ⟨e', G', r', h2.mono e' _ _ _ _ (RAn.mono s') (fun y e2 z C σ2 G2 H2 s2 => z C σ2 G2 H2 (s'.trans s2)) z⟩, fun d e' z v σ' G' H' s' r' rv => z σ' G' H' s' r' v rv, fun _ z => z.elim, fun _ z => z.elim, fun _ _ z => z⟩ q⟩
/-- return of a name: data, or a list that it alone holds -/
theorem dsa_own {i : Nat} {x : Str} {p : Pos} (h : PE X (.Name x p) (tVar i)) : DSA X F [.Return (some (.Name x p)) pos] (fun e Q _ => ∃ ds, e.s[i]? = some (.own ds) ∧ Q (.own ds) (putUn e i)) := by
  refine ⟨⟨fun pins s σ H D I q => (pss_one (ps_ret h)).run pins s σ H D I ?_⟩, fun e Q Q' x x' h1 _ ⟨ds, h2, q⟩ => ⟨ds, h2, h1 _ _ q⟩⟩
  obtain ⟨e, G, r, ds, h2, q⟩ := q
  obtain ⟨a, xs, h3, h4, h5, r'⟩ := r.out h2
  have z := q σ G (lessA H a) (Same.refl G) r' a xs lessA_at h5
  rw [lessA_upd h4] at z
  exact ⟨.ref a, h3, z⟩
/-- return of a tuple, whose first item is a name that alone holds its list -/
theorem dsa_tup {i k : Nat} {x : Str} {p p2 : Pos} (h : PE X (.Name x p) (tVar i)) (hr : DA X F es wr) (hs : starEach (.Name x p :: es) X.env = (false, eval (.Name x p) X.env) :: starEach es X.env := by rfl) :
    DSA X F [.Return (some (.Tuple (.Name x p :: es) k p2)) pos] (fun e Q y => (∃ ds, e.s[i]? = some (.own ds)) ∧ wr e (fun rs e1 => ∃ ds, e1.s[i]? = some (.own ds) ∧ rs.length ≤ 999 ∧ Q (.tup ds rs) (putUn e1 i)) y) := by
  refine ⟨⟨fun pins s σ H D I q => (pss_one (ps_ret (pe_tup (pa_cons h hr.run hs)))).run pins s σ H D I ?_⟩, fun e Q Q' x x' h1 h2 ⟨h3, q⟩ => ⟨h3, hr.mono e _ _ _ _ (fun rs e1 ⟨ds, i, j, z⟩ => ⟨ds, i, j, h1 _ _ z⟩) h2 q⟩⟩
  obtain ⟨e, G, r, ⟨ds0, hi⟩, q⟩ := q
  obtain ⟨a, xs0, ha, _⟩ := r.out hi
  refine ⟨.ref a, ha, e, G, r, hr.mono e _ _ _ _ (fun rs e1 ⟨ds, i1, l, z⟩ vs G' H' s r' rv => ?_) (fun y e1 z C G' H' s r' ec => z C σ G' H' s r' ec) q⟩
  obtain ⟨b, xs, hb, h4, h5, r2⟩ := r'.out i1
  rw [ha] at hb
  cases hb
  refine ⟨by rw [List.length_cons, rv.length]; exact le_line (by omega), fun T hT => ?_⟩
  have ne : a ≠ T := fun z => by rw [z, hT] at h4; cases h4
  have hT' : lessA H' a T = none := by rw [lessA_ne ne.symm]; exact hT
  have z := z σ G' (lessA H' a) s r2 a xs T vs lessA_at h5 hT' ne rv
  rw [upd_flip ne.symm, lessA_upd h4] at z
  exact z
end
section
variable {P : Program} {w : World} {K :
      PySem.W.Frag} {mg : Str → Option Value} {base : Heap}
theorem fnA {x qual : Str} {st : Stmt} {f : Addr} {fd : FuncData} {N ps : List Str} {k : Nat} {wf : Wa} (F : Fun K x qual st f fd) (S : FnScope N ps (defScope st)) (len : ∀ ds k Q x, wf ds k Q x → ds.length = ps.length)
    (body : ∀ (cdv : Value) (A : Around) (outer : List Env) (s : Shared) (H : Hp) (E : XK) (p : Option Addr) (G : Hp), A.guards = some [] → Room k (A.deeper (envOfC qual (defScope st) s.heap.objs.size f cdv)) →
      ∃ ws, DSA (cxOf (L2.CX P w) P w K mg base N qual (defScope st) f cdv A outer s H E) ⟨p, G, H, fun cls d _ H' => E cls d H'⟩ (defBody st) ws ∧ ∀ ds n Q x, wf ds n Q x → ws (enOf N ds n) (fun es e => Q es e.k) (fun d e => x d e.k)) :
    FnG P w K mg base (k + 1) f fd ps (spA K wf) := by
  refine fnG_of F S (fun vs H Q E ⟨p, G, ds, n, _, ra, q⟩ => by rw [ra.length]; exact len ds n _ _ q) fun cdv A outer s H vs Q E hg hr ⟨p, G, ds, n, wd, ra, q⟩ => ?_
  obtain ⟨ws, h, hq⟩ := body cdv A outer s H E p G hg hr
  refine ⟨_, h.run, enOf N ds n, G, Rl.start wd ra, h.mono _ _ _ _ _ (fun an e' z σ' G' H' _ r => ?_) (fun y e' z C σ' G' H' _ r ec => ?_) (hq ds n _ _ q)⟩
  · obtain ⟨α, r'⟩ := id r
    exact z G' H' r'.st r'.w
  · obtain ⟨α, r'⟩ := id r
    exact z C G' H' r'.st r'.w ec
theorem defA {x : Str} {st : Stmt} {N ps : List Str} {k : Nat} {wf : Wa} (F : FunAt K mg x st ps) (S : FnScope N ps (defScope st)) (len : ∀ ds k Q x, wf ds k Q x → ds.length = ps.length)
    (body : ∀ (f : Addr) (cdv : Value) (A : Around) (outer : List Env) (s : Shared) (H : Hp) (E : XK) (p : Option Addr) (G : Hp), A.guards = some [] → Room k (A.deeper (envOfC x (defScope st) s.heap.objs.size f cdv)) →
      ∃ ws, DSA (cxOf (L2.CX P w) P w K mg base N x (defScope st) f cdv A outer s H E) ⟨p, G, H, fun cls d _ H' => E cls d H'⟩ (defBody st) ws ∧ ∀ ds n Q x, wf ds n Q x → ws (enOf N ds n) (fun es e => Q es e.k) (fun d e => x d e.k)) : DefA P w K mg base x (k + 1) ps wf := by
  obtain ⟨f, fd, h1, h2, h3⟩ := F
  exact ⟨f, fd, fnA h1 S len (body f), h2, h1.kp, h3⟩
end
end L2.DL
set_option
      maxHeartbeats 1000000
namespace L2.DL
open PySem PySem.Spec
      PyProof.Rows
/-! ### what repr gives is data, too -/
def okS (x : Str) : Prop := PyData.strOk x = true
theorem okS.app {a b : Str} (ha : okS a) (hb : okS b) : okS (a ++ b) := by
  unfold okS PyData.strOk at *
  show (a.cps ++ b.cps).all _ = true
  rw [Array.all_append, ha, hb]
  rfl
theorem chr_lt (d : Char) : d.toNat < 0x110000 := by
  have := d.valid
  rcases this with h | h
  · have : d.toNat < 0xd800 := h
    omega
  · exact h.2
theorem okS.mk {l : List Nat} (h : ∀ c ∈ l, c < 0x110000) : okS ⟨l.toArray⟩ := by
  unfold okS PyData.strOk
  rw [Array.all_eq_true_iff_forall_mem]
  intro c hc
  exact decide_eq_true (h c (by simpa using hc))
theorem okS.of (s : String) : okS (s : Str) := by
  show okS (PySem.Str.ofString s)
  rewrite [PySem.Str.ofString_eq_toList s]
  exact .mk fun c hc => by
    obtain ⟨d, _, rfl⟩ := List.mem_map.mp hc
    exact chr_lt d
theorem okS.inv {x : Str} (h : okS x) : ∀ c ∈ x.cps.toList, c < 0x110000 := fun c hc => by
  unfold okS PyData.strOk at h
  rw [Array.all_eq_true_iff_forall_mem] at h
  exact of_decide_eq_true (h c (by simpa using hc))
theorem reprChar_lt {q c : Nat} (hc : c < 0x110000) : ∀ d ∈ PySem.Builtin.Str.reprChar q c, d < 0x110000 := fun d hd => by
  have hx : ∀ w : Nat, ∀ d ∈ List.replicate (w - ((Nat.toDigits 16 c).map Char.toNat).length) 48 ++ (Nat.toDigits 16 c).map Char.toNat, d < 0x110000 := fun w d hd => by
    rcases List.mem_append.mp hd with h | h
    · rw [(List.mem_replicate.mp h).2]
      decide
    · obtain ⟨e, _, rfl⟩ := List.mem_map.mp h
      exact chr_lt e
  have two : ∀ {a b d : Nat}, d ∈ [a, b] → a < 0x110000 → b < 0x110000 → d < 0x110000 := fun h ha hb => by
    rcases List.mem_cons.mp
          h with rfl | h
    · exact ha
    · rw [List.mem_singleton.mp h]; exact hb
  unfold PySem.Builtin.Str.reprChar at hd
  dsimp only at hd
  split at hd
  · exact two hd (by decide) hc
  split at hd
  · exact two hd (by decide) (by decide)
  split at hd
  · exact two hd (by decide) (by decide)
  split at hd
  · exact two hd (by decide) (by decide)
  split at hd
  · rw [List.mem_singleton.mp hd]; exact hc
  split at hd
  · rcases List.mem_append.mp hd with h | h
    · exact two h (by decide) (by decide)
    · exact hx _ _ h
  split at hd
  · rcases List.mem_append.mp hd with h | h
    · exact two h (by decide) (by decide)
    · exact hx _ _ h
  · rcases List.mem_append.mp hd with h | h
    · exact two h (by decide) (by decide)
    · exact hx _ _ h
theorem okS.repr {x : Str} (h : okS x) : okS (reprText x) := by
  have hq : reprQuote x < 0x110000 := by
    unfold reprQuote
    split <;> decide
  have hf : ∀ (l : List Nat) (o : Array Nat), (∀ c ∈ l, c < 0x110000) → (∀ c ∈ o.toList, c < 0x110000) → ∀ c ∈ (l.foldl (fun out c => out ++ (PySem.Builtin.Str.reprChar (reprQuote x) c).toArray) o).toList, c < 0x110000 := by
    intro l
    induction l with
    | nil => exact fun o _ ho => ho
    | cons a l ih =>
      intro o hl ho
      refine ih _ (fun c hc => hl c (List.mem_cons_of_mem _ hc)) fun c hc => ?_
      rw [Array.toList_append] at hc
      rcases List.mem_append.mp
            hc with h | h
      · exact ho c h
      · exact reprChar_lt (hl a List.mem_cons_self) c (by simpa using h)
  unfold okS PyData.strOk reprText
  rw [Array.all_eq_true_iff_forall_mem]
  intro c hc
  refine decide_eq_true ?_
  rcases Array.mem_push.mp hc with h1 | h1
  · refine hf x.cps.toList #[reprQuote x] h.inv (fun c hc => ?_) c ?_
    · simp at hc
      rw [hc]
      exact hq
    · rw [Array.foldl_toList]
      exact Array.mem_toList_iff.mpr h1
  · rw [h1]
    exact hq
theorem okS.join : ∀ {ts : List Str}, (∀ t ∈ ts, okS t) → okS (PySem.Str.join ", " ts)
  | [], _ => by
    show okS PySem.Str.empty
    unfold okS
    decide +kernel
  | [x], h => h x List.mem_cons_self
  | x :: y :: r, h => ((h x List.mem_cons_self).app (.of ", ")).app (okS.join fun t ht => h t (List.mem_cons_of_mem _ ht))
theorem okS.textFrom : ∀ (ts : List Str) (k : Nat) (acc : Str), okS acc → (∀ t ∈ ts, okS t) → okS (PySem.textFrom k acc ts)
  | [], _, _, ha, _ => ha
  | t :: ts, k, acc, ha, h => by
    show okS (PySem.textFrom (k + 1) (acc ++ ((if k > 0 then ", " else "" : String) : Str) ++ t) ts)
    exact okS.textFrom ts (k + 1) _ ((ha.app (.of _)).app (h t List.mem_cons_self)) fun u hu => h u (List.mem_cons_of_mem _ hu)
mutual
theorem fine.okS : ∀ d : D, fine d = true → okS d.shown
  | .none, _ => by simp only [PyData.shown]; exact .of _
  | .bool b, _ => by simp only [PyData.shown]; split <;> exact .of _
  | .int i, _ => by simp only [PyData.shown]; exact .of _
  | .str x, h => by
    simp only [PyData.shown]
    exact okS.repr (by unfold fine at h; exact h)
  | .list xs, h => by
    simp only [PyData.shown]
    unfold listText
    exact (okS.textFrom _ 0 _ (.of _) (fineAll.okS xs (by simpa only [fine] using h))).app (.of _)
  | .tuple xs, h => by
    simp only [PyData.shown]
    unfold tupleText
    exact ((okS.of _).app (okS.join (fineAll.okS xs (by simpa only [fine] using h)))).app (by split <;> exact .of _)
  | .dict _, h => by simp [fine] at h
theorem fineAll.okS : ∀ ds : List D, fineAll ds = true → ∀ t ∈ PyData.shownAll ds, okS t
  | [], _, t, ht => by simp only [PyData.shownAll] at ht; cases ht
  | d :: ds, h, t, ht => by
    unfold fineAll at h
    rw [Bool.and_eq_true] at h
    simp only [PyData.shownAll] at ht
    rcases List.mem_cons.mp ht with rfl | ht
    · exact fine.okS d h.1
    · exact fineAll.okS ds h.2 t ht
end
/-- the text that repr gives is data -/
theorem Ok.shown {n m : Nat} {d : D} (h : Ok n m d) : Ok (20 * n + 1) 0 (.str d.shown) := by
  refine ⟨?_, ?_, by simp [PyData.depth]⟩
  · unfold fine
    exact fine.okS d h.f
  · have a := fine.len d h.f
    have b := h.w
    simp only [wt]
    omega
end L2.DL
set_option
      maxHeartbeats 1000000
namespace L2.DL
open PySem PySem.Spec
      PyProof.Rows
/-! ### the law's body behind its pen -/
/-- what the law's body must come to: it returns True -/
abbrev lawE : DEnds := ⟨fun _ => False, fun d _ => d = .bool true, fun _ => False, fun _ => False, fun _ _ => False⟩
theorem pss_law {X : Cx} {W : WX} {sts : List Stmt} {ws : WSt} (h : ∀ q G H, DSs X ⟨some q, G, H, W⟩ sts ws) :
    PSs X sts (fun D σ H => ∃ q G' H' e, Rl X.K (some q) G' H' G' H σ e ∧ (∀ H1, D.rt (.bl true) H1) ∧ ws e lawE) :=
  ⟨fun pins s σ H D I ⟨q, G', H', e, r, hq, z⟩ => (h q G' H').run.run pins s σ H D I ⟨e, G', r, (h q G' H').mono e lawE _ ⟨fun _ z => z.elim, fun d e1 z v σ' G2 H2 _ _ rv => by
    subst z
    cases rv.bl_inv
    exact hq _, fun _ z => z.elim, fun _ z => z.elim, fun _ _ z => z.elim⟩ z⟩⟩
theorem rl_pen {K : PySem.W.Frag} {q : Addr} {k n : Nat} {G H : Hp} {σ : L2.St} (wd : Wd K (some q) k G H) (hl : σ.length = n + 2) (hs : σ[1]? = some (some (.ref q))) : Rl K (some q) G H G H σ ⟨.un :: .dat penD :: List.replicate n .un, k⟩ := by
  have no : ∀ (i : Nat) (z : Slot), (Slot.un :: .dat penD :: List.replicate n .un)[i]? = some z → z ≠ .un → i = 1 ∧ z = .dat penD := fun i z h hz => by
    match i, h with
    | 0, h => cases h; exact absurd rfl hz
    | 1, h => cases h; exact ⟨rfl, rfl⟩
    | i + 2, h =>
      have m := List.mem_of_getElem? (show (List.replicate n Slot.un)[i]? = some z from h)
      rw [List.mem_replicate] at m
      exact absurd m.2 hz
  refine ⟨fun _ => 0, wd, Stp.refl, by simp [hl], fun i d h => ?_, fun i ds h => ?_, fun i j ds es h => ?_, Bo.none fun i z h => by
    by_cases hz : z = .un
    · subst hz; exact ⟨rfl, rfl⟩
    · obtain ⟨_, e⟩ := no i z h hz
      subst e; exact ⟨rfl, rfl⟩⟩
  · obtain ⟨rfl, e⟩ := no i _ h (fun z => nomatch z)
    cases e
    exact ⟨_, hs, .pen rfl rfl⟩
  · obtain ⟨_, e⟩ := no i _ h (fun z => nomatch z)
    cases e
  · obtain ⟨_, e⟩ := no i _ h (fun z => nomatch z)
    cases e
end L2.DL
set_option
      maxHeartbeats 2000000
namespace L2.DL
open PySem PySem.Spec
      PyProof.Rows
/-! ### objects that do not change once they are made, as data -/
section
variable {K : PySem.W.Frag} {p : Option Addr} {G : Hp}
theorem RF.zip : ∀ {ns : List Str} {vs : List V} {ds : List D}, RA K p G vs ds → RF K p G (ns.zip vs) (ns.zip ds)
  | [], _, _, _ => .nil
  | _ :: _, _, _, .nil => .nil
  | n :: ns, _, _, .cons r t => .cons r (RF.zip t)
end
/-! #### reading a field -/
def wFld (K : PySem.W.Frag) (f : Str) (w : WEx) : WEx := fun e Q x => w e (fun d e1 => ∃ C fs v, d = objD C fs ∧ L2.Cls K C ∧ NoAttr K C f ∧ fs.lookup f = some v ∧ Q v e1) x
section
variable {X : Cx} {F : Fx} {pos : Pos} {a : Expr} {es : List Expr} {wa : WEx} {wr : WAx}
def wFldO (C : Addr) (f : Str) (w : WEx) : WEx := fun e Q x => w e (fun d e1 => ∃ fs v, d = objD C fs ∧ fs.lookup f = some v ∧ Q v e1) x
/-! #### making an object -/
def wMake (C : Addr) (ns : List Str) (w : WAx) : WEx := fun e Q x => w e (fun ds e1 => ds.length = ns.length ∧ Q (objD C (ns.zip ds)) e1) x
end
end L2.DL
set_option
      maxHeartbeats 2000000
namespace L2.DL
open PySem PySem.Spec
      PyProof.Rows
/-! ### list(range(n)) -/
def wLRg (w : WEx) : WEx := fun e Q x => w e (fun d e1 => ∃ j : Nat, d = .int j ∧ j ≤ 1000 ∧ Q (.list (rngD 0 j)) e1) x
/-! ### loops by the number of the turn -/
end L2.DL
set_option
      maxHeartbeats 2000000
namespace L2.DL
open PySem PySem.Spec
      PyProof.Rows
/-! ### several things one after another, each is data or a list of ours; several targets -/
inductive Itm where
  | d (x : PyData)
  | o (ds : List PyData)
/-- the lists of ours float: nothing speaks of them but what follows -/
def Fl (K : PySem.W.Frag) (p : Option Addr) (G₀ G H : Hp) (σ : L2.St) (e : En) : Hp → List Itm → List V → Prop
  | H₀, [], [] => Rl K p G₀ H₀ G H σ e
  | H₀, .d x :: is, v :: vs => R K p G v x ∧ Fl K p G₀ G H σ e H₀ is vs
  | H₀, .o ds :: is, v :: vs => ∃ q xs, v = .ref q ∧ H₀ q = none ∧ G₀ q = none ∧ p ≠ some q ∧ RA K p G xs ds ∧ Fl K p G₀ G H σ e (L2.upd H₀ q (.lst xs)) is vs
  | _, _, _ => False
def putsI : En → List Nat → List Itm → En
  | e, i :: is, .d x :: ds => putsI (put e i (.dat x)) is ds
  | e, i :: is, .o x :: ds => putsI (put e i (.own x)) is ds
  | e, _, _ => e
section
variable {K : PySem.W.Frag} {p : Option Addr} {G₀ H₀ G H : Hp} {σ : L2.St} {e : En}
theorem Fl.length : ∀ {its : List Itm} {vs : List V} {H₀ : Hp}, Fl K p G₀ G H σ e H₀ its vs → vs.length = its.length
  | [], [], _, _ => rfl
  | .d _ :: is, _ :: vs, _, h => congrArg Nat.succ (Fl.length h.2)
  | .o _ :: is, _ :: vs, _, ⟨_, _, _, _, _, _, _, h⟩ => congrArg Nat.succ (Fl.length h)
  | [], _ :: _, _, h => h.elim
  | .d _ :: _, [], _, h => h.elim
  | .o _ :: _, [], _, h => h.elim
end
abbrev WMs := En → (List Itm → En → Prop) → PD → Prop
def wmD (w : WEx) (wr : WMs) : WMs := fun e Q x => w e (fun d e1 => wr e1 (fun its e2 => Q (.d d :: its) e2) x) x
def wmO (w : WAx) (wr : WMs) : WMs := fun e Q x => w e (fun ds e1 => wr e1 (fun its e2 => Q (.o ds :: its) e2) noX) x
section
variable {K : PySem.W.Frag} {F : Fx} {σ : L2.St} {H : Hp} {X : Cx} {pos : Pos} {a b : Expr} {es : List Expr} {wa wb : WEx} {wr : WAx} {wm : WMs}
def wMul (is : List Nat) (w : WMs) : WSt := fun e D => w e (fun its e1 => its.length = is.length ∧ is.length ≤ 1000 ∧ D.nx (putsI e1 is its)) D.ex
/-- x += n -/
def wAug (i : Nat) (w : WEx) : WSt := fun e D => (∃ d, e.s[i]? = some (.dat d)) ∧ w e (fun d e1 => ∃ m n : Int, e.s[i]? = some (.dat (.int m)) ∧ d = .int n ∧ D.nx (put e1 i (.dat (.int (m + n))))) D.ex
end
end L2.DL
set_option
      maxHeartbeats 2000000
namespace L2.DL
open PySem PySem.Spec
      PyProof.Rows
/-! ### try: body, except C as n: return isinstance(n, D) -/
def wTryIs (K : PySem.W.Frag) (CR cv : Value) (i : Nat) (wb : WSt) : WSt := fun e D => wb e { D with ex := fun y e' => ∃ C b, y = excD C ∧ PySem.W.exmOne K (.ref C) CR = some true ∧ ExcC K C ∧ PySem.W.kitOne K (.ref C) cv = some b ∧ i < e'.s.length ∧ D.rt (.bool b) e' }
end L2.DL
set_option
      maxHeartbeats 2000000
namespace L2.DL
open PySem PySem.Spec
      PyProof.Rows
/-! ### int of a truth -/
def intBD : BL
  | [.bool b], P => P (.int (if b then 1 else 0))
  | _, _ => False
theorem intBD.mono : BL.Mono intBD := by
  intro a P P' h q
  unfold intBD at q ⊢
  split at q <;> first | exact h _ q | exact q.elim
/-! ### no times a tuple -/
/-- times, zero allowed -/
def mulZ : B2
  | .tuple xs, .int k, P => xs ≠ [] ∧ 0 ≤ k ∧ k ≤ 1000 ∧ xs.length ≤ 1000 ∧ P (.tuple (List.replicate k.toNat xs).flatten)
  | _, _, _ => False
theorem mulZ.mono : B2.Mono mulZ := by
  intro a b P P' h q
  unfold mulZ at q ⊢
  split at q
  · exact ⟨q.1, q.2.1, q.2.2.1, q.2.2.2.1, h _ q.2.2.2.2⟩
  · exact q.elim
end L2.DL
set_option
      maxHeartbeats 2000000
namespace CmbKit
open PySem PySem.Spec
open Sem (wp)
theorem sub_self : isSubtype (.type "itertools.combinations") (.type "itertools.combinations") = pure true := by rw [isSubtype_type]; kernel_rfl
theorem sub_cmb : isSubtype (.type "itertools.combinations") (.type "itertools.combinations") = pure true := by rw [isSubtype_type]; kernel_rfl
theorem slot_cmb_next : Slot "itertools.combinations" "__next__" "itertools.combinations.__next__" :=
  .of (owner := "itertools.combinations") (n := "__next__") (by rw [typeLookup_type, builtinLookup_eq_fast]; kernel_rfl) (by decide +kernel) (by decide +kernel) (by decide +kernel)
    (by first | exact .inl (by decide +kernel) | exact .inr (by decide +kernel)) sub_cmb
theorem entry_cmb_next : entryFor table "itertools.combinations.__next__" = some Builtin.«itertools.combinations.__next__» := entryFor_of_tree (by kernel_rfl)
theorem owner_cmb : Manifest.owners.lookup (String.ofList ['s', 'n', 'o', 'i', 't', 'a', 'n', 'i', 'b', 'm', 'o', 'c', '.', 's', 'l', 'o', 'o', 't', 'r', 'e', 't', 'i'].reverse) = some Manifest.sig_itertools_combinations := by kernel_rfl
theorem args_cmb_next (a : Value) : argsOk "itertools.combinations.__next__" ⟨[a], []⟩ := by
  unfold argsOk; rw [signature?_of (id := "itertools.combinations.__next__") (n := ['_', '_', 't', 'x', 'e', 'n', '_', '_']) (o := ['s', 'n', 'o', 'i', 't', 'a', 'n', 'i', 'b', 'm', 'o', 'c', '.', 's', 'l', 'o', 'o', 't', 'r', 'e', 't', 'i']) (by kernel_rfl) owner_cmb]; kernel_rfl
/-- the walk's record -/
abbrev IsCmb (h : Heap) (it pool : Addr) (st : Int) (last : Value) (ix : List Nat) : Prop := h.get? it = some { cls := .type "itertools.combinations", dict := none, data := .fields (Value.ref pool :: .int st 0 :: last :: ix.map fun (n : Nat) => Value.int n 0).toArray, slots := #[] }
abbrev IsPool (h : Heap) (pool : Addr) (xs : Array Value) : Prop := h.get? pool = some { cls := .type "tuple", dict := none, data := .seq xs, slots := #[] }
/-- the indices behind these -/
def nextC (n : Nat) (indices : List Nat) : Option (List Nat) :=
  match (List.range indices.length).reverse.find? fun i => indices.getD i 0 != i + n - indices.length with
  | none => none
  | some i => some (indices.take i ++ (List.range (indices.length - i)).map (indices.getD i 0 + 1 + ·))
section
variable {prog : Program} {w : World} {A :
      Around} {E : Value → Shared → Prop} {s : Shared}
theorem numbers_cmb {it pool : Addr} {st : Int} {last : Value} {ix : List Nat} {Q : List Nat → Shared → Prop} (hit : IsCmb s.heap it pool st last ix) (h : Q ix s) : wpAny (model prog w) A (Builtin.Itertools.itNumbersFrom (.ref it) 3) Q E s := by
  unfold Builtin.Itertools.itNumbersFrom
  refine wpAny_bind (wpAny_load hit ?_)
  refine wpAny_of_eq (a := ix) ?_ h
  simp only [List.drop_succ_cons, List.drop_zero, List.map_map]
  refine congrArg pure ?_
  refine (List.map_congr_left (g := id) fun n _ => ?_).trans (List.map_id ix)
  rfl
theorem stop_cmb {Q : PySem.Fin → Shared → Prop} (hh : A.handled = none) {it : Addr} {h₀ : Heap} (x : Heap.ExtBut it h₀ s.heap) (hQ : ∀ e h', CpRep.StopE e h' → Heap.ExtBut it h₀ h' → E e { s with heap := h' }) : wpAny (model prog w) A (Builtin.Itertools.itStop (α := PySem.Fin)) Q E s := by
  unfold Builtin.Itertools.itStop
  refine wpAny_bind ?_
  simp only [newExc, newTuple]
  refine wpAny_bind (wpAny_newObj_type
        ?_ (by size_fits))
  refine wpAny_bind (m := firstArgMember _ _) (wpAny_of_eq (a :=
        Value.none) (by first | rfl | (simp only [firstArgMember]; rfl)) ?_)
  refine wpAny_newObj_type
        ?_ (by size_fits)
  simp only [raiseNew]
  refine wpAny_bind
        (wpAny_handled ?_)
  rw [hh]
  refine wpAny_bind
        (wpAny_pure (wpAny_throw ?_))
  exact hQ _ _ ⟨_, _, _, rfl, Heap.get?_push_size _ rfl, rfl, rfl, rfl⟩ ((x.push _).push _)
theorem cmb_end {it pool : Addr} {last : Value} {ix : List Nat} {xs : Array Value} {Q : Option Value → Shared → Prop} (hh : A.handled = none) (hit : IsCmb s.heap it pool 1 last ix) (hp : IsPool s.heap pool xs) (hn : nextC xs.size ix = none)
    (hQ : ∀ e h', CpRep.StopE e h' → Heap.ExtBut it s.heap h' → E e { s with heap := h' }) : wpAny (model prog w) A (callSpecial? (.ref it) "__next__") Q E s := by
  have hT : s.TypeIs (.ref it) "itertools.combinations" := ⟨_, hit, rfl⟩
  refine wpAny_callSpecial?_slot (name := Str.ofString "__next__") hT slot_cmb_next (wpAny_call_entry slot_cmb_next hT entry_cmb_next ?_ (args_cmb_next _))
  show wpAny _ _ (field
        (.ref it) 0 >>= _) _ _ s
  refine wpAny_bind (wpAny_field hit rfl (x := .ref pool) (by simp) ?_)
  refine wpAny_bind (numbers_cmb hit ?_)
  show wpAny _ _ (Builtin.Itertools.itIntField (.ref it) 1 >>= _) _ _ s
  unfold Builtin.Itertools.itIntField
  refine wpAny_bind ?_
  refine wpAny_bind (wpAny_field hit rfl (x := .int 1 0) (by simp) (wpAny_pure ?_))
  show wpAny _ _ (Builtin.Itertools.itPoolItems (.ref pool) >>= _) _ _ s
  refine wpAny_bind ?_
  unfold Builtin.Itertools.itPoolItems
  refine wpAny_bind (wpAny_seqItems hp rfl (wpAny_pure ?_))
  show wpAny _ _ (match nextC xs.size ix with
    | some next => (Builtin.Itertools.itSetNumbersFrom (.ref it) 3 next >>= fun _ => (((Builtin.Itertools.itPoolItems (.ref pool)) >>= fun items => newTuple (next.map fun i => items.getD i .none)) >>= fun result => field (.ref it) 2 >>= fun before => setField (.ref it) 2 result >>= fun _ => letGo [before] [result] >>= fun _ => ret result))
    | none => (setField (.ref it) 1 (rawInt 2) >>= fun _ => Builtin.Itertools.itStop)) _ _ _
  rw [hn]
  dsimp only
  refine wpAny_bind (wpAny_setField
        hit rfl (by simp) ?_)
  exact stop_cmb (by first | exact hh | (show A.in1.handled = none; exact hh)) (Heap.SameBut.update ..).extBut hQ
end
end CmbKit
set_option
      maxHeartbeats 4000000
namespace CmbKit
open PySem PySem.Spec
      PyProof.Rows L2
open Sem (wp)
section
variable {prog : Program} {w : World} {A :
      Around} {E : Value → Shared → Prop} {s : Shared}
/-! the next one, the end -/
theorem next_end {it pool : Addr} {last : Value} {ix : List Nat} {xs : Array Value} {Q : Option Value → Shared → Prop} (hh : A.handled = none) (hit : IsCmb s.heap it pool 1 last ix) (hp : IsPool s.heap pool xs) (hn : nextC xs.size ix = none)
    (hQ : ∀ h', Heap.ExtBut it s.heap h' → Q none { s with heap :=
          h' }) : wpAny (model prog w) A (pyNext (.ref it)) Q E s := by
  unfold pyNext
  refine wpAny_bind (wpAny_attempt (cmb_end hh hit hp hn fun e h' st eb => ?_))
  obtain ⟨a, o, vs, rfl, ho, hc, hd, _⟩ := st
  refine wpAny_bind (wpAny_isInstance (T := "StopIteration") (b := true) ⟨_, ho, hc⟩ isSubtype_stop ?_)
  exact wpAny_pure (hQ _ eb)
end
end CmbKit
set_option
      maxHeartbeats 4000000
namespace L2
open PySem PySem.Spec PyProof.Rows CmbKit
end L2
set_option
      maxHeartbeats 4000000
namespace L2
open PySem PySem.Spec PyProof.Rows CmbKit
end L2
set_option
      maxHeartbeats 4000000
namespace L2.DL
open PySem PySem.Spec PyProof.Rows CmbKit
/-! ### for x in combinations(range(n), k) -/
def cmbFrom (n : Nat) : Nat → List Nat → List (List Nat)
  | 0, _ => []
  | f + 1, ix => ix :: match nextC n ix with
    | none => []
    | some j => cmbFrom n f j
def cmbs (n r : Nat) : List (List Nat) := cmbFrom n 130 (List.range r)
def cmD (ix : List Nat) : D := .tuple (ix.map fun (i : Nat) => PyData.int (i : Int))
def wCmb (wa wb : WEx) : WAx := fun e Q x => wa e (fun d e1 => ∃ n : Nat, d = .int (n : Int) ∧ n ≤ 8 ∧ wb e1 (fun d' e2 => ∃ k : Nat, d' = .int (k : Int) ∧ k ≤ n ∧ Q ((cmbs n k).map cmD) e2) x) x
section
variable {X : Cx} {F : Fx} {tg a b : Expr} {wa wb : WEx}
theorem wCmb.mono (m : Mono wa) (m' : Mono wb) : MonoA (wCmb wa wb) := fun e Q Q' x x' h1 h2 q => m e _ _ _ _ (fun d e1 ⟨n, i1, i2, z⟩ => ⟨n, i1, i2, m' e1 _ _ _ _ (fun d' e2 ⟨k, j1, j2, z⟩ => ⟨k, j1, j2, h1 _ _ z⟩) h2 z⟩) h2 q
end
/-! ### any(list of bools) -/
def anyD : BL
  | [.list xs], P => ∃ bs : List Bool, xs = bs.map PyData.bool ∧ P (.bool (bs.any id))
  | _, _ => False
theorem anyD.mono : BL.Mono anyD := by
  intro a P P' h q
  unfold anyD at q ⊢
  split at q
  · obtain ⟨bs, e, z⟩ := q; exact ⟨bs, e, h _ z⟩
  · exact q.elim
/-! ### tuple(range(n)) -/
end L2.DL
namespace L2.DL
open PySem PySem.Spec
      PyProof.Rows
/-! ### sorted(xs), xs a list of data that are alike -/
abbrev srtD (ds : List D) : List D := ds.mergeSort (PySem.W.dataLe false id)
/-- what is alike to itself and to the others -/
def sortData : BL
  | [.list ds], P => Good (.list ds) ∧ PySem.W.AllAlike ds ∧ PySem.W.Sortable ds ∧ P (.list (srtD ds))
  | _, _ => False
theorem sortData.mono : BL.Mono sortData := by
  intro a P P' h q
  unfold sortData at q ⊢
  split at q
  · obtain ⟨g, e, f, z⟩ := q
    exact ⟨g, e, f, h _ z⟩
  · exact q.elim
/-! ### max(t), min(t), t a tuple or a list of ints -/
def mostD (f : Int → List Int → Int) : BL
  | [d], P => ∃ (n : Int) (ns : List Int), items d = some ((n :: ns).map PyData.int) ∧ P (.int (f n ns))
  | _, _ => False
theorem mostD.mono {f : Int → List Int → Int} : BL.Mono (mostD f) := by
  intro a P P' h q
  unfold mostD at q ⊢
  split at q
  · obtain ⟨n, ns, e, z⟩ := q
    exact ⟨n, ns, e, h _ z⟩
  · exact q.elim
end L2.DL
namespace L2.DL
open PySem PySem.Spec
      PyProof.Rows
/-! ### data without truths: equal are the same -/
/-! ### x or y, x None or a list or a tuple -/
def truD : D → Option Bool
  | .none => some false
  | .bool b => some b
  | .list xs => some (!xs.isEmpty)
  | .tuple xs => some (!xs.isEmpty)
  | _ => none
def wOrD (wa wb : WEx) : WEx := fun e Q x => wa e (fun d e1 => ∃ c, truD d = some c ∧ if c = true then Q d e1 else wb e1 Q x) x
section
variable {X : Cx} {F : Fx} {pos : Pos} {a b : Expr} {rest : List Expr} {wa wb : WEx}
theorem wOrD.mono (ma : Mono wa) (mb : Mono wb) : Mono (wOrD wa wb) := fun e Q Q' x x' h1 h2 q => ma e _ _ _ _ (fun d e1 ⟨c, ec, z⟩ => ⟨c, ec, by
  cases c with
  | true => exact h1 _ _ z
  | false => exact mb e1 _ _ _ _ h1 h2 z⟩) h2 q
end
end L2.DL
namespace ZipList
open PySem PySem.Spec
open Sem (wp)
/-- a zip whose last tuple is still held -/
abbrev ZipAt (h : Heap) (z TI TO : Addr) (f : Value) (b : Bool) : Prop := h.get? z = some { cls := .type "zip", data := .fields #[f, .bool b, .bool false, .ref TI, .ref TO] }
section
variable {prog : Program} {w : World} {A : Around} {E : Value → Shared → Prop} {s : Shared} {z TI TO i1 i2 T : Addr} {fp1 fp2 : List Addr} {n1 n2 i : Nat} {P1 P2 : Nat → Value → Prop} {St1 St2 : Nat → Heap → Prop} {b : Bool}
theorem next_item {Q : Value → Shared → Prop} (S : ZipSep2 z TI TO i1 i2 fp1 fp2) (D1 : Draws prog w A i1 fp1 n1 P1 St1) (D2 : Draws prog w A i2 fp2 n2 P2 St2)
    (hz : ZipAt s.heap z TI TO (rawInt T) b) (hTI : IsTupOf2 s.heap TI (.ref i1) (.ref i2)) (hT : ∃ o, s.heap.get? T = some o) (st1 : St1 i s.heap) (st2 : St2 i s.heap) (hlt1 : i < n1) (hlt2 : i < n2)
    (hQ : ∀ x1 x2 h' tk, P1 i x1 → P2 i x2 → ZipAt h' z TI TO (rawInt T) true → St1 (i + 1) h' → St2 (i + 1) h' → IsTupOf2 h' s.heap.objs.size x1 x2 →
      (∀ c o, c ≠ z → c ≠ i1 → c ≠ i2 → s.heap.get? c = some o → h'.get? c = some o) → Q (.ref s.heap.objs.size) { s with heap := h', toks := tk }) :
    wpAny (model prog w) A (Builtin.«zip.__next__» ⟨[.ref z],
          []⟩) (fun fin s' => ∃ v, fin = .done (.ret v) ∧ Q v s') E s := by
  obtain ⟨hp, g,
        d, tk0, os⟩ := s
  obtain ⟨oT, hT⟩ := hT
  show wpAny _ _ (field
        (.ref z) 2 >>= _) _ _ _
  refine wpAny_bind (wpAny_field hz rfl (x :=
        .bool false) rfl ?_)
  show wpAny _ _ (field
        (.ref z) 3 >>= _) _ _ _
  refine wpAny_bind (wpAny_field hz rfl (x :=
        .ref TI) rfl ?_)
  refine wpAny_bind
        (wpAny_seqItems hTI rfl ?_)
  show wpAny _ _ (Builtin.SmallTypes.ownedTupleIsFree
        (.ref z) >>= _) _ _ _
  refine wpAny_bind ?_
  unfold Builtin.SmallTypes.ownedTupleIsFree
  refine wpAny_bind (wpAny_field hz rfl (x :=
        rawInt T) rfl ?_)
  show wpAny _ _ (loadIfAlive (Int.toNat (T : Int)) >>= _) _ _ _
  rw [Int.toNat_natCast]
  refine wpAny_bind (PySem.W.kdx_alive hT ?_)
  show wpAny _ _ (field (.ref z) 1 >>= _) _ _ _
  refine wpAny_bind (wpAny_field hz rfl (x := .bool b) rfl ?_)
  cases b
  case' true =>
    show wpAny _ _ (pure false) _ _ _
    obtain ⟨g0, e0⟩ : ∃ g0, g0 = hp := ⟨hp, rfl⟩
    have hz0 : ZipAt g0 z TI TO (rawInt T) true := by rw [e0]; exact hz
    have hs0 : Heap.SameBut z hp g0 := by rw [e0]; exact Heap.SameBut.refl _ _
    rw [← e0]
    refine wpAny_pure ?_
  case' false =>
    show wpAny _ _ (setField (.ref z) 1 (.bool true) >>= _) _ _ _
    refine wpAny_bind (wpAny_setField_rec hz (by simp) fun g0 hz0 hs0 =>
          ?_)
    replace hz0 : ZipAt g0 z TI TO (rawInt T) true := hz0
    replace hs0 : Heap.SameBut z hp g0 :=
          hs0
    refine wpAny_pure ?_
  all_goals
    dsimp only
    rw [if_neg (by decide)]
    rw [← Array.forIn_toList]
    simp only [List.forIn_cons,
          List.forIn_nil]
    refine wpAny_bind (wpAny_bind (wpAny_bind (wpAny_holding ?_)))
    show wpAny _ _ (Builtin.SmallTypes.nextOf (.ref i1) >>= _) _ _ ⟨g0,
          g, d, tk0, os⟩
    refine wpAny_bind (D1.item i _ _ _ hlt1 (D1.over st1 hs0 S.zf1) fun x1 p1 tk1 hx1 sn1 hp1 =>
          wpAny_pure ?_)
    replace hp1 : Heap.SameBut i1 g0 p1 :=
          hp1
    refine wpAny_pure ?_
    dsimp only
    refine wpAny_bind (wpAny_bind
          (wpAny_holding ?_))
    show wpAny _ _ (Builtin.SmallTypes.nextOf (.ref i2) >>= _) _ _ ⟨p1, g, d, tk1, os⟩
    refine wpAny_bind (D2.item i _ _ _ hlt2 (D2.over (D2.over st2 hs0 S.zf2) hp1 S.sep1_2) fun x2 p2 tk2 hx2 sn2 hp2 => wpAny_pure ?_)
    replace hp2 : Heap.SameBut i2 p1 p2 := hp2
    refine wpAny_pure ?_
    dsimp only
    refine wpAny_pure ?_
    dsimp only
    refine wpAny_bind (wpAny_newTuple ?_ (by show 2 ≤ sizeLine; rw [sizeLine_eq]; decide))
    have hsz : p2.objs.size = hp.objs.size := by rw [hp2.1, hp1.1, hs0.1]
    have hzz : ZipAt p2 z TI TO (rawInt T) true := hp2.extBut _ _ S.zi2 (hp1.extBut _ _ S.zi1 hz0)
    have hj1 : St1 (i + 1) p2 := D1.over sn1 hp2 S.sep2_1
    refine wpAny_pure ⟨_,
          rfl, ?_⟩
    show Q (.ref p2.objs.size) ⟨p2.push { cls := .type "tuple", data := .seq #[x1, x2] }, g, d, tk2, os⟩
    rw [hsz]
    have new : IsTupOf2 (p2.push { cls := .type "tuple", data := .seq #[x1, x2] }) p2.objs.size x1 x2 := Heap.get?_push_size _ rfl
    rw [hsz] at new
    exact hQ x1 x2 _ tk2 hx1 hx2 (Heap.get?_push_of_some _ hzz) (D1.frame _ _ _ hj1 fun c _ o e => Heap.get?_push_of_some _ e) (D2.frame _ _ _ sn2 fun c _ o e => Heap.get?_push_of_some _ e) new fun c o cz c1 c2 e =>
      Heap.get?_push_of_some _ (hp2.extBut _ _ c2 (hp1.extBut _ _ c1 (hs0.extBut _ _ cz e)))
theorem next_end {Q : Fin → Shared → Prop} (S : ZipSep2 z TI TO i1 i2 fp1 fp2) (D1 : Draws prog w A i1 fp1 n1 P1 St1) (D2 : Draws prog w A i2 fp2 n2 P2 St2)
    (hz : ZipAt s.heap z TI TO (rawInt T) b) (hTI : IsTupOf2 s.heap TI (.ref i1) (.ref i2)) (hT : ∃ o, s.heap.get? T = some o) (st1 : St1 i s.heap) (st2 : St2 i s.heap) (hle1 : i ≤ n1) (hle2 : i ≤ n2) (hend : i = n1 ∨ i = n2)
    (hE : ∀ h' tk e, (∀ c o, c ≠ z → c ≠ i1 → c ≠ i2 → s.heap.get? c = some o → h'.get? c = some o) → (∃ o, h'.get? e = some o ∧ o.cls = .type "StopIteration") → E (.ref e) { s with heap := h', toks := tk }) :
    wpAny (model prog w) A (Builtin.«zip.__next__» ⟨[.ref z],
          []⟩) Q E s := by
  obtain ⟨hp, g,
        d, tk0, os⟩ := s
  obtain ⟨oT, hT⟩ := hT
  show wpAny _ _ (field
        (.ref z) 2 >>= _) _ _ _
  refine wpAny_bind (wpAny_field hz rfl (x :=
        .bool false) rfl ?_)
  show wpAny _ _ (field
        (.ref z) 3 >>= _) _ _ _
  refine wpAny_bind (wpAny_field hz rfl (x :=
        .ref TI) rfl ?_)
  refine wpAny_bind
        (wpAny_seqItems hTI rfl ?_)
  show wpAny _ _ (Builtin.SmallTypes.ownedTupleIsFree
        (.ref z) >>= _) _ _ _
  refine wpAny_bind ?_
  unfold Builtin.SmallTypes.ownedTupleIsFree
  refine wpAny_bind (wpAny_field hz rfl (x :=
        rawInt T) rfl ?_)
  show wpAny _ _ (loadIfAlive (Int.toNat (T : Int)) >>= _) _ _ _
  rw [Int.toNat_natCast]
  refine wpAny_bind (PySem.W.kdx_alive hT ?_)
  show wpAny _ _ (field (.ref z) 1 >>= _) _ _ _
  refine wpAny_bind (wpAny_field hz rfl (x := .bool b) rfl ?_)
  cases b
  case' true =>
    show wpAny _ _ (pure false) _ _ _
    obtain ⟨g0, e0⟩ : ∃ g0, g0 = hp := ⟨hp, rfl⟩
    have hs0 : Heap.SameBut z hp g0 := by rw [e0]; exact Heap.SameBut.refl _ _
    rw [← e0]
    refine wpAny_pure ?_
  case' false =>
    show wpAny _ _ (setField (.ref z) 1 (.bool true) >>= _) _ _ _
    refine wpAny_bind (wpAny_setField_rec hz (by simp) fun g0 hz0 hs0 =>
          ?_)
    replace hs0 : Heap.SameBut z hp g0 :=
          hs0
    refine wpAny_pure ?_
  all_goals
    dsimp only
    rw [if_neg (by decide)]
    rw [← Array.forIn_toList]
    simp only [List.forIn_cons,
          List.forIn_nil]
    refine wpAny_bind (wpAny_bind (wpAny_bind (wpAny_holding ?_)))
    show wpAny _ _ (Builtin.SmallTypes.nextOf (.ref i1) >>= _) _ _ ⟨g0,
          g, d, tk0, os⟩
    by_cases h1 : i = n1
    · subst h1
      refine wpAny_bind (D1.done _ _ _ (D1.over st1 hs0 S.zf1) fun h' e hx he => ?_)
      exact hE h' tk0 e (fun c o cz c1 c2 x => hx _ _ c1 (hs0.extBut _ _ cz x)) he
    · have h2 : i = n2 := hend.resolve_left h1
      subst h2
      refine wpAny_bind (D1.item i _ _ _ (by omega) (D1.over st1 hs0 S.zf1) fun x1 p1 tk1 hx1 sn1 hp1 => wpAny_pure ?_)
      replace hp1 : Heap.SameBut i1 g0 p1 :=
            hp1
      refine wpAny_pure ?_
      dsimp only
      refine wpAny_bind (wpAny_bind
            (wpAny_holding ?_))
      show wpAny _ _ (Builtin.SmallTypes.nextOf (.ref i2) >>= _) _ _ ⟨p1, g, d, tk1, os⟩
      refine wpAny_bind (D2.done _ _ _ (D2.over (D2.over st2 hs0 S.zf2) hp1 S.sep1_2) fun h' e hx he => ?_)
      exact hE h' tk1 e (fun c o cz c1 c2 x => hx _ _ c2 (hp1.extBut _ _ c1 (hs0.extBut _ _ cz x))) he
end
section
variable {prog : Program} {w : World} {A : Around} {E : Value → Shared → Prop} {s : Shared} {z TI TO i1 i2 T S : Addr} {fp1 fp2 : List Addr} {n1 n2 i : Nat} {P1 P2 : Nat → Value → Prop} {St1 St2 : Nat → Heap → Prop} {b : Bool}
theorem pyNext_item {Q : Option Value → Shared → Prop} (D : ZipSep2 z TI TO i1 i2 fp1 fp2) (D1 : Draws prog w A.in1 i1 fp1 n1 P1 St1) (D2 : Draws prog w A.in1 i2 fp2 n2 P2 St2)
    (hz : ZipAt s.heap z TI TO (rawInt T) b) (hTI : IsTupOf2 s.heap TI (.ref i1) (.ref i2)) (hT : ∃ o, s.heap.get? T = some o) (st1 : St1 i s.heap) (st2 : St2 i s.heap) (hlt1 : i < n1) (hlt2 : i < n2)
    (hQ : ∀ x1 x2 h' tk, P1 i x1 → P2 i x2 → ZipAt h' z TI TO (rawInt T) true → St1 (i + 1) h' → St2 (i + 1) h' → IsTupOf2 h' s.heap.objs.size x1 x2 →
      (∀ c o, c ≠ z → c ≠ i1 → c ≠ i2 → s.heap.get? c = some o → h'.get? c = some o) → Q (some (.ref s.heap.objs.size)) { s with heap := h', toks := tk }) :
    wpAny (model prog w) A
          (pyNext (.ref z)) Q E s := by
  have ty : s.TypeIs (.ref z) "zip" := ⟨_, hz, rfl⟩
  unfold pyNext
  exact wpAny_bind (wpAny_attempt (wpAny_callSpecial?_slot (name := Str.ofString "__next__") ty F.slot_zip_next
    (wpAny_call_entry F.slot_zip_next ty F.entry_zip_next
      (next_item D D1 D2 hz hTI hT st1 st2 hlt1 hlt2 fun x1 x2 h' tk y1 y2 b1 d1 d2 b5 b7 => wpAny_pure (hQ x1 x2 h' tk y1 y2 b1 d1 d2 b5 b7)) (F.args_zip_next_1 _))))
theorem pyNext_end {Q : Option Value → Shared → Prop} (D : ZipSep2 z TI TO i1 i2 fp1 fp2) (D1 : Draws prog w A.in1 i1 fp1 n1 P1 St1) (D2 : Draws prog w A.in1 i2 fp2 n2 P2 St2)
    (hz : ZipAt s.heap z TI TO (rawInt T) b) (hTI : IsTupOf2 s.heap TI (.ref i1) (.ref i2)) (hT : ∃ o, s.heap.get? T = some o) (st1 : St1 i s.heap) (st2 : St2 i s.heap) (hle1 : i ≤ n1) (hle2 : i ≤ n2) (hend : i = n1 ∨ i = n2)
    (hQ : ∀ h' tk, (∀ c o, c ≠ z → c ≠ i1 → c ≠ i2 → s.heap.get? c = some o → h'.get? c = some o) → Q none { s with heap := h', toks := tk }) : wpAny (model prog w) A (pyNext (.ref z)) Q E s := by
  have ty : s.TypeIs (.ref z) "zip" := ⟨_, hz, rfl⟩
  unfold pyNext
  refine wpAny_bind (wpAny_attempt (wpAny_callSpecial?_slot (name := Str.ofString "__next__") ty F.slot_zip_next
    (wpAny_call_entry F.slot_zip_next ty F.entry_zip_next (next_end D D1 D2 hz hTI hT st1 st2 hle1 hle2 hend fun h' tk e hk he => ?_) (F.args_zip_next_1 _))))
  obtain ⟨o, ho, hc⟩ := he
  refine wpAny_bind (wpAny_isInstance (T :=
        "StopIteration") (b := true) ⟨o, ho, hc⟩ isSubtype_stop ?_)
  exact wpAny_pure (hQ _ _ hk)
/-- how far the zip is, whose tuples the list at S holds -/
structure Zst (S z TI TO i1 i2 : Addr) (St1 St2 : Nat → Heap → Prop) (i : Nat) (h : Heap) : Prop where
  m : (i = 0 ∧ IsZip h z TI TO .none ∧ ∃ a1 a2, IsTupOf2 h TO a1 a2) ∨ ∃ (T : Addr) (b : Bool), ZipAt h z TI TO (rawInt T) b ∧ (∃ o, h.get? T = some o) ∧ T ≠ S
  ti : IsTupOf2 h TI (.ref i1) (.ref i2)
  to : ∃ o, h.get? TO = some o
  s1 : St1 i h
  s2 : St2 i h
structure Off (S z TI TO : Addr) (fp1 fp2 : List Addr) : Prop where
  z : S ≠ z
  ti : S ≠ TI
  to : S ≠ TO
  f1 : S ∉ fp1
  f2 : S ∉ fp2
theorem Zst.keep (Z : Zst S z TI TO i1 i2 St1 St2 i s.heap) (D1 : Draws prog w A i1 fp1 n1 P1 St1) (D2 : Draws prog w A i2 fp2 n2 P2 St2) (O : Off S z TI TO fp1 fp2) {h' : Heap} (k : ∀ c o, c ≠ S → s.heap.get? c = some o → h'.get? c = some o) : Zst S z TI TO i1 i2 St1 St2 i h' where
  m := Z.m.elim (fun ⟨e, h1, a1, a2, h2⟩ => .inl ⟨e, k _ _ O.z.symm h1, a1, a2, k _ _ O.to.symm h2⟩) fun ⟨T, b, h1, ⟨o, h2⟩, h3⟩ => .inr ⟨T, b, k _ _ O.z.symm h1, ⟨o, k _ _ h3 h2⟩, h3⟩
  ti := k _ _ O.ti.symm Z.ti
  to := let ⟨o, e⟩ := Z.to; ⟨o, k _ _ O.to.symm e⟩
  s1 := D1.frame _ _ _ Z.s1 fun c hc o e => k c o (fun q => O.f1 (q ▸ hc)) e
  s2 := D2.frame _ _ _ Z.s2 fun c hc o e => k c o (fun q => O.f2 (q ▸ hc)) e
theorem Zst.item {Q : Option Value → Shared → Prop} (Z : Zst S z TI TO i1 i2 St1 St2 i s.heap) (D : ZipSep2 z TI TO i1 i2 fp1 fp2) (D1 : Draws prog w A.in1 i1 fp1 n1 P1 St1) (D2 : Draws prog w A.in1 i2 fp2 n2 P2 St2) (hS : S < s.heap.objs.size) (hlt : i < min n1 n2)
    (hQ : ∀ x1 x2 h' tk, P1 i x1 → P2 i x2 → Zst S z TI TO i1 i2 St1 St2 (i + 1) h' → IsTupOf2 h' s.heap.objs.size x1 x2 →
      (∀ c o, c ≠ z → c ≠ TO → c ≠ i1 → c ≠ i2 → s.heap.get? c = some o → h'.get? c =
            some o) → Q (some (.ref s.heap.objs.size)) { s with heap := h', toks := tk }) :
    wpAny (model prog w) A
          (pyNext (.ref z)) Q E s := by
  have lt : ∀ {c o}, s.heap.get? c = some o → s.heap.objs.size ≠ c :=
        fun e => Nat.ne_of_gt (Heap.lt_size e)
  have l1 : s.heap.objs.size ≠ i1 := by obtain ⟨_, e⟩ := D1.live _ _ Z.s1; exact lt e
  have l2 : s.heap.objs.size ≠ i2 := by obtain ⟨_, e⟩ := D2.live _ _ Z.s2; exact lt e
  rcases Z.m with ⟨_, hz, a1, a2, hTO⟩ | ⟨T, b, hz, hT, ne⟩
  · refine wpAny_pyNext_zipD2_item D D1 D2 hz Z.ti hTO Z.s1 Z.s2 (by omega) (by omega) fun x1 x2 h' tk y1 y2 b1 b2 d1 d2 b5 b6 hk => ?_
    exact hQ x1 x2 h' tk y1 y2 ⟨.inr ⟨s.heap.objs.size, false, b1, ⟨_, b5⟩, Nat.ne_of_gt hS⟩, hk _ _ D.TIz D.TITO D.TIi1 D.TIi2 Z.ti, ⟨_, b2⟩, d1, d2⟩ b5 hk
  · obtain ⟨o, hT⟩ := hT
    refine pyNext_item D D1 D2 hz Z.ti ⟨o, hT⟩ Z.s1 Z.s2 (by omega) (by omega) fun x1 x2 h' tk y1 y2 b1 d1 d2 b5 hk => ?_
    obtain ⟨oO, eO⟩ := Z.to
    refine hQ x1 x2 h' tk y1 y2 ⟨.inr ⟨T, true, b1, ?_, ne⟩, hk _ _ D.TIz D.TIi1 D.TIi2 Z.ti, ⟨oO, hk _ _ D.TOz D.Ti1 D.Ti2 eO⟩, d1, d2⟩ b5 fun c o cz _ c1 c2 e => hk c o cz c1 c2 e
    by_cases e1 : T = z
    · rw [e1]; exact ⟨_, b1⟩
    by_cases e2 : T = i1
    · rw [e2]; exact D1.live _ _ d1
    by_cases e3 : T = i2
    · rw [e3]; exact D2.live _ _ d2
    exact ⟨o, hk _ _ e1 e2 e3 hT⟩
theorem Zst.done {Q : Option Value → Shared → Prop} (Z : Zst S z TI TO i1 i2 St1 St2 (min n1 n2) s.heap) (D : ZipSep2 z TI TO i1 i2 fp1 fp2) (D1 : Draws prog w A.in1 i1 fp1 n1 P1 St1) (D2 : Draws prog w A.in1 i2 fp2 n2 P2 St2)
    (hQ : ∀ h' tk, (∀ c o, c ≠ z → c ≠ TO → c ≠ i1 → c ≠ i2 → s.heap.get? c = some o → h'.get? c = some o) → Q none { s with heap := h', toks := tk }) :
    wpAny (model prog w) A
          (pyNext (.ref z)) Q E s := by
  rcases Z.m with ⟨_, hz, a1, a2, hTO⟩ | ⟨T, b, hz, hT, ne⟩
  · exact wpAny_pyNext_zipD2_end D D1 D2 hz Z.ti hTO Z.s1 Z.s2 (by omega) (by omega) (by omega) fun h' tk hk => hQ h' tk hk
  · exact pyNext_end D D1 D2 hz Z.ti hT Z.s1 Z.s2 (by omega) (by omega) (by omega) fun h' tk hk => hQ h' tk fun c o cz _ c1 c2 e => hk c o cz c1 c2 e
end
end ZipList
namespace L2.DL
open PySem PySem.Spec
      PyProof.Rows
/-! ### list(zip(a, b)), a and b lists or tuples -/
/-! #### over data -/
def lzD : B2 := fun d d' P => ∃ xs ys, items d = some xs ∧ items d' = some ys ∧ P (.list (pairs xs ys))
theorem lzD.mono : B2.Mono lzD := fun _ _ _ _ h ⟨xs, ys, e1, e2, q⟩ => ⟨xs, ys, e1, e2, h _ q⟩
end L2.DL
namespace L2.DL
open PySem PySem.Spec
      PyProof.Rows
/-! ### {k1: v1, k2: v2}[x], texts and ints -/
end L2.DL
namespace L2.DL
open PySem PySem.Spec
      PyProof.Rows
/-! ### a test that reads lists that a slot alone holds -/
def wLendT (w : WTx) : WTx := fun e Q x => w (lendE e) (fun b e' => Q b { e with k := e'.k }) noX
theorem wLendT.mono {w : WTx} (m : MonoT w) : MonoT (wLendT w) := fun e Q Q' x x' h1 h2 q => m _ _ _ _ _ (fun d e1 z => h1 _ _ z) (fun _ _ z => z) q
section
variable {X : Cx} {F : Fx} {a : Expr} {wt : WTx}
theorem dt_lend (h : ∀ G₀ H₀, DT X (inn F.p G₀ H₀) a wt) : DT X F a (wLendT wt) := by
  have hr : PT X a (fun σ H Q => ∃ G₀ H₀, tT X.K (inn F.p G₀ H₀) wt σ H Q) := ⟨fun pins s σ H Q I ⟨G₀, H₀, q⟩ => (h G₀ H₀).run.run pins s σ H Q I q⟩
  have m := (h X.H_0 X.H_0).mono
  refine dt_of hr (wLendT.mono m) fun σ H Q ⟨e, G, r, q⟩ => ?_
  obtain ⟨α, r0⟩ := id r
  obtain ⟨s1, r1⟩ := r0.plus
  refine ⟨DL.plus G H e α, H, lendE e, DL.plus G H e α, r1.rebase lendE_own, m _ _ _ _ _ (fun d e1 z G' H' s r' => ?_) (fun _ _ z => z.elim) q⟩
  obtain ⟨β, r2⟩ := id r'
  have held : ∀ b, heldAt e α b → ∃ xs, H b = some (.lst xs) ∧ G' b = some (.lst xs) ∧ G b = none ∧ F.H₀ b = none ∧ F.p ≠ some b := fun b hb => by
    obtain ⟨xs, h2, h3, h4, h5⟩ := r0.held hb
    exact ⟨xs, h2, s _ _ (by unfold DL.plus; rw [if_pos hb]; exact h2), h3, h4, h5⟩
  have sG : Same G (minus G' e α) := fun b u z => by
    unfold minus
    rw [if_neg (fun hb => by obtain ⟨_, _, _, n, _⟩ := held b hb; rw [z] at n; cases n)]
    exact s _ _ (s1 _ _ z)
  have sH : ∀ H', Rl X.K (inn F.p (DL.plus G H e α) H).p (inn F.p (DL.plus G H e α) H).G₀ (inn F.p (DL.plus G H e α) H).H₀ G' H' σ e1 → Same (minus G' e α) H' := fun H' r' b u z => by
    unfold minus at z
    split at z
    · cases z
    · exact r'.same _ _ z
  refine z (minus G' e α) H' sG (r.step (k' := e1.k) ⟨sG, r2.st.hh, fun b u z n => ?_, r2.st.pc⟩ ⟨sH H' r', fun a ea => ?_⟩)
  · unfold minus
    split
    · rfl
    · rename_i hb
      refine r2.st.nn b u z ?_
      show DL.plus G H e α b = none
      unfold DL.plus
      rw [if_neg hb]
      exact n
  · obtain ⟨h1, c, xs, i, t, h2, h3, h4, h5, h6⟩ := r'.wd.pen a ea
    obtain ⟨_, c', xs', i', t', g2, g3, g4, _⟩ := r0.w.pen a ea
    obtain ⟨i2, t2, h2'⟩ := r2.st.pc a c' ea ⟨i', t', g2⟩
    rw [h2] at h2'
    cases h2'
    exact ⟨by unfold minus; split <;> first | rfl | exact h1, c, xs', i, t, h2, sG _ _ g3, g4, h5, h6⟩
end
end L2.DL
namespace L2.DL
open PySem PySem.Spec
      PyProof.Rows
/-! ### between two statements -/
/-! ### xs.pop(), of a list that a slot alone holds -/
def wPop (i : Nat) : WEx := fun e Q _ => ∃ ds d, e.s[i]? = some (.own (ds ++ [d])) ∧ Q d (put e i (.own ds))
theorem wPop.mono {i : Nat} : Mono (wPop i) := fun e Q Q' x x' h1 _ ⟨ds, d, hi, q⟩ => ⟨ds, d, hi, h1 _ _ q⟩
end L2.DL
/-! DL43: a def whose last parameter has a default, called without it. -/
namespace L2.DL
open PySem PySem.Spec
      PyProof.Rows
/-- what a call without the last argument asks -/
def dflt (i : Int) (wf : Wc) : Wc := fun ds k Q x => wf (ds ++ [.int i]) k Q x
theorem dflt.mono {i : Int} {wf : Wc} (m : wf.Mono) : (dflt i wf).Mono := fun ds k Q Q' x x' h1 h2 q => m _ _ _ _ _ _ h1 h2 q
section
variable {X : Cx} {F : Fx} {pos : Pos} {a : Expr} {es : List Expr} {wr : WAx}
theorem RA.snoc {K : PySem.W.Frag} {p : Option Addr} {G : Hp} {i : Int} : ∀ {vs : List V} {ds : List D}, RA K p G vs ds → RA K p G (vs ++ [.int i]) (ds ++ [.int i])
  | _, _, .nil => .cons (.int i) .nil
  | _, _, .cons a h => .cons a h.snoc
end
/-! ### xs.extend(ys), of long lists -/
end L2.DL
/-! DL44: a comprehension's list that one slot alone holds. -/
namespace L2.DL
open PySem PySem.Spec
      PyProof.Rows
def wLcF (wi : WAx) (g : WG) (wt : WTx) (we : WEx) (vs : List Nat) : WAx := fun e Q x => wi e (fun ds e1 => lcLoop g wt we (wipeE e1 vs) [] ds e1.k fun acc k => Q acc { e1 with k := k }) x
section
variable {K : PySem.W.Frag} {F : Fx} {σ : L2.St} {H : Hp} {g : WG} {wt : WTx} {we : WEx} {wi : WAx} {vs : List Nat}
theorem wLcF.mono (mi : MonoA wi) (mg : MonoG g) (mt : MonoT wt) (me : Mono we) : MonoA (wLcF wi g wt we vs) := fun e Q Q' x x' h1 h2 q => mi e _ _ _ _ (fun ds e1 z => lcLoop.mono mg mt me (fun a k y => h1 _ _ y) z) h2 q
theorem PF.mono {G G' : Hp} {Q : VK} {ds : List D} {e : En} (s : Same G G') (h : PF K F G σ Q ds e) : PF K F G' σ Q ds e := fun a xs G2 H2 s2 => h a xs G2 H2 (s.trans s2)
end
end L2.DL
/-! DL45: a def with a default, as it stands behind the top. -/
namespace L2.DL
open PySem PySem.Spec
      PyProof.Rows
end L2.DL
/-! DL46: different data have different texts (data of nothing, truths, numbers from 0 on, lists and tuples). -/
namespace L2.DL
open PySem PySem.Spec PyProof.Rows TL
mutual
def plain : D → Bool
  | .none => true
  | .bool _ => true
  | .int i => decide (0 ≤ i)
  | .list xs => plains xs
  | .tuple xs => plains xs
  | _ => false
def plains : List D → Bool
  | [] => true
  | d :: ds => plain d && plains ds
end
mutual
/-- the signs of a text -/
def sgn : D → List Nat
  | .none => tl (Str.ofString "None")
  | .bool b => if b = true then tl (Str.ofString "True") else tl (Str.ofString "False")
  | .int i => tl (Str.ofString (toString i))
  | .list [] => [91, 93]
  | .list (x :: xs) => 91 :: (sgn x ++ (sgns xs ++ [93]))
  | .tuple [] => [40, 41]
  | .tuple (x :: xs) => 40 :: (sgn x ++ (sgns xs ++ if xs.length = 0 then [44, 41] else [41]))
  | _ => []
def sgns : List D → List Nat
  | [] => []
  | d :: ds => 44 :: 32 :: (sgn d ++ sgns ds)
end
theorem tl_app (a b : Str) : tl (a ++ b) = tl a ++ tl b := by
  show (a.cps ++ b.cps).toList = _
  rw [Array.toList_append]
theorem lst_from : ∀ (ds : List D) (k : Nat) (acc : Str), 0 < k → (∀ d ∈ ds, tl d.shown = sgn d) → tl (PySem.textFrom k acc (PyData.shownAll ds)) = tl acc ++ sgns ds
  | [], _, _, _, _ => by
    simp only [PyData.shownAll, sgns, List.append_nil]
    rfl
  | d :: ds, k, acc, hk, h => by
    simp only [PyData.shownAll, sgns]
    show tl (PySem.textFrom (k + 1) (acc ++ ((if k > 0 then ", " else "" : String) : Str) ++ d.shown) (PyData.shownAll ds)) = _
    rw [lst_from ds (k + 1) _ (Nat.succ_pos _) fun e he => h e (List.mem_cons_of_mem _ he), tl_app, tl_app, h d List.mem_cons_self, if_pos hk, List.append_assoc, List.append_assoc]
    rfl
theorem tup_join : ∀ (d : D) (ds : List D), (∀ e ∈ d :: ds, tl e.shown = sgn e) → tl (PySem.Str.join ", " (PyData.shownAll (d :: ds))) = sgn d ++ sgns ds
  | d, [], h => by
    simp only [PyData.shownAll, sgns, List.append_nil]
    exact h d List.mem_cons_self
  | d, e :: ds, h => by
    have ih := tup_join e ds fun x hx => h x (List.mem_cons_of_mem _ hx)
    simp only [PyData.shownAll, sgns] at ih ⊢
    show tl (d.shown ++ (", " : Str) ++ PySem.Str.join ", " (e.shown :: PyData.shownAll ds)) = _
    rw [tl_app, tl_app, ih, h d List.mem_cons_self, List.append_assoc]
    rfl
mutual
theorem shown_sgn : ∀ d : D, plain d = true → tl d.shown = sgn d
  | .none, _ => by simp only [PyData.shown, sgn]
  | .bool b, _ => by cases b <;> simp [PyData.shown, sgn]
  | .int i, _ => by simp only [PyData.shown, sgn]
  | .str _, h => by simp [plain] at h
  | .dict _, h => by simp [plain] at h
  | .list [], _ => by simp only [PyData.shown, sgn]; decide +kernel
  | .list (x :: xs), h => by
    have h2 := shown_sgns (x :: xs) (by simpa only [plain] using h)
    simp only [PyData.shown, sgn]
    unfold listText
    simp only [PyData.shownAll]
    show tl (PySem.textFrom 1 (("[" : Str) ++ ((if 0 > 0 then ", " else "" : String) : Str) ++ x.shown) (PyData.shownAll xs) ++ ("]" : Str)) = _
    rw [tl_app, lst_from xs 1 _ (by decide) fun e he => h2 e (List.mem_cons_of_mem _ he), tl_app, tl_app, h2 x List.mem_cons_self]
    simp only [List.append_assoc]
    rfl
  | .tuple [], _ => by simp only [PyData.shown, sgn]; decide +kernel
  | .tuple (x :: xs), h => by
    have h2 := shown_sgns (x :: xs) (by simpa only [plain] using h)
    simp only [PyData.shown, sgn]
    unfold tupleText
    rw [tl_app, tl_app, tup_join x xs h2]
    have hl : (PyData.shownAll (x :: xs)).length = xs.length + 1 := by rw [shownAll_length]; rfl
    rw [hl]
    by_cases hx : xs.length = 0
    · rw [if_pos hx]
      simp only [hx, List.append_assoc]
      rfl
    · rw [if_neg hx]
      have : ¬ (xs.length + 1 = 1) := by omega
      simp only [List.append_assoc]
      rw [if_neg (by simpa using hx)]
      rfl
theorem shown_sgns : ∀ ds : List D, plains ds = true → ∀ d ∈ ds, tl d.shown = sgn d
  | [], _, d, hd => nomatch hd
  | e :: ds, h, d, hd => by
    simp only [plains, Bool.and_eq_true] at h
    rcases List.mem_cons.mp hd with e' | hd
    · rw [e']; exact shown_sgn e h.1
    · exact shown_sgns ds h.2 d hd
end
/-- what may stand behind a text -/
def dl (r : List Nat) : Prop := r = [] ∨ ∃ c t, r = c :: t ∧ (c = 44 ∨ c = 41 ∨ c = 93)
theorem dl.num {r : List Nat} (h : dl r) {c : Nat} {t : List Nat} (e : r = c :: t) : ¬ (48 ≤ c ∧ c ≤ 57) := by
  rcases h with rfl | ⟨c', t', rfl, hc⟩
  · cases e
  · cases e
    omega
theorem digits_dec : ∀ {l m r s : List Nat}, NumText.AllDigits l → NumText.AllDigits m → dl r → dl s → l ++ r = m ++ s → l = m ∧ r = s
  | [], [], r, s, _, _, _, _, e => ⟨rfl, e⟩
  | [], c :: m, r, s, _, hm, hr, _, e => by
    have := hm c List.mem_cons_self
    exact absurd (by omega) (hr.num e)
  | c :: l, [], r, s, hl, _, _, hs, e => by
    have := hl c List.mem_cons_self
    exact absurd (by omega) (hs.num e.symm)
  | c :: l, c' :: m, r, s, hl, hm, hr, hs, e => by
    rw [List.cons_append, List.cons_append] at e
    injection e with e1 e2
    obtain ⟨h1, h2⟩ := digits_dec (fun x hx => hl x (List.mem_cons_of_mem _ hx)) (fun x hx => hm x (List.mem_cons_of_mem _ hx)) hr hs e2
    exact ⟨by rw [e1, h1], h2⟩
/-- how a text begins -/
theorem sgn_head : ∀ d : D, plain d = true → ∃ c t, sgn d = c :: t ∧ ((d = .none ∧ c = 78) ∨ (∃ b, d = .bool b ∧ c = if b = true then 84 else 70) ∨ ((∃ i : Int, d = .int i) ∧ 48 ≤ c ∧ c ≤ 57) ∨ ((∃ xs, d = .list xs) ∧ c = 91) ∨ ((∃ xs, d = .tuple xs) ∧ c = 40))
  | .none, _ => ⟨78, [111, 110, 101], by simp only [sgn]; decide +kernel, .inl ⟨rfl, rfl⟩⟩
  | .bool true, _ => ⟨84, [114, 117, 101], by simp only [sgn, if_true]; decide +kernel, .inr (.inl ⟨_, rfl, rfl⟩)⟩
  | .bool false, _ => ⟨70, [97, 108, 115, 101], by simp only [sgn, if_false, Bool.false_eq_true]; decide +kernel, .inr (.inl ⟨_, rfl, rfl⟩)⟩
  | .int i, h => by
    simp only [plain, decide_eq_true_eq] at h
    obtain ⟨n, rfl⟩ := Int.eq_ofNat_of_zero_le h
    simp only [sgn]
    rw [tl_num]
    have := numL_digits n
    cases e : numL n with
    | nil => exact absurd e (numL_ne n)
    | cons c t =>
      rw [e] at this
      have := this c List.mem_cons_self
      exact ⟨c, t, rfl, .inr (.inr (.inl ⟨⟨_, rfl⟩, by omega⟩))⟩
  | .str _, h => by simp [plain] at h
  | .dict _, h => by simp [plain] at h
  | .list [], _ => ⟨91, [93], by simp only [sgn], .inr (.inr (.inr (.inl ⟨⟨_, rfl⟩, rfl⟩)))⟩
  | .list (x :: xs), _ => ⟨91, _, by simp only [sgn]; rfl, .inr (.inr (.inr (.inl ⟨⟨_, rfl⟩, rfl⟩)))⟩
  | .tuple [], _ => ⟨40, [41], by simp only [sgn], .inr (.inr (.inr (.inr ⟨⟨_, rfl⟩, rfl⟩)))⟩
  | .tuple (x :: xs), _ => ⟨40, _, by simp only [sgn]; rfl, .inr (.inr (.inr (.inr ⟨⟨_, rfl⟩, rfl⟩)))⟩
theorem sgns_dl {xs : List D} {c : Nat} {r : List Nat} (h : c = 44 ∨ c = 41 ∨ c = 93) : dl (sgns xs ++ c :: r) := by
  cases xs with
  | nil => exact .inr ⟨c, r, by simp [sgns], h⟩
  | cons x xs => exact .inr ⟨44, _, by simp only [sgns, List.cons_append]; rfl, .inl rfl⟩
theorem not_close {d : D} (h : plain d = true) {r t : List Nat} {c : Nat} (hc : c = 41 ∨ c = 93) : sgn d ++ r ≠ c :: t := fun e => by
  obtain ⟨c', t', e', hh⟩ := sgn_head d h
  rw [e', List.cons_append] at e
  injection e with e1 _
  rcases hh with ⟨_, h1⟩ | ⟨b, _, h1⟩ | ⟨_, h1, h2⟩ | ⟨_, h1⟩ | ⟨_, h1⟩
  · omega
  · cases b <;> simp at h1 <;> omega
  · omega
  · omega
  · omega
mutual
theorem sgn_dec : ∀ (a b : D) (r s : List Nat), plain a = true → plain b = true → dl r → dl s → sgn a ++ r = sgn b ++ s → a = b ∧ r = s
  | .none, b, r, s, ha, hb, hr, hs, e => by
    obtain ⟨c, t, e1, h⟩ := sgn_head b hb
    obtain ⟨c', t', e2, h'⟩ := sgn_head .none ha
    have ec : c' = c := by rw [e1, e2] at e; injection e
    rcases h' with ⟨_, h'⟩ | ⟨_, z, _⟩ | ⟨⟨_, z⟩, _⟩ | ⟨⟨_, z⟩, _⟩ | ⟨⟨_, z⟩, _⟩
    · rcases h with ⟨rfl, _⟩ | ⟨b, _, h⟩ | ⟨_, h⟩ | ⟨_, h⟩ | ⟨_, h⟩
      · exact ⟨rfl, List.append_cancel_left e⟩
      · cases b <;> simp at h <;> omega
      all_goals omega
    all_goals cases z
  | .bool a, b, r, s, ha, hb, hr, hs, e => by
    obtain ⟨c, t, e1, h⟩ := sgn_head b hb
    obtain ⟨c', t', e2, h'⟩ := sgn_head (.bool a) ha
    have ec : c' = c := by rw [e1, e2] at e; injection e
    rcases h' with ⟨z, _⟩ | ⟨a', z, h'⟩ | ⟨⟨_, z⟩, _⟩ | ⟨⟨_, z⟩, _⟩ | ⟨⟨_, z⟩, _⟩
    · cases z
    · cases z
      rcases h with ⟨_, h⟩ | ⟨b', rfl, h⟩ | ⟨_, h⟩ | ⟨_, h⟩ | ⟨_, h⟩
      · cases a <;> simp at h' <;> omega
      · cases a <;> cases b' <;> simp at h h'
        · exact ⟨rfl, List.append_cancel_left e⟩
        · omega
        · omega
        · exact ⟨rfl, List.append_cancel_left e⟩
      all_goals (cases a <;> simp at h' <;> omega)
    all_goals cases z
  | .int i, b, r, s, ha, hb, hr, hs, e => by
    obtain ⟨c, t, e1, h⟩ := sgn_head b hb
    obtain ⟨c', t', e2, h'⟩ := sgn_head (.int i) ha
    have ec : c' = c := by rw [e1, e2] at e; injection e
    rcases h' with ⟨z, _⟩ | ⟨_, z, _⟩ | ⟨_, h'⟩ | ⟨⟨_, z⟩, _⟩ | ⟨⟨_, z⟩, _⟩
    · cases z
    · cases z
    · rcases h with ⟨_, h⟩ | ⟨b', _, h⟩ | ⟨⟨j, rfl⟩, h⟩ | ⟨_, h⟩ | ⟨_, h⟩
      · omega
      · cases b' <;> simp at h <;> omega
      · simp only [plain, decide_eq_true_eq] at ha hb
        obtain ⟨m, rfl⟩ := Int.eq_ofNat_of_zero_le ha
        obtain ⟨n, rfl⟩ := Int.eq_ofNat_of_zero_le hb
        simp only [sgn] at e
        rw [tl_num, tl_num] at e
        obtain ⟨h1, h2⟩ := digits_dec (numL_digits m) (numL_digits n) hr hs e
        exact ⟨by rw [numL_inj h1], h2⟩
      · omega
      · omega
    all_goals cases z
  | .str _, _, _, _, ha, _, _, _, _ => by simp [plain] at ha
  | .dict _, _, _, _, ha, _, _, _, _ => by simp [plain] at ha
  | .list xs, b, r, s, ha, hb, hr, hs, e => by
    obtain ⟨c, t, e1, h⟩ := sgn_head b hb
    obtain ⟨c', t', e2, h'⟩ := sgn_head (.list xs) ha
    have ec : c' = c := by rw [e1, e2] at e; injection e
    rcases h' with ⟨z, _⟩ | ⟨_, z, _⟩ | ⟨⟨_, z⟩, _⟩ | ⟨_, h'⟩ | ⟨⟨_, z⟩, _⟩
    · cases z
    · cases z
    · cases z
    · rcases h with ⟨_, h⟩ | ⟨b', _, h⟩ | ⟨_, h⟩ | ⟨⟨ys, rfl⟩, h⟩ | ⟨_, h⟩
      · omega
      · cases b' <;> simp at h <;> omega
      · omega
      · match xs, ys, ha, hb, e with
        | [], [], _, _, e =>
          simp only [sgn, List.cons_append, List.nil_append] at e
          injection e with _ e
          injection e with _ e
          exact ⟨rfl, e⟩
        | [], y :: ys, _, hb, e =>
          simp only [plain, plains, Bool.and_eq_true] at hb
          simp only [sgn, List.cons_append, List.nil_append, List.append_assoc] at e
          injection e with _ e
          exact absurd e.symm (not_close hb.1 (.inr rfl))
        | x :: xs, [], ha, _, e =>
          simp only [plain, plains, Bool.and_eq_true] at ha
          simp only [sgn, List.cons_append, List.nil_append, List.append_assoc] at e
          injection e with _ e
          exact absurd e (not_close ha.1 (.inr rfl))
        | x :: xs, y :: ys, ha, hb, e =>
          simp only [plain, plains, Bool.and_eq_true] at ha hb
          simp only [sgn, List.cons_append, List.nil_append, List.append_assoc] at e
          injection e with _ e
          obtain ⟨h1, h2⟩ := sgn_dec x y _ _ ha.1 hb.1 (sgns_dl (.inr (.inr rfl))) (sgns_dl (.inr (.inr rfl))) e
          obtain ⟨h3, h4⟩ := sgns_dec xs ys 93 r s ha.2 hb.2 (.inr rfl) h2
          exact ⟨by rw [h1, h3], h4⟩
      · omega
    · cases z
  | .tuple xs, b, r, s, ha, hb, hr, hs, e => by
    obtain ⟨c, t, e1, h⟩ := sgn_head b hb
    obtain ⟨c', t', e2, h'⟩ := sgn_head (.tuple xs) ha
    have ec : c' = c := by rw [e1, e2] at e; injection e
    rcases h' with ⟨z, _⟩ | ⟨_, z, _⟩ | ⟨⟨_, z⟩, _⟩ | ⟨⟨_, z⟩, _⟩ | ⟨_, h'⟩
    · cases z
    · cases z
    · cases z
    · cases z
    · rcases h with ⟨_, h⟩ | ⟨b', _, h⟩ | ⟨_, h⟩ | ⟨_, h⟩ | ⟨⟨ys, rfl⟩, h⟩
      · omega
      · cases b' <;> simp at h <;> omega
      · omega
      · omega
      · match xs, ys, ha, hb, e with
        | [], [], _, _, e =>
          simp only [sgn, List.cons_append, List.nil_append] at e
          injection e with _ e
          injection e with _ e
          exact ⟨rfl, e⟩
        | [], y :: ys, _, hb, e =>
          simp only [plain, plains, Bool.and_eq_true] at hb
          simp only [sgn, List.cons_append, List.nil_append, List.append_assoc] at e
          injection e with _ e
          exact absurd e.symm (not_close hb.1 (.inl rfl))
        | x :: xs, [], ha, _, e =>
          simp only [plain, plains, Bool.and_eq_true] at ha
          simp only [sgn, List.cons_append, List.nil_append, List.append_assoc] at e
          injection e with _ e
          exact absurd e (not_close ha.1 (.inl rfl))
        | [x], [y], ha, hb, e =>
          simp only [plain, plains, Bool.and_eq_true] at ha hb
          simp only [sgn, sgns, List.cons_append, List.nil_append, List.append_assoc, List.length_nil, if_true] at e
          injection e with _ e
          obtain ⟨h1, h2⟩ := sgn_dec x y _ _ ha.1 hb.1 (.inr ⟨_, _, rfl, .inl rfl⟩) (.inr ⟨_, _, rfl, .inl rfl⟩) e
          injection h2 with _ h2
          injection h2 with _ h2
          exact ⟨by rw [h1], h2⟩
        | [x], y :: y2 :: ys, ha, hb, e =>
          simp only [plain, plains, Bool.and_eq_true] at ha hb
          simp only [sgn, sgns, List.cons_append, List.nil_append, List.append_assoc, List.length_nil, List.length_cons, if_true, if_neg (Nat.succ_ne_zero _)] at e
          injection e with _ e
          obtain ⟨h1, h2⟩ := sgn_dec x y _ _ ha.1 hb.1 (.inr ⟨_, _, rfl, .inl rfl⟩) (.inr ⟨_, _, rfl, .inl rfl⟩) e
          injection h2 with _ h2
          injection h2 with h2 _
          omega
        | x :: x2 :: xs, [y], ha, hb, e =>
          simp only [plain, plains, Bool.and_eq_true] at ha hb
          simp only [sgn, sgns, List.cons_append, List.nil_append, List.append_assoc, List.length_nil, List.length_cons, if_true, if_neg (Nat.succ_ne_zero _)] at e
          injection e with _ e
          obtain ⟨h1, h2⟩ := sgn_dec x y _ _ ha.1 hb.1 (.inr ⟨_, _, rfl, .inl rfl⟩) (.inr ⟨_, _, rfl, .inl rfl⟩) e
          injection h2 with _ h2
          injection h2 with h2 _
          omega
        | x :: x2 :: xs, y :: y2 :: ys, ha, hb, e =>
          rw [plain, plains, Bool.and_eq_true] at ha hb
          simp only [sgn, List.cons_append, List.nil_append, List.append_assoc, List.length_cons, if_neg (Nat.succ_ne_zero _)] at e
          injection e with _ e
          obtain ⟨h1, h2⟩ := sgn_dec x y _ _ ha.1 hb.1 (sgns_dl (.inr (.inl rfl))) (sgns_dl (.inr (.inl rfl))) e
          obtain ⟨h3, h4⟩ := sgns_dec (x2 :: xs) (y2 :: ys) 41 r s ha.2 hb.2 (.inl rfl) h2
          exact ⟨by rw [h1, h3], h4⟩
theorem sgns_dec : ∀ (xs ys : List D) (c : Nat) (r s : List Nat), plains xs = true → plains ys = true → (c = 41 ∨ c = 93) → sgns xs ++ c :: r = sgns ys ++ c :: s → xs = ys ∧ r = s
  | [], [], c, r, s, _, _, _, e => by
    simp only [sgns, List.nil_append] at e
    injection e with _ e
    exact ⟨rfl, e⟩
  | [], y :: ys, c, r, s, _, _, hc, e => by
    simp only [sgns, List.nil_append, List.cons_append] at e
    injection e with e _
    omega
  | x :: xs, [], c, r, s, _, _, hc, e => by
    simp only [sgns, List.nil_append, List.cons_append] at e
    injection e with e _
    omega
  | x :: xs, y :: ys, c, r, s, hx, hy, hc, e => by
    simp only [plains, Bool.and_eq_true] at hx hy
    simp only [sgns, List.cons_append, List.append_assoc] at e
    injection e with _ e
    injection e with _ e
    obtain ⟨h1, h2⟩ := sgn_dec x y _ _ hx.1 hy.1 (sgns_dl (hc.imp id id |>.elim (fun h => .inr (.inl h)) fun h => .inr (.inr h))) (sgns_dl (hc.elim (fun h => .inr (.inl h)) fun h => .inr (.inr h))) e
    obtain ⟨h3, h4⟩ := sgns_dec xs ys c r s hx.2 hy.2 hc h2
    exact ⟨by rw [h1, h3], h4⟩
end
/-- different data, different texts -/
theorem shown_inj {a b : D} (ha : plain a = true) (hb : plain b = true) (h : a.shown = b.shown) : a = b := by
  have e := congrArg tl h
  rw [shown_sgn a ha, shown_sgn b hb] at e
  exact (sgn_dec a b [] [] ha hb (.inl rfl) (.inl rfl) (by rw [List.append_nil, List.append_nil]; exact e)).1
end L2.DL
namespace CmbKit
open PySem PySem.Spec
      PyProof.Rows L2
open Sem (wp)
end CmbKit
namespace L2
open PySem PySem.Spec PyProof.Rows CmbKit
end L2
namespace L2.DL
open PySem PySem.Spec PyProof.Rows CmbKit
/-! ### for x in combinations(xs, k) -/
def pkD (es : List D) (ix : List Nat) : D := .tuple (ix.map fun i => es.getD i .none)
def wCmbS (wa wb : WEx) : WAx := fun e Q x => wa e (fun d e1 => ∃ ds, items d = some ds ∧ ds.length ≤ 8 ∧ wb e1 (fun d' e2 => ∃ k : Nat, d' = .int (k : Int) ∧ k ≤ ds.length ∧ Q ((cmbs ds.length k).map (pkD ds)) e2) x) x
section
variable {X : Cx} {F : Fx} {tg a b : Expr} {wa wb : WEx}
theorem wCmbS.mono (m : Mono wa) (m' : Mono wb) : MonoA (wCmbS wa wb) := fun e Q Q' x x' h1 h2 q => m e _ _ _ _ (fun d e1 ⟨ds, i1, i2, z⟩ => ⟨ds, i1, i2, m' e1 _ _ _ _ (fun d' e2 ⟨k, j1, j2, z⟩ => ⟨k, j1, j2, h1 _ _ z⟩) h2 z⟩) h2 q
end
end L2.DL
namespace L2.DL
open PySem PySem.Spec
      PyProof.Rows
/-! ### sorted(xs), also of a list of one -/
def sortDataS : BL
  | [.list ds], P => (ds.length < 2 ∧ P (.list ds)) ∨ (Good (.list ds) ∧ PySem.W.AllAlike ds ∧ PySem.W.Sortable ds ∧ P (.list (srtD ds)))
  | _, _ => False
theorem sortDataS.mono : BL.Mono sortDataS := by
  intro a P P' h q
  unfold sortDataS at q ⊢
  split at q
  · exact q.imp (fun z => ⟨z.1, h _ z.2⟩) fun ⟨g, e, f, z⟩ => ⟨g, e, f, h _ z⟩
  · exact q.elim
end L2.DL
namespace L2.DL
open PySem PySem.Spec
      PyProof.Rows
end L2.DL
namespace L2.DL
open PySem PySem.Spec
      PyProof.Rows
/-! ### t < u, t and u of ints -/
def ltTD : B2
  | .int i, .int j, P => P (.bool (decide (i < j)))
  | .tuple xs, .tuple ys, P => ∃ ns ms : List Int, xs = ns.map PyData.int ∧ ys = ms.map PyData.int ∧ P (.bool (HT.lexLt ns ms))
  | _, _, _ => False
theorem ltTD.mono : B2.Mono ltTD := by
  intro a b P P' h q
  unfold ltTD at q ⊢
  split at q
  · exact h _ q
  · obtain ⟨ns, ms, e1, e2, z⟩ := q
    exact ⟨ns, ms, e1, e2, h _ z⟩
  · exact q.elim
end L2.DL
namespace L2.DL
open PySem PySem.Spec
      PyProof.Rows
/-! ### min(m, n), max(m, n) -/
def twoI (f : Int → Int → Int) : BL
  | [.int i, .int j], P => P (.int (f i j))
  | _, _ => False
theorem twoI.mono {f : Int → Int → Int} : BL.Mono (twoI f) := by
  intro a P P' h q
  unfold twoI at q ⊢
  split at q
  · exact h _ q
  · exact q.elim
/-! ### a, b, c = x, y, z -/
end L2.DL
namespace L2.DL
open PySem PySem.Spec
      PyProof.Rows
/-! ### len(set(xs)), xs a tuple or a list of ints -/
/-! ### how many different -/
end L2.DL
namespace L2.DL
open PySem PySem.Spec
      PyProof.Rows
/-! ### targets within targets: a, (b, c) -/
def gAll : List WG → List D → En → (En → Prop) → Prop
  | [], [], e, Q => Q e
  | g :: gs, d :: ds, e, Q => g d e fun e1 => gAll gs ds e1 Q
  | _, _, _, _ => False
theorem gAll.mono : ∀ {gs : List WG}, (∀ g ∈ gs, MonoG g) → ∀ {ds : List D} {e : En} {Q Q' : En → Prop}, (∀ e, Q e → Q' e) → gAll gs ds e Q → gAll gs ds e Q'
  | [], _, [], e, Q, Q', h, q => h _ q
  | [], _, _ :: _, e, Q, Q', h, q => q
  | g :: gs, m, [], e, Q, Q', h, q => q
  | g :: gs, m, d :: ds, e, Q, Q', h, q => m g List.mem_cons_self d e _ _ (fun e1 z => gAll.mono (gs := gs) (fun g hg => m g (List.mem_cons_of_mem _ hg)) h z) q
def gTpx (gs : List WG) : WG := fun d e Q => ∃ ds, d = .tuple ds ∧ ds.length = gs.length ∧ gAll gs ds e Q
theorem gTpx.mono {gs : List WG} (m : ∀ g ∈ gs, MonoG g) : MonoG (gTpx gs) := fun _ _ _ _ h ⟨ds, e, l, q⟩ => ⟨ds, e, l, gAll.mono m h q⟩
end L2.DL
namespace L2.DL
open PySem PySem.Spec
      PyProof.Rows
/-! ### a, b = x, y where one or both are lists of ours -/
end L2.DL
namespace L2.DL
open PySem PySem.Spec
      PyProof.Rows
/-! ### an item that is an answer: data, or a list of its own -/
/-! ### t.index(n), t a tuple of ints -/
/-! ### tuple(xs) of a list: such a tuple -/
section
variable {K : PySem.W.Frag} {X : Cx}
def tupF : BL
  | [.list xs], P => P (frtD xs)
  | _, _ => False
theorem tupF.mono : BL.Mono tupF := by
  intro a P P' h q
  unfold tupF at q ⊢
  split at q
  · exact h _ q
  · exact q.elim
end
/-! ### what is known may be forgotten -/
def Wk (d d' : D) : Prop := ∀ (K : PySem.W.Frag) (p : Option Addr) (G : Hp) (v : V), R K p G v d → R K p G v d'
theorem Wk.refl (d : D) : Wk d d := fun _ _ _ _ r => r
theorem Wk.all {f g : α → D} : ∀ {l : List α}, (∀ a ∈ l, Wk (f a) (g a)) → ∀ {K : PySem.W.Frag} {p : Option Addr} {G : Hp} {vs : List V}, RA K p G vs (l.map f) → RA K p G vs (l.map g)
  | [], _, _, _, _, _, .nil => .nil
  | a :: l, h, _, _, _, _, .cons r rs => .cons (h a List.mem_cons_self _ _ _ _ r) (Wk.all (fun b hb => h b (List.mem_cons_of_mem _ hb)) rs)
theorem Wk.map {f g : α → D} {l : List α} (h : ∀ a ∈ l, Wk (f a) (g a)) : Wk (.tuple (l.map f)) (.tuple (l.map g)) := fun K p G v r => by
  obtain ⟨a, xs, rfl, h1, ra⟩ := r.tup_inv
  exact .tup h1 (Wk.all h ra)
end L2.DL
namespace L2.DL
open PySem PySem.Spec
      PyProof.Rows
/-! ### sorted(xs), xs a list of pairs (n, v), v None or an int, no two with the same n -/
def entD (e : Int × Option Int) : D := .tuple [.int e.1, match e.2 with | none => .none | some v => .int v]
def sortEnt : BL
  | [.list ds], P => ∃ es : List (Int × Option Int), ds = es.map entD ∧ (es.map (·.1)).Nodup ∧ ∀ es' : List (Int × Option Int), es'.Perm es → es'.Pairwise (fun a b => a.1 < b.1) → P (.list (es'.map entD))
  | _, _ => False
theorem sortEnt.mono : BL.Mono sortEnt := by
  intro a P P' h q
  unfold sortEnt at q ⊢
  split at q
  · obtain ⟨es, e, n, z⟩ := q
    exact ⟨es, e, n, fun es' h1 h2 => h _ (z es' h1 h2)⟩
  · exact q.elim
end L2.DL
namespace L2.DL
open PySem PySem.Spec
      PyProof.Rows
/-! ### a statement that reads a list that a slot alone holds, and gives nothing of it away: afterwards the slot alone holds it -/
theorem Wk.adr (a : Addr) (ds : List D) : Wk (adrD a ds) (.list ds) := fun _ _ _ _ r => by
  obtain ⟨rfl, xs, h1, h2⟩ := r.adr_inv
  exact .lst h1 h2
def keep : Slot → Slot
  | .dat d => match noL d with
    | true => .dat d
    | false => .un
  | _ => .un
end L2.DL
namespace L2.DL
open PySem PySem.Spec
      PyProof.Rows
/-! ### repr of data with short texts within: more of it -/
mutual
def lite : D → Bool
  | .str x => decide (x.length ≤ 10)
  | .list xs => lites xs
  | .tuple xs => lites xs
  | .dict _ => false
  | _ => true
def lites : List D → Bool
  | [] => true
  | d :: ds => lite d && lites ds
end
mutual
theorem lite.len : ∀ d : D, fine d = true → lite d = true → d.shown.length + 3 ≤ 400 * wt d
  | .none, _, _ => by simp only [PyData.shown, wt]; decide
  | .bool b, _, _ => by cases b <;> (simp only [PyData.shown, wt]; decide)
  | .int i, h, _ => by
    unfold fine at h
    simp only [PyData.shown, wt]
    have z := PySem.int_text_length_le (a := i) (k := 120) (by decide) (PySem.Flt.log2_lt_of (by decide) (of_decide_eq_true h))
    rw [PySem.ofString_length]
    omega
  | .str x, h, l => by
    unfold fine at h
    unfold lite at l
    have l := of_decide_eq_true l
    simp only [PyData.shown, wt]
    have z := PySem.StrLaws.reprText_len x (fun c hc => by
      have q : PyData.strOk x = true := h
      unfold PyData.strOk at q
      rw [Array.all_eq_true_iff_forall_mem] at q
      have := of_decide_eq_true (q c (by simpa using hc))
      omega)
    omega
  | .list xs, h, l => by
    have q := lites.len xs (by simpa only [fine] using h) (by simpa only [lite] using l)
    simp only [PyData.shown, wt]
    have z := PySem.listText_len_le (PyData.shownAll xs)
    rw [shownAll_length] at z
    have l := wtAll_length xs
    omega
  | .tuple xs, h, l => by
    have q := lites.len xs (by simpa only [fine] using h) (by simpa only [lite] using l)
    simp only [PyData.shown, wt]
    have z := PySem.tupleText_len_le (PyData.shownAll xs)
    rw [shownAll_length] at z
    have l := wtAll_length xs
    omega
  | .dict _, h, _ => by simp only [fine] at h; cases h
theorem lites.len : ∀ ds : List D, fineAll ds = true → lites ds = true → ((PyData.shownAll ds).map (·.length)).sum + 3 * ds.length ≤ 400 * wtAll ds
  | [], _, _ => by simp [PyData.shownAll, wtAll]
  | d :: ds, h, l => by
    unfold fineAll at h
    unfold lites at l
    rw [Bool.and_eq_true] at h l
    have a := lite.len d h.1 l.1
    have b := lites.len ds h.2 l.2
    have : 1 ≤ wt d := by cases d <;> simp [wt]
    simp only [PyData.shownAll, wtAll, List.map_cons, List.sum_cons, List.length_cons]
    omega
end
structure Wide1 (x : D) : Prop where
  f : fine x = true
  dp : x.depth ≤ 50
  ln : x.shown.length ≤ sizeLine
theorem Wide1.noDict {d : D} (h : Wide1 d) : d.hasDict = false := Ok.noDict (n := wt d) (m := 50) ⟨h.f, Nat.le_refl _, h.dp⟩
def reprW : BL
  | [d], P => Wide1 d ∧ P (.str d.shown)
  | _, _ => False
theorem reprW.mono : BL.Mono reprW := by
  intro a P P' h q
  unfold reprW at q ⊢
  split at q
  · exact ⟨q.1, h _ q.2⟩
  · exact q.elim
end L2.DL
namespace L2.DL
open PySem PySem.Spec
      PyProof.Rows
/-! ### dict(t)[n], t a tuple of pairs, of which it is known that it has no attributes -/
theorem Paired.same {K : PySem.W.Frag} {G G' : Hp} (s : Same G G') : ∀ {ps : List Addr} {ks : List (Key × V)}, Paired (fun a kv => SqT K G a [kV kv.1, kv.2]) ps ks → Paired (fun a kv => SqT K G' a [kV kv.1, kv.2]) ps ks
  | _, _, .nil => .nil
  | _, _, .cons h t => .cons (sameT s h) (Paired.same s t)
end L2.DL
namespace L2.DL
open PySem PySem.Spec
      PyProof.Rows
/-! ### sorted(t), t a tuple of pairs (a number, a number or None) whose numbers differ -/
def sortEntT : BL
  | [.tuple ds], P => ∃ es : List (Int × Option Int), ds = es.map entD ∧ (es.map (·.1)).Nodup ∧ ∀ es' : List (Int × Option Int), es'.Perm es → es'.Pairwise (fun a b => a.1 < b.1) → P (.list (es'.map entD))
  | _, _ => False
theorem sortEntT.mono : BL.Mono sortEntT := by
  intro a P P' h q
  unfold sortEntT at q ⊢
  split at q
  · obtain ⟨es, e, n, z⟩ := q
    exact ⟨es, e, n, fun es' h1 h2 => h _ (z es' h1 h2)⟩
  · exact q.elim
end L2.DL
namespace L2.DL
open PySem PySem.Spec
      PyProof.Rows
/-! ### lists at told addresses: they are changed, and handed to defs that change them -/
theorem set_at {s : List Slot} {i j : Nat} {y z : Slot} (h : (s.set i y)[j]? = some z) : (j = i ∧ i < s.length ∧ z = y) ∨ (j ≠ i ∧ s[j]? = some z) := by
  by_cases hj : i = j
  · subst hj
    by_cases hl : i < s.length
    · rw [List.getElem?_set_self hl] at h; cases h; exact .inl ⟨rfl, hl, rfl⟩
    · rw [List.getElem?_eq_none (by simpa using hl)] at h; cases h
  · rw [List.getElem?_set_ne hj] at h
    exact .inr ⟨Ne.symm hj, h⟩
/-- the slot z with the list at b now holding es -/
def newAt (b : Addr) (es : List D) (q : Addr × List D) : Addr × List D := if q.1 = b then (b, es) else q
theorem newAt_fst {b : Addr} {es : List D} {q : Addr × List D} : (newAt b es q).1 = q.1 := by
  unfold newAt
  split
  · rename_i h; exact h.symm
  · rfl
section
variable {K : PySem.W.Frag} {p : Option Addr} {G₀ H₀ G H : Hp} {σ : L2.St} {e : En}
theorem Rl.pmut {i : Nat} {b : Addr} {z z' : Slot} {ds es : List D} {ys : List V} (r : Rl K p G₀ H₀ G H σ e) (hi : e.s[i]? = some z) (hb : (b, ds) ∈ z.pcs) (hh : z'.hd = z.hd) (hp : z'.pcs = z.pcs.map (newAt b es)) (ra : RA K p G ys es) :
    Rl K p G₀ H₀ G (L2.upd H b (.lst ys)) σ (DL.put e i z') := by
  obtain ⟨α, r⟩ := r
  obtain ⟨xs, h1, h2, h3, h4, _⟩ := r.bo.pc i z b ds hi hb
  have nz : ∀ {y : Slot}, y.pcs = [] → z' ≠ y := fun {y} hy e => by
    rw [e, hy] at hp
    have : z.pcs = [] := List.map_eq_nil_iff.mp hp.symm
    rw [this] at hb; cases hb
  have old : ∀ {j : Nat} {y : Slot}, (DL.put e i z').s[j]? = some y → (j = i ∧ y = z') ∨ (j ≠ i ∧ e.s[j]? = some y) := fun {j y} h => by
    rcases set_at (s := e.s) h with ⟨a, _, c⟩ | h
    · exact .inl ⟨a, c⟩
    · exact .inr h
  refine ⟨α, ⟨fun c u q => ?_, fun a ea => ?_⟩, ⟨r.st.gg, fun c u q n => ?_, r.st.nn, fun a c ea h => ?_⟩, by simpa [DL.put] using r.len, fun j d h => ?_, fun j fs h => ?_, fun j k fs gs h5 h6 hjk => ?_, ⟨fun j y a hy q => ?_, fun j y c fs hy q => ?_, fun j y hy => ?_, fun j k y w c fs gs hy hw hjk q => ?_, fun j k y fs c gs hj hy q => ?_⟩⟩
  · rw [upd_ne (ne_of_none q h2)]; exact r.w.same _ _ q
  · obtain ⟨k1, c, zs, i, t, k2, k3⟩ := r.w.pen a ea
    exact ⟨k1, c, zs, i, t, by rw [upd_ne (fun q => h4 (by rw [← q]; exact ea))]; exact k2, k3⟩
  · rw [upd_ne (ne_of_none q h3)]; exact r.st.hh c u q n
  · obtain ⟨i, t, q⟩ := r.st.pc a c ea h
    exact ⟨i, t, by rw [upd_ne (fun q => h4 (by rw [← q]; exact ea))]; exact q⟩
  · rcases old h with ⟨_, q⟩ | ⟨_, q⟩
    · exact absurd q.symm (nz rfl)
    · exact r.dat j d q
  · rcases old h with ⟨_, q⟩ | ⟨_, q⟩
    · exact absurd q.symm (nz rfl)
    · obtain ⟨zs, k1, k2, k3⟩ := r.own j fs q
      exact ⟨zs, k1, by rw [upd_ne (r.bo.osep j i z fs b ds q hi hb)]; exact k2, k3⟩
  · rcases old h5 with ⟨_, q⟩ | ⟨_, q⟩
    · exact absurd q.symm (nz rfl)
    · rcases old h6 with ⟨_, q'⟩ | ⟨_, q'⟩
      · exact absurd q'.symm (nz rfl)
      · exact r.sep j k fs gs q q' hjk
  · rcases old hy with ⟨rfl, rfl⟩ | ⟨_, hy⟩
    · exact r.bo.hd j z a hi (by rw [← hh]; exact q)
    · exact r.bo.hd j y a hy q
  · rcases old hy with ⟨rfl, rfl⟩ | ⟨hj, hy⟩
    · rw [hp] at q
      obtain ⟨⟨c', fs'⟩, m, em⟩ := List.mem_map.mp q
      unfold newAt at em
      split at em
      · cases em
        exact ⟨ys, upd_same, h2, h3, h4, ra⟩
      · rename_i n
        cases em
        obtain ⟨zs, k1, k2⟩ := r.bo.pc j z c fs hi m
        exact ⟨zs, by rw [upd_ne n]; exact k1, k2⟩
    · obtain ⟨zs, k1, k2⟩ := r.bo.pc j y c fs hy q
      have n : c ≠ b := fun ec => r.bo.sep i j z y b ds fs hi hy (Ne.symm hj) hb (ec ▸ q)
      exact ⟨zs, by rw [upd_ne n]; exact k1, k2⟩
  · rcases old hy with ⟨rfl, rfl⟩ | ⟨_, hy⟩
    · rw [hp, List.map_map, show ((fun q => q.1) ∘ newAt b es) = fun q : Addr × List D => q.1 from funext fun q => newAt_fst]
      exact r.bo.nd j z hi
    · exact r.bo.nd j y hy
  · have m : ∀ {j : Nat} {y : Slot} {fs}, (DL.put e i z').s[j]? = some y → (c, fs) ∈ y.pcs → ∃ y' fs', e.s[j]? = some y' ∧ (c, fs') ∈ y'.pcs := fun {j y fs} hy q => by
      rcases old hy with ⟨rfl, rfl⟩ | ⟨_, hy⟩
      · rw [hp] at q
        obtain ⟨⟨c', fs'⟩, m, em⟩ := List.mem_map.mp q
        have e1 := congrArg (·.1) em
        simp only [newAt_fst] at e1
        subst e1
        exact ⟨z, fs', hi, m⟩
      · exact ⟨y, fs, hy, q⟩
    intro q'
    obtain ⟨y1, f1, a1, b1⟩ := m hy q
    obtain ⟨y2, f2, a2, b2⟩ := m hw q'
    exact r.bo.sep j k y1 y2 c f1 f2 a1 a2 hjk b1 b2
  · rcases old hj with ⟨_, q1⟩ | ⟨_, hj2⟩
    · exact absurd q1.symm (nz rfl)
    · rcases old hy with ⟨rfl, rfl⟩ | ⟨_, hy2⟩
      · rw [hp] at q
        obtain ⟨⟨c', fs'⟩, m, em⟩ := List.mem_map.mp q
        have e1 := congrArg (·.1) em
        simp only [newAt_fst] at e1
        subst e1
        exact r.bo.osep j k z fs c' fs' hj2 hi m
      · exact r.bo.osep j k y fs c gs hj2 hy2 q
end
/-! #### what is handed to such a def -/
open Classical in
/-- the heap without the lists of the slots -/
noncomputable def lessS (H : Hp) (ss : List Slot) : Hp := fun b => if ∃ (i : Nat) (z : Slot) (ds : List D), ss[i]? = some z ∧ (b, ds) ∈ z.pcs then none else H b
theorem lessS_some {H : Hp} {ss : List Slot} {b : Addr} {o : HO} (h : lessS H ss b = some o) : H b = some o := by
  unfold lessS at h
  split at h
  · cases h
  · exact h
theorem lessS_at {H : Hp} {ss : List Slot} {b : Addr} {i : Nat} {z : Slot} {ds : List D} (h : ss[i]? = some z) (m : (b, ds) ∈ z.pcs) : lessS H ss b = none := if_pos ⟨i, z, ds, h, m⟩
theorem lessS_ne {H : Hp} {ss : List Slot} {b : Addr} (h : ∀ (i : Nat) z ds, ss[i]? = some z → (b, ds) ∉ z.pcs) : lessS H ss b = H b := if_neg fun ⟨i, z, ds, h1, h2⟩ => h i z ds h1 h2
/-- values for the parameters: data, and such lists -/
structure Lent (K : PySem.W.Frag) (p : Option Addr) (G H : Hp) (vs : List V) (ss : List Slot) : Prop where
  len : vs.length = ss.length
  dat : ∀ (i : Nat) d, ss[i]? = some (.dat d) → ∃ v, vs[i]? = some v ∧ R K p G v d
  no : ∀ (i : Nat) ds, ss[i]? ≠ some (.own ds)
  bo : Bo K p G (lessS H ss) H (vs.map some) ss (fun _ => 0)
def enOfS (N : List Str) (ss : List Slot) (k : Nat) : En := ⟨ss ++ List.replicate (N.length - ss.length) .un, k⟩
abbrev Wm := List Slot → Nat → (D → En → Prop) → Prop
def Wm.Mono (w : Wm) : Prop := ∀ ss k Q Q', (∀ d e, Q d e → Q' d e) → w ss k Q → w ss k Q'
def spM (K : PySem.W.Frag) (w : Wm) : Sp := fun vs H Q _ => ∃ p G ss k, Wd K p k G H ∧ Lent K p G H vs ss ∧ w ss k fun d e' => ∀ v σ' G' H', Rl K p G (lessS H ss) G' H' σ' e' → R K p G' v d → Q v H'
def DefM (P : Program) (w : World) (K : PySem.W.Frag) (mg : Str → Option Value) (base : Heap) (x : Str) (k : Nat) (ps : List Str) (wf : Wm) : Prop :=
  ∃ f fd, FnG P w K mg base k f fd ps (spM K wf) ∧ mg x = some (.ref f) ∧ PySem.W.keepIn K (.ref f) = true ∧ Binds K fd ps []
abbrev defEndsM (Q : D → En → Prop) : DEnds := ⟨fun e => Q .none e, fun d e => Q d e, fun _ => False, fun _ => False, fun _ _ => False⟩
section
variable {P : Program} {w : World} {K :
      PySem.W.Frag} {mg : Str → Option Value} {base : Heap}
theorem DefM.mono {x : Str} {j k : Nat} {ps : List Str} {wf : Wm} (h : DefM P w K mg base x j ps wf) (l : j ≤ k) : DefM P w K mg base x k ps wf := by
  obtain ⟨f, fd, h1, h2⟩ := h
  exact ⟨f, fd, h1.mono l, h2⟩
theorem Rl.startM {p : Option Addr} {G H : Hp} {N : List Str} {vs : List V} {ss : List Slot} {k : Nat} (wd : Wd K p k G H) (ln : Lent K p G H vs ss) : Rl K p G (lessS H ss) G H (L2.start N vs) (enOfS N ss k) := by
  have old : ∀ {i : Nat} {z : Slot}, (ss ++ List.replicate (N.length - ss.length) Slot.un)[i]? = some z → z = .un ∨ (ss[i]? = some z ∧ (L2.start N vs)[i]? = (vs.map some)[i]?) := fun {i z} h => by
    by_cases hi : i < ss.length
    · rw [List.getElem?_append_left hi] at h
      refine .inr ⟨h, ?_⟩
      unfold L2.start
      rw [List.getElem?_append_left (by rw [List.length_map, ln.len]; exact hi)]
    · rw [List.getElem?_append_right (by omega), List.getElem?_replicate] at h
      split at h
      · cases h; exact .inl rfl
      · cases h
  refine ⟨fun _ => 0, wd, ⟨Same.refl G, fun b o h _ => lessS_some h, fun _ _ _ h => h, fun a c _ ⟨i, r, h⟩ => ⟨i, r, lessS_some h⟩⟩, by simp [L2.start, enOfS, ln.len], fun i d h => ?_, fun i ds h => ?_, fun i j ds es h => ?_, ln.bo.env (fun j z h => ?_) fun j ds h => ?_⟩
  · rcases old h with e | ⟨h1, h2⟩
    · cases e
    · obtain ⟨v, k1, k2⟩ := ln.dat i d h1
      exact ⟨v, by rw [h2, List.getElem?_map, k1]; rfl, k2⟩
  · rcases old h with e | ⟨h1, _⟩
    · cases e
    · exact absurd h1 (ln.no i ds)
  · rcases old h with e | ⟨h1, _⟩
    · cases e
    · exact absurd h1 (ln.no i ds)
  · rcases old h with e | ⟨h1, h2⟩
    · subst e; exact .inl ⟨rfl, rfl⟩
    · exact .inr ⟨h1, h2⟩
  · rcases old h with e | ⟨h1, _⟩
    · cases e
    · exact absurd h1 (ln.no j ds)
theorem defM {x : Str} {st : Stmt} {N ps : List Str} {k : Nat} {wf : Wm} (F : FunAt K mg x st ps) (S : FnScope N ps (defScope st)) (len : ∀ ss k Q, wf ss k Q → ss.length = ps.length)
    (body : ∀ (f : Addr) (cdv : Value) (A : Around) (outer : List Env) (s : Shared) (H : Hp) (E : XK) (p : Option Addr) (G H₀ : Hp), A.guards = some [] → Room k (A.deeper (envOfC x (defScope st) s.heap.objs.size f cdv)) →
      ∃ ws, DSs (cxOf (L2.CX P w) P w K mg base N x (defScope st) f cdv A outer s H E) ⟨p, G, H₀, fun cls d _ H' => E cls d H'⟩ (defBody st) ws ∧ ∀ ss n Q, wf ss n Q → ws (enOfS N ss n) (defEndsM Q)) : DefM P w K mg base x (k + 1) ps wf := by
  obtain ⟨f, fd, h1, h2, h3⟩ := F
  refine ⟨f, fd, ?_, h2, h1.kp, h3⟩
  refine fnG_of h1 S (fun vs H Q E ⟨p, G, ss, n, _, ln, q⟩ => by
    rw [ln.len]
    exact len ss n _ q) fun cdv A outer s H vs Q E hg hr ⟨p, G, ss, n, wd, ln, q⟩ => ?_
  obtain ⟨ws, h, hq⟩ := body f cdv A outer s H E p G (lessS H ss) hg hr
  refine ⟨_, h.run, enOfS N ss n, G, Rl.startM wd ln, h.mono _ _ _ ⟨?_, ?_, ?_, ?_, ?_⟩ (hq ss n _ q)⟩
  · exact fun e' z σ' G' H' _ r => z _ σ' G' H' r .non
  · exact fun d e' z v σ' G' H' _ r rv => z v σ' G' H' r rv
  · exact fun _ z => z.elim
  · exact fun _ z => z.elim
  · exact fun _ _ z => z.elim
end
/-! #### the call -/
/-- parameter j is handed the list of the slot i -/
structure Fit (L : List (Nat × Nat)) (s : List Slot) (ds : List D) (ss : List Slot) : Prop where
  len : ss.length = ds.length
  dat : ∀ (j : Nat) z, ss[j]? = some z → (∃ d, z = .dat d ∧ ds[j]? = some d) ∨ ∃ i a, (j, i) ∈ L ∧ ds[j]? = some (mutD a) ∧ s[i]? = some z ∧ z.hd = some a
  one : ∀ j k i, (j, i) ∈ L → (k, i) ∈ L → j = k
  fn : ∀ j i k, (j, i) ∈ L → (j, k) ∈ L → i = k
def backS (s' : List Slot) : List (Nat × Nat) → List Slot → List Slot
  | [], s => s
  | (j, i) :: L, s => backS s' L (s.set i (s'.getD j .un))
theorem backS_length {s' : List Slot} : ∀ {L : List (Nat × Nat)} {s : List Slot}, (backS s' L s).length = s.length
  | [], _ => rfl
  | (j, i) :: L, s => by unfold backS; rw [backS_length, List.length_set]
theorem backS_at {s' : List Slot} : ∀ {L : List (Nat × Nat)} {s : List Slot} {i : Nat} {z : Slot}, (backS s' L s)[i]? = some z → (∃ j, (j, i) ∈ L ∧ z = s'.getD j .un ∧ i < s.length) ∨ ((∀ j, (j, i) ∉ L) ∧ s[i]? = some z)
  | [], s, i, z, h => .inr ⟨fun _ q => (nomatch q), h⟩
  | (j, k) :: L, s, i, z, h => by
    unfold backS at h
    rcases backS_at h with ⟨j', h1, h2, h3⟩ | ⟨h1, h2⟩
    · exact .inl ⟨j', List.mem_cons_of_mem _ h1, h2, by simpa using h3⟩
    · rcases set_at h2 with ⟨rfl, hl, rfl⟩ | ⟨hk, h2⟩
      · exact .inl ⟨j, List.mem_cons_self, rfl, hl⟩
      · refine .inr ⟨fun j' q => ?_, h2⟩
        rcases List.mem_cons.mp
              q with e | q
        · cases e; exact hk rfl
        · exact h1 j' q
section
variable {K : PySem.W.Frag} {p : Option Addr} {F₀ H₀ G H G' H' : Hp} {σ σ' : L2.St} {e e' : En}
theorem Lent.of {L : List (Nat × Nat)} {vs : List V} {ds : List D} {ss : List Slot} (r : Rl K p F₀ H₀ G H σ e) (ra : RA K p G vs ds) (ft : Fit L e.s ds ss) : Lent K p G H vs ss := by
  obtain ⟨α, r⟩ := r
  have at' : ∀ {j : Nat} {z : Slot} {b es}, ss[j]? = some z → (b, es) ∈ z.pcs → ∃ i a, (j, i) ∈ L ∧ ds[j]? = some (mutD a) ∧ e.s[i]? = some z ∧ z.hd = some a := fun {j z b es} hz m => by
    rcases ft.dat j z hz with ⟨d, rfl, _⟩ | h
    · cases m
    · exact h
  refine ⟨by rw [ra.length, ft.len], fun i d h => ?_, fun i ds h => ?_, ⟨fun i z a hz q => ?_, fun i z b es hz m => ?_, fun i z hz => ?_, fun i j z y b es fs hz hy hij m m' => ?_, fun i j z es b fs h => ?_⟩⟩
  · rcases ft.dat i _ h with ⟨d', e1, h1⟩ | ⟨_, _, _, _, _, h1⟩
    · cases e1; exact ra.get h1
    · cases h1
  · rcases ft.dat i _ h with ⟨d', e1, h1⟩ | ⟨_, _, _, _, _, h1⟩
    · cases e1
    · cases h1
  · rcases ft.dat i z hz with ⟨d', rfl, h1⟩ | ⟨k, a', _, h1, h2, h3⟩
    · cases q
    · rw [h3] at q; cases q
      obtain ⟨v, h4, h5⟩ := ra.get h1
      cases h5.mut_inv
      rw [List.getElem?_map, h4]
      rfl
  · obtain ⟨k, a, _, _, h2, _⟩ := at' hz m
    obtain ⟨xs, k1, k2, _, k4, k5⟩ := r.bo.pc k z b es h2 m
    exact ⟨xs, k1, k2, lessS_at hz m, k4, k5⟩
  · rcases ft.dat i z hz with ⟨d', rfl, h1⟩ | ⟨k, a', _, h1, h2, h3⟩
    · exact List.nodup_nil
    · exact r.bo.nd k z h2
  · obtain ⟨k, a, l1, _, h2, _⟩ := at' hz m
    obtain ⟨k', a', l2, _, h2', _⟩ := at' hy m'
    refine r.bo.sep k k' z y b es fs h2 h2' (fun ek => hij ?_) m m'
    subst ek
    exact ft.one _ _ _ l1 l2
  · rcases ft.dat i _ h with ⟨d', e1, h1⟩ | ⟨_, _, _, _, _, h1⟩
    · cases e1
    · cases h1
/-- behind the call -/
theorem Rl.back {L : List (Nat × Nat)} {ds : List D} {ss : List Slot} (r : Rl K p F₀ H₀ G H σ e) (ft : Fit L e.s ds ss) (hd : ∀ j i, (j, i) ∈ L → ∃ z z', ss[j]? = some z ∧ e.s[i]? = some z ∧ z.hd ≠ none ∧ e'.s[j]? = some z' ∧ z'.hd = z.hd)
    (r' : Rl K p G (lessS H ss) G' H' σ' e') : Rl K p F₀ H₀ G' H' σ ⟨backS e'.s L e.s, e'.k⟩ := by
  obtain ⟨α, r⟩ := r
  obtain ⟨β, r'⟩ := r'
  -- what is not lent stays
  have stay : ∀ {b : Addr} {o : HO}, H b = some o → p ≠ some b → (∀ (i : Nat) z ds, ss[i]? = some z → (b, ds) ∉ z.pcs) → H' b = some o ∧ (G b = none → G' b = none) ∧ lessS H ss b = some o := fun {b o} h n q => by
    have h1 : lessS H ss b = some o := by rw [lessS_ne q]; exact h
    exact ⟨r'.st.hh b o h1 n, fun g => r'.st.nn b o h1 g, h1⟩
  have from' : ∀ {j : Nat} {z : Slot} {b es}, ss[j]? = some z → (b, es) ∈ z.pcs → ∃ i, (j, i) ∈ L ∧ e.s[i]? = some z := fun {j z b es} hz m => by
    rcases ft.dat j z hz with ⟨d, rfl, _⟩ | ⟨i, a, h1, _, h2, _⟩
    · cases m
    · exact ⟨i, h1, h2⟩
  have lentH : ∀ {b : Addr} {j : Nat} {z : Slot} {es}, ss[j]? = some z → (b, es) ∈ z.pcs → H₀ b = none := fun {b j z es} hz m => by
    obtain ⟨i, _, h2⟩ := from' hz m
    obtain ⟨_, _, _, h3, _⟩ := r.bo.pc i z b es h2 m
    exact h3
  have free0 : ∀ {b : Addr} {o : HO}, H₀ b = some o → ∀ (i : Nat) z ds, ss[i]? = some z → (b, ds) ∉ z.pcs := fun {b o} h i z ds hz m => by
    rw [lentH hz m] at h; cases h
  have set' : ∀ {i : Nat} {z : Slot}, (backS e'.s L e.s)[i]? = some z → (∃ j y, (j, i) ∈ L ∧ ss[j]? = some y ∧ e.s[i]? = some y ∧ y.hd ≠ none ∧ e'.s[j]? = some z ∧ z.hd = y.hd) ∨ ((∀ j, (j, i) ∉ L) ∧ e.s[i]? = some z) := fun {i z} h => by
    rcases backS_at h with ⟨j, h1, h2, _⟩ | h
    · obtain ⟨y, z', k1, k2, k3, k4, k5⟩ := hd j i h1
      rw [List.getD_eq_getElem?_getD, k4] at h2
      subst h2
      exact .inl ⟨j, y, h1, k1, k2, k3, k4, k5⟩
    · exact .inr h
  have no' : ∀ {i : Nat} {z : Slot}, (backS e'.s L e.s)[i]? = some z → z.hd = none → e.s[i]? = some z := fun {i z} h n => by
    rcases set' h with ⟨j, y, _, _, _, k3, _, k5⟩ | ⟨_, h⟩
    · exact absurd (k5.symm.trans n) k3
    · exact h
  -- a list that a slot of e that is not lent stands for is none of those lent
  have away : ∀ {i : Nat} {z : Slot} {b es}, (∀ j, (j, i) ∉ L) → e.s[i]? = some z → (b, es) ∈ z.pcs → ∀ (j : Nat) y fs, ss[j]? = some y → (b, fs) ∉ y.pcs := fun {i z b es} hi hz m j y fs hy m' => by
    obtain ⟨k, h1, h2⟩ := from' hy m'
    exact r.bo.sep i k z y b es fs hz h2 (fun ek => hi j (ek ▸ h1)) m m'
  have awayO : ∀ {i : Nat} {es}, e.s[i]? = some (.own es) → ∀ (j : Nat) y fs, ss[j]? = some y → (α i, fs) ∉ y.pcs := fun {i es} hi j y fs hy m' => by
    obtain ⟨k, h1, h2⟩ := from' hy m'
    exact r.bo.osep i k y es _ fs hi h2 m' rfl
  refine ⟨α, r'.w, ⟨fun b o h => r'.st.gg _ _ (r.st.gg _ _ h), fun b o h n => (stay (r.st.hh b o h n) n (free0 h)).1, fun b o h n => ?_, fun a c ea h => ?_⟩, by show σ.length = (backS e'.s L e.s).length; rw [backS_length]; exact r.len, fun i d h => ?_, fun i es h => ?_, fun i j es fs h1 h2 => r.sep i j es fs (no' h1 rfl) (no' h2 rfl), ⟨fun i z a hz q => ?_, fun i z b es hz m => ?_, fun i z hz => ?_, fun i j z y b es fs hz hy hij m m' => ?_, fun i j z es b fs hi hz m => ?_⟩⟩
  · by_cases hp : p = some b
    · exact (r'.w.pen b hp).1
    · exact (stay (r.st.hh b o h hp) hp (free0 h)).2.1 (r.st.nn b o h n)
  · obtain ⟨i, t, h1⟩ := r.st.pc a c ea h
    refine r'.st.pc a c ea ⟨i, t, ?_⟩
    rw [lessS_ne (fun i z ds hz m => ?_)]
    · exact h1
    · obtain ⟨k, _, h2⟩ := from' hz m
      obtain ⟨_, _, _, _, n, _⟩ := r.bo.pc k z a ds h2 m
      exact n ea
  · obtain ⟨v, h1, h2⟩ := r.dat i d (no' h rfl)
    exact ⟨v, h1, h2.mono r'.st.gg⟩
  · have h' := no' h rfl
    obtain ⟨xs, h1, h2, h3, h4, h5, h6⟩ := r.own i es h'
    obtain ⟨k1, k2, _⟩ := stay h2 h5 (awayO h')
    exact ⟨xs, h1, k1, k2 h3, h4, h5, h6.mono r'.st.gg⟩
  · rcases set' hz with ⟨j, y, _, _, k2, _, _, k5⟩ | ⟨_, h⟩
    · exact r.bo.hd i y a k2 (by rw [← k5]; exact q)
    · exact r.bo.hd i z a h q
  · rcases set' hz with ⟨j, y, _, _, k2, _, k4, _⟩ | ⟨hi, h⟩
    · obtain ⟨xs, g1, g2, g3, g4, g5⟩ := r'.bo.pc j z b es k4 m
      refine ⟨xs, g1, g2, ?_, g4, g5⟩
      cases e0 : H₀ b with
      | none => rfl
      | some o => rw [(stay (r.st.hh b o e0 g4) g4 (free0 e0)).2.2] at g3; cases g3
    · obtain ⟨xs, g1, g2, g3, g4, g5⟩ := r.bo.pc i z b es h m
      obtain ⟨s1, s2, _⟩ := stay g1 g4 (away hi h m)
      exact ⟨xs, s1, s2 g2, g3, g4, g5.mono r'.st.gg⟩
  · rcases set' hz with ⟨j, y, _, _, k2, _, k4, _⟩ | ⟨_, h⟩
    · exact r'.bo.nd j z k4
    · exact r.bo.nd i z h
  · -- one that the def has, one that stayed
    have diff : ∀ (i j' : Nat) (z y : Slot) (es fs : List D), e'.s[j']? = some z → (∀ j, (j, i) ∉ L) → e.s[i]? = some y → (b, es) ∈ z.pcs → (b, fs) ∈ y.pcs → False := fun i j' z y es fs h1 hi h m m' => by
      obtain ⟨_, _, _, g3, _⟩ := r'.bo.pc j' z b es h1 m
      obtain ⟨xs, k1, _, _, k4, _⟩ := r.bo.pc i y b fs h m'
      rw [(stay k1 k4 (away hi h m')).2.2] at g3
      cases g3
    rcases set' hz with ⟨j1, y1, l1, _, k2, _, k4, _⟩ | ⟨hi, h⟩
    · rcases set' hy with ⟨j2, y2, l2, _, k2', _, k4', _⟩ | ⟨hi', h'⟩
      · refine r'.bo.sep j1 j2 z y b es fs k4 k4' (fun ej => hij ?_) m m'
        subst ej
        exact ft.fn _ _ _ l1 l2
      · exact diff _ j1 _ _ _ _ k4 hi' h' m m'
    · rcases set' hy with ⟨j2, y2, _, _, k2', _, k4', _⟩ | ⟨hi', h'⟩
      · exact diff _ j2 _ _ _ _ k4' hi h m' m
      · exact r.bo.sep i j z y b es fs h h' hij m m'
  · have hi' := no' hi rfl
    obtain ⟨xs, h1, h2, h3, h4, h5, h6⟩ := r.own i es hi'
    rcases set' hz with ⟨j1, y1, _, _, k2, _, k4, _⟩ | ⟨hj, h⟩
    · obtain ⟨_, _, _, g3, _⟩ := r'.bo.pc j1 z b fs k4 m
      intro eb
      rw [← eb, (stay h2 h5 (awayO hi')).2.2] at g3
      cases g3
    · exact r.bo.osep i j z es b fs hi' h m
end
/-! #### the rules -/
/-- a name whose slot holds a list at a told address -/
def wMVar (i : Nat) : WEx := fun e Q _ => ∃ z a, e.s[i]? = some z ∧ z.hd = some a ∧ Q (mutD a) e
/-- a call of a def that changes lists that are handed to it: L tells which slot's list goes to which parameter -/
def wCallM (L : List (Nat × Nat)) (wf : Wm) (wa : WAx) : WEx := fun e Q x => wa e (fun ds e1 => ∃ ss, Fit L e1.s ds ss ∧ wf ss e1.k fun d e' => (∀ j i, (j, i) ∈ L → ∃ z z', ss[j]? = some z ∧ e1.s[i]? = some z ∧ z.hd ≠ none ∧ e'.s[j]? = some z' ∧ z'.hd = z.hd) ∧ Q d ⟨backS e'.s L e1.s, e'.k⟩) x
section
variable {X : Cx} {F : Fx} {pos : Pos} {a b : Expr} {es : List Expr} {wa wb : WEx} {wr : WAx}
theorem de_mvar {i : Nat} {x : Str} (h : PE X (.Name x pos) (tVar i)) : DE X F (.Name x pos) (wMVar i) :=
  de_of h (fun e Q Q' x x' h _ ⟨z, a, h1, h2, q⟩ => ⟨z, a, h1, h2, h _ _ q⟩) fun σ H Q ⟨e, G, r, z, a, h1, h2, q⟩ => by
    obtain ⟨α, r'⟩ := id r
    exact ⟨_, r'.bo.hd i z a h1 h2, q _ G H (Same.refl G) r (.mtl rfl)⟩
theorem wCallM.mono {L : List (Nat × Nat)} {wf : Wm} (mf : wf.Mono) (m : MonoA wr) : Mono (wCallM L wf wr) := fun e Q Q' x x' h1 h2 q => m e _ _ _ _ (fun ds e1 ⟨ss, f, z⟩ => ⟨ss, f, mf ss e1.k _ _ (fun d e' y => ⟨y.1, h1 _ _ y.2⟩) z⟩) h2 q
theorem de_fnM {L : List (Nat × Nat)} {wf : Wm} {j k : Nat} {ps : List Str} {x : Str} {p : Pos} (d : DefM X.prog X.w X.K X.mg X.base x j ps wf) (mf : wf.Mono) (hgd : X.A.guards = some []) (hr : Room k X.A) (tk : Takes X F.W) (ha : DA X F (a :: es) wr) (hj : j ≤ k := by decide) (hg : Gl X x := by rfl) (hdb : (x == ("__debug__" : Str)) = false := by decide)
    (he : starEach (a :: es) X.env = (false, eval a X.env) :: starEach es X.env := by rfl) (hpl : (backTo pos (starEach es X.env)).any (·.1) = false := by rfl) : DE X F (.Call (.Name x p) (a :: es) [] pos) (wCallM L wf wr) := by
  obtain ⟨f, fd, h1, h2, h3, h4⟩ := d
  refine de_of (pe_callG h1 hgd (hr.mono hj) hg h2 h3 h4 tk ha.run hdb he hpl) (wCallM.mono mf ha.mono) fun σ H Q ⟨e, G, r0, q⟩ => ?_
  refine tA.mono ha.mono (fun vs H1 z => ?_) (tA.bind ha.mono r0 q)
  obtain ⟨e1, G1, ds, s1, r1, ra, ss, ft, z⟩ := z
  refine ⟨F.p, G1, ss, e1.k, r1.wd, Lent.of r1 ra ft, mf ss e1.k _ _ (fun d e' y v σ' G' H' r' rv => ?_) z⟩
  obtain ⟨β, r2⟩ := id r'
  exact y.2 v G' H' (s1.trans r2.st.gg) (Rl.back r1 ft y.1 r') rv
/-- x.append(a), x at a told address -/
def wAppM (i : Nat) (w : WEx) : WSt := fun e D => (∃ b ds, e.s[i]? = some (.bor b ds)) ∧ w e (fun d e1 => ∃ b ds, e1.s[i]? = some (.bor b ds) ∧ ds.length < 16000000 ∧ D.nx (put e1 i (.bor b (ds ++ [d])))) D.ex
theorem ds_appM {i : Nat} {x : Str} {p1 p2 p3 : Pos} (h : DE X F a wa) (hv : PE X (.Name x p1) (tVar i)) (hs : starEach [a] X.env = (false, eval a X.env) :: starEach [] X.env := by rfl)
    (hpe : PE X (.Call (.Attribute (.Name x p1) "append" p2) [a] [] p3) (tBM X.K "list" rAppend (tVar i) (tCons (tE X.K F wa) tNil))) (hsw : swapsWith (.Call (.Attribute (.Name x p1) "append" p2) [a] [] p3) none pos.line X.env = pure false := by rfl) :
    DS X F (.Expr (.Call (.Attribute (.Name x p1) "append" p2) [a] [] p3) pos) (wAppM i wa) :=
  ds_of (ps_expr hpe hsw) (fun e A B l q => ⟨q.1, h.mono e _ _ _ _ (fun d e1 ⟨b, ds, i1, i2, z⟩ => ⟨b, ds, i1, i2, l.nx _ z⟩) l.ex q.2⟩) fun D σ H ⟨e, G, r, ⟨b0, ds0, h0⟩, q⟩ => by
    obtain ⟨α, r0⟩ := id r
    have h1 := r0.bo.hd i _ b0 h0 rfl
    obtain ⟨xs, h2, _⟩ := r0.bo.pc i _ b0 ds0 h0 (List.mem_singleton.mpr rfl)
    refine ⟨.ref b0, h1, .inl ⟨rfl, _, .inl (.inl h2)⟩, ?_⟩
    refine tE.mono h.mono (fun v H1 z => ?_) (tS.expr (k := fun D d e1 => ∃ b ds, e1.s[i]? = some (.bor b ds) ∧ ds.length < 16000000 ∧ D.nx (put e1 i (.bor b (ds ++ [d])))) (T := fun v H1 => ∃ e1 G1 d b ds, Same G G1 ∧ Rl X.K F.p F.G₀ F.H₀ G1 H1 σ e1 ∧ R X.K F.p G1 v d ∧ e1.s[i]? = some (.bor b ds) ∧ ds.length < 16000000 ∧ (endsOf X.K F G D).nx (put e1 i (.bor b (ds ++ [d])))) h.mono r q
      fun d e' v G' H' s r' rv ⟨b, ds, i1, i2, z⟩ => ⟨e', G', d, b, ds, s, r', rv, i1, i2, z⟩)
    obtain ⟨e1, G1, d, b, ds, s1, r1, rv, i1, i2, z⟩ := z
    obtain ⟨β, r2⟩ := id r1
    have g1 := r2.bo.hd i _ b i1 rfl
    obtain ⟨ys, g2, _, _, _, ra⟩ := r2.bo.pc i _ b ds i1 (List.mem_singleton.mpr rfl)
    rw [h1] at g1
    cases g1
    exact ⟨_, ys, v, rfl, rfl, g2, by rw [ra.length]; exact Nat.lt_of_lt_of_le i2 (by decide), z σ G1 _ s1 (r1.pmut i1 (List.mem_singleton.mpr rfl) rfl (by show [_] = [_]; unfold newAt; rw [if_pos rfl]) (ra.append (.cons rv .nil)))⟩
theorem ds_appendM {i : Nat} {x : Str} {p1 p2 p3 : Pos} (h : DE X F a wa) (hv : PE X (.Name x p1) (tVar i)) (hs : starEach [a] X.env = (false, eval a X.env) :: starEach [] X.env := by rfl)
    (hbase : attributeBase (.Name x p1) "append" X.env (eval (.Name x p1) X.env) = eval (.Name x p1) X.env := by rfl)
    (hfew : ((backTo p3 (starEach [a] X.env)).all (fun x => !x.1) && (backToKw p3 (keywordEach [] X.env)).all (fun x => x.1.isSome) && decide ([a].length + ([] : List Keyword).length + (if ([] : List Keyword).isEmpty then 0 else 1) < 30)) = true := by rfl)
    (hline : (p2.endLine == p3.line) = true := by rfl) (hplain : (backTo p3 (starEach [] X.env)).any (·.1) = false := by rfl) (hsw : swapsWith (.Call (.Attribute (.Name x p1) "append" p2) [a] [] p3) none pos.line X.env = pure false := by rfl) :
    DS X F (.Expr (.Call (.Attribute (.Name x p1) "append" p2) [a] [] p3) pos) (wAppM i wa) :=
  ds_appM h hv hs (pe_bm PySem.F.plainAttrs_list PySem.F.slot_list_append PySem.F.type_list_append mt_append hv (pa_cons h.run pa_nil hs) hbase hfew hline hs hplain) hsw
end
theorem fit_last {s : List Slot} {ds : List D} {i : Nat} {a : Addr} {fs : List D} (h : s[i]? = some (.bor a fs)) : Fit [(ds.length, i)] s (ds ++ [mutD a]) (ds.map .dat ++ [.bor a fs]) := by
  refine ⟨by simp, fun j z hz => ?_, fun j k i' h1 h2 => ?_, fun j i' k h1 h2 => ?_⟩
  · by_cases hj : j < ds.length
    · rw [List.getElem?_append_left (by simpa using hj), List.getElem?_map] at hz
      cases e : ds[j]? with
      | none => rw [e] at hz; cases hz
      | some d => rw [e] at hz; cases hz; exact .inl ⟨d, rfl, by rw [List.getElem?_append_left hj, e]⟩
    · rw [List.getElem?_append_right (by simpa using hj), List.length_map] at hz
      have e0 : j - ds.length = 0 := by
        cases e : j - ds.length with
        | zero => rfl
        | succ n => rw [e] at hz; cases hz
      rw [e0] at hz
      cases hz
      have ej : j = ds.length := by omega
      subst ej
      exact .inr ⟨i, a, List.mem_singleton.mpr rfl, by rw [List.getElem?_append_right (Nat.le_refl _), Nat.sub_self]; rfl, h, rfl⟩
  · cases List.mem_singleton.mp h1
    cases List.mem_singleton.mp h2
    rfl
  · cases List.mem_singleton.mp h1
    cases List.mem_singleton.mp h2
    rfl
end L2.DL
namespace L2.DL
open PySem PySem.Spec
      PyProof.Rows
/-! ### such a def is handed a fresh list, as its last argument, that nothing looks at afterwards -/
abbrev WAf := En → (List D → List D → En → Prop) → PD → Prop
def MonoAf (w : WAf) : Prop := ∀ e Q Q' x x', (∀ b c e, Q b c e → Q' b c e) → (∀ d e, x d e → x' d e) → w e Q x → w e Q' x'
def tAf (K : PySem.W.Frag) (F : Fx) (w : WAf) : TA := fun σ H Q => ∃ e G, Rl K F.p F.G₀ F.H₀ G H σ e ∧ w e (fun ds fs e' => ∀ vs a xs G' H', Same G G' → Rl K F.p F.G₀ F.H₀ G' H' σ e' → H' a = none → RA K F.p G' vs ds → RA K F.p G' xs fs → Q (vs ++ [.ref a]) (L2.upd H' a (.lst xs))) (PX K F.p F.G₀ F.H₀ F.W G σ)
structure DAf (X : Cx) (F : Fx) (es : List Expr) (w : WAf) : Prop where
  run : PA X es (tAf X.K F w)
  mono : MonoAf w
def wLastF (w : WAx) : WAf := fun e Q x => w e (fun fs e1 => Q [] fs e1) x
def wConsF (wa : WEx) (wr : WAf) : WAf := fun e Q x => wa e (fun d e1 => wr e1 (fun ds fs e2 => Q (d :: ds) fs e2) x) x
def wCallMF (wf : Wm) (wa : WAf) : WEx := fun e Q x => wa e (fun ds fs e1 => ∀ a, wf (ds.map .dat ++ [.bor a fs]) e1.k fun d e' => Q d { e1 with k := e'.k }) x
section
variable {X : Cx} {F : Fx} {pos : Pos} {a b : Expr} {es : List Expr} {wa wb : WEx} {wr : WAx} {wl : WAf}
theorem daf_last (h : DF X F a wr) (hs : starEach [a] X.env = (false, eval a X.env) :: starEach [] X.env := by rfl) : DAf X F [a] (wLastF wr) := by
  refine ⟨⟨fun pos pins s σ H Q I q => (pa_cons h.run pa_nil hs).run pos pins s σ H Q I ?_⟩, fun e Q Q' x x' h1 h2 q => h.mono e _ _ _ _ (fun fs e1 z => h1 _ _ _ z) h2 q⟩
  obtain ⟨e, G, r, q⟩ := q
  exact ⟨e, G, r, h.mono e _ _ _ _ (fun fs e1 z a xs G' H' s r' ha rx => z [] a xs G' H' s r' ha .nil rx) (fun _ _ z => z) q⟩
theorem daf_cons (ha : DE X F a wa) (hr : DAf X F es wl) (hs : starEach (a :: es) X.env = (false, eval a X.env) :: starEach es X.env := by rfl) : DAf X F (a :: es) (wConsF wa wl) := by
  refine ⟨⟨fun pos pins s σ H Q I q => (pa_cons ha.run hr.run hs).run pos pins s σ H Q I ?_⟩, fun e Q Q' x x' h1 h2 q => ha.mono e _ _ _ _ (fun d e1 z => hr.mono e1 _ _ _ _ (fun ds fs e2 y => h1 _ _ _ y) h2 z) h2 q⟩
  obtain ⟨e, G, r, q⟩ := q
  refine tE.mono ha.mono (fun v1 H1 q1 => ?_) (tE.any ha.mono r q)
  obtain ⟨e1, G1, d1, s1, r1, rv1, q1⟩ := q1
  exact ⟨e1, G1, r1, hr.mono e1 _ _ _ _ (fun ds fs e2 y vs a xs G' H' s r' ha rv rx => y (v1 :: vs) a xs G' H' (s1.trans s) r' ha (.cons (rv1.mono s) rv) rx) (fun _ _ => PX.mono s1) q1⟩
theorem Lent.fresh {K : PySem.W.Frag} {p : Option Addr} {F₀ H₀ G H : Hp} {σ : L2.St} {e : En} {q : Addr} {vs xs : List V} {ds fs : List D} (r : Rl K p F₀ H₀ G H σ e) (hq : H q = none) (ra : RA K p G vs ds) (rx : RA K p G xs fs) :
    Lent K p G (L2.upd H q (.lst xs)) (vs ++ [.ref q]) (ds.map .dat ++ [.bor q fs]) ∧ lessS (L2.upd H q (.lst xs)) (ds.map .dat ++ [.bor q fs]) = H := by
  have np : p ≠ some q := fun ep => by
    obtain ⟨_, c, xs, i, t, h2, _⟩ := r.wd.pen q ep
    rw [hq] at h2; cases h2
  have gq : G q = none := r.same.free hq
  have at' : ∀ {i : Nat} {z : Slot}, (ds.map Slot.dat ++ [Slot.bor q fs])[i]? = some z → (∃ d, ds[i]? = some d ∧ z = .dat d) ∨ (i = ds.length ∧ z = .bor q fs) := fun {i z} h => by
    by_cases hi : i < ds.length
    · rw [List.getElem?_append_left (by simpa using hi), List.getElem?_map] at h
      cases e : ds[i]? with
      | none =>
            rw [e] at h; cases h
      | some d => rw [e] at h; cases h; exact .inl ⟨d, rfl, rfl⟩
    · rw [List.getElem?_append_right (by simpa using hi), List.length_map] at h
      have e0 : i - ds.length = 0 := by
        cases e : i - ds.length with
        | zero => rfl
        | succ n => rw [e] at h; cases h
      rw [e0] at h
      cases h
      exact .inr ⟨by omega, rfl⟩
  have last : (ds.map Slot.dat ++ [Slot.bor q fs])[ds.length]? = some (.bor q fs) := by
    rw [List.getElem?_append_right (by simp), List.length_map, Nat.sub_self]
    rfl
  have hd : ∀ {i : Nat} {z : Slot} {b es}, (ds.map Slot.dat ++ [Slot.bor q fs])[i]? = some z → (b, es) ∈ z.pcs → i = ds.length ∧ z = .bor q fs ∧ b = q ∧ es = fs := fun {i z b es} h m => by
    rcases at' h with ⟨d, _, rfl⟩ | ⟨e1, rfl⟩
    · cases m
    · cases List.mem_singleton.mp m
      exact ⟨e1, rfl, rfl, rfl⟩
  have le : lessS (L2.upd H q (.lst xs)) (ds.map .dat ++ [.bor q fs]) = H := by
    funext b
    by_cases hb : b = q
    · rw [hb, lessS_at last (List.mem_singleton.mpr rfl), hq]
    · rw [lessS_ne (fun i z es h m => hb (hd h m).2.2.1), upd_ne hb]
  refine ⟨⟨by simp [ra.length], fun i d h => ?_, fun i es h => ?_, ⟨fun i z a h q' => ?_, fun i z b es h m => ?_, fun i z h => ?_, fun i j z y b es gs h h' hij m m' => ?_, fun i j z es b gs h => ?_⟩⟩, le⟩
  · rcases at' h with ⟨d', h1, h2⟩ | ⟨_, h2⟩
    · cases h2
      obtain ⟨v, k1, k2⟩ := ra.get h1
      exact ⟨v, by rw [List.getElem?_append_left (List.getElem?_eq_some_iff.mp k1).1]; exact k1, k2⟩
    · cases h2
  · rcases at' h with ⟨d', h1, h2⟩ | ⟨_, h2⟩ <;> cases h2
  · rcases at' h with ⟨d', h1, rfl⟩ | ⟨e1, rfl⟩
    · cases q'
    · cases q'
      rw [List.getElem?_map, List.getElem?_append_right (by rw [ra.length]; omega), ra.length, e1, Nat.sub_self]
      rfl
  · obtain ⟨_, _, rfl, rfl⟩ := hd h m
    exact ⟨xs, upd_same, gq, by rw [le]; exact hq, np, rx⟩
  · rcases at' h with ⟨d', h1, rfl⟩ | ⟨e1, rfl⟩
    · exact List.nodup_nil
    · exact List.nodup_cons.mpr ⟨List.not_mem_nil, List.nodup_nil⟩
  · exact hij ((hd h m).1.trans (hd h' m').1.symm)
  · rcases at' h with ⟨d', h1, h2⟩ | ⟨_, h2⟩ <;> cases h2
theorem de_fnMF {wf : Wm} {j k : Nat} {ps : List Str} {x : Str} {p : Pos} (d : DefM X.prog X.w X.K X.mg X.base x j ps wf) (mf : wf.Mono) (hgd : X.A.guards = some []) (hr : Room k X.A) (tk : Takes X F.W) (ha : DAf X F (a :: es) wl) (hj : j ≤ k := by decide) (hg : Gl X x := by rfl) (hdb : (x == ("__debug__" : Str)) = false := by decide)
    (he : starEach (a :: es) X.env = (false, eval a X.env) :: starEach es X.env := by rfl) (hpl : (backTo pos (starEach es X.env)).any (·.1) = false := by rfl) : DE X F (.Call (.Name x p) (a :: es) [] pos) (wCallMF wf wl) := by
  obtain ⟨f, fd, h1, h2, h3, h4⟩ := d
  refine de_of (pe_callG h1 hgd (hr.mono hj) hg h2 h3 h4 tk ha.run hdb he hpl) (fun e Q Q' x x' h1 h2 q => ha.mono e _ _ _ _ (fun ds fs e1 z a => mf _ _ _ _ (fun d e' y => h1 _ _ y) (z a)) h2 q) fun σ H Q ⟨e, G, r0, q⟩ => ?_
  refine ⟨e, G, r0, ha.mono e _ _ _ _ (fun ds fs e1 z vs q xs G1 H1 s1 r1 hq ra rx => ?_) (fun _ _ z => z) q⟩
  obtain ⟨ln, le⟩ := Lent.fresh r1 hq ra rx
  have rj := r1.junk (o := .lst xs) hq
  refine ⟨F.p, G1, _, e1.k, rj.wd, ln, mf _ _ _ _ (fun d e' y v σ' G' H' r' rv => ?_) (z q)⟩
  rw [le] at r'
  obtain ⟨β, r2⟩ := id r'
  exact y v G' H' (s1.trans r2.st.gg) (r1.step r2.st r2.w) rv
end
end L2.DL
namespace L2.DL.K46
open PySem PySem.Spec
      PyProof.Rows
def topS (i : Nat) : Stmt := PySem.Challenge.pw_whererules_k46_stops.main.body.getD i (.Pass ⟨0, 0, 0, 0⟩)
abbrev s_law_open : Stmt := topS 54
theorem sc_law_open : FnScope ["_law_script", "_law_cells", "_law_k", "_law_cell"] ["_law_script"] (defScope s_law_open) := ⟨rfl, rfl, rfl, by decide +kernel, rfl, by decide +kernel, by decide +kernel⟩
abbrev s_law_spread : Stmt := topS 53
theorem sc_law_spread : FnScope ["_law_cell", "_law_at", "_law_primes", "_law_mixed", "_law_one_here", "_law_rest", "_law_two", "_law_three"] ["_law_cell", "_law_at"] (defScope s_law_spread) := ⟨rfl, rfl, rfl, by decide +kernel, rfl, by decide +kernel, by decide +kernel⟩
abbrev s_law_take : Stmt := topS 55
theorem sc_law_take : FnScope ["_law_pen", "_law_many", "_law_at", "_law_cell", "_law_found"] ["_law_pen", "_law_many"] (defScope s_law_take) := ⟨rfl, rfl, rfl, by decide +kernel, rfl, by decide +kernel, by decide +kernel⟩
abbrev s_law_columns : Stmt := topS 58
theorem sc_law_columns : FnScope ["_law_pen", "_law_most", "_law_found", "_law_closed", "_law_k", "_law_own", "_law_step"] ["_law_pen", "_law_most"] (defScope s_law_columns) := ⟨rfl, rfl, rfl, by decide +kernel, rfl, by decide +kernel, by decide +kernel⟩
abbrev s_law_one : Stmt := topS 57
theorem sc_law_one : FnScope ["_law_pen", "_law_some"] ["_law_pen", "_law_some"] (defScope s_law_one) := ⟨rfl, rfl, rfl, by decide +kernel, rfl, by decide +kernel, by decide +kernel⟩
abbrev s_law_value : Stmt := topS 59
theorem sc_law_value : FnScope ["_law_pen", "_law_column"] ["_law_pen", "_law_column"] (defScope s_law_value) := ⟨rfl, rfl, rfl, by decide +kernel, rfl, by decide +kernel, by decide +kernel⟩
abbrev s_law_row : Stmt := topS 60
theorem sc_law_row : FnScope ["_law_pen", "_law_columns_here", "_law_column"] ["_law_pen", "_law_columns_here"] (defScope s_law_row) := ⟨rfl, rfl, rfl, by decide +kernel, rfl, by decide +kernel, by decide +kernel⟩
abbrev s_law_table : Stmt := topS 61
theorem sc_law_table : FnScope ["_law_pen", "_law_columns_here", "_law_many", "_law_found", "_law_k", "_law_row_here", "_law_at", "_law_other"] ["_law_pen", "_law_columns_here", "_law_many"] (defScope s_law_table) := ⟨rfl, rfl, rfl, by decide +kernel, rfl, by decide +kernel, by decide +kernel⟩
abbrev s_law_rule : Stmt := topS 62
theorem sc_law_rule : FnScope ["_law_pen", "_law_columns_here", "_law_column", "_law_want", "_law_given", "_law_k", "_law_road"] ["_law_pen", "_law_columns_here"] (defScope s_law_rule) := ⟨rfl, rfl, rfl, by decide +kernel, rfl, by decide +kernel, by decide +kernel⟩
abbrev s_law_case : Stmt := topS 63
theorem sc_law_case : FnScope ["_law_pen", "_law_columns_here", "_law_rules", "_law_k", "_law_master", "_law_row_here", "_law_settled"] ["_law_pen"] (defScope s_law_case) := ⟨rfl, rfl, rfl, by decide +kernel, rfl, by decide +kernel, by decide +kernel⟩
abbrev s_law_matches : Stmt := topS 64
theorem sc_law_matches : FnScope ["_law_given", "_law_row_here", "_law_column", "_law_value_here"] ["_law_given", "_law_row_here"] (defScope s_law_matches) := ⟨rfl, rfl, rfl, by decide +kernel, rfl, by decide +kernel, by decide +kernel⟩
abbrev s_law_rule_breaks : Stmt := topS 65
theorem sc_law_rule_breaks : FnScope ["_law_rule_here", "_law_table_here", "_law_given", "_law_column", "_law_want", "_law_found", "_law_i", "_law_j", "_law_own", "_law_entry", "_law_apart", "_law_k"] ["_law_rule_here", "_law_table_here"] (defScope s_law_rule_breaks) := ⟨rfl, rfl, rfl, by decide +kernel, rfl, by decide +kernel, by decide +kernel⟩
abbrev s_law_breaks : Stmt := topS 66
theorem sc_law_breaks : FnScope ["_law_rules", "_law_table_here", "_law_found", "_law_k", "_law_rows"] ["_law_rules", "_law_table_here"] (defScope s_law_breaks) := ⟨rfl, rfl, rfl, by decide +kernel, rfl, by decide +kernel, by decide +kernel⟩
abbrev s_law_kept_case : Stmt := topS 67
theorem sc_law_kept_case : FnScope ["_law_pen", "_law_columns_here", "_law_rules", "_law_master", "_law_row_here", "_law_settled", "_law_again", "_law_found", "_law_at", "_law_rule_here"] ["_law_pen"] (defScope s_law_kept_case) := ⟨rfl, rfl, rfl, by decide +kernel, rfl, by decide +kernel, by decide +kernel⟩
abbrev s_law_anew : Stmt := topS 56
theorem sc_law_anew : FnScope ["_law_pen"] ["_law_pen"] (defScope s_law_anew) := ⟨rfl, rfl, rfl, by decide +kernel, rfl, by decide +kernel, by decide +kernel⟩
abbrev s_is_integer : Stmt := topS 13
theorem sc_is_integer : FnScope ["value"] ["value"] (defScope s_is_integer) := ⟨rfl, rfl, rfl, by decide +kernel, rfl, by decide +kernel, by decide +kernel⟩
abbrev s_is_closed : Stmt := topS 16
theorem sc_is_closed : FnScope ["value", "last", "one"] ["value"] (defScope s_is_closed) := ⟨rfl, rfl, rfl, by decide +kernel, rfl, by decide +kernel, by decide +kernel⟩
abbrev s_is_columns : Stmt := topS 17
theorem sc_is_columns : FnScope ["value", "closed", "column"] ["value"] (defScope s_is_columns) := ⟨rfl, rfl, rfl, by decide +kernel, rfl, by decide +kernel, by decide +kernel⟩
abbrev s_check_columns : Stmt := topS 21
theorem sc_check_columns : FnScope ["columns"] ["columns"] (defScope s_check_columns) := ⟨rfl, rfl, rfl, by decide +kernel, rfl, by decide +kernel, by decide +kernel⟩
abbrev s_is_value_of : Stmt := topS 15
theorem sc_is_value_of : FnScope ["column", "value"] ["column", "value"] (defScope s_is_value_of) := ⟨rfl, rfl, rfl, by decide +kernel, rfl, by decide +kernel, by decide +kernel⟩
abbrev s_is_number : Stmt := topS 14
theorem sc_is_number : FnScope ["value", "limit"] ["value", "limit"] (defScope s_is_number) := ⟨rfl, rfl, rfl, by decide +kernel, rfl, by decide +kernel, by decide +kernel⟩
abbrev s_entry_is_right : Stmt := topS 27
theorem sc_entry_is_right : FnScope ["columns", "value"] ["columns", "value"] (defScope s_entry_is_right) := ⟨rfl, rfl, rfl, by decide +kernel, rfl, by decide +kernel, by decide +kernel⟩
abbrev s_given_is_right : Stmt := topS 28
theorem sc_given_is_right : FnScope ["columns", "value", "last", "entry"] ["columns", "value"] (defScope s_given_is_right) := ⟨rfl, rfl, rfl, by decide +kernel, rfl, by decide +kernel, by decide +kernel⟩
abbrev s_rule_is_right : Stmt := topS 29
theorem sc_rule_is_right : FnScope ["columns", "value", "given", "column", "want", "entry"] ["columns", "value"] (defScope s_rule_is_right) := ⟨rfl, rfl, rfl, by decide +kernel, rfl, by decide +kernel, by decide +kernel⟩
abbrev s_rules_are_right : Stmt := topS 30
theorem sc_rules_are_right : FnScope ["columns", "value", "rule"] ["columns", "value"] (defScope s_rules_are_right) := ⟨rfl, rfl, rfl, by decide +kernel, rfl, by decide +kernel, by decide +kernel⟩
abbrev s_check_rules : Stmt := topS 31
theorem sc_check_rules : FnScope ["columns", "rules"] ["columns", "rules"] (defScope s_check_rules) := ⟨rfl, rfl, rfl, by decide +kernel, rfl, by decide +kernel, by decide +kernel⟩
abbrev s_row_is_right : Stmt := topS 18
theorem sc_row_is_right : FnScope ["columns", "value", "column", "one"] ["columns", "value"] (defScope s_row_is_right) := ⟨rfl, rfl, rfl, by decide +kernel, rfl, by decide +kernel, by decide +kernel⟩
abbrev s_table_is_right : Stmt := topS 19
theorem sc_table_is_right : FnScope ["columns", "value", "row"] ["columns", "value"] (defScope s_table_is_right) := ⟨rfl, rfl, rfl, by decide +kernel, rfl, by decide +kernel, by decide +kernel⟩
abbrev s_check_table : Stmt := topS 22
theorem sc_check_table : FnScope ["columns", "table"] ["columns", "table"] (defScope s_check_table) := ⟨rfl, rfl, rfl, by decide +kernel, rfl, by decide +kernel, by decide +kernel⟩
abbrev s_check_master_row : Stmt := topS 50
theorem sc_check_master_row : FnScope ["columns", "rules", "master", "number"] ["columns", "rules", "master", "number"] (defScope s_check_master_row) := ⟨rfl, rfl, rfl, by decide +kernel, rfl, by decide +kernel, by decide +kernel⟩
abbrev s_is_ascending : Stmt := topS 39
theorem sc_is_ascending : FnScope ["values", "k"] ["values"] (defScope s_is_ascending) := ⟨rfl, rfl, rfl, by decide +kernel, rfl, by decide +kernel, by decide +kernel⟩
abbrev s_is_column_set : Stmt := topS 40
theorem sc_is_column_set : FnScope ["columns", "value", "column"] ["columns", "value"] (defScope s_is_column_set) := ⟨rfl, rfl, rfl, by decide +kernel, rfl, by decide +kernel, by decide +kernel⟩
abbrev s_check_settled : Stmt := topS 42
theorem sc_check_settled : FnScope ["columns", "settled"] ["columns", "settled"] (defScope s_check_settled) := ⟨rfl, rfl, rfl, by decide +kernel, rfl, by decide +kernel, by decide +kernel⟩
abbrev s_is_value_rule : Stmt := topS 25
theorem sc_is_value_rule : FnScope ["rule"] ["rule"] (defScope s_is_value_rule) := ⟨rfl, rfl, rfl, by decide +kernel, rfl, by decide +kernel, by decide +kernel⟩
abbrev s_has_given : Stmt := topS 26
theorem sc_has_given : FnScope ["given", "row", "column", "value"] ["given", "row"] (defScope s_has_given) := ⟨rfl, rfl, rfl, by decide +kernel, rfl, by decide +kernel, by decide +kernel⟩
abbrev s_are_alike : Stmt := topS 37
theorem sc_are_alike : FnScope ["given", "one", "other", "column", "_"] ["given", "one", "other"] (defScope s_are_alike) := ⟨rfl, rfl, rfl, by decide +kernel, rfl, by decide +kernel, by decide +kernel⟩
abbrev s_broken_pairs : Stmt := topS 36
theorem sc_broken_pairs : FnScope ["rule", "table", "given", "column", "_", "found", "i", "j"] ["rule", "table"] (defScope s_broken_pairs) := ⟨rfl, rfl, rfl, by decide +kernel, rfl, by decide +kernel, by decide +kernel⟩
abbrev s_broken_singles : Stmt := topS 35
theorem sc_broken_singles : FnScope ["rule", "table", "given", "column", "want", "found", "i"] ["rule", "table"] (defScope s_broken_singles) := ⟨rfl, rfl, rfl, by decide +kernel, rfl, by decide +kernel, by decide +kernel⟩
abbrev s_broken_rows : Stmt := topS 34
theorem sc_broken_rows : FnScope ["rule", "table"] ["rule", "table"] (defScope s_broken_rows) := ⟨rfl, rfl, rfl, by decide +kernel, rfl, by decide +kernel, by decide +kernel⟩
abbrev s_list_breaks : Stmt := topS 33
theorem sc_list_breaks : FnScope ["rules", "table", "found", "k", "rows"] ["rules", "table"] (defScope s_list_breaks) := ⟨rfl, rfl, rfl, by decide +kernel, rfl, by decide +kernel, by decide +kernel⟩
abbrev s_check_unbroken : Stmt := topS 51
theorem sc_check_unbroken : FnScope ["rules", "master", "found"] ["rules", "master"] (defScope s_check_unbroken) := ⟨rfl, rfl, rfl, by decide +kernel, rfl, by decide +kernel, by decide +kernel⟩
abbrev s_has_all_of : Stmt := topS 43
theorem sc_has_all_of : FnScope ["settled", "given", "column", "_"] ["settled", "given"] (defScope s_has_all_of) := ⟨rfl, rfl, rfl, by decide +kernel, rfl, by decide +kernel, by decide +kernel⟩
abbrev s_settling_values : Stmt := topS 44
theorem sc_settling_values : FnScope ["rule", "master", "row", "given", "column", "want", "values", "other"] ["rule", "master", "row"] (defScope s_settling_values) := ⟨rfl, rfl, rfl, by decide +kernel, rfl, by decide +kernel, by decide +kernel⟩
abbrev s_possible_steps : Stmt := topS 45
theorem sc_possible_steps : FnScope ["rules", "master", "row", "settled", "steps", "k", "given", "column", "_", "value"] ["rules", "master", "row", "settled"] (defScope s_possible_steps) := ⟨rfl, rfl, rfl, by decide +kernel, rfl, by decide +kernel, by decide +kernel⟩
abbrev s_with_item : Stmt := topS 20
theorem sc_with_item : FnScope ["items", "place", "item"] ["items", "place", "item"] (defScope s_with_item) := ⟨rfl, rfl, rfl, by decide +kernel, rfl, by decide +kernel, by decide +kernel⟩
abbrev s_after_step : Stmt := topS 46
theorem sc_after_step : FnScope ["row", "settled", "step", "_", "column", "value"] ["row", "settled", "step"] (defScope s_after_step) := ⟨rfl, rfl, rfl, by decide +kernel, rfl, by decide +kernel, by decide +kernel⟩
abbrev s_finish : Stmt := topS 47
theorem sc_finish : FnScope ["rules", "master", "row", "settled", "steps", "possible"] ["rules", "master", "row", "settled"] (defScope s_finish) := ⟨rfl, rfl, rfl, by decide +kernel, rfl, by decide +kernel, by decide +kernel⟩
abbrev s_stop : Stmt := topS 49
theorem sc_stop : FnScope ["columns", "rules", "master", "number", "settled", "steps", "_", "done"] ["columns", "rules", "master", "number", "settled"] (defScope s_stop) := ⟨rfl, rfl, rfl, by decide +kernel, rfl, by decide +kernel, by decide +kernel⟩
abbrev s_law_values : Stmt := topS 68
theorem sc_law_values : FnScope ["_law_rule_here", "_law_master", "_law_row_here", "_law_given", "_law_column", "_law_want", "_law_found", "_law_other", "_law_apart", "_law_one_here", "_law_value_here"] ["_law_rule_here", "_law_master", "_law_row_here"] (defScope s_law_values) := ⟨rfl, rfl, rfl, by decide +kernel, rfl, by decide +kernel, by decide +kernel⟩
abbrev s_law_steps : Stmt := topS 69
theorem sc_law_steps : FnScope ["_law_rules", "_law_master", "_law_row_here", "_law_settled", "_law_found", "_law_k", "_law_given", "_law_column", "_law_want", "_law_lacking", "_law_one_here", "_law_values_here", "_law_value_here"] ["_law_rules", "_law_master", "_law_row_here", "_law_settled"] (defScope s_law_steps) := ⟨rfl, rfl, rfl, by decide +kernel, rfl, by decide +kernel, by decide +kernel⟩
abbrev s_law_behind : Stmt := topS 70
theorem sc_law_behind : FnScope ["_law_row_here", "_law_settled", "_law_step", "_law_at"] ["_law_row_here", "_law_settled", "_law_step"] (defScope s_law_behind) := ⟨rfl, rfl, rfl, by decide +kernel, rfl, by decide +kernel, by decide +kernel⟩
abbrev s_law_stops : Stmt := topS 72
theorem sc_law_stops : FnScope ["_law_rules", "_law_master", "_law_row_here", "_law_settled", "_law_known", "_law_some", "_law_step", "_law_here"] ["_law_rules", "_law_master", "_law_row_here", "_law_settled", "_law_known"] (defScope s_law_stops) := ⟨rfl, rfl, rfl, by decide +kernel, rfl, by decide +kernel, by decide +kernel⟩
abbrev s_law_is_run : Stmt := topS 71
theorem sc_law_is_run : FnScope ["_law_rules", "_law_master", "_law_row_here", "_law_settled", "_law_value_here", "_law_step", "_law_some", "_law_one_here"] ["_law_rules", "_law_master", "_law_row_here", "_law_settled", "_law_value_here"] (defScope s_law_is_run) := ⟨rfl, rfl, rfl, by decide +kernel, rfl, by decide +kernel, by decide +kernel⟩
abbrev s_law_is_stop : Stmt := topS 73
theorem sc_law_is_stop : FnScope ["_law_rules", "_law_master", "_law_row_here", "_law_settled", "_law_value_here"] ["_law_rules", "_law_master", "_law_row_here", "_law_settled", "_law_value_here"] (defScope s_law_is_stop) := ⟨rfl, rfl, rfl, by decide +kernel, rfl, by decide +kernel, by decide +kernel⟩
abbrev s_law : Stmt := topS 74
theorem sc_law : FnScope ["_law_script", "_law_pen", "_law_turn", "_law_columns_here", "_law_rules", "_law_master", "_law_number", "_law_settled", "_law_told", "_law_kept", "_law_whole", "_law_k"] ["_law_script"] (defScope s_law) := ⟨rfl, rfl, rfl, by decide +kernel, rfl, by decide +kernel, by decide +kernel⟩
/-- where the classes stand -/
structure Cls where
  InvalidColumns : Addr
  InvalidNumber : Addr
  InvalidRules : Addr
  InvalidSettled : Addr
  InvalidTable : Addr
structure Txt (K : PySem.W.Frag) (mg : Str → Option Value) (A : Cls) : Prop where
  z_all : mg "all" = none
  z_bool : mg "bool" = none
  z_enumerate : mg "enumerate" = none
  z_int : mg "int" = none
  z_isinstance : mg "isinstance" = none
  z_len : mg "len" = none
  z_list : mg "list" = none
  z_range : mg "range" = none
  z_repr : mg "repr" = none
  z_set : mg "set" = none
  z_sorted : mg "sorted" = none
  z_tuple : mg "tuple" = none
  z_zip : mg "zip" = none
  c_MOST_CLOSED : ∃ t, mg "MOST_CLOSED" = some (.int 2 t)
  c_MOST_COLUMNS : ∃ t, mg "MOST_COLUMNS" = some (.int 4 t)
  c_MOST_ROWS : ∃ t, mg "MOST_ROWS" = some (.int 8 t)
  c_MOST_RULES : ∃ t, mg "MOST_RULES" = some (.int 8 t)
  c_MOST_VALUES : ∃ t, mg "MOST_VALUES" = some (.int 3 t)
  g_InvalidColumns : mg "InvalidColumns" = some (.ref A.InvalidColumns)
  g_InvalidNumber : mg "InvalidNumber" = some (.ref A.InvalidNumber)
  g_InvalidRules : mg "InvalidRules" = some (.ref A.InvalidRules)
  g_InvalidSettled : mg "InvalidSettled" = some (.ref A.InvalidSettled)
  g_InvalidTable : mg "InvalidTable" = some (.ref A.InvalidTable)
  k_InvalidColumns : PySem.W.keepIn K (.ref A.InvalidColumns) = true
  x_InvalidColumns : PySem.W.excIn K A.InvalidColumns [.type "ValueError", .type "Exception", .type "BaseException", .type "object"] "ValueError.__new__" = true
  s_InvalidColumns : PySem.W.subIn K (.ref A.InvalidColumns) (.type "BaseException") = some true
  t_InvalidColumns : PySem.W.typeIn K (.ref A.InvalidColumns) = some (.type "type")
  e_InvalidColumns : ExcC K A.InvalidColumns
  k_InvalidNumber : PySem.W.keepIn K (.ref A.InvalidNumber) = true
  x_InvalidNumber : PySem.W.excIn K A.InvalidNumber [.type "ValueError", .type "Exception", .type "BaseException", .type "object"] "ValueError.__new__" = true
  s_InvalidNumber : PySem.W.subIn K (.ref A.InvalidNumber) (.type "BaseException") = some true
  t_InvalidNumber : PySem.W.typeIn K (.ref A.InvalidNumber) = some (.type "type")
  e_InvalidNumber : ExcC K A.InvalidNumber
  k_InvalidRules : PySem.W.keepIn K (.ref A.InvalidRules) = true
  x_InvalidRules : PySem.W.excIn K A.InvalidRules [.type "ValueError", .type "Exception", .type "BaseException", .type "object"] "ValueError.__new__" = true
  s_InvalidRules : PySem.W.subIn K (.ref A.InvalidRules) (.type "BaseException") = some true
  t_InvalidRules : PySem.W.typeIn K (.ref A.InvalidRules) = some (.type "type")
  e_InvalidRules : ExcC K A.InvalidRules
  k_InvalidSettled : PySem.W.keepIn K (.ref A.InvalidSettled) = true
  x_InvalidSettled : PySem.W.excIn K A.InvalidSettled [.type "ValueError", .type "Exception", .type "BaseException", .type "object"] "ValueError.__new__" = true
  s_InvalidSettled : PySem.W.subIn K (.ref A.InvalidSettled) (.type "BaseException") = some true
  t_InvalidSettled : PySem.W.typeIn K (.ref A.InvalidSettled) = some (.type "type")
  e_InvalidSettled : ExcC K A.InvalidSettled
  k_InvalidTable : PySem.W.keepIn K (.ref A.InvalidTable) = true
  x_InvalidTable : PySem.W.excIn K A.InvalidTable [.type "ValueError", .type "Exception", .type "BaseException", .type "object"] "ValueError.__new__" = true
  s_InvalidTable : PySem.W.subIn K (.ref A.InvalidTable) (.type "BaseException") = some true
  t_InvalidTable : PySem.W.typeIn K (.ref A.InvalidTable) = some (.type "type")
  e_InvalidTable : ExcC K A.InvalidTable
end L2.DL.K46
namespace L2.DL.K46
open PySem PySem.Spec
      PyProof.Rows
section
variable {P : Program} {w : World} {K : PySem.W.Frag} {mg : Str → Option Value} {base : Heap} {A : Cls}
/-! ### is_integer, is_number -/
abbrev w_is_integer : Wc := w1 (fun d => fine d = true) fun d => .bool (isInt d)
abbrev m_is_integer : Wc.Mono w_is_integer := w1.mono
theorem d_is_integer (T : Txt K mg A) (F : FunAt K mg "is_integer" s_is_integer ["value"]) : Def P w K mg base "is_integer" 1 ["value"] w_is_integer := by
  refine defD F sc_is_integer (fun ds k Q x h => w1.len h) fun f cdv A outer s H E p G hg hr => ⟨_, (dss_one (ds_ret (de_and (de_isi (T := "int") (de_var (pv 0)) T.z_isinstance T.z_int (by decide +kernel)) (de_one (de_not (de_isi (T := "bool") (de_var (pv 0)) T.z_isinstance T.z_bool (by decide +kernel))))))), ?_⟩
  rintro ds n Q x ⟨a, rfl, ha, q⟩
  simp only [wRet, wSet, wSeq, wNext, wDrop, wIfS, wTest, wAnd, wOr, wNot, wIf, wBin, wVar, wC, wAndV, wOrV, wNotV, wIsN, wNotN, wNeg, wChain, wNil, wCons, wTup, wLst, wBi, wCall, wIsi, wSl, wSo, wNo, wSeqI, wFor, gNm, gTp, puts, wAsg, wPar, wMul, wmD, wmO, putsI, wAug, wTryIs, wRng1, wRng2, wEnum, wEnumT, wZip, wLc, wYes, wLend, wRel, wOwn, wApp, wIns, wSetIx, wLstF, wListF, wRepF, wAddF, wSlS, wParO, wRevT, wSortedSet, wSortedSetL, wSortedSetT, wKeys, weI, wExt, allD, wMt, wRaise, wSeqO, wCallF, plainO, wCallA, wIdx0, wAnF, wSetA, wUnA, wSeqA, plainA, wFld, wFldO, wMake, wLRg, Ans.data, Ans.own.injEq, Ans.tup.injEq, Ans.dat.injEq, wTry, wTryM, wHs, wIsC, enOf, put, putUn, defEnds, lendE, lend, wipeE, hide, lenD, intD, listD, tupleD, reprD, wPen0, wPen1, wPen2, wPenS1, wPenS2, penAt, List.map_cons, List.map_nil, List.length_cons, List.length_nil, List.nil_append, List.cons_append, Nat.reduceAdd, Nat.reduceSub, Nat.reduceLeDiff, Nat.zero_add, List.replicate_zero, List.replicate_succ, List.getElem?_cons_zero, List.getElem?_cons_succ, List.set_cons_zero, List.set_cons_succ, Option.some.injEq, Slot.dat.injEq, Slot.own.injEq, PyData.bool.injEq, PyData.int.injEq, PyData.tuple.injEq, PyData.list.injEq, exists_eq_left', exists_eq_left, and_true, true_and, if_true, if_false, Bool.false_eq_true, reduceCtorEq, List.mapIdx_cons, List.mapIdx_nil, kit_int ha, kit_bool ha]
  cases a <;> first | exact ⟨fine.nd ha, fine.nd ha, q⟩ | exact ⟨fine.nd ha, q⟩
def numB (d m : D) : Bool := match d, m with | .int v, .int n => decide (0 ≤ v) && decide (v < n) | _, _ => false
abbrev w_is_number : Wc := w2 (fun d m => fine d = true ∧ ∃ i, m = .int i) fun d m => .bool (numB d m)
abbrev m_is_number : Wc.Mono w_is_number := w2.mono
theorem d_is_number (d_is_integer : Def P w K mg base "is_integer" 1 ["value"] w_is_integer) (F : FunAt K mg "is_number" s_is_number ["value", "limit"]) : Def P w K mg base "is_number" 2 ["value", "limit"] w_is_number := by
  refine defD F sc_is_number (fun ds k Q x h => w2.len h) fun f cdv A outer s H E p G hg hr => ⟨_, (dss_one (ds_ret (de_and (de_fn d_is_integer m_is_integer hg hr (takes_of rfl rfl rfl rfl) (da_cons (de_var (pv 0)) da_nil)) (de_one (de_chain op_le op_lt cmpD.mono cmpD.mono fitsCmp fitsCmp de_int (de_var (pv 0)) (de_var (pv 1))))))), ?_⟩
  rintro ds n Q x ⟨a, b, rfl, ⟨ha, i, rfl⟩, q⟩
  simp only [wRet, wSet, wSeq, wNext, wDrop, wIfS, wTest, wAnd, wOr, wNot, wIf, wBin, wVar, wC, wAndV, wOrV, wNotV, wIsN, wNotN, wNeg, wChain, wNil, wCons, wTup, wLst, wBi, wCall, wIsi, wSl, wSo, wNo, wSeqI, wFor, gNm, gTp, puts, wAsg, wPar, wMul, wmD, wmO, putsI, wAug, wTryIs, wRng1, wRng2, wEnum, wEnumT, wZip, wLc, wYes, wLend, wRel, wOwn, wApp, wIns, wSetIx, wLstF, wListF, wRepF, wAddF, wSlS, wParO, wRevT, wSortedSet, wSortedSetL, wSortedSetT, wKeys, weI, wExt, allD, wMt, wRaise, wSeqO, wCallF, plainO, wCallA, wIdx0, wAnF, wSetA, wUnA, wSeqA, plainA, wFld, wFldO, wMake, wLRg, Ans.data, Ans.own.injEq, Ans.tup.injEq, Ans.dat.injEq, wTry, wTryM, wHs, wIsC, enOf, put, putUn, defEnds, lendE, lend, wipeE, hide, lenD, intD, listD, tupleD, reprD, wPen0, wPen1, wPen2, wPenS1, wPenS2, penAt, List.map_cons, List.map_nil, List.length_cons, List.length_nil, List.nil_append, List.cons_append, Nat.reduceAdd, Nat.reduceSub, Nat.reduceLeDiff, Nat.zero_add, List.replicate_zero, List.replicate_succ, List.getElem?_cons_zero, List.getElem?_cons_succ, List.set_cons_zero, List.set_cons_succ, Option.some.injEq, Slot.dat.injEq, Slot.own.injEq, PyData.bool.injEq, PyData.int.injEq, PyData.tuple.injEq, PyData.list.injEq, exists_eq_left', exists_eq_left, and_true, true_and, if_true, if_false, Bool.false_eq_true, reduceCtorEq, List.mapIdx_cons, List.mapIdx_nil]
  refine ⟨a, rfl, ha, ?_⟩
  cases a with
  | int v =>
    simp only [isInt, cmpD, numB] at q ⊢
    refine ⟨true, rfl, ?_⟩
    simp only [if_true]
    refine ⟨_, rfl, ?_⟩
    by_cases h : 0 ≤ v
    · simp only [h, decide_true, Bool.true_and, if_true] at q ⊢
      exact q
    · simp only [h, decide_false, Bool.false_and, if_false] at q ⊢
      exact q
  | _ => exact ⟨false, rfl, q⟩
/-! ### is_value_of -/
def inCol (c v : D) : Bool := match c with | .none => true | .tuple xs => inB v xs | _ => false
def valB (c v : D) : Bool := match v with | .int i => decide (0 ≤ i) && inCol c v | _ => false
/-- a column, or near one -/
def colish (c : D) : Prop := c = .none ∨ ∃ xs, c = .tuple xs ∧ Good c
abbrev w_is_value_of : Wc := w2 (fun c v => colish c ∧ Good v) fun c v => .bool (valB c v)
abbrev m_is_value_of : Wc.Mono w_is_value_of := w2.mono
theorem d_is_value_of (d_is_integer : Def P w K mg base "is_integer" 1 ["value"] w_is_integer) (F : FunAt K mg "is_value_of" s_is_value_of ["column", "value"]) : Def P w K mg base "is_value_of" 2 ["column", "value"] w_is_value_of := by
  refine defD F sc_is_value_of (fun ds k Q x h => w2.len h) fun f cdv A outer s H E p G hg hr => ⟨_, (dss_cons (ds_if (DW.dt (dw_or (dt_not (dt_val (de_fn d_is_integer m_is_integer hg hr (takes_of rfl rfl rfl rfl) (da_cons (de_var (pv 1)) da_nil)))) (dw_or1 (dt_cmp op_lt cmpD.mono fitsCmp (de_var (pv 1)) de_int))))
    (dss_one (ds_ret de_bl))
    dss_nil)
    (dss_one (ds_ret (de_or (de_isN (de_var (pv 0))) (de_one (de_cmp (op_inA (hr65 hr)) inD.mono fitsIn (de_var (pv 1)) (de_var (pv 0)))))))), ?_⟩
  rintro ds n Q x ⟨a, b, rfl, ⟨hc, hv⟩, q⟩
  simp only [wRet, wSet, wSeq, wNext, wDrop, wIfS, wTest, wAnd, wOr, wNot, wIf, wBin, wVar, wC, wAndV, wOrV, wNotV, wIsN, wNotN, wNeg, wChain, wNil, wCons, wTup, wLst, wBi, wCall, wIsi, wSl, wSo, wNo, wSeqI, wFor, gNm, gTp, puts, wAsg, wPar, wMul, wmD, wmO, putsI, wAug, wTryIs, wRng1, wRng2, wEnum, wEnumT, wZip, wLc, wYes, wLend, wRel, wOwn, wApp, wIns, wSetIx, wLstF, wListF, wRepF, wAddF, wSlS, wParO, wRevT, wSortedSet, wSortedSetL, wSortedSetT, wKeys, weI, wExt, allD, wMt, wRaise, wSeqO, wCallF, plainO, wCallA, wIdx0, wAnF, wSetA, wUnA, wSeqA, plainA, wFld, wFldO, wMake, wLRg, Ans.data, Ans.own.injEq, Ans.tup.injEq, Ans.dat.injEq, wTry, wTryM, wHs, wIsC, enOf, put, putUn, defEnds, lendE, lend, wipeE, hide, lenD, intD, listD, tupleD, reprD, wPen0, wPen1, wPen2, wPenS1, wPenS2, penAt, List.map_cons, List.map_nil, List.length_cons, List.length_nil, List.nil_append, List.cons_append, Nat.reduceAdd, Nat.reduceSub, Nat.reduceLeDiff, Nat.zero_add, List.replicate_zero, List.replicate_succ, List.getElem?_cons_zero, List.getElem?_cons_succ, List.set_cons_zero, List.set_cons_succ, Option.some.injEq, Slot.dat.injEq, Slot.own.injEq, PyData.bool.injEq, PyData.int.injEq, PyData.tuple.injEq, PyData.list.injEq, exists_eq_left', exists_eq_left, and_true, true_and, if_true, if_false, Bool.false_eq_true, reduceCtorEq, List.mapIdx_cons, List.mapIdx_nil]
  refine ⟨b, rfl, hv.f, ?_⟩
  cases b with
  | int v =>
    simp only [isInt, cmpD, valB, Bool.not_true] at q ⊢
    refine ⟨true, rfl, ?_⟩
    simp only [Bool.not_true, if_false, Bool.false_eq_true]
    refine ⟨_, rfl, ?_⟩
    by_cases h : v < 0
    · have h' : ¬ 0 ≤ v := by omega
      simp only [h, h', decide_true, decide_false, Bool.false_and, if_true] at q ⊢
      exact q
    · have h' : 0 ≤ v := by omega
      simp only [h, h', decide_true, decide_false, Bool.true_and, if_false, Bool.false_eq_true] at q ⊢
      rcases hc with rfl | ⟨xs, rfl, g⟩
      · exact q
      · exact ⟨hv, g, xs, rfl, q⟩
  | _ => exact ⟨false, rfl, q⟩
end
end L2.DL.K46
namespace L2.DL.K46
open PySem PySem.Spec
      PyProof.Rows
section
variable {P : Program} {w : World} {K : PySem.W.Frag} {mg : Str → Option Value} {base : Heap} {A : Cls}
/-! ### is_closed -/
def ascB : Int → List D → Bool
  | _, [] => true
  | l, .int i :: r => decide (l < i) && ascB i r
  | _, _ :: _ => false
def closedB : D → Bool
  | .tuple xs => decide (1 ≤ xs.length) && decide (xs.length ≤ 3) && ascB (-1) xs
  | _ => false
abbrev w_is_closed : Wc := w1 (fun d => Good d) fun d => .bool (closedB d)
abbrev m_is_closed : Wc.Mono w_is_closed := w1.mono
theorem d_is_closed (T : Txt K mg A) (d_is_integer : Def P w K mg base "is_integer" 1 ["value"] w_is_integer) (F : FunAt K mg "is_closed" s_is_closed ["value"]) : Def P w K mg base "is_closed" 2 ["value"] w_is_closed := by
  obtain ⟨_, cc_MOST_VALUES⟩ := T.c_MOST_VALUES
  refine defD F sc_is_closed (fun ds k Q x h => w1.len h) fun f cdv Ar outer s H E p G hg hr => ⟨_, (dss_cons (ds_if (DW.dt (dw_or (dt_not (dt_val (de_isi (T := "tuple") (de_var (pv 0)) T.z_isinstance T.z_tuple (by decide +kernel)))) (dw_or1 (dt_not (dt_chain op_le op_le cmpD.mono cmpD.mono fitsCmp fitsCmp de_int (de_bi lenD.mono fitsLen call_len_seq (da_cons (de_var (pv 0)) da_nil) T.z_len) (de_const cc_MOST_VALUES))))))
    (dss_one (ds_ret de_bl))
    dss_nil)
    (dss_cons (ds_set (i := 1) (de_neg de_int) sc_is_closed.nd)
    (dss_cons (ds_for (passes_of rfl) rfl (di_seq (de_var (pv 0))) (dg_nm (i := 2) sc_is_closed.nd)
    (dss_cons (ds_if (DW.dt (dw_or (dt_not (dt_val (de_fn d_is_integer m_is_integer hg hr (takes_of rfl rfl rfl rfl) (da_cons (de_var (pv 2)) da_nil)))) (dw_or1 (dt_cmp op_le cmpD.mono fitsCmp (de_var (pv 2)) (de_var (pv 1))))))
    (dss_one (ds_ret de_bl))
    dss_nil)
    (dss_one (ds_set (i := 1) (de_var (pv 2)) sc_is_closed.nd))))
    (dss_one (ds_ret de_bl))))), ?_⟩
  rintro ds n Q x ⟨a, rfl, ha, q⟩
  simp only [wRet, wSet, wSeq, wNext, wDrop, wIfS, wTest, wAnd, wOr, wNot, wIf, wBin, wVar, wC, wAndV, wOrV, wNotV, wIsN, wNotN, wNeg, wChain, wNil, wCons, wTup, wLst, wBi, wCall, wIsi, wSl, wSo, wNo, wSeqI, wFor, gNm, gTp, puts, wAsg, wPar, wMul, wmD, wmO, putsI, wAug, wTryIs, wRng1, wRng2, wEnum, wEnumT, wZip, wLc, wYes, wLend, wRel, wOwn, wApp, wIns, wSetIx, wLstF, wListF, wRepF, wAddF, wSlS, wParO, wRevT, wSortedSet, wSortedSetL, wSortedSetT, wKeys, weI, wExt, allD, wMt, wRaise, wSeqO, wCallF, plainO, wCallA, wIdx0, wAnF, wSetA, wUnA, wSeqA, plainA, wFld, wFldO, wMake, wLRg, Ans.data, Ans.own.injEq, Ans.tup.injEq, Ans.dat.injEq, wTry, wTryM, wHs, wIsC, enOf, put, putUn, defEnds, lendE, lend, wipeE, hide, lenD, intD, listD, tupleD, reprD, wPen0, wPen1, wPen2, wPenS1, wPenS2, penAt, List.map_cons, List.map_nil, List.length_cons, List.length_nil, List.nil_append, List.cons_append, Nat.reduceAdd, Nat.reduceSub, Nat.reduceLeDiff, Nat.zero_add, List.replicate_zero, List.replicate_succ, List.getElem?_cons_zero, List.getElem?_cons_succ, List.set_cons_zero, List.set_cons_succ, Option.some.injEq, Slot.dat.injEq, Slot.own.injEq, PyData.bool.injEq, PyData.int.injEq, PyData.tuple.injEq, PyData.list.injEq, exists_eq_left', exists_eq_left, and_true, true_and, if_true, if_false, Bool.false_eq_true, reduceCtorEq, List.mapIdx_cons, List.mapIdx_nil, kit_tuple ha.f]
  refine ⟨fine.nd ha.f, ?_⟩
  cases a with
  | tuple xs =>
    simp only [isT, Bool.not_true, if_false, Bool.false_eq_true, closedB, cmpD] at q ⊢
    by_cases h1 : 1 ≤ xs.length
    · have h1' : (1 : Int) ≤ xs.length := by omega
      refine ⟨_, rfl, ?_⟩
      simp only [h1, h1', decide_true, Bool.true_and, if_true] at q ⊢
      refine ⟨_, rfl, ?_⟩
      by_cases h3 : xs.length ≤ 3
      · have h3' : (xs.length : Int) ≤ 3 := by omega
        simp only [h3, h3', decide_true, Bool.true_and, Bool.not_true, if_false, Bool.false_eq_true] at q ⊢
        refine ⟨xs, rfl, ?_⟩
        refine wLoop.ind (fun ds e => ∃ l u, e = ⟨[.dat (.tuple xs), .dat (.int l), u], n⟩ ∧ Q (.bool (ascB l ds)) n ∧ ∀ d ∈ ds, fine d = true) ?_ ?_ ⟨-1, .un, rfl, q, fun d hd => (ha.in_tuple d hd).f⟩
        · rintro e ⟨l, u, rfl, q, _⟩
          exact q
        · rintro d ds e ih ⟨l, u, rfl, q, hf⟩
          simp only [wRet, wSet, wSeq, wNext, wDrop, wIfS, wTest, wAnd, wOr, wNot, wIf, wBin, wVar, wC, wAndV, wOrV, wNotV, wIsN, wNotN, wNeg, wChain, wNil, wCons, wTup, wLst, wBi, wCall, wIsi, wSl, wSo, wNo, wSeqI, wFor, gNm, gTp, puts, wAsg, wPar, wMul, wmD, wmO, putsI, wAug, wTryIs, wRng1, wRng2, wEnum, wEnumT, wZip, wLc, wYes, wLend, wRel, wOwn, wApp, wIns, wSetIx, wLstF, wListF, wRepF, wAddF, wSlS, wParO, wRevT, wSortedSet, wSortedSetL, wSortedSetT, wKeys, weI, wExt, allD, wMt, wRaise, wSeqO, wCallF, plainO, wCallA, wIdx0, wAnF, wSetA, wUnA, wSeqA, plainA, wFld, wFldO, wMake, wLRg, Ans.data, Ans.own.injEq, Ans.tup.injEq, Ans.dat.injEq, wTry, wTryM, wHs, wIsC, enOf, put, putUn, defEnds, lendE, lend, wipeE, hide, lenD, intD, listD, tupleD, reprD, wPen0, wPen1, wPen2, wPenS1, wPenS2, penAt, List.map_cons, List.map_nil, List.length_cons, List.length_nil, List.nil_append, List.cons_append, Nat.reduceAdd, Nat.reduceSub, Nat.reduceLeDiff, Nat.zero_add, List.replicate_zero, List.replicate_succ, List.getElem?_cons_zero, List.getElem?_cons_succ, List.set_cons_zero, List.set_cons_succ, Option.some.injEq, Slot.dat.injEq, Slot.own.injEq, PyData.bool.injEq, PyData.int.injEq, PyData.tuple.injEq, PyData.list.injEq, exists_eq_left', exists_eq_left, and_true, true_and, if_true, if_false, Bool.false_eq_true, reduceCtorEq, List.mapIdx_cons, List.mapIdx_nil]
          have hd := hf d List.mem_cons_self
          refine ⟨d, rfl, hd, ?_⟩
          cases d with
          | int v =>
            simp only [isInt, cmpD, ascB] at q ⊢
            refine ⟨_, rfl, ?_⟩
            simp only [Bool.not_true, if_false, Bool.false_eq_true]
            refine ⟨_, rfl, ?_⟩
            by_cases hv : v ≤ l
            · have hv' : ¬ l < v := by omega
              simp only [hv, hv', decide_true, decide_false, Bool.false_and, if_true] at q ⊢
              exact q
            · have hv' : l < v := by omega
              simp only [hv, hv', decide_true, decide_false, Bool.true_and, if_false, Bool.false_eq_true] at q ⊢
              exact ih _ ⟨v, _, rfl, q, fun d hd => hf d (List.mem_cons_of_mem _ hd)⟩
          | _ => exact ⟨_, rfl, q⟩
      · have h3' : ¬ (xs.length : Int) ≤ 3 := by omega
        simp only [h3, h3', decide_false, Bool.false_and, Bool.not_false, if_true] at q ⊢
        exact q
    · have h1' : ¬ (1 : Int) ≤ xs.length := by omega
      refine ⟨_, rfl, ?_⟩
      simp only [h1, h1', decide_false, Bool.false_and, Bool.not_false, if_true, if_false, Bool.false_eq_true] at q ⊢
      exact q
  | _ => exact q
end
end L2.DL.K46
namespace L2.DL.K46
open PySem PySem.Spec
      PyProof.Rows
section
variable {P : Program} {w : World} {K : PySem.W.Frag} {mg : Str → Option Value} {base : Heap} {A : Cls}
/-! ### is_columns -/
def colsB : D → Bool
  | .tuple xs => decide (1 ≤ xs.length) && decide (xs.length ≤ 4) && ((xs.filterMap fun d => if isN d = true then none else some d).all closedB && decide ((xs.filterMap fun d => if isN d = true then none else some d).length ≤ 2))
  | _ => false
abbrev w_is_columns : Wc := w1 (fun d => Good d) fun d => .bool (colsB d)
abbrev m_is_columns : Wc.Mono w_is_columns := w1.mono
theorem d_is_columns (T : Txt K mg A) (d_is_closed : Def P w K mg base "is_closed" 2 ["value"] w_is_closed) (F : FunAt K mg "is_columns" s_is_columns ["value"]) : Def P w K mg base "is_columns" 3 ["value"] w_is_columns := by
  obtain ⟨_, cc_MOST_COLUMNS⟩ := T.c_MOST_COLUMNS
  obtain ⟨_, cc_MOST_CLOSED⟩ := T.c_MOST_CLOSED
  refine defD F sc_is_columns (fun ds k Q x h => w1.len h) fun f cdv Ar outer s H E p G hg hr => ⟨_, (dss_cons (ds_if (DW.dt (dw_or (dt_not (dt_val (de_isi (T := "tuple") (de_var (pv 0)) T.z_isinstance T.z_tuple (by decide +kernel)))) (dw_or1 (dt_not (dt_chain op_le op_le cmpD.mono cmpD.mono fitsCmp fitsCmp de_int (de_bi lenD.mono fitsLen call_len_seq (da_cons (de_var (pv 0)) da_nil) T.z_len) (de_const cc_MOST_COLUMNS))))))
    (dss_one (ds_ret de_bl))
    dss_nil)
    (dss_cons (ds_setLc (i := 1) (own := [("column", 2)]) rfl sc_is_columns.nd (di_seq (de_var (pv 0))) (blkOk_by (N := ["value", "closed", "column"]) (sc := defScope s_is_columns) (by decide +kernel)) (fun _ _ _ _ _ _ _ => (dgc_nm (i := 2) sc_is_columns.nd (by decide))) (fun _ _ _ _ _ _ _ => (dts_one (dt_notN (de_var (pv 2))))) (fun _ _ _ _ _ _ _ => (de_var (pv 2))) (sw_true rfl rfl rfl (by decide +kernel)))
    (dss_cons (ds_for (passes_of rfl) rfl (di_seq (de_var (pv 1))) (dg_nm (i := 2) sc_is_columns.nd)
    (dss_one (ds_if (dt_not (dt_val (de_fn d_is_closed m_is_closed hg hr (takes_of rfl rfl rfl rfl) (da_cons (de_var (pv 2)) da_nil))))
    (dss_one (ds_ret de_bl))
    dss_nil)))
    (dss_one (ds_ret (de_cmp op_le cmpD.mono fitsCmp (de_bi lenD.mono fitsLen call_len_seq (da_cons (de_var (pv 1)) da_nil) T.z_len) (de_const cc_MOST_CLOSED))))))), ?_⟩
  rintro ds n Q x ⟨a, rfl, ha, q⟩
  simp only [wRet, wSet, wSeq, wNext, wDrop, wIfS, wTest, wAnd, wOr, wNot, wIf, wBin, wVar, wC, wAndV, wOrV, wNotV, wIsN, wNotN, wNeg, wChain, wNil, wCons, wTup, wLst, wBi, wCall, wIsi, wSl, wSo, wNo, wSeqI, wFor, gNm, gTp, puts, wAsg, wPar, wMul, wmD, wmO, putsI, wAug, wTryIs, wRng1, wRng2, wEnum, wEnumT, wZip, wLc, wYes, wLend, wRel, wOwn, wApp, wIns, wSetIx, wLstF, wListF, wRepF, wAddF, wSlS, wParO, wRevT, wSortedSet, wSortedSetL, wSortedSetT, wKeys, weI, wExt, allD, wMt, wRaise, wSeqO, wCallF, plainO, wCallA, wIdx0, wAnF, wSetA, wUnA, wSeqA, plainA, wFld, wFldO, wMake, wLRg, Ans.data, Ans.own.injEq, Ans.tup.injEq, Ans.dat.injEq, wTry, wTryM, wHs, wIsC, enOf, put, putUn, defEnds, lendE, lend, wipeE, hide, lenD, intD, listD, tupleD, reprD, wPen0, wPen1, wPen2, wPenS1, wPenS2, penAt, List.map_cons, List.map_nil, List.length_cons, List.length_nil, List.nil_append, List.cons_append, Nat.reduceAdd, Nat.reduceSub, Nat.reduceLeDiff, Nat.zero_add, List.replicate_zero, List.replicate_succ, List.getElem?_cons_zero, List.getElem?_cons_succ, List.set_cons_zero, List.set_cons_succ, Option.some.injEq, Slot.dat.injEq, Slot.own.injEq, PyData.bool.injEq, PyData.int.injEq, PyData.tuple.injEq, PyData.list.injEq, exists_eq_left', exists_eq_left, and_true, true_and, if_true, if_false, Bool.false_eq_true, reduceCtorEq, List.mapIdx_cons, List.mapIdx_nil, kit_tuple ha.f]
  refine ⟨fine.nd ha.f, ?_⟩
  cases a with
  | tuple xs =>
    simp only [isT, Bool.not_true, if_false, Bool.false_eq_true, colsB, cmpD] at q ⊢
    by_cases h1 : 1 ≤ xs.length
    · have h1' : (1 : Int) ≤ xs.length := by omega
      refine ⟨_, rfl, ?_⟩
      simp only [h1, h1', decide_true, Bool.true_and, if_true] at q ⊢
      refine ⟨_, rfl, ?_⟩
      by_cases h3 : xs.length ≤ 4
      · have h3' : (xs.length : Int) ≤ 4 := by omega
        simp only [h3, h3', decide_true, Bool.true_and, Bool.not_true, if_false, Bool.false_eq_true] at q ⊢
        refine ⟨xs, rfl, ?_⟩
        refine lcLoop.fm (fun d => if isN d = true then none else some d) (fun d hd A B h1 h2 => ?_) (by simp only [List.length_nil]; omega) ?_
        · simp only [wRet, wSet, wSeq, wNext, wDrop, wIfS, wTest, wAnd, wOr, wNot, wIf, wBin, wVar, wC, wAndV, wOrV, wNotV, wIsN, wNotN, wNeg, wChain, wNil, wCons, wTup, wLst, wBi, wCall, wIsi, wSl, wSo, wNo, wSeqI, wFor, gNm, gTp, puts, wAsg, wPar, wMul, wmD, wmO, putsI, wAug, wTryIs, wRng1, wRng2, wEnum, wEnumT, wZip, wLc, wYes, wLend, wRel, wOwn, wApp, wIns, wSetIx, wLstF, wListF, wRepF, wAddF, wSlS, wParO, wRevT, wSortedSet, wSortedSetL, wSortedSetT, wKeys, weI, wExt, allD, wMt, wRaise, wSeqO, wCallF, plainO, wCallA, wIdx0, wAnF, wSetA, wUnA, wSeqA, plainA, wFld, wFldO, wMake, wLRg, Ans.data, Ans.own.injEq, Ans.tup.injEq, Ans.dat.injEq, wTry, wTryM, wHs, wIsC, enOf, put, putUn, defEnds, lendE, lend, wipeE, hide, lenD, intD, listD, tupleD, reprD, wPen0, wPen1, wPen2, wPenS1, wPenS2, penAt, List.map_cons, List.map_nil, List.length_cons, List.length_nil, List.nil_append, List.cons_append, Nat.reduceAdd, Nat.reduceSub, Nat.reduceLeDiff, Nat.zero_add, List.replicate_zero, List.replicate_succ, List.getElem?_cons_zero, List.getElem?_cons_succ, List.set_cons_zero, List.set_cons_succ, Option.some.injEq, Slot.dat.injEq, Slot.own.injEq, PyData.bool.injEq, PyData.int.injEq, PyData.tuple.injEq, PyData.list.injEq, exists_eq_left', exists_eq_left, and_true, true_and, if_true, if_false, Bool.false_eq_true, reduceCtorEq, List.mapIdx_cons, List.mapIdx_nil]
          cases hn : isN d with
          | true => exact h1 (by rw [hn]; rfl)
          | false => exact h2 d (by rw [hn]; rfl)
        · simp only [wRet, wSet, wSeq, wNext, wDrop, wIfS, wTest, wAnd, wOr, wNot, wIf, wBin, wVar, wC, wAndV, wOrV, wNotV, wIsN, wNotN, wNeg, wChain, wNil, wCons, wTup, wLst, wBi, wCall, wIsi, wSl, wSo, wNo, wSeqI, wFor, gNm, gTp, puts, wAsg, wPar, wMul, wmD, wmO, putsI, wAug, wTryIs, wRng1, wRng2, wEnum, wEnumT, wZip, wLc, wYes, wLend, wRel, wOwn, wApp, wIns, wSetIx, wLstF, wListF, wRepF, wAddF, wSlS, wParO, wRevT, wSortedSet, wSortedSetL, wSortedSetT, wKeys, weI, wExt, allD, wMt, wRaise, wSeqO, wCallF, plainO, wCallA, wIdx0, wAnF, wSetA, wUnA, wSeqA, plainA, wFld, wFldO, wMake, wLRg, Ans.data, Ans.own.injEq, Ans.tup.injEq, Ans.dat.injEq, wTry, wTryM, wHs, wIsC, enOf, put, putUn, defEnds, lendE, lend, wipeE, hide, lenD, intD, listD, tupleD, reprD, wPen0, wPen1, wPen2, wPenS1, wPenS2, penAt, List.map_cons, List.map_nil, List.length_cons, List.length_nil, List.nil_append, List.cons_append, Nat.reduceAdd, Nat.reduceSub, Nat.reduceLeDiff, Nat.zero_add, List.replicate_zero, List.replicate_succ, List.getElem?_cons_zero, List.getElem?_cons_succ, List.set_cons_zero, List.set_cons_succ, Option.some.injEq, Slot.dat.injEq, Slot.own.injEq, PyData.bool.injEq, PyData.int.injEq, PyData.tuple.injEq, PyData.list.injEq, exists_eq_left', exists_eq_left, and_true, true_and, if_true, if_false, Bool.false_eq_true, reduceCtorEq, List.mapIdx_cons, List.mapIdx_nil]
          refine ⟨_, rfl, ?_⟩
          have hg' : ∀ d ∈ xs.filterMap (fun d => if isN d = true then none else some d), Good d := fun d hd => by
            obtain ⟨e, he, h⟩ := List.mem_filterMap.mp hd
            split at h
            · cases h
            · cases h; exact ha.in_tuple _ he
          generalize xs.filterMap (fun d => if isN d = true then none else some d) = cs at q hg' ⊢
          refine wLoop.ind (fun ds e => ∃ u, e = ⟨[.dat (.tuple xs), .dat (.list cs), u], n⟩ ∧ Q (.bool (ds.all closedB && decide (cs.length ≤ 2))) n ∧ ∀ d ∈ ds, Good d) ?_ ?_ ⟨.un, rfl, q, hg'⟩
          · rintro e ⟨u, rfl, q, _⟩
            simp only [wRet, wSet, wSeq, wNext, wDrop, wIfS, wTest, wAnd, wOr, wNot, wIf, wBin, wVar, wC, wAndV, wOrV, wNotV, wIsN, wNotN, wNeg, wChain, wNil, wCons, wTup, wLst, wBi, wCall, wIsi, wSl, wSo, wNo, wSeqI, wFor, gNm, gTp, puts, wAsg, wPar, wMul, wmD, wmO, putsI, wAug, wTryIs, wRng1, wRng2, wEnum, wEnumT, wZip, wLc, wYes, wLend, wRel, wOwn, wApp, wIns, wSetIx, wLstF, wListF, wRepF, wAddF, wSlS, wParO, wRevT, wSortedSet, wSortedSetL, wSortedSetT, wKeys, weI, wExt, allD, wMt, wRaise, wSeqO, wCallF, plainO, wCallA, wIdx0, wAnF, wSetA, wUnA, wSeqA, plainA, wFld, wFldO, wMake, wLRg, Ans.data, Ans.own.injEq, Ans.tup.injEq, Ans.dat.injEq, wTry, wTryM, wHs, wIsC, enOf, put, putUn, defEnds, lendE, lend, wipeE, hide, lenD, intD, listD, tupleD, reprD, wPen0, wPen1, wPen2, wPenS1, wPenS2, penAt, List.map_cons, List.map_nil, List.length_cons, List.length_nil, List.nil_append, List.cons_append, Nat.reduceAdd, Nat.reduceSub, Nat.reduceLeDiff, Nat.zero_add, List.replicate_zero, List.replicate_succ, List.getElem?_cons_zero, List.getElem?_cons_succ, List.set_cons_zero, List.set_cons_succ, Option.some.injEq, Slot.dat.injEq, Slot.own.injEq, PyData.bool.injEq, PyData.int.injEq, PyData.tuple.injEq, PyData.list.injEq, exists_eq_left', exists_eq_left, and_true, true_and, if_true, if_false, Bool.false_eq_true, reduceCtorEq, List.mapIdx_cons, List.mapIdx_nil, cmpD]
            simp only [List.all_nil, Bool.true_and] at q
            have e1 : decide ((cs.length : Int) ≤ 2) = decide (cs.length ≤ 2) := by
              by_cases h : cs.length ≤ 2
              · rw [decide_eq_true h, decide_eq_true (by omega)]
              · rw [decide_eq_false h, decide_eq_false (by omega)]
            rw [e1]
            exact q
          · rintro d ds e ih ⟨u, rfl, q, hf⟩
            simp only [wRet, wSet, wSeq, wNext, wDrop, wIfS, wTest, wAnd, wOr, wNot, wIf, wBin, wVar, wC, wAndV, wOrV, wNotV, wIsN, wNotN, wNeg, wChain, wNil, wCons, wTup, wLst, wBi, wCall, wIsi, wSl, wSo, wNo, wSeqI, wFor, gNm, gTp, puts, wAsg, wPar, wMul, wmD, wmO, putsI, wAug, wTryIs, wRng1, wRng2, wEnum, wEnumT, wZip, wLc, wYes, wLend, wRel, wOwn, wApp, wIns, wSetIx, wLstF, wListF, wRepF, wAddF, wSlS, wParO, wRevT, wSortedSet, wSortedSetL, wSortedSetT, wKeys, weI, wExt, allD, wMt, wRaise, wSeqO, wCallF, plainO, wCallA, wIdx0, wAnF, wSetA, wUnA, wSeqA, plainA, wFld, wFldO, wMake, wLRg, Ans.data, Ans.own.injEq, Ans.tup.injEq, Ans.dat.injEq, wTry, wTryM, wHs, wIsC, enOf, put, putUn, defEnds, lendE, lend, wipeE, hide, lenD, intD, listD, tupleD, reprD, wPen0, wPen1, wPen2, wPenS1, wPenS2, penAt, List.map_cons, List.map_nil, List.length_cons, List.length_nil, List.nil_append, List.cons_append, Nat.reduceAdd, Nat.reduceSub, Nat.reduceLeDiff, Nat.zero_add, List.replicate_zero, List.replicate_succ, List.getElem?_cons_zero, List.getElem?_cons_succ, List.set_cons_zero, List.set_cons_succ, Option.some.injEq, Slot.dat.injEq, Slot.own.injEq, PyData.bool.injEq, PyData.int.injEq, PyData.tuple.injEq, PyData.list.injEq, exists_eq_left', exists_eq_left, and_true, true_and, if_true, if_false, Bool.false_eq_true, reduceCtorEq, List.mapIdx_cons, List.mapIdx_nil]
            have hd := hf d List.mem_cons_self
            refine ⟨d, rfl, hd, ?_⟩
            refine ⟨_, rfl, ?_⟩
            rw [List.all_cons] at q
            cases hc : closedB d with
            | true =>
              rw [hc] at q
              simp only [Bool.not_true, if_false, Bool.false_eq_true, Bool.true_and] at q ⊢
              exact ih _ ⟨_, rfl, q, fun d hd => hf d (List.mem_cons_of_mem _ hd)⟩
            | false =>
              rw [hc] at q
              exact q
      · have h3' : ¬ (xs.length : Int) ≤ 4 := by omega
        simp only [h3, h3', decide_false, Bool.false_and, Bool.not_false, if_true] at q ⊢
        exact q
    · have h1' : ¬ (1 : Int) ≤ xs.length := by omega
      refine ⟨_, rfl, ?_⟩
      simp only [h1, h1', decide_false, Bool.false_and, Bool.not_false, if_true, if_false, Bool.false_eq_true] at q ⊢
      exact q
  | _ => exact q
/-! ### row_is_right -/
def rowB (cs : List D) : D → Bool
  | .tuple xs => decide (xs.length = cs.length) && (pairs cs xs).all fun | .tuple [c, v] => valB c v | _ => false
  | _ => false
abbrev w_row_is_right : Wc := w2 (fun c v => ∃ cs, c = .tuple cs ∧ (∀ d ∈ cs, colish d) ∧ Good v) fun c v => .bool (match c with | .tuple cs => rowB cs v | _ => false)
abbrev m_row_is_right : Wc.Mono w_row_is_right := w2.mono
theorem d_row_is_right (T : Txt K mg A) (d_is_value_of : Def P w K mg base "is_value_of" 2 ["column", "value"] w_is_value_of) (F : FunAt K mg "row_is_right" s_row_is_right ["columns", "value"]) : Def P w K mg base "row_is_right" 3 ["columns", "value"] w_row_is_right := by
  refine defD F sc_row_is_right (fun ds k Q x h => w2.len h) fun f cdv Ar outer s H E p G hg hr => ⟨_, (dss_cons (ds_if (DW.dt (dw_or (dt_not (dt_val (de_isi (T := "tuple") (de_var (pv 1)) T.z_isinstance T.z_tuple (by decide +kernel)))) (dw_or1 (dt_cmp (op_neA hr.units) neD.mono fitsNe (de_bi lenD.mono fitsLen call_len_seq (da_cons (de_var (pv 1)) da_nil) T.z_len) (de_bi lenD.mono fitsLen call_len_seq (da_cons (de_var (pv 0)) da_nil) T.z_len)))))
    (dss_one (ds_ret de_bl))
    dss_nil)
    (dss_cons (ds_for (passes_of rfl) rfl (di_zip (de_var (pv 0)) (de_var (pv 1)) T.z_zip) (dg_tp rfl (dgs_cons (i := 2) sc_row_is_right.nd (dgs_cons (i := 3) sc_row_is_right.nd dgs_nil)))
    (dss_one (ds_if (dt_not (dt_val (de_fn d_is_value_of m_is_value_of hg hr (takes_of rfl rfl rfl rfl) (da_cons (de_var (pv 2)) (da_cons (de_var (pv 3)) da_nil)))))
    (dss_one (ds_ret de_bl))
    dss_nil)))
    (dss_one (ds_ret de_bl)))), ?_⟩
  rintro ds n Q x ⟨a, b, rfl, ⟨cs, rfl, hc, hv⟩, q⟩
  simp only [wRet, wSet, wSeq, wNext, wDrop, wIfS, wTest, wAnd, wOr, wNot, wIf, wBin, wVar, wC, wAndV, wOrV, wNotV, wIsN, wNotN, wNeg, wChain, wNil, wCons, wTup, wLst, wBi, wCall, wIsi, wSl, wSo, wNo, wSeqI, wFor, gNm, gTp, puts, wAsg, wPar, wMul, wmD, wmO, putsI, wAug, wTryIs, wRng1, wRng2, wEnum, wEnumT, wZip, wLc, wYes, wLend, wRel, wOwn, wApp, wIns, wSetIx, wLstF, wListF, wRepF, wAddF, wSlS, wParO, wRevT, wSortedSet, wSortedSetL, wSortedSetT, wKeys, weI, wExt, allD, wMt, wRaise, wSeqO, wCallF, plainO, wCallA, wIdx0, wAnF, wSetA, wUnA, wSeqA, plainA, wFld, wFldO, wMake, wLRg, Ans.data, Ans.own.injEq, Ans.tup.injEq, Ans.dat.injEq, wTry, wTryM, wHs, wIsC, enOf, put, putUn, defEnds, lendE, lend, wipeE, hide, lenD, intD, listD, tupleD, reprD, wPen0, wPen1, wPen2, wPenS1, wPenS2, penAt, List.map_cons, List.map_nil, List.length_cons, List.length_nil, List.nil_append, List.cons_append, Nat.reduceAdd, Nat.reduceSub, Nat.reduceLeDiff, Nat.zero_add, List.replicate_zero, List.replicate_succ, List.getElem?_cons_zero, List.getElem?_cons_succ, List.set_cons_zero, List.set_cons_succ, Option.some.injEq, Slot.dat.injEq, Slot.own.injEq, PyData.bool.injEq, PyData.int.injEq, PyData.tuple.injEq, PyData.list.injEq, exists_eq_left', exists_eq_left, and_true, true_and, if_true, if_false, Bool.false_eq_true, reduceCtorEq, List.mapIdx_cons, List.mapIdx_nil, kit_tuple hv.f]
  refine ⟨fine.nd hv.f, ?_⟩
  cases b with
  | tuple xs =>
    simp only [isT, Bool.not_true, if_false, Bool.false_eq_true, rowB, neD, twoInts, true_or, true_and] at q ⊢
    refine ⟨_, rfl, ?_⟩
    rw [eqv_len]
    by_cases hl : xs.length = cs.length
    · simp only [hl, decide_true, Bool.true_and, Bool.not_true, if_false, Bool.false_eq_true] at q ⊢
      refine ⟨cs, xs, .inr ⟨rfl, rfl⟩, ?_⟩
      have hp : ∀ d ∈ pairs cs xs, ∃ c v, d = .tuple [c, v] ∧ colish c ∧ Good v := fun d hd => by
        obtain ⟨i, hi⟩ := List.mem_iff_getElem?.mp hd
        obtain ⟨c, v, h1, h2, h3⟩ := pairs_at hi
        exact ⟨c, v, h3, hc c (List.mem_of_getElem? h1), hv.in_tuple v (List.mem_of_getElem? h2)⟩
      refine wLoop.ind (fun ds e => ∃ u v, e = ⟨[.dat (.tuple cs), .dat (.tuple xs), u, v], n⟩ ∧ Q (.bool (ds.all fun | .tuple [c, v] => valB c v | _ => false)) n ∧ ∀ d ∈ ds, ∃ c v, d = .tuple [c, v] ∧ colish c ∧ Good v) ?_ ?_ ⟨.un, .un, rfl, q, hp⟩
      · rintro e ⟨u, v, rfl, q, _⟩
        exact q
      · rintro d ds e ih ⟨u, v, rfl, q, hf⟩
        obtain ⟨c, y, rfl, h1, h2⟩ := hf d List.mem_cons_self
        simp only [wRet, wSet, wSeq, wNext, wDrop, wIfS, wTest, wAnd, wOr, wNot, wIf, wBin, wVar, wC, wAndV, wOrV, wNotV, wIsN, wNotN, wNeg, wChain, wNil, wCons, wTup, wLst, wBi, wCall, wIsi, wSl, wSo, wNo, wSeqI, wFor, gNm, gTp, puts, wAsg, wPar, wMul, wmD, wmO, putsI, wAug, wTryIs, wRng1, wRng2, wEnum, wEnumT, wZip, wLc, wYes, wLend, wRel, wOwn, wApp, wIns, wSetIx, wLstF, wListF, wRepF, wAddF, wSlS, wParO, wRevT, wSortedSet, wSortedSetL, wSortedSetT, wKeys, weI, wExt, allD, wMt, wRaise, wSeqO, wCallF, plainO, wCallA, wIdx0, wAnF, wSetA, wUnA, wSeqA, plainA, wFld, wFldO, wMake, wLRg, Ans.data, Ans.own.injEq, Ans.tup.injEq, Ans.dat.injEq, wTry, wTryM, wHs, wIsC, enOf, put, putUn, defEnds, lendE, lend, wipeE, hide, lenD, intD, listD, tupleD, reprD, wPen0, wPen1, wPen2, wPenS1, wPenS2, penAt, List.map_cons, List.map_nil, List.length_cons, List.length_nil, List.nil_append, List.cons_append, Nat.reduceAdd, Nat.reduceSub, Nat.reduceLeDiff, Nat.zero_add, List.replicate_zero, List.replicate_succ, List.getElem?_cons_zero, List.getElem?_cons_succ, List.set_cons_zero, List.set_cons_succ, Option.some.injEq, Slot.dat.injEq, Slot.own.injEq, PyData.bool.injEq, PyData.int.injEq, PyData.tuple.injEq, PyData.list.injEq, exists_eq_left', exists_eq_left, and_true, true_and, if_true, if_false, Bool.false_eq_true, reduceCtorEq, List.mapIdx_cons, List.mapIdx_nil]
        refine ⟨c, y, rfl, ⟨h1, h2⟩, ?_⟩
        refine ⟨_, rfl, ?_⟩
        rw [List.all_cons] at q
        dsimp only at q
        cases hc : valB c y with
        | true =>
          rw [hc] at q
          simp only [Bool.not_true, if_false, Bool.false_eq_true, Bool.true_and] at q ⊢
          exact ih _ ⟨_, _, rfl, q, fun d hd => hf d (List.mem_cons_of_mem _ hd)⟩
        | false =>
          rw [hc] at q
          exact q
    · simp only [hl, decide_false, Bool.false_and, Bool.not_false, if_true] at q ⊢
      exact q
  | _ => exact q
end
end L2.DL.K46
namespace L2.DL.K46
open PySem PySem.Spec
      PyProof.Rows
section
variable {P : Program} {w : World} {K : PySem.W.Frag} {mg : Str → Option Value} {base : Heap} {A : Cls}
/-! ### entry_is_right -/
def entB (cs : List D) : D → Bool
  | .tuple [.int i, b] => decide (0 ≤ i) && decide (i < cs.length) && (isN b || valB (cs.getD i.toNat .none) b)
  | _ => false
def colsish (c : D) : Prop := ∃ cs, c = .tuple cs ∧ (∀ d ∈ cs, colish d) ∧ cs.length ≤ 100
def onCols (f : List D → D → Bool) (c v : D) : D := .bool (match c with | .tuple cs => f cs v | _ => false)
abbrev w_entry_is_right : Wc := w2 (fun c v => colsish c ∧ Good v) (onCols entB)
abbrev m_entry_is_right : Wc.Mono w_entry_is_right := w2.mono
theorem d_entry_is_right (T : Txt K mg A) (d_is_number : Def P w K mg base "is_number" 2 ["value", "limit"] w_is_number) (d_is_value_of : Def P w K mg base "is_value_of" 2 ["column", "value"] w_is_value_of) (F : FunAt K mg "entry_is_right" s_entry_is_right ["columns", "value"]) : Def P w K mg base "entry_is_right" 3 ["columns", "value"] w_entry_is_right := by
  refine defD F sc_entry_is_right (fun ds k Q x h => w2.len h) fun f cdv Ar outer s H E p G hg hr => ⟨_, (dss_cons (ds_if (DW.dt (dw_or (dt_not (dt_val (de_isi (T := "tuple") (de_var (pv 1)) T.z_isinstance T.z_tuple (by decide +kernel)))) (dw_or1 (dt_cmp (op_neA hr.units) neD.mono fitsNe (de_bi lenD.mono fitsLen call_len_seq (da_cons (de_var (pv 1)) da_nil) T.z_len) de_int))))
    (dss_one (ds_ret de_bl))
    dss_nil)
    (dss_cons (ds_if (dt_not (dt_val (de_fn d_is_number m_is_number hg hr (takes_of rfl rfl rfl rfl) (da_cons (de_idx (de_var (pv 1)) de_int) (da_cons (de_bi lenD.mono fitsLen call_len_seq (da_cons (de_var (pv 0)) da_nil) T.z_len) da_nil)))))
    (dss_one (ds_ret de_bl))
    dss_nil)
    (dss_one (ds_ret (de_or (de_isN (de_idx (de_var (pv 1)) de_int)) (de_one (de_fn d_is_value_of m_is_value_of hg hr (takes_of rfl rfl rfl rfl) (da_cons (de_idx (de_var (pv 0)) (de_idx (de_var (pv 1)) de_int)) (da_cons (de_idx (de_var (pv 1)) de_int) da_nil))))))))), ?_⟩
  rintro ds n Q x ⟨a, b, rfl, ⟨⟨cs, rfl, hc, hcl⟩, hv⟩, q⟩
  simp only [wRet, wSet, wSeq, wNext, wDrop, wIfS, wTest, wAnd, wOr, wNot, wIf, wBin, wVar, wC, wAndV, wOrV, wNotV, wIsN, wNotN, wNeg, wChain, wNil, wCons, wTup, wLst, wBi, wCall, wIsi, wSl, wSo, wNo, wSeqI, wFor, gNm, gTp, puts, wAsg, wPar, wMul, wmD, wmO, putsI, wAug, wTryIs, wRng1, wRng2, wEnum, wEnumT, wZip, wLc, wYes, wLend, wRel, wOwn, wApp, wIns, wSetIx, wLstF, wListF, wRepF, wAddF, wSlS, wParO, wRevT, wSortedSet, wSortedSetL, wSortedSetT, wKeys, weI, wExt, allD, wMt, wRaise, wSeqO, wCallF, plainO, wCallA, wIdx0, wAnF, wSetA, wUnA, wSeqA, plainA, wFld, wFldO, wMake, wLRg, Ans.data, Ans.own.injEq, Ans.tup.injEq, Ans.dat.injEq, wTry, wTryM, wHs, wIsC, enOf, put, putUn, defEnds, lendE, lend, wipeE, hide, lenD, intD, listD, tupleD, reprD, wPen0, wPen1, wPen2, wPenS1, wPenS2, penAt, List.map_cons, List.map_nil, List.length_cons, List.length_nil, List.nil_append, List.cons_append, Nat.reduceAdd, Nat.reduceSub, Nat.reduceLeDiff, Nat.zero_add, List.replicate_zero, List.replicate_succ, List.getElem?_cons_zero, List.getElem?_cons_succ, List.set_cons_zero, List.set_cons_succ, Option.some.injEq, Slot.dat.injEq, Slot.own.injEq, PyData.bool.injEq, PyData.int.injEq, PyData.tuple.injEq, PyData.list.injEq, exists_eq_left', exists_eq_left, and_true, true_and, if_true, if_false, Bool.false_eq_true, reduceCtorEq, List.mapIdx_cons, List.mapIdx_nil, kit_tuple hv.f, onCols] at q ⊢
  refine ⟨fine.nd hv.f, ?_⟩
  cases b with
  | tuple xs =>
    simp only [isT, Bool.not_true, if_false, Bool.false_eq_true, neD, twoInts, true_or, true_and] at q ⊢
    have e1 : PyData.eqv (.int (xs.length : Int)) (.int 2) = decide (xs.length = 2) := eqv_len xs.length 2
    refine ⟨_, rfl, ?_⟩
    rw [e1]
    match xs, q, hv with
    | [], q, hv => exact q
    | [_], q, hv => simpa [entB] using q
    | _ :: _ :: _ :: _, q, hv => simpa [entB] using q
    | [x0, y], q, hv =>
      have hx := hv.in_tuple x0 (by simp)
      have hy := hv.in_tuple y (by simp)
      simp only [List.length_cons, List.length_nil, Nat.reduceAdd, decide_true, Bool.not_true, if_false, Bool.false_eq_true]
      have z0 : ∀ P : D → Prop, P x0 → idxD (.tuple [x0, y]) (.int 0) P := fun P h => ⟨x0, rfl, h⟩
      have z1 : ∀ P : D → Prop, P y → idxD (.tuple [x0, y]) (.int 1) P := fun P h => ⟨y, rfl, h⟩
      refine z0 _ ⟨_, _, rfl, ⟨hx.f, _, rfl⟩, ?_⟩
      cases x0 with
      | int i =>
        simp only [numB, entB] at q ⊢
        refine ⟨_, rfl, ?_⟩
        by_cases h0 : 0 ≤ i
        · by_cases h1 : i < cs.length
          · simp only [h0, h1, decide_true, Bool.true_and, Bool.not_true, if_false, Bool.false_eq_true] at q ⊢
            refine z1 _ ?_
            cases hn : isN y with
            | true => rw [hn] at q; exact q
            | false =>
              rw [hn] at q
              refine z0 _ ⟨_, atI_pos h0 h1, z1 _ ⟨_, _, rfl, ⟨hc _ (getD_mem h0 h1), hy⟩, q⟩⟩
          · simp only [h0, h1, decide_true, decide_false, Bool.true_and, Bool.false_and, Bool.not_false, if_true] at q ⊢
            exact q
        · simp only [h0, decide_false, Bool.false_and, Bool.not_false, if_true] at q ⊢
          exact q
      | _ => exact ⟨_, rfl, q⟩
  | _ => exact q
/-! ### given_is_right -/
def givL (cs : List D) : Int → List D → Bool
  | _, [] => true
  | l, e :: r => entB cs e && match e with | .tuple (.int i :: _) => decide (l < i) && givL cs i r | _ => false
def givB (cs : List D) : D → Bool
  | .tuple es => givL cs (-1) es
  | _ => false
theorem entB_inv {cs : List D} {e : D} (h : entB cs e = true) : ∃ i b, e = .tuple [.int i, b] ∧ 0 ≤ i ∧ i < cs.length ∧ (isN b || valB (cs.getD i.toNat .none) b) = true := by
  unfold entB at h
  split at h
  · simp only [Bool.and_eq_true,
        decide_eq_true_eq] at h
    exact ⟨_, _, rfl, h.1.1, h.1.2, h.2⟩
  · cases h
abbrev w_given_is_right : Wc := w2 (fun c v => colsish c ∧ Good v) (onCols givB)
abbrev m_given_is_right : Wc.Mono w_given_is_right := w2.mono
theorem d_given_is_right (T : Txt K mg A) (d_entry_is_right : Def P w K mg base "entry_is_right" 3 ["columns", "value"] w_entry_is_right) (F : FunAt K mg "given_is_right" s_given_is_right ["columns", "value"]) : Def P w K mg base "given_is_right" 4 ["columns", "value"] w_given_is_right := by
  refine defD F sc_given_is_right (fun ds k Q x h => w2.len h) fun f cdv Ar outer s H E p G hg hr => ⟨_, (dss_cons (ds_if (dt_not (dt_val (de_isi (T := "tuple") (de_var (pv 1)) T.z_isinstance T.z_tuple (by decide +kernel))))
    (dss_one (ds_ret de_bl))
    dss_nil)
    (dss_cons (ds_set (i := 2) (de_neg de_int) sc_given_is_right.nd)
    (dss_cons (ds_for (passes_of rfl) rfl (di_seq (de_var (pv 1))) (dg_nm (i := 3) sc_given_is_right.nd)
    (dss_cons (ds_if (DW.dt (dw_or (dt_not (dt_val (de_fn d_entry_is_right m_entry_is_right hg hr (takes_of rfl rfl rfl rfl) (da_cons (de_var (pv 0)) (da_cons (de_var (pv 3)) da_nil))))) (dw_or1 (dt_cmp op_le cmpD.mono fitsCmp (de_idx (de_var (pv 3)) de_int) (de_var (pv 2))))))
    (dss_one (ds_ret de_bl))
    dss_nil)
    (dss_one (ds_set (i := 2) (de_idx (de_var (pv 3)) de_int) sc_given_is_right.nd))))
    (dss_one (ds_ret de_bl))))), ?_⟩
  rintro ds n Q x ⟨a, b, rfl, ⟨⟨cs, rfl, hc, hcl⟩, hv⟩, q⟩
  simp only [wRet, wSet, wSeq, wNext, wDrop, wIfS, wTest, wAnd, wOr, wNot, wIf, wBin, wVar, wC, wAndV, wOrV, wNotV, wIsN, wNotN, wNeg, wChain, wNil, wCons, wTup, wLst, wBi, wCall, wIsi, wSl, wSo, wNo, wSeqI, wFor, gNm, gTp, puts, wAsg, wPar, wMul, wmD, wmO, putsI, wAug, wTryIs, wRng1, wRng2, wEnum, wEnumT, wZip, wLc, wYes, wLend, wRel, wOwn, wApp, wIns, wSetIx, wLstF, wListF, wRepF, wAddF, wSlS, wParO, wRevT, wSortedSet, wSortedSetL, wSortedSetT, wKeys, weI, wExt, allD, wMt, wRaise, wSeqO, wCallF, plainO, wCallA, wIdx0, wAnF, wSetA, wUnA, wSeqA, plainA, wFld, wFldO, wMake, wLRg, Ans.data, Ans.own.injEq, Ans.tup.injEq, Ans.dat.injEq, wTry, wTryM, wHs, wIsC, enOf, put, putUn, defEnds, lendE, lend, wipeE, hide, lenD, intD, listD, tupleD, reprD, wPen0, wPen1, wPen2, wPenS1, wPenS2, penAt, List.map_cons, List.map_nil, List.length_cons, List.length_nil, List.nil_append, List.cons_append, Nat.reduceAdd, Nat.reduceSub, Nat.reduceLeDiff, Nat.zero_add, List.replicate_zero, List.replicate_succ, List.getElem?_cons_zero, List.getElem?_cons_succ, List.set_cons_zero, List.set_cons_succ, Option.some.injEq, Slot.dat.injEq, Slot.own.injEq, PyData.bool.injEq, PyData.int.injEq, PyData.tuple.injEq, PyData.list.injEq, exists_eq_left', exists_eq_left, and_true, true_and, if_true, if_false, Bool.false_eq_true, reduceCtorEq, List.mapIdx_cons, List.mapIdx_nil, kit_tuple hv.f, onCols] at q ⊢
  refine ⟨fine.nd hv.f, ?_⟩
  cases b with
  | tuple xs =>
    simp only [isT, Bool.not_true, if_false, Bool.false_eq_true, givB] at q ⊢
    refine ⟨xs, rfl, ?_⟩
    refine wLoop.ind (fun ds e => ∃ l u, e = ⟨[.dat (.tuple cs), .dat (.tuple xs), .dat (.int l), u], n⟩ ∧ Q (.bool (givL cs l ds)) n ∧ ∀ d ∈ ds, Good d) ?_ ?_ ⟨-1, .un, rfl, q, hv.in_tuple⟩
    · rintro e ⟨l, u, rfl, q, _⟩
      exact q
    · rintro d ds e ih ⟨l, u, rfl, q, hf⟩
      simp only [wRet, wSet, wSeq, wNext, wDrop, wIfS, wTest, wAnd, wOr, wNot, wIf, wBin, wVar, wC, wAndV, wOrV, wNotV, wIsN, wNotN, wNeg, wChain, wNil, wCons, wTup, wLst, wBi, wCall, wIsi, wSl, wSo, wNo, wSeqI, wFor, gNm, gTp, puts, wAsg, wPar, wMul, wmD, wmO, putsI, wAug, wTryIs, wRng1, wRng2, wEnum, wEnumT, wZip, wLc, wYes, wLend, wRel, wOwn, wApp, wIns, wSetIx, wLstF, wListF, wRepF, wAddF, wSlS, wParO, wRevT, wSortedSet, wSortedSetL, wSortedSetT, wKeys, weI, wExt, allD, wMt, wRaise, wSeqO, wCallF, plainO, wCallA, wIdx0, wAnF, wSetA, wUnA, wSeqA, plainA, wFld, wFldO, wMake, wLRg, Ans.data, Ans.own.injEq, Ans.tup.injEq, Ans.dat.injEq, wTry, wTryM, wHs, wIsC, enOf, put, putUn, defEnds, lendE, lend, wipeE, hide, lenD, intD, listD, tupleD, reprD, wPen0, wPen1, wPen2, wPenS1, wPenS2, penAt, List.map_cons, List.map_nil, List.length_cons, List.length_nil, List.nil_append, List.cons_append, Nat.reduceAdd, Nat.reduceSub, Nat.reduceLeDiff, Nat.zero_add, List.replicate_zero, List.replicate_succ, List.getElem?_cons_zero, List.getElem?_cons_succ, List.set_cons_zero, List.set_cons_succ, Option.some.injEq, Slot.dat.injEq, Slot.own.injEq, PyData.bool.injEq, PyData.int.injEq, PyData.tuple.injEq, PyData.list.injEq, exists_eq_left', exists_eq_left, and_true, true_and, if_true, if_false, Bool.false_eq_true, reduceCtorEq, List.mapIdx_cons, List.mapIdx_nil, onCols]
      refine ⟨_, _, rfl, ⟨⟨cs, rfl, hc, hcl⟩, hf d List.mem_cons_self⟩, ?_⟩
      simp only [wRet, wSet, wSeq, wNext, wDrop, wIfS, wTest, wAnd, wOr, wNot, wIf, wBin, wVar, wC, wAndV, wOrV, wNotV, wIsN, wNotN, wNeg, wChain, wNil, wCons, wTup, wLst, wBi, wCall, wIsi, wSl, wSo, wNo, wSeqI, wFor, gNm, gTp, puts, wAsg, wPar, wMul, wmD, wmO, putsI, wAug, wTryIs, wRng1, wRng2, wEnum, wEnumT, wZip, wLc, wYes, wLend, wRel, wOwn, wApp, wIns, wSetIx, wLstF, wListF, wRepF, wAddF, wSlS, wParO, wRevT, wSortedSet, wSortedSetL, wSortedSetT, wKeys, weI, wExt, allD, wMt, wRaise, wSeqO, wCallF, plainO, wCallA, wIdx0, wAnF, wSetA, wUnA, wSeqA, plainA, wFld, wFldO, wMake, wLRg, Ans.data, Ans.own.injEq, Ans.tup.injEq, Ans.dat.injEq, wTry, wTryM, wHs, wIsC, enOf, put, putUn, defEnds, lendE, lend, wipeE, hide, lenD, intD, listD, tupleD, reprD, wPen0, wPen1, wPen2, wPenS1, wPenS2, penAt, List.map_cons, List.map_nil, List.length_cons, List.length_nil, List.nil_append, List.cons_append, Nat.reduceAdd, Nat.reduceSub, Nat.reduceLeDiff, Nat.zero_add, List.replicate_zero, List.replicate_succ, List.getElem?_cons_zero, List.getElem?_cons_succ, List.set_cons_zero, List.set_cons_succ, Option.some.injEq, Slot.dat.injEq, Slot.own.injEq, PyData.bool.injEq, PyData.int.injEq, PyData.tuple.injEq, PyData.list.injEq, exists_eq_left', exists_eq_left, and_true, true_and, if_true, if_false, Bool.false_eq_true, reduceCtorEq, List.mapIdx_cons, List.mapIdx_nil, onCols, givL] at q ⊢
      cases he : entB cs d with
      | false =>
        rw [he] at q
        exact q
      | true =>
        rw [he] at q
        obtain ⟨i, b, rfl, h0, h1, _⟩ := entB_inv he
        simp only [Bool.not_true, if_false, Bool.false_eq_true, Bool.true_and] at q ⊢
        refine ⟨_, rfl, ?_⟩
        simp only [cmpD]
        refine ⟨_, rfl, ?_⟩
        by_cases hl : i ≤ l
        · have hl' : ¬ l < i := by omega
          simp only [hl, hl', decide_true, decide_false, Bool.false_and, if_true] at q ⊢
          exact q
        · have hl' : l < i := by omega
          simp only [hl, hl', decide_true, decide_false, Bool.true_and, if_false, Bool.false_eq_true] at q ⊢
          exact ⟨_, rfl, ih _ ⟨i, _, rfl, q, fun d hd => hf d (List.mem_cons_of_mem _ hd)⟩⟩
  | _ => exact q
end
end L2.DL.K46
namespace L2.DL.K46
open PySem PySem.Spec
      PyProof.Rows
section
variable {P : Program} {w : World} {K : PySem.W.Frag} {mg : Str → Option Value} {base : Heap} {A : Cls}
/-! ### rule_is_right -/
def fstD : D → D
  | .tuple (a :: _) => a
  | _ => .none
def sndD : D → D
  | .tuple (_ :: b :: _) => b
  | _ => .none
def valAt (cs : List D) : D → D → Bool
  | .int i, w => valB (cs.getD i.toNat .none) w
  | _, _ => false
def rulB (cs : List D) : D → Bool
  | .tuple [.tuple es, c, w] => givL cs (-1) es && (numB c (.int cs.length) && (!inB c (es.map fstD) && (isN w || (!inB .none (es.map sndD) && valAt cs c w))))
  | _ => false
theorem givL_inv {cs : List D} : ∀ {es : List D} {l : Int}, givL cs l es = true → ∀ e ∈ es, ∃ i b, e = .tuple [.int i, b] ∧ l < i ∧ 0 ≤ i ∧ i < cs.length ∧ (isN b || valB (cs.getD i.toNat .none) b) = true
  | [], _, _, e, he => by cases he
  | d :: es, l, h, e, he => by
    unfold givL at h
    rw [Bool.and_eq_true] at h
    obtain ⟨i, b, rfl, h0, h1, h2⟩ := entB_inv h.1
    have h3 := h.2
    simp only [Bool.and_eq_true,
          decide_eq_true_eq] at h3
    rcases List.mem_cons.mp
          he with rfl | he
    · exact ⟨i, b, rfl, h3.1, h0, h1, h2⟩
    · obtain ⟨j, b', rfl, g1, g2⟩ := givL_inv h3.2 e he
      exact ⟨j, b', rfl, by omega, g2⟩
theorem givL_len {cs : List D} : ∀ {es : List D} {l : Int}, givL cs l es = true → l + 1 ≤ cs.length → (es.length : Int) + l + 1 ≤ cs.length
  | [], _, _, h => by simpa using h
  | d :: es, l, h, hl => by
    unfold givL at h
    rw [Bool.and_eq_true] at h
    obtain ⟨i, b, rfl, h0, h1, h2⟩ := entB_inv h.1
    have h3 := h.2
    simp only [Bool.and_eq_true,
          decide_eq_true_eq] at h3
    have := givL_len h3.2 (by omega)
    rw [List.length_cons]
    omega
theorem numB_inv {c : D} {m : Int} (h : numB c (.int m) = true) : ∃ i, c = .int i ∧ 0 ≤ i ∧ i < m := by
  unfold numB at h
  split at h
  · rename_i e
    cases e
    simp only [Bool.and_eq_true,
          decide_eq_true_eq] at h
    exact ⟨_, rfl, h⟩
  · cases h
abbrev w_rule_is_right : Wc := w2 (fun c v => colsish c ∧ Good v) (onCols rulB)
abbrev m_rule_is_right : Wc.Mono w_rule_is_right := w2.mono
theorem d_rule_is_right (T : Txt K mg A) (d_is_number : Def P w K mg base "is_number" 2 ["value", "limit"] w_is_number) (d_is_value_of : Def P w K mg base "is_value_of" 2 ["column", "value"] w_is_value_of) (d_given_is_right : Def P w K mg base "given_is_right" 4 ["columns", "value"] w_given_is_right)
    (F : FunAt K mg "rule_is_right" s_rule_is_right ["columns", "value"]) : Def P w K mg base "rule_is_right" 5 ["columns", "value"] w_rule_is_right := by
  refine defD F sc_rule_is_right (fun ds k Q x h => w2.len h) fun f cdv Ar outer s H E p G hg hr => ⟨_, (dss_cons (ds_if (DW.dt (dw_or (dt_not (dt_val (de_isi (T := "tuple") (de_var (pv 1)) T.z_isinstance T.z_tuple (by decide +kernel)))) (dw_or1 (dt_cmp (op_neA hr.units) neD.mono fitsNe (de_bi lenD.mono fitsLen call_len_seq (da_cons (de_var (pv 1)) da_nil) T.z_len) de_int))))
    (dss_one (ds_ret de_bl))
    dss_nil)
    (dss_cons (ds_asg (de_var (pv 1)) (dg_tp rfl (dgs_cons (i := 2) sc_rule_is_right.nd (dgs_cons (i := 3) sc_rule_is_right.nd (dgs_cons (i := 4) sc_rule_is_right.nd dgs_nil)))))
    (dss_cons (ds_if (DW.dt (dw_or (dt_not (dt_val (de_fn d_given_is_right m_given_is_right hg hr (takes_of rfl rfl rfl rfl) (da_cons (de_var (pv 0)) (da_cons (de_var (pv 2)) da_nil))))) (dw_or1 (dt_not (dt_val (de_fn d_is_number m_is_number hg hr (takes_of rfl rfl rfl rfl) (da_cons (de_var (pv 3)) (da_cons (de_bi lenD.mono fitsLen call_len_seq (da_cons (de_var (pv 0)) da_nil) T.z_len) da_nil))))))))
    (dss_one (ds_ret de_bl))
    dss_nil)
    (dss_cons (ds_if (dt_cmp (op_inA (hr65 hr)) inD.mono fitsIn (de_var (pv 3)) (de_lc (own := [("entry", 5)]) rfl sc_rule_is_right.nd (di_seq (de_var (pv 2))) (blkOk_by (N := ["columns", "value", "given", "column", "want", "entry"]) (sc := defScope s_rule_is_right) (by decide +kernel)) (fun _ _ _ _ _ _ _ => (dgc_nm (i := 5) sc_rule_is_right.nd (by decide))) (fun _ _ _ _ _ _ _ => dts_nil) (fun _ _ _ _ _ _ _ => (de_idx (de_var (pv 5)) de_int))))
    (dss_one (ds_ret de_bl))
    dss_nil)
    (dss_cons (ds_if (dt_isN (de_var (pv 4)))
    (dss_one (ds_ret de_bl))
    dss_nil)
    (dss_cons (ds_if (dt_cmp (op_inA (hr65 hr)) inD.mono fitsIn de_non (de_lc (own := [("entry", 5)]) rfl sc_rule_is_right.nd (di_seq (de_var (pv 2))) (blkOk_by (N := ["columns", "value", "given", "column", "want", "entry"]) (sc := defScope s_rule_is_right) (by decide +kernel)) (fun _ _ _ _ _ _ _ => (dgc_nm (i := 5) sc_rule_is_right.nd (by decide))) (fun _ _ _ _ _ _ _ => dts_nil) (fun _ _ _ _ _ _ _ => (de_idx (de_var (pv 5)) de_int))))
    (dss_one (ds_ret de_bl))
    dss_nil)
    (dss_one (ds_ret (de_fn d_is_value_of m_is_value_of hg hr (takes_of rfl rfl rfl rfl) (da_cons (de_idx (de_var (pv 0)) (de_var (pv 3))) (da_cons (de_var (pv 4)) da_nil))))))))))), ?_⟩
  rintro ds n Q x ⟨a, b, rfl, ⟨⟨cs, rfl, hc, hcl⟩, hv⟩, q⟩
  simp only [wRet, wSet, wSeq, wNext, wDrop, wIfS, wTest, wAnd, wOr, wNot, wIf, wBin, wVar, wC, wAndV, wOrV, wNotV, wIsN, wNotN, wNeg, wChain, wNil, wCons, wTup, wLst, wBi, wCall, wIsi, wSl, wSo, wNo, wSeqI, wFor, gNm, gTp, puts, wAsg, wPar, wMul, wmD, wmO, putsI, wAug, wTryIs, wRng1, wRng2, wEnum, wEnumT, wZip, wLc, wYes, wLend, wRel, wOwn, wApp, wIns, wSetIx, wLstF, wListF, wRepF, wAddF, wSlS, wParO, wRevT, wSortedSet, wSortedSetL, wSortedSetT, wKeys, weI, wExt, allD, wMt, wRaise, wSeqO, wCallF, plainO, wCallA, wIdx0, wAnF, wSetA, wUnA, wSeqA, plainA, wFld, wFldO, wMake, wLRg, Ans.data, Ans.own.injEq, Ans.tup.injEq, Ans.dat.injEq, wTry, wTryM, wHs, wIsC, enOf, put, putUn, defEnds, lendE, lend, wipeE, hide, lenD, intD, listD, tupleD, reprD, wPen0, wPen1, wPen2, wPenS1, wPenS2, penAt, List.map_cons, List.map_nil, List.length_cons, List.length_nil, List.nil_append, List.cons_append, Nat.reduceAdd, Nat.reduceSub, Nat.reduceLeDiff, Nat.zero_add, List.replicate_zero, List.replicate_succ, List.getElem?_cons_zero, List.getElem?_cons_succ, List.set_cons_zero, List.set_cons_succ, Option.some.injEq, Slot.dat.injEq, Slot.own.injEq, PyData.bool.injEq, PyData.int.injEq, PyData.tuple.injEq, PyData.list.injEq, exists_eq_left', exists_eq_left, and_true, true_and, if_true, if_false, Bool.false_eq_true, reduceCtorEq, List.mapIdx_cons, List.mapIdx_nil, kit_tuple hv.f, onCols] at q ⊢
  refine ⟨fine.nd hv.f, ?_⟩
  cases b with
  | tuple xs =>
    simp only [isT, Bool.not_true, if_false, Bool.false_eq_true, neD, twoInts, true_or, true_and] at q ⊢
    have e1 : PyData.eqv (.int (xs.length : Int)) (.int 3) = decide (xs.length = 3) := eqv_len xs.length 3
    refine ⟨_, rfl, ?_⟩
    rw [e1]
    match xs, q, hv with
    | [], q, hv => exact q
    | [_], q, hv => simpa [rulB] using q
    | [_, _], q, hv => simpa [rulB] using q
    | _ :: _ :: _ :: _ :: _, q, hv => simpa [rulB] using q
    | [g, c, v], q, hv =>
      have hgd := hv.in_tuple g (by simp)
      have hcd := hv.in_tuple c (by simp)
      have hvd := hv.in_tuple v (by simp)
      simp only [List.length_cons, List.length_nil, Nat.reduceAdd, decide_true, Bool.not_true, if_false, Bool.false_eq_true]
      refine ⟨_, rfl, rfl, ?_⟩
      simp only [wRet, wSet, wSeq, wNext, wDrop, wIfS, wTest, wAnd, wOr, wNot, wIf, wBin, wVar, wC, wAndV, wOrV, wNotV, wIsN, wNotN, wNeg, wChain, wNil, wCons, wTup, wLst, wBi, wCall, wIsi, wSl, wSo, wNo, wSeqI, wFor, gNm, gTp, puts, wAsg, wPar, wMul, wmD, wmO, putsI, wAug, wTryIs, wRng1, wRng2, wEnum, wEnumT, wZip, wLc, wYes, wLend, wRel, wOwn, wApp, wIns, wSetIx, wLstF, wListF, wRepF, wAddF, wSlS, wParO, wRevT, wSortedSet, wSortedSetL, wSortedSetT, wKeys, weI, wExt, allD, wMt, wRaise, wSeqO, wCallF, plainO, wCallA, wIdx0, wAnF, wSetA, wUnA, wSeqA, plainA, wFld, wFldO, wMake, wLRg, Ans.data, Ans.own.injEq, Ans.tup.injEq, Ans.dat.injEq, wTry, wTryM, wHs, wIsC, enOf, put, putUn, defEnds, lendE, lend, wipeE, hide, lenD, intD, listD, tupleD, reprD, wPen0, wPen1, wPen2, wPenS1, wPenS2, penAt, List.map_cons, List.map_nil, List.length_cons, List.length_nil, List.nil_append, List.cons_append, Nat.reduceAdd, Nat.reduceSub, Nat.reduceLeDiff, Nat.zero_add, List.replicate_zero, List.replicate_succ, List.getElem?_cons_zero, List.getElem?_cons_succ, List.set_cons_zero, List.set_cons_succ, Option.some.injEq, Slot.dat.injEq, Slot.own.injEq, PyData.bool.injEq, PyData.int.injEq, PyData.tuple.injEq, PyData.list.injEq, exists_eq_left', exists_eq_left, and_true, true_and, if_true, if_false, Bool.false_eq_true, reduceCtorEq, List.mapIdx_cons, List.mapIdx_nil, onCols]
      refine ⟨_, _, rfl, ⟨⟨cs, rfl, hc, hcl⟩, hgd⟩, ?_⟩
      dsimp only [onCols]
      refine ⟨_, rfl, ?_⟩
      cases g with
      | tuple es =>
        simp only [givB, rulB] at q ⊢
        rcases Bool.eq_false_or_eq_true (givL cs (-1) es) with hg1 | hg1
        · simp only [hg1, Bool.not_true, if_false, Bool.false_eq_true, Bool.true_and] at q ⊢
          refine ⟨_, _, rfl, ⟨hcd.f, _, rfl⟩, ?_⟩
          refine ⟨_, rfl, ?_⟩
          rcases Bool.eq_false_or_eq_true (numB c (.int cs.length)) with hn1 | hn1
          · obtain ⟨i, rfl, h0, h1⟩ := numB_inv hn1
            simp only [hn1, Bool.not_true, if_false, Bool.false_eq_true, Bool.true_and] at q ⊢
            have inv := givL_inv hg1
            have hlen : es.length ≤ 1000 := by
              have := givL_len hg1 (by omega)
              omega
            have f1 : Good (.list (es.map fstD)) := hgd.mapL fun d hd => by
              obtain ⟨j, b, rfl, _⟩ := inv d hd
              exact (hgd.in_tuple _ hd).part _ (by simp [fstD])
            have f2 : Good (.list (es.map sndD)) := hgd.mapL fun d hd => by
              obtain ⟨j, b, rfl, _⟩ := inv d hd
              exact (hgd.in_tuple _ hd).part _ (by simp [sndD])
            refine ⟨_, rfl, ?_⟩
            refine lcLoop.fm (fun d => some (fstD d)) (fun d hd A B h1 h2 => ?_) (by simp only [List.length_nil]; omega) ?_
            · obtain ⟨j, b, rfl, _⟩ := inv d hd
              simp only [wRet, wSet, wSeq, wNext, wDrop, wIfS, wTest, wAnd, wOr, wNot, wIf, wBin, wVar, wC, wAndV, wOrV, wNotV, wIsN, wNotN, wNeg, wChain, wNil, wCons, wTup, wLst, wBi, wCall, wIsi, wSl, wSo, wNo, wSeqI, wFor, gNm, gTp, puts, wAsg, wPar, wMul, wmD, wmO, putsI, wAug, wTryIs, wRng1, wRng2, wEnum, wEnumT, wZip, wLc, wYes, wLend, wRel, wOwn, wApp, wIns, wSetIx, wLstF, wListF, wRepF, wAddF, wSlS, wParO, wRevT, wSortedSet, wSortedSetL, wSortedSetT, wKeys, weI, wExt, allD, wMt, wRaise, wSeqO, wCallF, plainO, wCallA, wIdx0, wAnF, wSetA, wUnA, wSeqA, plainA, wFld, wFldO, wMake, wLRg, Ans.data, Ans.own.injEq, Ans.tup.injEq, Ans.dat.injEq, wTry, wTryM, wHs, wIsC, enOf, put, putUn, defEnds, lendE, lend, wipeE, hide, lenD, intD, listD, tupleD, reprD, wPen0, wPen1, wPen2, wPenS1, wPenS2, penAt, List.map_cons, List.map_nil, List.length_cons, List.length_nil, List.nil_append, List.cons_append, Nat.reduceAdd, Nat.reduceSub, Nat.reduceLeDiff, Nat.zero_add, List.replicate_zero, List.replicate_succ, List.getElem?_cons_zero, List.getElem?_cons_succ, List.set_cons_zero, List.set_cons_succ, Option.some.injEq, Slot.dat.injEq, Slot.own.injEq, PyData.bool.injEq, PyData.int.injEq, PyData.tuple.injEq, PyData.list.injEq, exists_eq_left', exists_eq_left, and_true, true_and, if_true, if_false, Bool.false_eq_true, reduceCtorEq, List.mapIdx_cons, List.mapIdx_nil]
              exact ⟨_, rfl, h2 _ rfl⟩
            rw [List.nil_append, fmap_some]
            refine ⟨hcd, f1, _, rfl, ?_⟩
            refine ⟨_, rfl, ?_⟩
            rcases Bool.eq_false_or_eq_true (inB (.int i) (es.map fstD)) with hi | hi
            · simp only [hi, Bool.not_true, Bool.false_and, if_true] at q ⊢
              exact q
            · simp only [hi, Bool.not_false, Bool.true_and, if_false, Bool.false_eq_true] at q ⊢
              rcases Bool.eq_false_or_eq_true (isN v) with hw | hw
              · simp only [hw, Bool.true_or, if_true] at q ⊢
                exact q
              · simp only [hw, Bool.false_or, if_false, Bool.false_eq_true] at q ⊢
                refine ⟨_, rfl, ?_⟩
                refine lcLoop.fm (fun d => some (sndD d)) (fun d hd A B h1 h2 => ?_) (by simp only [List.length_nil]; omega) ?_
                · obtain ⟨j, b, rfl, _⟩ := inv d hd
                  simp only [wRet, wSet, wSeq, wNext, wDrop, wIfS, wTest, wAnd, wOr, wNot, wIf, wBin, wVar, wC, wAndV, wOrV, wNotV, wIsN, wNotN, wNeg, wChain, wNil, wCons, wTup, wLst, wBi, wCall, wIsi, wSl, wSo, wNo, wSeqI, wFor, gNm, gTp, puts, wAsg, wPar, wMul, wmD, wmO, putsI, wAug, wTryIs, wRng1, wRng2, wEnum, wEnumT, wZip, wLc, wYes, wLend, wRel, wOwn, wApp, wIns, wSetIx, wLstF, wListF, wRepF, wAddF, wSlS, wParO, wRevT, wSortedSet, wSortedSetL, wSortedSetT, wKeys, weI, wExt, allD, wMt, wRaise, wSeqO, wCallF, plainO, wCallA, wIdx0, wAnF, wSetA, wUnA, wSeqA, plainA, wFld, wFldO, wMake, wLRg, Ans.data, Ans.own.injEq, Ans.tup.injEq, Ans.dat.injEq, wTry, wTryM, wHs, wIsC, enOf, put, putUn, defEnds, lendE, lend, wipeE, hide, lenD, intD, listD, tupleD, reprD, wPen0, wPen1, wPen2, wPenS1, wPenS2, penAt, List.map_cons, List.map_nil, List.length_cons, List.length_nil, List.nil_append, List.cons_append, Nat.reduceAdd, Nat.reduceSub, Nat.reduceLeDiff, Nat.zero_add, List.replicate_zero, List.replicate_succ, List.getElem?_cons_zero, List.getElem?_cons_succ, List.set_cons_zero, List.set_cons_succ, Option.some.injEq, Slot.dat.injEq, Slot.own.injEq, PyData.bool.injEq, PyData.int.injEq, PyData.tuple.injEq, PyData.list.injEq, exists_eq_left', exists_eq_left, and_true, true_and, if_true, if_false, Bool.false_eq_true, reduceCtorEq, List.mapIdx_cons, List.mapIdx_nil]
                  exact ⟨_, rfl, h2 _ rfl⟩
                rw [List.nil_append, fmap_some]
                refine ⟨Ok.none.good, f2, _, rfl, ?_⟩
                refine ⟨_, rfl, ?_⟩
                rcases Bool.eq_false_or_eq_true (inB .none (es.map sndD)) with hj | hj
                · simp only [hj, Bool.not_true, Bool.false_and, if_true] at q ⊢
                  exact q
                · simp only [hj, Bool.not_false, Bool.true_and, if_false, Bool.false_eq_true, valAt] at q ⊢
                  exact ⟨_, atI_pos h0 h1, _, _, rfl, ⟨hc _ (getD_mem h0 h1), hvd⟩, q⟩
          · simp only [hn1, Bool.not_false, Bool.false_and, if_true] at q ⊢
            exact q
        · simp only [hg1, Bool.not_false, Bool.false_and, if_true] at q ⊢
          exact q
      | _ => exact q
  | _ => exact q
end
end L2.DL.K46
namespace L2.DL.K46
open PySem PySem.Spec
      PyProof.Rows
section
variable {P : Program} {w : World} {K : PySem.W.Frag} {mg : Str → Option Value} {base : Heap} {A : Cls}
/-! ### check_columns, check_row, check_rule -/
def wChk1 (C : Addr) (pre : D → Prop) (f : D → Bool) : Wc := fun ds k Q x => ∃ a, ds = [a] ∧ pre a ∧ (f a = true → Q .none k) ∧ (f a = false → x (excD C) k)
def wChk2 (C : Addr) (pre : D → D → Prop) (f : List D → D → Bool) : Wc := fun ds k Q x => ∃ cs b, ds = [.tuple cs, b] ∧ pre (.tuple cs) b ∧ (f cs b = true → Q .none k) ∧ (f cs b = false → x (excD C) k)
theorem wChk1.mono {C : Addr} {pre : D → Prop} {f : D → Bool} : Wc.Mono (wChk1 C pre f) := fun ds k Q Q' x x' h1 h2 ⟨a, e, p, q1, q2⟩ => ⟨a, e, p, fun z => h1 _ _ (q1 z), fun z => h2 _ _ (q2 z)⟩
theorem wChk2.mono {C : Addr} {pre : D → D → Prop} {f : List D → D → Bool} : Wc.Mono (wChk2 C pre f) := fun ds k Q Q' x x' h1 h2 ⟨a, b, e, p, q1, q2⟩ => ⟨a, b, e, p, fun z => h1 _ _ (q1 z), fun z => h2 _ _ (q2 z)⟩
abbrev w_check_columns (A : Cls) : Wc := wChk1 A.InvalidColumns (fun a => Good a) colsB
abbrev m_check_columns {A : Cls} : Wc.Mono (w_check_columns A) := wChk1.mono
theorem d_check_columns (T : Txt K mg A) (d_is_columns : Def P w K mg base "is_columns" 3 ["value"] w_is_columns) (F : FunAt K mg "check_columns" s_check_columns ["columns"]) : Def P w K mg base "check_columns" 4 ["columns"] (w_check_columns A) := by
  refine defD F sc_check_columns (fun ds k Q x ⟨a, e, _⟩ => by rw [e]; rfl) fun f cdv Ar outer s H E p G hg hr => ⟨_, (dss_one (ds_if (dt_not (dt_val (de_fn d_is_columns m_is_columns hg hr (takes_of rfl rfl rfl rfl) (da_cons (de_var (pv 0)) da_nil))))
    (dss_one (ds_raise (C := A.InvalidColumns) rfl (takes_of rfl rfl rfl rfl) PySem.F.excBase_ValueError T.x_InvalidColumns T.g_InvalidColumns T.k_InvalidColumns (raises_own T.s_InvalidColumns T.t_InvalidColumns)))
    dss_nil)), ?_⟩
  rintro ds n Q x ⟨a, rfl, ha, q1, q2⟩
  simp only [wRet, wSet, wSeq, wNext, wDrop, wIfS, wTest, wAnd, wOr, wNot, wIf, wBin, wVar, wC, wAndV, wOrV, wNotV, wIsN, wNotN, wNeg, wChain, wNil, wCons, wTup, wLst, wBi, wCall, wIsi, wSl, wSo, wNo, wSeqI, wFor, gNm, gTp, puts, wAsg, wPar, wMul, wmD, wmO, putsI, wAug, wTryIs, wRng1, wRng2, wEnum, wEnumT, wZip, wLc, wYes, wLend, wRel, wOwn, wApp, wIns, wSetIx, wLstF, wListF, wRepF, wAddF, wSlS, wParO, wRevT, wSortedSet, wSortedSetL, wSortedSetT, wKeys, weI, wExt, allD, wMt, wRaise, wSeqO, wCallF, plainO, wCallA, wIdx0, wAnF, wSetA, wUnA, wSeqA, plainA, wFld, wFldO, wMake, wLRg, Ans.data, Ans.own.injEq, Ans.tup.injEq, Ans.dat.injEq, wTry, wTryM, wHs, wIsC, enOf, put, putUn, defEnds, lendE, lend, wipeE, hide, lenD, intD, listD, tupleD, reprD, wPen0, wPen1, wPen2, wPenS1, wPenS2, penAt, List.map_cons, List.map_nil, List.length_cons, List.length_nil, List.nil_append, List.cons_append, Nat.reduceAdd, Nat.reduceSub, Nat.reduceLeDiff, Nat.zero_add, List.replicate_zero, List.replicate_succ, List.getElem?_cons_zero, List.getElem?_cons_succ, List.set_cons_zero, List.set_cons_succ, Option.some.injEq, Slot.dat.injEq, Slot.own.injEq, PyData.bool.injEq, PyData.int.injEq, PyData.tuple.injEq, PyData.list.injEq, exists_eq_left', exists_eq_left, and_true, true_and, if_true, if_false, Bool.false_eq_true, reduceCtorEq, List.mapIdx_cons, List.mapIdx_nil]
  refine ⟨a, rfl, ha, _, rfl, ?_⟩
  rcases Bool.eq_false_or_eq_true (colsB a) with h | h
  · simp only [h, Bool.not_true, if_false, Bool.false_eq_true]
    exact q1 h
  · simp only [h, Bool.not_false, if_true]
    exact q2 h
/-! ### has_given -/
def hasB (es xs : List D) : Bool := es.all fun | .tuple [.int i, b] => isN b || PyData.eqv (xs.getD i.toNat .none) b | _ => false
def entsOk (es : List D) (m : Nat) : Prop := ∀ e ∈ es, ∃ i b, e = .tuple [.int i, b] ∧ 0 ≤ i ∧ i < m ∧ Good b
abbrev w_has_given : Wc := w2 (fun g r => ∃ es xs, g = .tuple es ∧ r = .tuple xs ∧ entsOk es xs.length ∧ ∀ d ∈ xs, Good d) fun g r => .bool (match g, r with | .tuple es, .tuple xs => hasB es xs | _, _ => false)
abbrev m_has_given : Wc.Mono w_has_given := w2.mono
theorem d_has_given (T : Txt K mg A) (F : FunAt K mg "has_given" s_has_given ["given", "row"]) : Def P w K mg base "has_given" 1 ["given", "row"] w_has_given := by
  refine defD F sc_has_given (fun ds k Q x h => w2.len h) fun f cdv Ar outer s H E p G hg hr => ⟨_, (dss_cons (ds_for (passes_of rfl) rfl (di_seq (de_var (pv 0))) (dg_tp rfl (dgs_cons (i := 2) sc_has_given.nd (dgs_cons (i := 3) sc_has_given.nd dgs_nil)))
    (dss_one (ds_if (DW.dt (dw_and (dt_notN (de_var (pv 3))) (dw_and1 (dt_cmp (op_neA hr.units) neD.mono fitsNe (de_idx (de_var (pv 1)) (de_var (pv 2))) (de_var (pv 3))))))
    (dss_one (ds_ret de_bl))
    dss_nil)))
    (dss_one (ds_ret de_bl))), ?_⟩
  rintro ds n Q x ⟨g, r, rfl, ⟨es, xs, rfl, rfl, he, hx⟩, q⟩
  simp only [wRet, wSet, wSeq, wNext, wDrop, wIfS, wTest, wAnd, wOr, wNot, wIf, wBin, wVar, wC, wAndV, wOrV, wNotV, wIsN, wNotN, wNeg, wChain, wNil, wCons, wTup, wLst, wBi, wCall, wIsi, wSl, wSo, wNo, wSeqI, wFor, gNm, gTp, puts, wAsg, wPar, wMul, wmD, wmO, putsI, wAug, wTryIs, wRng1, wRng2, wEnum, wEnumT, wZip, wLc, wYes, wLend, wRel, wOwn, wApp, wIns, wSetIx, wLstF, wListF, wRepF, wAddF, wSlS, wParO, wRevT, wSortedSet, wSortedSetL, wSortedSetT, wKeys, weI, wExt, allD, wMt, wRaise, wSeqO, wCallF, plainO, wCallA, wIdx0, wAnF, wSetA, wUnA, wSeqA, plainA, wFld, wFldO, wMake, wLRg, Ans.data, Ans.own.injEq, Ans.tup.injEq, Ans.dat.injEq, wTry, wTryM, wHs, wIsC, enOf, put, putUn, defEnds, lendE, lend, wipeE, hide, lenD, intD, listD, tupleD, reprD, wPen0, wPen1, wPen2, wPenS1, wPenS2, penAt, List.map_cons, List.map_nil, List.length_cons, List.length_nil, List.nil_append, List.cons_append, Nat.reduceAdd, Nat.reduceSub, Nat.reduceLeDiff, Nat.zero_add, List.replicate_zero, List.replicate_succ, List.getElem?_cons_zero, List.getElem?_cons_succ, List.set_cons_zero, List.set_cons_succ, Option.some.injEq, Slot.dat.injEq, Slot.own.injEq, PyData.bool.injEq, PyData.int.injEq, PyData.tuple.injEq, PyData.list.injEq, exists_eq_left', exists_eq_left, and_true, true_and, if_true, if_false, Bool.false_eq_true, reduceCtorEq, List.mapIdx_cons, List.mapIdx_nil] at q ⊢
  refine ⟨es, rfl, ?_⟩
  refine wLoop.ind (fun ds e => ∃ u v, e = ⟨[.dat (.tuple es), .dat (.tuple xs), u, v], n⟩ ∧ Q (.bool (hasB ds xs)) n ∧ entsOk ds xs.length) ?_ ?_ ⟨.un, .un, rfl, q, he⟩
  · rintro e ⟨u, v, rfl, q, _⟩
    exact q
  · rintro d ds e ih ⟨u, v, rfl, q, hf⟩
    obtain ⟨i, b, rfl, h0, h1, hb⟩ := hf d List.mem_cons_self
    have hf' : entsOk ds xs.length := fun d hd => hf d (List.mem_cons_of_mem _ hd)
    simp only [wRet, wSet, wSeq, wNext, wDrop, wIfS, wTest, wAnd, wOr, wNot, wIf, wBin, wVar, wC, wAndV, wOrV, wNotV, wIsN, wNotN, wNeg, wChain, wNil, wCons, wTup, wLst, wBi, wCall, wIsi, wSl, wSo, wNo, wSeqI, wFor, gNm, gTp, puts, wAsg, wPar, wMul, wmD, wmO, putsI, wAug, wTryIs, wRng1, wRng2, wEnum, wEnumT, wZip, wLc, wYes, wLend, wRel, wOwn, wApp, wIns, wSetIx, wLstF, wListF, wRepF, wAddF, wSlS, wParO, wRevT, wSortedSet, wSortedSetL, wSortedSetT, wKeys, weI, wExt, allD, wMt, wRaise, wSeqO, wCallF, plainO, wCallA, wIdx0, wAnF, wSetA, wUnA, wSeqA, plainA, wFld, wFldO, wMake, wLRg, Ans.data, Ans.own.injEq, Ans.tup.injEq, Ans.dat.injEq, wTry, wTryM, wHs, wIsC, enOf, put, putUn, defEnds, lendE, lend, wipeE, hide, lenD, intD, listD, tupleD, reprD, wPen0, wPen1, wPen2, wPenS1, wPenS2, penAt, List.map_cons, List.map_nil, List.length_cons, List.length_nil, List.nil_append, List.cons_append, Nat.reduceAdd, Nat.reduceSub, Nat.reduceLeDiff, Nat.zero_add, List.replicate_zero, List.replicate_succ, List.getElem?_cons_zero, List.getElem?_cons_succ, List.set_cons_zero, List.set_cons_succ, Option.some.injEq, Slot.dat.injEq, Slot.own.injEq, PyData.bool.injEq, PyData.int.injEq, PyData.tuple.injEq, PyData.list.injEq, exists_eq_left', exists_eq_left, and_true, true_and, if_true, if_false, Bool.false_eq_true, reduceCtorEq, List.mapIdx_cons, List.mapIdx_nil]
    rcases Bool.eq_false_or_eq_true (isN b) with hn | hn
    · simp only [hasB, List.all_cons, hn, Bool.true_or, Bool.true_and, Bool.not_true, if_false, Bool.false_eq_true] at q ⊢
      exact ih _ ⟨_, _, rfl, q, hf'⟩
    · simp only [hasB, List.all_cons, hn, Bool.false_or, Bool.not_false, if_true] at q ⊢
      refine ⟨_, atI_pos h0 h1, .inr ⟨hx _ (getD_mem h0 h1), hb⟩, ?_⟩
      refine ⟨_, rfl, ?_⟩
      rcases Bool.eq_false_or_eq_true (PyData.eqv (xs.getD i.toNat .none) b) with hq | hq
      · simp only [hq, Bool.true_and, Bool.not_true, if_false, Bool.false_eq_true] at q ⊢
        exact ih _ ⟨_, _, rfl, q, hf'⟩
      · simp only [hq, Bool.false_and, Bool.not_false, if_true] at q ⊢
        exact q
/-! ### matches -/
theorem cols_ish {c : D} (h : Good c) (hb : colsB c = true) : colsish c := by
  cases c with
  | tuple cs =>
    simp only [colsB, Bool.and_eq_true, decide_eq_true_eq] at hb
    refine ⟨cs, rfl, fun d hd => ?_, by omega⟩
    rcases Bool.eq_false_or_eq_true (isN d) with hn | hn
    · cases d <;> first | exact .inl rfl | cases hn
    · have := List.all_eq_true.mp hb.2.1 d (List.mem_filterMap.mpr ⟨d, hd, by simp [hn]⟩)
      cases d with
      | tuple xs => exact .inr ⟨xs, rfl, h.in_tuple _ hd⟩
      | _ => cases this
  | _ => cases hb
end
end L2.DL.K46
namespace L2.DL.K46
open PySem PySem.Spec
      PyProof.Rows
section
variable {P : Program} {w : World} {K : PySem.W.Frag} {mg : Str → Option Value} {base : Heap} {A : Cls}
/-! ### the pen -/
def w_law_spread : Wc := fun ds k Q _ => ∃ c a : Int, ds = [.int c, .int a] ∧ 0 ≤ a ∧ a ≤ most ∧ ∀ r : Int, Q (.int r) k
theorem m_law_spread : Wc.Mono w_law_spread := fun ds k Q Q' x x' h1 _ ⟨c, a, e, p1, p2, q⟩ => ⟨c, a, e, p1, p2, fun r => h1 _ _ (q r)⟩
def posI : D → Bool
  | .int q => decide (0 < q) && decide (q < 2147483648)
  | _ => false
theorem pick13 {xs : List D} (hl : xs.length = 13) (hp : xs.all posI = true) (i : Int) : ∃ q : Int, atI xs (i % 13) = some (.int q) ∧ 0 < q ∧ q < 2147483648 := by
  have h0 : 0 ≤ i % 13 := Int.emod_nonneg _ (by decide)
  have h1 : i % 13 < xs.length := by have := Int.emod_lt_of_pos i (show (0 : Int) < 13 by decide); rw [hl]; exact this
  have m := List.all_eq_true.mp hp _ (getD_mem h0 h1)
  rw [atI_pos h0 h1]
  generalize xs.getD (i % 13).toNat .none = d at m
  cases d with
  | int q =>
    simp only [posI, Bool.and_eq_true, decide_eq_true_eq] at m
    exact ⟨q, rfl, m.1, m.2⟩
  | _ => cases m
theorem mulB {a b m n : Int} (a0 : 0 ≤ a) (b0 : 0 ≤ b) (ha : a ≤ m) (hb : b ≤ n) : 0 ≤ a * b ∧ a * b ≤ m * n :=
  ⟨Int.mul_nonneg a0 b0, Int.mul_le_mul ha hb b0 (Int.le_trans a0 ha)⟩
theorem d_law_spread (T : Txt K mg A) (F : FunAt K mg "_law_spread" s_law_spread ["_law_cell", "_law_at"]) : Def P w K mg base "_law_spread" 1 ["_law_cell", "_law_at"] w_law_spread := by
  refine defD F sc_law_spread (fun ds k Q x ⟨c, a, e, _⟩ => by rw [e]; rfl) fun f cdv Ar outer s H E p G hg hr => ⟨_, (dss_cons (ds_if (dt_cmp op_ge cmpD.mono fitsCmp (de_var (pv 0)) (de_bin op_pow powD.mono fitsPow de_int de_int))
    (dss_one (ds_ret (de_var (pv 0))))
    dss_nil)
    (dss_cons (ds_set (i := 2) (de_lst (da_cons de_int (da_cons de_int (da_cons de_int (da_cons de_int (da_cons de_int (da_cons de_int (da_cons de_int da_nil)))))))) sc_law_spread.nd)
    (dss_cons (ds_set (i := 2) (de_bin op_addA addD.mono fitsAdd (de_var (pv 2)) (de_lst (da_cons de_int (da_cons de_int (da_cons de_int (da_cons de_int (da_cons de_int (da_cons de_int da_nil)))))))) sc_law_spread.nd)
    (dss_cons (ds_set (i := 3) (de_bin op_addA addD.mono fitsAdd (de_bin op_addA addD.mono fitsAdd (de_bin op_mulA mulD.mono fitsMul (de_bin op_mod modD.mono fitsMod (de_bt intD.mono fitsInt call_int1 (da_cons (de_var (pv 0)) da_nil) T.z_int) de_int) (de_bin op_addA addD.mono fitsAdd (de_bin op_mulA mulD.mono fitsMul de_int (de_var (pv 1))) de_int)) (de_bin op_mulA mulD.mono fitsMul (de_var (pv 1)) de_int)) de_int) sc_law_spread.nd)
    (dss_cons (ds_set (i := 4) (de_bin op_mod modD.mono fitsMod (de_bt intD.mono fitsInt call_int1 (da_cons (de_bin op_pow powD.mono fitsPow (de_var (pv 3)) de_int) da_nil) T.z_int) (de_idx (de_var (pv 2)) (de_bin op_mod modD.mono fitsMod (de_bt intD.mono fitsInt call_int1 (da_cons (de_var (pv 1)) da_nil) T.z_int) de_int))) sc_law_spread.nd)
    (dss_cons (ds_set (i := 5) (de_bin op_addA addD.mono fitsAdd (de_bin op_mod modD.mono fitsMod (de_bt intD.mono fitsInt call_int1 (da_cons (de_var (pv 0)) da_nil) T.z_int) de_int) de_int) sc_law_spread.nd)
    (dss_cons (ds_set (i := 6) (de_bin op_mod modD.mono fitsMod (de_bt intD.mono fitsInt call_int1 (da_cons (de_bin op_pow powD.mono fitsPow (de_bin op_addA addD.mono fitsAdd (de_bin op_mulA mulD.mono fitsMul (de_var (pv 4)) (de_bin op_addA addD.mono fitsAdd (de_var (pv 1)) de_int)) (de_var (pv 5))) de_int) da_nil) T.z_int) (de_idx (de_var (pv 2)) (de_bin op_mod modD.mono fitsMod (de_bt intD.mono fitsInt call_int1 (da_cons (de_bin op_addA addD.mono fitsAdd (de_var (pv 1)) de_int) da_nil) T.z_int) de_int))) sc_law_spread.nd)
    (dss_cons (ds_set (i := 7) (de_bin op_mod modD.mono fitsMod (de_bt intD.mono fitsInt call_int1 (da_cons (de_bin op_pow powD.mono fitsPow (de_bin op_addA addD.mono fitsAdd (de_bin op_addA addD.mono fitsAdd (de_var (pv 6)) (de_bin op_mod modD.mono fitsMod (de_bt intD.mono fitsInt call_int1 (da_cons (de_var (pv 4)) da_nil) T.z_int) de_int)) (de_var (pv 1))) de_int) da_nil) T.z_int) (de_idx (de_var (pv 2)) (de_bin op_mod modD.mono fitsMod (de_bt intD.mono fitsInt call_int1 (da_cons (de_bin op_addA addD.mono fitsAdd (de_var (pv 1)) de_int) da_nil) T.z_int) de_int))) sc_law_spread.nd)
    (dss_one (ds_ret (de_bin op_addA addD.mono fitsAdd (de_bin op_mulA mulD.mono fitsMul (de_bin op_addA addD.mono fitsAdd (de_bin op_mulA mulD.mono fitsMul (de_var (pv 4)) de_int) (de_var (pv 6))) de_int) (de_var (pv 7))))))))))))), ?_⟩
  rintro ds n Q x ⟨c, a, rfl, a0, am, q⟩
  simp only [wRet, wSet, wSeq, wNext, wDrop, wIfS, wTest, wAnd, wOr, wNot, wIf, wBin, wVar, wC, wAndV, wOrV, wNotV, wIsN, wNotN, wNeg, wChain, wNil, wCons, wTup, wLst, wBi, wCall, wIsi, wSl, wSo, wNo, wSeqI, wFor, gNm, gTp, puts, wAsg, wPar, wMul, wmD, wmO, putsI, wAug, wTryIs, wRng1, wRng2, wEnum, wEnumT, wZip, wLc, wYes, wLend, wRel, wOwn, wApp, wIns, wSetIx, wLstF, wListF, wRepF, wAddF, wSlS, wParO, wRevT, wSortedSet, wSortedSetL, wSortedSetT, wKeys, weI, wExt, allD, wMt, wRaise, wSeqO, wCallF, plainO, wCallA, wIdx0, wAnF, wSetA, wUnA, wSeqA, plainA, wFld, wFldO, wMake, wLRg, Ans.data, Ans.own.injEq, Ans.tup.injEq, Ans.dat.injEq, wTry, wTryM, wHs, wIsC, enOf, put, putUn, defEnds, lendE, lend, wipeE, hide, lenD, intD, listD, tupleD, reprD, wPen0, wPen1, wPen2, wPenS1, wPenS2, penAt, List.map_cons, List.map_nil, List.length_cons, List.length_nil, List.nil_append, List.cons_append, Nat.reduceAdd, Nat.reduceSub, Nat.reduceLeDiff, Nat.zero_add, List.replicate_zero, List.replicate_succ, List.getElem?_cons_zero, List.getElem?_cons_succ, List.set_cons_zero, List.set_cons_succ, Option.some.injEq, Slot.dat.injEq, Slot.own.injEq, PyData.bool.injEq, PyData.int.injEq, PyData.tuple.injEq, PyData.list.injEq, exists_eq_left', exists_eq_left, and_true, true_and, if_true, if_false, Bool.false_eq_true, reduceCtorEq, List.mapIdx_cons, List.mapIdx_nil, cmpD, powD, modD, mulD, addD]
  refine ⟨⟨by decide, by decide, by decide⟩, ?_⟩
  by_cases hb : (10 : Int) ^ Int.toNat 18 ≤ c
  · rw [if_pos (decide_eq_true hb)]
    exact q c
  rw [if_neg (by rw [decide_eq_false hb]; decide)]
  have c0 : 0 ≤ c % 1000000007 := Int.emod_nonneg _ (by decide)
  have c1 : c % 1000000007 ≤ 1000000006 := by have := Int.emod_lt_of_pos c (show (0 : Int) < 1000000007 by decide); omega
  have am' : a ≤ 1000000 := am
  have r0 : 0 ≤ c % 65537 := Int.emod_nonneg _ (by decide)
  have r1 : c % 65537 ≤ 65536 := by have := Int.emod_lt_of_pos c (show (0 : Int) < 65537 by decide); omega
  obtain ⟨m0, m1⟩ := mulB c0 (show 0 ≤ 2 * a + 69069 by omega) c1 (show 2 * a + 69069 ≤ 2069069 by omega)
  refine ⟨by rw [sizeLine_eq]; decide, by decide, .inl ⟨by decide, by decide⟩, .inl ⟨by omega, by omega⟩, .inl ⟨by omega, by omega⟩, ⟨by decide, by decide, by omega⟩, by decide, ?_⟩
  obtain ⟨p1, e1, x0, x1⟩ := pick13 (xs := [PyData.int 2147483629, PyData.int 2147483587, PyData.int 2147483579, PyData.int 2147483563, PyData.int 2147483549, PyData.int 2147483543, PyData.int 2147483497, PyData.int 2147483489, PyData.int 2147483477, PyData.int 2147483423, PyData.int 2147483399, PyData.int 2147483353, PyData.int 2147483323]) rfl (by decide) a
  obtain ⟨p2, e2, y0, y1⟩ := pick13 (xs := [PyData.int 2147483629, PyData.int 2147483587, PyData.int 2147483579, PyData.int 2147483563, PyData.int 2147483549, PyData.int 2147483543, PyData.int 2147483497, PyData.int 2147483489, PyData.int 2147483477, PyData.int 2147483423, PyData.int 2147483399, PyData.int 2147483353, PyData.int 2147483323]) rfl (by decide) (a + 5)
  obtain ⟨p3, e3, z0, z1⟩ := pick13 (xs := [PyData.int 2147483629, PyData.int 2147483587, PyData.int 2147483579, PyData.int 2147483563, PyData.int 2147483549, PyData.int 2147483543, PyData.int 2147483497, PyData.int 2147483489, PyData.int 2147483477, PyData.int 2147483423, PyData.int 2147483399, PyData.int 2147483353, PyData.int 2147483323]) rfl (by decide) (a + 7)
  refine ⟨_, e1, x0, ?_⟩
  generalize (c % 1000000007 * (2 * a + 69069) + a * 40503 + 977) ^ Int.toNat 3 = u1
  have u0 : 0 ≤ u1 % p1 := Int.emod_nonneg _ (by omega)
  have u2 : u1 % p1 ≤ 2147483647 := by have := Int.emod_lt_of_pos u1 x0; omega
  generalize u1 % p1 = v1 at u0 u2
  obtain ⟨n0, n1⟩ := mulB u0 (show 0 ≤ a + 3 by omega) u2 (show a + 3 ≤ 1000003 by omega)
  refine ⟨by decide, .inl ⟨by omega, by omega⟩, ⟨by decide, by decide, by omega⟩, by decide, _, e2, y0, ?_⟩
  generalize (v1 * (a + 3) + (c % 65537 + 5)) ^ Int.toNat 5 = u3
  have w0 : 0 ≤ u3 % p2 := Int.emod_nonneg _ (by omega)
  have w2 : u3 % p2 ≤ 2147483647 := by have := Int.emod_lt_of_pos u3 y0; omega
  generalize u3 % p2 = v2 at w0 w2
  have t0 : 0 ≤ v1 % 1009 := Int.emod_nonneg _ (by decide)
  have t1 : v1 % 1009 ≤ 1009 := by have := Int.emod_lt_of_pos v1 (show (0 : Int) < 1009 by decide); omega
  refine ⟨by decide, ⟨by decide, by decide, by omega⟩, by decide, _, e3, z0, ?_⟩
  exact ⟨.inl ⟨by omega, by omega⟩, .inr ⟨by decide, by decide⟩, q _⟩
abbrev pen (pre : List D → Prop) (post : List D → D → Prop) (c : Nat) : Wc := fun ds k Q _ => ∃ es k', ds = penD :: es ∧ k = k' + c ∧ pre es ∧ ∀ r k'', k' ≤ k'' → post es r → Q r k''
theorem pen.mono {pre : List D → Prop} {post : List D → D → Prop} {c : Nat} : Wc.Mono (pen pre post c) := fun ds k Q Q' x x' h1 _ ⟨es, k', e, p1, p2, q⟩ => ⟨es, k', e, p1, p2, fun r k'' l z => h1 _ _ (q r k'' l z)⟩
/-- the next draw below m -/
def w_law_take : Wc := fun ds k Q _ => ∃ (m : Int) (k' : Nat), ds = [penD, .int m] ∧ k = k' + 1 ∧ 0 < m ∧ m.natAbs < 2 ^ 9000 ∧ ∀ r : Int, 0 ≤ r → r < m → ∀ k'', k' ≤ k'' → Q (.int r) k''
theorem m_law_take : Wc.Mono w_law_take := fun ds k Q Q' x x' h1 _ ⟨m, k', e, p1, p2, p3, q⟩ => ⟨m, k', e, p1, p2, p3, fun r z1 z2 k'' z3 => h1 _ _ (q r z1 z2 k'' z3)⟩
theorem d_law_take (T : Txt K mg A) (d_law_spread : Def P w K mg base "_law_spread" 1 ["_law_cell", "_law_at"] w_law_spread) (F : FunAt K mg "_law_take" s_law_take ["_law_pen", "_law_many"]) : Def P w K mg base "_law_take" 2 ["_law_pen", "_law_many"] w_law_take := by
  refine defDp F sc_law_take (fun ds k Q x ⟨c, a, e, _⟩ => by rw [e]; rfl) fun f cdv Ar outer s H E p G xs hg hr hP => ⟨_, (dss_cons (ds_if (dt_cmp op_lt cmpD.mono fitsCmp (de_pen2 (pv 0)) (de_var (pv 1)))
    (dss_cons (ds_set (i := 2) (de_pen1 (pv 0)) sc_law_take.nd)
    (dss_cons (ds_set (i := 3) de_int sc_law_take.nd)
    (dss_cons (ds_if (dt_cmp op_lt cmpD.mono fitsCmp (de_var (pv 2)) (de_bi lenD.mono fitsLen call_len_seq (da_cons (de_pen0 hP (pv 0)) da_nil) T.z_len))
    (dss_one (ds_set (i := 3) (de_idx (de_pen0 hP (pv 0)) (de_var (pv 2))) sc_law_take.nd))
    (dss_one (ds_if (dt_cmp op_gt cmpD.mono fitsCmp (de_bi lenD.mono fitsLen call_len_seq (da_cons (de_pen0 hP (pv 0)) da_nil) T.z_len) de_int)
    (dss_one (ds_set (i := 3) (de_bin op_mod modD.mono fitsMod (de_bt intD.mono fitsInt call_int1 (da_cons (de_idx (de_pen0 hP (pv 0)) (de_bin op_mod modD.mono fitsMod (de_bt intD.mono fitsInt call_int1 (da_cons (de_bin op_addA addD.mono fitsAdd (de_bin op_mulA mulD.mono fitsMul (de_var (pv 2)) de_int) de_int) da_nil) T.z_int) (de_bi lenD.mono fitsLen call_len_seq (da_cons (de_pen0 hP (pv 0)) da_nil) T.z_len))) da_nil) T.z_int) (de_bin op_addA addD.mono fitsAdd (de_bin op_pow powD.mono fitsPow de_int de_int) (de_var (pv 2)))) sc_law_take.nd))
    dss_nil)))
    (dss_cons (ds_pen1 (de_bin op_addA addD.mono fitsAdd (de_var (pv 2)) de_int) (pv 0))
    (dss_one (ds_pen2 (de_fn d_law_spread m_law_spread hg hr (takes_of rfl rfl rfl rfl) (da_cons (de_var (pv 3)) (da_cons (de_var (pv 2)) da_nil))) (pv 0)))))))
    dss_nil)
    (dss_cons (ds_set (i := 4) (de_bin op_mod modD.mono fitsMod (de_bt intD.mono fitsInt call_int1 (da_cons (de_pen2 (pv 0)) da_nil) T.z_int) (de_var (pv 1))) sc_law_take.nd)
    (dss_cons (ds_pen2 (de_bin op_fdivW divD.mono fitsDiv (de_pen2 (pv 0)) (de_var (pv 1))) (pv 0))
    (dss_one (ds_ret (de_var (pv 4))))))), ?_⟩
  rintro ds n Q x ⟨m, k', rfl, rfl, m0, m1, q⟩
  simp only [wRet, wSet, wSeq, wNext, wDrop, wIfS, wTest, wAnd, wOr, wNot, wIf, wBin, wVar, wC, wAndV, wOrV, wNotV, wIsN, wNotN, wNeg, wChain, wNil, wCons, wTup, wLst, wBi, wCall, wIsi, wSl, wSo, wNo, wSeqI, wFor, gNm, gTp, puts, wAsg, wPar, wMul, wmD, wmO, putsI, wAug, wTryIs, wRng1, wRng2, wEnum, wEnumT, wZip, wLc, wYes, wLend, wRel, wOwn, wApp, wIns, wSetIx, wLstF, wListF, wRepF, wAddF, wSlS, wParO, wRevT, wSortedSet, wSortedSetL, wSortedSetT, wKeys, weI, wExt, allD, wMt, wRaise, wSeqO, wCallF, plainO, wCallA, wIdx0, wAnF, wSetA, wUnA, wSeqA, plainA, wFld, wFldO, wMake, wLRg, Ans.data, Ans.own.injEq, Ans.tup.injEq, Ans.dat.injEq, wTry, wTryM, wHs, wIsC, enOf, put, putUn, defEnds, lendE, lend, wipeE, hide, lenD, intD, listD, tupleD, reprD, wPen0, wPen1, wPen2, wPenS1, wPenS2, penAt, List.map_cons, List.map_nil, List.length_cons, List.length_nil, List.nil_append, List.cons_append, Nat.reduceAdd, Nat.reduceSub, Nat.reduceLeDiff, Nat.zero_add, List.replicate_zero, List.replicate_succ, List.getElem?_cons_zero, List.getElem?_cons_succ, List.set_cons_zero, List.set_cons_succ, Option.some.injEq, Slot.dat.injEq, Slot.own.injEq, PyData.bool.injEq, PyData.int.injEq, PyData.tuple.injEq, PyData.list.injEq, exists_eq_left', exists_eq_left, and_true, true_and, if_true, if_false, Bool.false_eq_true, reduceCtorEq, List.mapIdx_cons, List.mapIdx_nil, cmpD, powD, modD, mulD, addD, divD]
  have fin : ∀ (s : Int) (k'' : Nat), k' ≤ k'' → Q (.int (s % m)) k'' := fun s k'' l => q _ (Int.emod_nonneg _ (by omega)) (Int.emod_lt_of_pos _ m0) k'' l
  have at_ : ∀ i : Int, 0 ≤ i → i < (xs.map PyData.int).length → ∃ v, atI (xs.map PyData.int) i = some (.int v) := fun i h0 h1 => by
    have z := getD_mem h0 h1
    obtain ⟨v, _, hv⟩ := List.mem_map.mp z
    exact ⟨v, by rw [atI_pos h0 h1, hv]⟩
  intro s
  by_cases hs : s < m
  · rw [if_pos (decide_eq_true hs)]
    intro j j0 jm
    have jm' : j + (k' + 1 : Nat) ≤ 1000000 := jm
    have go : ∀ (c : Int), ∃ (j_1 : Int) (k_1 : Nat), j + 1 = j_1 ∧ 0 ≤ j_1 ∧ j_1 + (k_1 : Int) ≤ (most : Int) ∧ w_law_spread [.int c, .int j] k_1 (fun d k_2 => ∃ j, d = PyData.int j ∧ ∀ s : Int, 0 < m ∧ ∀ (s_1 : Int), (0 < m ∧ m.natAbs < 2 ^ 9000) ∧ Q (PyData.int (s % m)) k_2) (fun y k_2 => x y k_2) := fun c =>
      ⟨_, k', rfl, by omega, by show j + 1 + (k' : Int) ≤ 1000000; omega, c, j, rfl, j0, by show j ≤ 1000000; omega, fun r => ⟨_, rfl, fun s => ⟨m0, fun s_1 => ⟨⟨m0, m1⟩, fin s k' (Nat.le_refl _)⟩⟩⟩⟩
    by_cases h1 : j < ((xs.map PyData.int).length : Int)
    · rw [if_pos (decide_eq_true h1)]
      obtain ⟨v, hv⟩ := at_ j j0 h1
      exact ⟨_, hv, go v⟩
    · rw [if_neg (by rw [decide_eq_false h1]; decide)]
      by_cases h2 : (0 : Int) < ((xs.map PyData.int).length : Int)
      · rw [if_pos (decide_eq_true h2)]
        obtain ⟨v, hv⟩ := at_ ((j * 5 + 3) % ((xs.map PyData.int).length : Int)) (Int.emod_nonneg _ (by omega)) (Int.emod_lt_of_pos _ h2)
        exact ⟨.inl ⟨by omega, by omega⟩, h2, _, hv, ⟨by decide, by decide, by decide⟩, Int.add_pos_of_pos_of_nonneg (show (0 : Int) < 10 ^ Int.toNat 17 by decide) j0, go _⟩
      · rw [if_neg (by rw [decide_eq_false h2]; decide)]
        exact go 0
  · rw [if_neg (by rw [decide_eq_false hs]; decide)]
    exact fun s => ⟨m0, fun s_1 => ⟨⟨m0, m1⟩, fin s _ (Nat.le_succ _)⟩⟩
def w_law_anew : Wc := fun ds k Q _ => ds = [penD] ∧ Q penD k
theorem m_law_anew : Wc.Mono w_law_anew := fun ds k Q Q' x x' h1 _ ⟨e, q⟩ => ⟨e, h1 _ _ q⟩
theorem d_law_anew (T : Txt K mg A) (F : FunAt K mg "_law_anew" s_law_anew ["_law_pen"]) : Def P w K mg base "_law_anew" 1 ["_law_pen"] w_law_anew := by
  refine defD F sc_law_anew (fun ds k Q x ⟨e, _⟩ => by rw [e]; rfl) fun f cdv Ar outer s H E p G hg hr => ⟨_, (dss_cons (ds_pen2 de_int (pv 0))
    (dss_one (ds_ret (de_var (pv 0))))), ?_⟩
  rintro ds n Q x ⟨rfl, q⟩
  simp only [wRet, wSet, wSeq, wNext, wDrop, wIfS, wTest, wAnd, wOr, wNot, wIf, wBin, wVar, wC, wAndV, wOrV, wNotV, wIsN, wNotN, wNeg, wChain, wNil, wCons, wTup, wLst, wBi, wCall, wIsi, wSl, wSo, wNo, wSeqI, wFor, gNm, gTp, puts, wAsg, wPar, wMul, wmD, wmO, putsI, wAug, wTryIs, wRng1, wRng2, wEnum, wEnumT, wZip, wLc, wYes, wLend, wRel, wOwn, wApp, wIns, wSetIx, wLstF, wListF, wRepF, wAddF, wSlS, wParO, wRevT, wSortedSet, wSortedSetL, wSortedSetT, wKeys, weI, wExt, allD, wMt, wRaise, wSeqO, wCallF, plainO, wCallA, wIdx0, wAnF, wSetA, wUnA, wSeqA, plainA, wFld, wFldO, wMake, wLRg, Ans.data, Ans.own.injEq, Ans.tup.injEq, Ans.dat.injEq, wTry, wTryM, wHs, wIsC, enOf, put, putUn, defEnds, lendE, lend, wipeE, hide, lenD, intD, listD, tupleD, reprD, wPen0, wPen1, wPen2, wPenS1, wPenS2, penAt, List.map_cons, List.map_nil, List.length_cons, List.length_nil, List.nil_append, List.cons_append, Nat.reduceAdd, Nat.reduceSub, Nat.reduceLeDiff, Nat.zero_add, List.replicate_zero, List.replicate_succ, List.getElem?_cons_zero, List.getElem?_cons_succ, List.set_cons_zero, List.set_cons_succ, Option.some.injEq, Slot.dat.injEq, Slot.own.injEq, PyData.bool.injEq, PyData.int.injEq, PyData.tuple.injEq, PyData.list.injEq, exists_eq_left', exists_eq_left, and_true, true_and, if_true, if_false, Bool.false_eq_true, reduceCtorEq, List.mapIdx_cons, List.mapIdx_nil]
  exact q
theorem small9 {i : Int} (h : i.natAbs ≤ 2 ^ 20) : i.natAbs < 2 ^ 9000 := Nat.lt_of_le_of_lt h (Nat.pow_lt_pow_right (by decide) (by decide))
/-- any of some things -/
def w_law_one : Wc := fun ds k Q _ => ∃ (d : D) (xs : List D) (k' : Nat), ds = [penD, d] ∧ k = k' + 1 ∧ items d = some xs ∧ xs ≠ [] ∧ xs.length ≤ 1000000 ∧ ∀ r ∈ xs, ∀ k'', k' ≤ k'' → Q r k''
theorem m_law_one : Wc.Mono w_law_one := fun ds k Q Q' x x' h1 _ ⟨d, xs, k', e, p1, p2, p3, p4, q⟩ => ⟨d, xs, k', e, p1, p2, p3, p4, fun r z1 k'' z3 => h1 _ _ (q r z1 k'' z3)⟩
theorem d_law_one (T : Txt K mg A) (d_law_take : Def P w K mg base "_law_take" 2 ["_law_pen", "_law_many"] w_law_take) (F : FunAt K mg "_law_one" s_law_one ["_law_pen", "_law_some"]) : Def P w K mg base "_law_one" 3 ["_law_pen", "_law_some"] w_law_one := by
  refine defD F sc_law_one (fun ds k Q x ⟨d, xs, k', e, _⟩ => by rw [e]; rfl) fun f cdv Ar outer s H E p G hg hr => ⟨_, (dss_one (ds_ret (de_idx (de_var (pv 1)) (de_fn d_law_take m_law_take hg hr (takes_of rfl rfl rfl rfl) (da_cons (de_var (pv 0)) (da_cons (de_bi lenD.mono fitsLen call_len_seq (da_cons (de_var (pv 1)) da_nil) T.z_len) da_nil)))))), ?_⟩
  rintro ds n Q x ⟨d, xs, k', rfl, rfl, hd, hn, hl, q⟩
  simp only [wRet, wSet, wSeq, wNext, wDrop, wIfS, wTest, wAnd, wOr, wNot, wIf, wBin, wVar, wC, wAndV, wOrV, wNotV, wIsN, wNotN, wNeg, wChain, wNil, wCons, wTup, wLst, wBi, wCall, wIsi, wSl, wSo, wNo, wSeqI, wFor, gNm, gTp, puts, wAsg, wPar, wMul, wmD, wmO, putsI, wAug, wTryIs, wRng1, wRng2, wEnum, wEnumT, wZip, wLc, wYes, wLend, wRel, wOwn, wApp, wIns, wSetIx, wLstF, wListF, wRepF, wAddF, wSlS, wParO, wRevT, wSortedSet, wSortedSetL, wSortedSetT, wKeys, weI, wExt, allD, wMt, wRaise, wSeqO, wCallF, plainO, wCallA, wIdx0, wAnF, wSetA, wUnA, wSeqA, plainA, wFld, wFldO, wMake, wLRg, Ans.data, Ans.own.injEq, Ans.tup.injEq, Ans.dat.injEq, wTry, wTryM, wHs, wIsC, enOf, put, putUn, defEnds, lendE, lend, wipeE, hide, lenD, intD, listD, tupleD, reprD, wPen0, wPen1, wPen2, wPenS1, wPenS2, penAt, List.map_cons, List.map_nil, List.length_cons, List.length_nil, List.nil_append, List.cons_append, Nat.reduceAdd, Nat.reduceSub, Nat.reduceLeDiff, Nat.zero_add, List.replicate_zero, List.replicate_succ, List.getElem?_cons_zero, List.getElem?_cons_succ, List.set_cons_zero, List.set_cons_succ, Option.some.injEq, Slot.dat.injEq, Slot.own.injEq, PyData.bool.injEq, PyData.int.injEq, PyData.tuple.injEq, PyData.list.injEq, exists_eq_left', exists_eq_left, and_true, true_and, if_true, if_false, Bool.false_eq_true, reduceCtorEq, List.mapIdx_cons, List.mapIdx_nil]
  have pos : 0 < xs.length := List.length_pos_iff.mpr hn
  have fin : w_law_take [penD, .int xs.length] (k' + 1) (fun r k'' => idxD d r fun e => Q e k'') (fun y k_1 => x y k_1) :=
    ⟨xs.length, k', rfl, rfl, by omega, small9 (by omega), fun r r0 r1 k'' l => by
      have m := q _ (getD_mem r0 r1) k'' l
      cases d with
      | list ys => cases hd; exact ⟨_, atI_pos r0 r1, m⟩
      | tuple ys => cases hd; exact ⟨_, atI_pos r0 r1, m⟩
      | _ => cases hd⟩
  cases d with
  | list ys => cases hd; exact fin
  | tuple ys => cases hd; exact fin
  | _ => cases hd
end
end L2.DL.K46
namespace L2.DL.K46
open PySem PySem.Spec
      PyProof.Rows
/-! ### columns -/
def lessB : D → Bool
  | .tuple xs => xs.all fun | .int i => decide (i < 2 ^ 110) | _ => false
  | _ => false
def okCol (c : D) : Prop := c = .none ∨ ((closedB c = true ∧ lessB c = true) ∧ Ok 4 1 c)
def nonN (cs : List D) : List D := cs.filterMap fun d => if isN d = true then none else some d
def okCols (c : D) : Prop := ∃ cs, c = .tuple cs ∧ (∀ d ∈ cs, okCol d) ∧ 1 ≤ cs.length ∧ cs.length ≤ 4 ∧ (nonN cs).length ≤ 2
theorem okCol.ok {c : D} (h : okCol c) : Ok 4 1 c := by
  rcases h with rfl | ⟨_, h⟩
  · exact Ok.none.mono (by decide) (by decide)
  · exact h
theorem okCols.ok {c : D} (h : okCols c) : Ok 17 2 c := by
  obtain ⟨cs, rfl, h1, h2, h3, h4⟩ := h
  exact (Ok.tuple (fun d hd => (h1 d hd).ok) h3).mono (by decide) (by decide)
theorem okCols.b {c : D} (h : okCols c) : colsB c = true := by
  obtain ⟨cs, rfl, h1, h2, h3, h4⟩ := h
  simp only [colsB, Bool.and_eq_true, decide_eq_true_eq]
  refine ⟨⟨h2, h3⟩, List.all_eq_true.mpr fun d hd => ?_, h4⟩
  obtain ⟨e, he, hn⟩ := List.mem_filterMap.mp hd
  split at hn
  · cases hn
  · cases hn
    rcases h1 d he with rfl | ⟨h, _⟩
    · rename_i n; exact absurd rfl n
    · exact h.1
end L2.DL.K46
namespace L2.DL.K46
open PySem PySem.Spec
      PyProof.Rows
/-! ### values -/
theorem ascB_inv : ∀ {xs : List D} {l : Int}, ascB l xs = true → ∀ d ∈ xs, ∃ i, d = .int i ∧ l < i
  | [], _, _, d, hd => by cases hd
  | .int i :: xs, l, h, d, hd => by
    simp only [ascB, Bool.and_eq_true, decide_eq_true_eq] at h
    rcases List.mem_cons.mp
          hd with rfl | hd
    · exact ⟨i, rfl, h.1⟩
    · obtain ⟨j, rfl, hj⟩ := ascB_inv h.2 d hd
      exact ⟨j, rfl, by omega⟩
  | .none :: _, _, h, _, _ => by simp [ascB] at h
  | .bool _ :: _, _, h, _, _ => by simp [ascB] at h
  | .str _ :: _, _, h, _, _ => by simp [ascB] at h
  | .list _ :: _, _, h, _, _ => by simp [ascB] at h
  | .tuple _ :: _, _, h, _, _ => by simp [ascB] at h
  | .dict _ :: _, _, h, _, _ => by simp [ascB] at h
theorem okCol.inv {c : D} (h : okCol c) : c = .none ∨ ∃ xs, c = .tuple xs ∧ xs ≠ [] ∧ xs.length ≤ 3 ∧ ascB (-1) xs = true ∧ ∀ d ∈ xs, ∃ i : Int, d = .int i ∧ 0 ≤ i ∧ i < 2 ^ 110 := by
  rcases h with rfl | ⟨⟨h, hl⟩, _⟩
  · exact .inl rfl
  · cases c with
    | tuple xs =>
      simp only [closedB, Bool.and_eq_true, decide_eq_true_eq] at h
      refine .inr ⟨xs, rfl, fun e => ?_, h.1.2, h.2, fun d hd => ?_⟩
      · rw [e] at h; exact absurd h.1.1 (by decide)
      · obtain ⟨i, rfl, hi⟩ := ascB_inv h.2 d hd
        have := List.all_eq_true.mp hl _ hd
        simp only [decide_eq_true_eq] at this
        exact ⟨i, rfl, by omega, this⟩
    | _ => cases h
/-- the values that an open column gets -/
abbrev six : List Int := [0, 1, 2, 3, 10 ^ 29, 10 ^ 29 + 1]
def okVal (c v : D) : Prop := ∃ i : Int, v = .int i ∧ 0 ≤ i ∧ i < 2 ^ 110 ∧ inCol c v = true ∧ (c = .none → i ∈ six)
theorem okVal.b {c v : D} (h : okVal c v) : valB c v = true := by
  obtain ⟨i, rfl, h0, _, h2, _⟩ := h
  simp only [valB, Bool.and_eq_true, decide_eq_true_eq]
  exact ⟨h0, h2⟩
theorem okVal.ok {c v : D} (h : okVal c v) : Ok 1 0 v := by
  obtain ⟨i, rfl, h0, h1, h2⟩ := h
  exact Ok.int (by omega)
theorem inB_mem {i : Int} {xs : List D} (h : PyData.int i ∈ xs) : inB (.int i) xs = true :=
  List.any_eq_true.mpr ⟨_, h, by simp [PyData.eqv]⟩
end L2.DL.K46
namespace L2.DL.K46
open PySem PySem.Spec
      PyProof.Rows
/-! ### givens -/
/-- an entry, told by its column and its value -/
def entD (z : Int × D) : D := .tuple [.int z.1, z.2]
def okEnt (cs : List D) (z : Int × D) : Prop := 0 ≤ z.1 ∧ z.1 < cs.length ∧ (z.2 = .none ∨ okVal (cs.getD z.1.toNat .none) z.2)
theorem okEnt.b {cs : List D} {z : Int × D} (h : okEnt cs z) : entB cs (entD z) = true := by
  obtain ⟨h0, h1, h2⟩ := h
  simp only [entB, entD, Bool.and_eq_true, decide_eq_true_eq, Bool.or_eq_true]
  refine ⟨⟨h0, h1⟩, ?_⟩
  rcases h2 with h2 | h2
  · rw [h2]; exact .inl rfl
  · exact .inr h2.b
theorem okEnt.ok {cs : List D} {z : Int × D} (h : okEnt cs z) (hc : cs.length ≤ 4) : Ok 3 1 (entD z) := by
  obtain ⟨h0, h1, h2⟩ := h
  refine (Ok.tuple (n := 1) (m := 0) (k := 2) (fun d hd => ?_) (Nat.le_refl _)).mono (by decide) (by decide)
  rcases List.mem_cons.mp
        hd with rfl | hd
  · exact Ok.int (by omega)
  · cases List.mem_singleton.mp hd
    rcases h2 with h2 | h2
    · rw [h2]; exact Ok.none
    · exact h2.ok
theorem givL_of {cs : List D} : ∀ {zs : List (Int × D)} {l : Int}, (∀ z ∈ zs, okEnt cs z ∧ l < z.1) → (zs.map (·.1)).Pairwise (· < ·) → givL cs l (zs.map entD) = true
  | [], _, _, _ => rfl
  | z :: zs, l, h, hp => by
    rw [List.map_cons] at hp ⊢
    obtain ⟨p1, p2⟩ := List.pairwise_cons.mp hp
    simp only [givL, Bool.and_eq_true]
    refine ⟨(h z List.mem_cons_self).1.b, ?_⟩
    simp only [entD, Bool.and_eq_true, decide_eq_true_eq]
    exact ⟨(h z List.mem_cons_self).2, givL_of (fun y hy => ⟨(h y (List.mem_cons_of_mem _ hy)).1, p1 _ (List.mem_map.mpr ⟨y, hy, rfl⟩)⟩) p2⟩
/-- a given of the columns ns; with no blanks if b is false -/
def okGiv (cs : List D) (ns : List Int) (b : Bool) (g : D) : Prop := ∃ zs : List (Int × D), g = .tuple (zs.map entD) ∧ (∀ z ∈ zs, okEnt cs z ∧ (b = false → z.2 ≠ .none) ∧ z.1 ∈ ns) ∧ (zs.map (·.1)).Pairwise (· < ·) ∧ zs.length ≤ 4
end L2.DL.K46
namespace L2.DL.K46
open PySem PySem.Spec
      PyProof.Rows
/-! ### rules -/
def okRule (cs : List D) (r : D) : Prop := rulB cs r = true ∧ Ok 40 3 r ∧ ∃ (zs : List (Int × D)) (c : Int) (w : D), r = .tuple [.tuple (zs.map entD), .int c, w] ∧ (∀ z ∈ zs, okEnt cs z) ∧ (zs.map (·.1)).Pairwise (· < ·) ∧ zs.length ≤ 4
theorem eqv_ints (a b : Int) : PyData.eqv (.int a) (.int b) = decide (a = b) := by
  rw [Bool.eq_iff_iff]
  simp [PyData.eqv]
theorem inB_not {i : Int} {ns : List Int} (h : i ∉ ns) : inB (.int i) (ns.map PyData.int) = false := by
  refine Bool.eq_false_iff.mpr fun e => ?_
  obtain ⟨z, hz, q⟩ := List.any_eq_true.mp e
  obtain ⟨j, hj, rfl⟩ := List.mem_map.mp hz
  rw [eqv_ints, decide_eq_true_eq] at q
  subst q
  exact h hj
theorem inB_non {xs : List D} (h : ∀ d ∈ xs, ∃ i, d = .int i) : inB .none xs = false := by
  refine Bool.eq_false_iff.mpr fun e => ?_
  obtain ⟨z, hz, q⟩ := List.any_eq_true.mp e
  obtain ⟨i, rfl⟩ := h z hz
  simp [PyData.eqv] at q
theorem rule_of {cs : List D} {ns : List Int} {b : Bool} {g w : D} {c : Int} (hcl : cs.length ≤ 4) (hg : okGiv cs ns b g) (hc : 0 ≤ c ∧ c < cs.length) (hn : c ∉ ns) (hw : (b = true ∧ w = .none) ∨ (b = false ∧ okVal (cs.getD c.toNat .none) w)) : okRule cs (.tuple [g, .int c, w]) := by
  obtain ⟨zs, rfl, hz, hp, hl⟩ := hg
  have e1 : (zs.map entD).map fstD = (zs.map (·.1)).map PyData.int := by rw [List.map_map, List.map_map]; rfl
  refine ⟨?_, ?_, zs, c, w, rfl, fun z h => (hz z h).1, hp, hl⟩
  · simp only [rulB, Bool.and_eq_true, Bool.or_eq_true, Bool.not_eq_true']
    refine ⟨givL_of (fun z h => ⟨(hz z h).1, by have := (hz z h).1.1; omega⟩) hp, by simp only [numB, Bool.and_eq_true, decide_eq_true_eq]; exact hc, ?_, ?_⟩
    · rw [e1]
      exact inB_not fun h => by
        obtain ⟨z, h1, h2⟩ := List.mem_map.mp h
        exact hn (by rw [← h2]; exact (hz z h1).2.2)
    · rcases hw with ⟨_, rfl⟩ | ⟨hb, hw⟩
      · exact .inl rfl
      · refine .inr ⟨inB_non fun d hd => ?_, hw.b⟩
        obtain ⟨e, he, rfl⟩ := List.mem_map.mp hd
        obtain ⟨z, h, rfl⟩ := List.mem_map.mp he
        rcases (hz z h).1.2.2 with h2 | ⟨i, h2, _⟩
        · exact absurd h2 ((hz z h).2.1 hb)
        · exact ⟨i, h2⟩
  · have g : Ok 13 2 (.tuple (zs.map entD)) := (Ok.tuple (k := 4) (fun d hd => by
      obtain ⟨z, h, rfl⟩ := List.mem_map.mp hd
      exact (hz z h).1.ok hcl) (by rw [List.length_map]; exact hl)).mono (by decide) (by decide)
    have gc : Ok 13 2 (.int c) := (Ok.int (by omega)).mono (by decide) (by decide)
    have gw : Ok 13 2 w := by
      rcases hw with ⟨_, rfl⟩ | ⟨_, hw⟩
      · exact Ok.none.mono (by decide) (by decide)
      · exact hw.ok.mono (by decide) (by decide)
    refine (Ok.tuple (n := 13) (m := 2) (k := 3) (fun d hd => ?_) (Nat.le_refl _)).mono (by decide) (by decide)
    simp only [List.mem_cons, List.not_mem_nil, or_false] at hd
    rcases hd with rfl | rfl | rfl
    · exact g
    · exact gc
    · exact gw
end L2.DL.K46
namespace L2.DL.K46
open PySem PySem.Spec
      PyProof.Rows
/-! ### columns whose values are drawn as a set; values of them -/
theorem ascB_of : ∀ {ms : List Int} {l : Int}, ms.Pairwise (· < ·) → (∀ m ∈ ms, l < m) → ascB l (ms.map PyData.int) = true
  | [], _, _, _ => rfl
  | m :: ms, l, p, h => by
    obtain ⟨p1, p2⟩ := List.pairwise_cons.mp p
    simp only [List.map_cons, ascB, Bool.and_eq_true, decide_eq_true_eq]
    exact ⟨h m List.mem_cons_self, ascB_of p2 p1⟩
theorem okCol_ints {ms : List Int} (h0 : ms ≠ []) (h3 : ms.length ≤ 3) (hp : ms.Pairwise (· < ·)) (hb : ∀ m ∈ ms, 0 ≤ m ∧ m < 100) : okCol (.tuple (ms.map PyData.int)) := by
  have l1 : 1 ≤ ms.length := List.length_pos_iff.mpr h0
  refine .inr ⟨⟨?_, ?_⟩, ?_⟩
  · simp only [closedB, Bool.and_eq_true, decide_eq_true_eq, List.length_map]
    exact ⟨⟨l1, h3⟩, ascB_of hp fun m hm => by have := (hb m hm).1; omega⟩
  · simp only [lessB, List.all_map, List.all_eq_true, Function.comp, decide_eq_true_eq]
    intro m hm
    have := (hb m hm).2
    omega
  · refine (Ok.tuple (n := 1) (m := 0) (k := 3) (fun d hd => ?_) (by rw [List.length_map]; exact h3)).mono (by decide) (by decide)
    obtain ⟨m, hm, rfl⟩ := List.mem_map.mp hd
    exact Ok.int (by have := hb m hm; omega)
theorem nonN_append {xs ys : List D} : nonN (xs ++ ys) = nonN xs ++ nonN ys := by
  unfold nonN
  rw [List.filterMap_append]
theorem nonN_n {fs : List D} : nonN (fs ++ [PyData.none]) = nonN fs := by
  rw [nonN_append]
  exact List.append_nil _
theorem nonN_t {fs xs : List D} : (nonN (fs ++ [PyData.tuple xs])).length = (nonN fs).length + 1 := by
  rw [nonN_append, List.length_append]
  rfl
section
variable {P : Program} {w : World} {K : PySem.W.Frag} {mg : Str → Option Value} {base : Heap} {A : Cls}
abbrev w_law_columns : Wc := pen (fun es => ∃ m : Int, es = [.int m] ∧ 1 ≤ m ∧ m ≤ 4) (fun _ r => okCols r) 30
abbrev m_law_columns : Wc.Mono w_law_columns := pen.mono
theorem d_law_columns (T : Txt K mg A) (d_law_take : Def P w K mg base "_law_take" 2 ["_law_pen", "_law_many"] w_law_take) (F : FunAt K mg "_law_columns" s_law_columns ["_law_pen", "_law_most"]) : Def P w K mg base "_law_columns" 3 ["_law_pen", "_law_most"] w_law_columns := by
  refine defD F sc_law_columns (fun ds k Q x ⟨es, k', e, _, ⟨m, p, _⟩, _⟩ => by rw [e, p]; rfl) fun f cdv Ar outer s H E p G hg hr => ⟨_, (dss_cons (ds_asg (de_tup (da_cons (de_tup da_nil) (da_cons de_int da_nil))) (dg_tp rfl (dgs_cons (i := 2) sc_law_columns.nd (dgs_cons (i := 3) sc_law_columns.nd dgs_nil))))
    (dss_cons (ds_for (passes_of rfl) rfl (di_rng1 (de_bin op_addA addD.mono fitsAdd de_int (de_fn d_law_take m_law_take hg hr (takes_of rfl rfl rfl rfl) (da_cons (de_var (pv 0)) (da_cons (de_var (pv 1)) da_nil)))) T.z_range) (dg_nm (i := 4) sc_law_columns.nd)
    (dss_cons (ds_set (i := 5) (de_sortedSetL rfl (de_lc (own := [("_law_step", 6)]) rfl sc_law_columns.nd (di_rng1 (de_bin op_addA addD.mono fitsAdd de_int (de_fn d_law_take m_law_take hg hr (takes_of rfl rfl rfl rfl) (da_cons (de_var (pv 0)) (da_cons de_int da_nil)))) T.z_range) (blkOk_by (N := ["_law_pen", "_law_most", "_law_found", "_law_closed", "_law_k", "_law_own", "_law_step"]) (sc := defScope s_law_columns) (by decide +kernel)) (fun _ _ _ _ _ _ _ => (dgc_nm (i := 6) sc_law_columns.nd (by decide))) (fun _ _ _ _ _ _ _ => dts_nil) (fun _ _ _ _ _ _ _ => (de_fn d_law_take m_law_take hg hr takes0 (da_cons (de_var (pv 0)) (da_cons de_int da_nil))))) T.z_sorted T.z_set) sc_law_columns.nd)
    (dss_one (ds_if (DW.dt (dw_and (dt_cmp op_lt cmpD.mono fitsCmp (de_var (pv 3)) de_int) (dw_and1 (dt_cmp (op_eqA hr.units) eqD.mono fitsEq (de_fn d_law_take m_law_take hg hr (takes_of rfl rfl rfl rfl) (da_cons (de_var (pv 0)) (da_cons de_int da_nil))) de_int))))
    (dss_cons (ds_set (i := 3) (de_bin op_addA addD.mono fitsAdd (de_var (pv 3)) de_int) sc_law_columns.nd)
    (dss_one (ds_set (i := 2) (de_bin op_addA addD.mono fitsAdd (de_var (pv 2)) (de_tup (da_cons (de_bt tupleD.mono fitsTuple call_tuple_of (da_cons (de_var (pv 5)) da_nil) T.z_tuple) da_nil))) sc_law_columns.nd)))
    (dss_one (ds_set (i := 2) (de_bin op_addA addD.mono fitsAdd (de_var (pv 2)) (de_tup (da_cons de_non da_nil))) sc_law_columns.nd))))))
    (dss_one (ds_ret (de_var (pv 2)))))), ?_⟩
  rintro ds n Q x ⟨es, k', rfl, rfl, ⟨m, rfl, m1, m4⟩, q⟩
  simp only [wRet, wSet, wSeq, wNext, wDrop, wIfS, wTest, wAnd, wOr, wNot, wIf, wBin, wVar, wC, wAndV, wOrV, wNotV, wIsN, wNotN, wNeg, wChain, wNil, wCons, wTup, wLst, wBi, wCall, wIsi, wSl, wSo, wNo, wSeqI, wFor, gNm, gTp, puts, wAsg, wPar, wMul, wmD, wmO, putsI, wAug, wTryIs, wRng1, wRng2, wEnum, wEnumT, wZip, wLc, wYes, wLend, wRel, wOwn, wApp, wIns, wSetIx, wLstF, wListF, wRepF, wAddF, wSlS, wParO, wRevT, wSortedSet, wSortedSetL, wSortedSetT, wKeys, weI, wExt, allD, wMt, wRaise, wSeqO, wCallF, plainO, wCallA, wIdx0, wAnF, wSetA, wUnA, wSeqA, plainA, wFld, wFldO, wMake, wLRg, Ans.data, Ans.own.injEq, Ans.tup.injEq, Ans.dat.injEq, wTry, wTryM, wHs, wIsC, enOf, put, putUn, defEnds, lendE, lend, wipeE, hide, lenD, intD, listD, tupleD, reprD, wPen0, wPen1, wPen2, wPenS1, wPenS2, penAt, List.map_cons, List.map_nil, List.length_cons, List.length_nil, List.nil_append, List.cons_append, Nat.reduceAdd, Nat.reduceSub, Nat.reduceLeDiff, Nat.zero_add, List.replicate_zero, List.replicate_succ, List.getElem?_cons_zero, List.getElem?_cons_succ, List.set_cons_zero, List.set_cons_succ, Option.some.injEq, Slot.dat.injEq, Slot.own.injEq, PyData.bool.injEq, PyData.int.injEq, PyData.tuple.injEq, PyData.list.injEq, exists_eq_left', exists_eq_left, and_true, true_and, if_true, if_false, Bool.false_eq_true, reduceCtorEq, List.mapIdx_cons, List.mapIdx_nil, addD, mulD, powD]
  refine ⟨m, k' + 29, rfl, rfl, by omega, small9 (by omega), fun r r0 rm k1 l1 => ?_⟩
  refine ⟨_, rfl, by omega, by omega, ?_⟩
  refine wLoop.ind (fun ds e => ∃ (fs : List D) (u4 u5 u6 : Slot) (k : Nat), e = ⟨[.dat penD, .dat (.int m), .dat (.tuple fs), .dat (.int (nonN fs).length), u4, u5, u6], k⟩ ∧ 1 ≤ fs.length + ds.length ∧ fs.length + ds.length ≤ 4 ∧ (∀ d ∈ fs, okCol d) ∧ (nonN fs).length ≤ 2 ∧ k' + 6 * ds.length ≤ k) ?_ ?_
    ⟨[], _, _, _, k1, rfl, by rw [rngD_length, List.length_nil]; omega, by rw [rngD_length, List.length_nil]; omega, fun d hd => (nomatch hd), by decide, by rw [rngD_length]; omega⟩
  · rintro e ⟨fs, u4, u5, u6, k, rfl, f1, f4, fc, fn, fk⟩
    refine ⟨_, rfl, q _ k (by simpa using fk) ⟨fs, rfl, fc, by simpa using f1, by simpa using f4, fn⟩⟩
  · rintro d ds e ih ⟨fs, u4, u5, u6, k, rfl, f1, f4, fc, fn, fk⟩
    rw [List.length_cons] at f1 f4 fk
    obtain ⟨k, rfl⟩ : ∃ k0, k = k0 + 6 := ⟨k - 6, by omega⟩
    simp only [wRet, wSet, wSeq, wNext, wDrop, wIfS, wTest, wAnd, wOr, wNot, wIf, wBin, wVar, wC, wAndV, wOrV, wNotV, wIsN, wNotN, wNeg, wChain, wNil, wCons, wTup, wLst, wBi, wCall, wIsi, wSl, wSo, wNo, wSeqI, wFor, gNm, gTp, puts, wAsg, wPar, wMul, wmD, wmO, putsI, wAug, wTryIs, wRng1, wRng2, wEnum, wEnumT, wZip, wLc, wYes, wLend, wRel, wOwn, wApp, wIns, wSetIx, wLstF, wListF, wRepF, wAddF, wSlS, wParO, wRevT, wSortedSet, wSortedSetL, wSortedSetT, wKeys, weI, wExt, allD, wMt, wRaise, wSeqO, wCallF, plainO, wCallA, wIdx0, wAnF, wSetA, wUnA, wSeqA, plainA, wFld, wFldO, wMake, wLRg, Ans.data, Ans.own.injEq, Ans.tup.injEq, Ans.dat.injEq, wTry, wTryM, wHs, wIsC, enOf, put, putUn, defEnds, lendE, lend, wipeE, hide, lenD, intD, listD, tupleD, reprD, wPen0, wPen1, wPen2, wPenS1, wPenS2, penAt, List.map_cons, List.map_nil, List.length_cons, List.length_nil, List.nil_append, List.cons_append, Nat.reduceAdd, Nat.reduceSub, Nat.reduceLeDiff, Nat.zero_add, List.replicate_zero, List.replicate_succ, List.getElem?_cons_zero, List.getElem?_cons_succ, List.set_cons_zero, List.set_cons_succ, Option.some.injEq, Slot.dat.injEq, Slot.own.injEq, PyData.bool.injEq, PyData.int.injEq, PyData.tuple.injEq, PyData.list.injEq, exists_eq_left', exists_eq_left, and_true, true_and, if_true, if_false, Bool.false_eq_true, reduceCtorEq, List.mapIdx_cons, List.mapIdx_nil, addD, cmpD, eqD, twoInts, true_or, true_and]
    refine ⟨3, k + 5, rfl, rfl, by decide, small9 (by decide), fun t t0 t3 k2 l2 => ?_⟩
    refine ⟨_, rfl, by omega, by omega, ?_⟩
    refine lcLoop.ind (fun acc es k3 => ∃ ns : List Int, acc = ns.map PyData.int ∧ 1 ≤ ns.length + es.length ∧ ns.length + es.length ≤ 3 ∧ (∀ v ∈ ns, 0 ≤ v ∧ v < 4) ∧ k + 2 + es.length ≤ k3) ?_ ?_ ⟨[], rfl, by rw [rngD_length, List.length_nil]; omega, by rw [rngD_length, List.length_nil]; omega, fun v hv => (nomatch hv), by rw [rngD_length]; omega⟩
    · rintro acc k3 ⟨ns, rfl, n1, n3, nb, lk⟩
      refine ⟨ns, rfl, by simp only [List.length_nil] at n3; omega, fun ms mp mm ml => ?_⟩
      have m3 : ms.length ≤ 3 := by simp only [List.length_nil] at n3; omega
      have m1 : ms ≠ [] := fun z => by
        cases ns with
        | nil => simp at n1
        | cons v ns => rw [z] at mm; exact absurd ((mm v).mpr List.mem_cons_self) (fun y => nomatch y)
      have hok : okCol (.tuple (ms.map PyData.int)) := okCol_ints m1 m3 mp fun v hv => by have := nb v ((mm v).mp hv); omega
      obtain ⟨k3, rfl⟩ : ∃ k0, k3 = k0 + 2 := ⟨k3 - 2, by simp only [List.length_nil] at lk; omega⟩
      have kk : k ≤ k3 := by simp only [List.length_nil] at lk; omega
      have fl1 : fs.length + 1 ≤ sizeLine := by rw [sizeLine_eq]; omega
      by_cases h2 : (nonN fs).length < 2
      · rw [if_pos (decide_eq_true (by omega))]
        refine ⟨3, k3 + 1, rfl, rfl, by decide, small9 (by decide), fun z z0 z3 k4 l4 => ⟨.inl rfl, ?_⟩⟩
        rw [eqv_ints]
        by_cases hz : z = 0
        · rw [if_pos (decide_eq_true hz)]
          refine ⟨fl1, ih _ ⟨fs ++ [PyData.tuple (ms.map PyData.int)], _, _, _, k4, by rw [nonN_t]; rfl, by rw [List.length_append, List.length_singleton]; omega, by rw [List.length_append, List.length_singleton]; omega, fun c hc => (List.mem_append.mp hc).elim (fc c) fun h => by cases List.mem_singleton.mp h; exact hok, by rw [nonN_t]; omega, by omega⟩⟩
        · rw [if_neg (by rw [decide_eq_false hz]; decide)]
          refine ⟨fl1, ih _ ⟨fs ++ [PyData.none], _, _, _, k4, by rw [nonN_n], by rw [List.length_append, List.length_singleton]; omega, by rw [List.length_append, List.length_singleton]; omega, fun c hc => (List.mem_append.mp hc).elim (fc c) fun h => by cases List.mem_singleton.mp h; exact .inl rfl, by rw [nonN_n]; exact fn, by omega⟩⟩
      · rw [if_neg (by rw [decide_eq_false (by omega)]; decide)]
        refine ⟨fl1, ih _ ⟨fs ++ [PyData.none], _, _, _, k3 + 2, by rw [nonN_n], by rw [List.length_append, List.length_singleton]; omega, by rw [List.length_append, List.length_singleton]; omega, fun c hc => (List.mem_append.mp hc).elim (fc c) fun h => by cases List.mem_singleton.mp h; exact .inl rfl, by rw [nonN_n]; exact fn, by omega⟩⟩
    · rintro v es acc k3 ih3 ⟨ns, rfl, n1, n3, nb, lk⟩
      rw [List.length_cons] at n1 n3 lk
      obtain ⟨k3, rfl⟩ : ∃ k0, k3 = k0 + 1 := ⟨k3 - 1, by omega⟩
      simp only [wRet, wSet, wSeq, wNext, wDrop, wIfS, wTest, wAnd, wOr, wNot, wIf, wBin, wVar, wC, wAndV, wOrV, wNotV, wIsN, wNotN, wNeg, wChain, wNil, wCons, wTup, wLst, wBi, wCall, wIsi, wSl, wSo, wNo, wSeqI, wFor, gNm, gTp, puts, wAsg, wPar, wMul, wmD, wmO, putsI, wAug, wTryIs, wRng1, wRng2, wEnum, wEnumT, wZip, wLc, wYes, wLend, wRel, wOwn, wApp, wIns, wSetIx, wLstF, wListF, wRepF, wAddF, wSlS, wParO, wRevT, wSortedSet, wSortedSetL, wSortedSetT, wKeys, weI, wExt, allD, wMt, wRaise, wSeqO, wCallF, plainO, wCallA, wIdx0, wAnF, wSetA, wUnA, wSeqA, plainA, wFld, wFldO, wMake, wLRg, Ans.data, Ans.own.injEq, Ans.tup.injEq, Ans.dat.injEq, wTry, wTryM, wHs, wIsC, enOf, put, putUn, defEnds, lendE, lend, wipeE, hide, lenD, intD, listD, tupleD, reprD, wPen0, wPen1, wPen2, wPenS1, wPenS2, penAt, List.map_cons, List.map_nil, List.length_cons, List.length_nil, List.nil_append, List.cons_append, Nat.reduceAdd, Nat.reduceSub, Nat.reduceLeDiff, Nat.zero_add, List.replicate_zero, List.replicate_succ, List.getElem?_cons_zero, List.getElem?_cons_succ, List.set_cons_zero, List.set_cons_succ, Option.some.injEq, Slot.dat.injEq, Slot.own.injEq, PyData.bool.injEq, PyData.int.injEq, PyData.tuple.injEq, PyData.list.injEq, exists_eq_left', exists_eq_left, and_true, true_and, if_true, if_false, Bool.false_eq_true, reduceCtorEq, List.mapIdx_cons, List.mapIdx_nil]
      refine ⟨_, rfl, 4, k3, rfl, rfl, by decide, small9 (by decide), fun v v0 v4 k4 l4 => ⟨by rw [List.length_map]; omega, ih3 _ _ ⟨ns ++ [v], by rw [List.map_append]; rfl, by rw [List.length_append, List.length_singleton]; omega, by rw [List.length_append, List.length_singleton]; omega, fun u hu => (List.mem_append.mp hu).elim (nb u) fun h => by cases List.mem_singleton.mp h; exact ⟨v0, v4⟩, by omega⟩⟩⟩
abbrev w_law_value : Wc := pen (fun es => ∃ c, es = [c] ∧ okCol c) (fun es v => ∀ c, es = [c] → okVal c v) 4
abbrev m_law_value : Wc.Mono w_law_value := pen.mono
theorem d_law_value (T : Txt K mg A) (d_law_one : Def P w K mg base "_law_one" 3 ["_law_pen", "_law_some"] w_law_one) (F : FunAt K mg "_law_value" s_law_value ["_law_pen", "_law_column"]) : Def P w K mg base "_law_value" 4 ["_law_pen", "_law_column"] w_law_value := by
  refine defD F sc_law_value (fun ds k Q x ⟨es, k', e, _, ⟨c, p, _⟩, _⟩ => by rw [e, p]; rfl) fun f cdv Ar outer s H E p G hg hr => ⟨_, (dss_cons (ds_if (dt_isN (de_var (pv 1)))
    (dss_one (ds_ret (de_fn d_law_one m_law_one hg hr (takes_of rfl rfl rfl rfl) (da_cons (de_var (pv 0)) (da_cons (de_lst (da_cons de_int (da_cons de_int (da_cons de_int (da_cons de_int (da_cons de_int (da_cons de_int (da_cons de_int (da_cons (de_bin op_pow powD.mono fitsPow de_int de_int) (da_cons (de_bin op_addA addD.mono fitsAdd (de_bin op_pow powD.mono fitsPow de_int de_int) de_int) da_nil)))))))))) da_nil)))))
    dss_nil)
    (dss_one (ds_ret (de_fn d_law_one m_law_one hg hr (takes_of rfl rfl rfl rfl) (da_cons (de_var (pv 0)) (da_cons (de_var (pv 1)) da_nil)))))), ?_⟩
  rintro ds n Q x ⟨es, k', rfl, rfl, ⟨c, rfl, hc⟩, q⟩
  simp only [wRet, wSet, wSeq, wNext, wDrop, wIfS, wTest, wAnd, wOr, wNot, wIf, wBin, wVar, wC, wAndV, wOrV, wNotV, wIsN, wNotN, wNeg, wChain, wNil, wCons, wTup, wLst, wBi, wCall, wIsi, wSl, wSo, wNo, wSeqI, wFor, gNm, gTp, puts, wAsg, wPar, wMul, wmD, wmO, putsI, wAug, wTryIs, wRng1, wRng2, wEnum, wEnumT, wZip, wLc, wYes, wLend, wRel, wOwn, wApp, wIns, wSetIx, wLstF, wListF, wRepF, wAddF, wSlS, wParO, wRevT, wSortedSet, wSortedSetL, wSortedSetT, wKeys, weI, wExt, allD, wMt, wRaise, wSeqO, wCallF, plainO, wCallA, wIdx0, wAnF, wSetA, wUnA, wSeqA, plainA, wFld, wFldO, wMake, wLRg, Ans.data, Ans.own.injEq, Ans.tup.injEq, Ans.dat.injEq, wTry, wTryM, wHs, wIsC, enOf, put, putUn, defEnds, lendE, lend, wipeE, hide, lenD, intD, listD, tupleD, reprD, wPen0, wPen1, wPen2, wPenS1, wPenS2, penAt, List.map_cons, List.map_nil, List.length_cons, List.length_nil, List.nil_append, List.cons_append, Nat.reduceAdd, Nat.reduceSub, Nat.reduceLeDiff, Nat.zero_add, List.replicate_zero, List.replicate_succ, List.getElem?_cons_zero, List.getElem?_cons_succ, List.set_cons_zero, List.set_cons_succ, Option.some.injEq, Slot.dat.injEq, Slot.own.injEq, PyData.bool.injEq, PyData.int.injEq, PyData.tuple.injEq, PyData.list.injEq, exists_eq_left', exists_eq_left, and_true, true_and, if_true, if_false, Bool.false_eq_true, reduceCtorEq, List.mapIdx_cons, List.mapIdx_nil, addD, mulD, powD]
  rcases hc.inv with rfl | ⟨xs, rfl, hn, hl, ha, hx⟩
  · simp only [isN, Bool.not_true, if_false, if_true, Bool.false_eq_true]
    have e29 : (10 : Int) ^ Int.toNat 29 = 100000000000000000000000000000 := rfl
    rw [e29]
    refine ⟨⟨by decide, by decide, by decide⟩, ⟨by decide, by decide, by decide⟩, _, _, k' + 3, rfl, rfl, rfl, by simp, by simp, fun r hr k'' l => q r k'' (by omega) fun c ec => ?_⟩
    cases ec
    simp only [List.mem_cons, List.not_mem_nil, or_false] at hr
    rcases hr with rfl | rfl | rfl | rfl | rfl | rfl | rfl | rfl | rfl <;> exact ⟨_, rfl, by omega, by omega, rfl, fun _ => by decide⟩
  · simp only [isN, Bool.not_false, if_true, if_false, Bool.false_eq_true]
    refine ⟨_, xs, k' + 3, rfl, rfl, rfl, hn, by omega, fun r hr k'' l => q r k'' (by omega) fun c ec => ?_⟩
    cases ec
    obtain ⟨i, rfl, h0, h1⟩ := hx r hr
    exact ⟨i, rfl, h0, h1, inB_mem hr, fun z => (nomatch z)⟩
end
end L2.DL.K46
namespace L2.DL.K46
open PySem PySem.Spec
      PyProof.Rows
/-! ### rules, entry by entry -/
theorem ite_t {c : Bool} {a b : Prop} (hc : c = true) (h : a) : if c = true then a else b := by rw [if_pos hc]; exact h
theorem pw_snoc {ns : List Int} {j : Int} (h : ns.Pairwise (· < ·)) (hb : ∀ i ∈ ns, i < j) : (ns ++ [j]).Pairwise (· < ·) := by
  rw [List.pairwise_append]
  exact ⟨h, List.pairwise_singleton _ _, fun a ha b hb' => by cases List.mem_singleton.mp hb'; exact hb a ha⟩
section
variable {P : Program} {w : World} {K : PySem.W.Frag} {mg : Str → Option Value} {base : Heap} {A : Cls}
def w_law_rule : Wc := fun ds k Q _ => ∃ (cs : List D) (k' : Nat), ds = [penD, .tuple cs] ∧ k = k' + 30 ∧ (∀ d ∈ cs, okCol d) ∧ 1 ≤ cs.length ∧ cs.length ≤ 4 ∧ ∀ r k'', k' ≤ k'' → okRule cs r → Q r k''
theorem m_law_rule : Wc.Mono w_law_rule := fun ds k Q Q' x x' h1 _ ⟨cs, k', p1, p2, p3, p4, p5, q⟩ => ⟨cs, k', p1, p2, p3, p4, p5, fun g k'' l z => h1 _ _ (q g k'' l z)⟩
theorem d_law_rule (T : Txt K mg A) (d_law_take : Def P w K mg base "_law_take" 2 ["_law_pen", "_law_many"] w_law_take) (d_law_one : Def P w K mg base "_law_one" 3 ["_law_pen", "_law_some"] w_law_one) (d_law_value : Def P w K mg base "_law_value" 4 ["_law_pen", "_law_column"] w_law_value)
    (F : FunAt K mg "_law_rule" s_law_rule ["_law_pen", "_law_columns_here"]) : Def P w K mg base "_law_rule" 6 ["_law_pen", "_law_columns_here"] w_law_rule := by
  refine defD F sc_law_rule (fun ds k Q x ⟨cs, k', e, _⟩ => by rw [e]; rfl) fun f cdv Ar outer s H E p G hg hr => ⟨_, (dss_cons (ds_set (i := 2) (de_fn d_law_take m_law_take hg hr (takes_of rfl rfl rfl rfl) (da_cons (de_var (pv 0)) (da_cons (de_bi lenD.mono fitsLen call_len_seq (da_cons (de_var (pv 1)) da_nil) T.z_len) da_nil))) sc_law_rule.nd)
    (dss_cons (ds_set (i := 3) (de_fn d_law_one m_law_one hg hr (takes_of rfl rfl rfl rfl) (da_cons (de_var (pv 0)) (da_cons (de_lst (da_cons de_non (da_cons de_non (da_cons (de_fn d_law_value m_law_value hg hr (takes_of rfl rfl rfl rfl) (da_cons (de_var (pv 0)) (da_cons (de_idx (de_var (pv 1)) (de_var (pv 2))) da_nil))) da_nil)))) da_nil))) sc_law_rule.nd)
    (dss_cons (ds_set (i := 4) (de_tup da_nil) sc_law_rule.nd)
    (dss_cons (ds_for (passes_of rfl) rfl (di_rng1 (de_bi lenD.mono fitsLen call_len_seq (da_cons (de_var (pv 1)) da_nil) T.z_len) T.z_range) (dg_nm (i := 5) sc_law_rule.nd)
    (dss_cons (ds_set (i := 6) (de_fn d_law_take m_law_take hg hr (takes_of rfl rfl rfl rfl) (da_cons (de_var (pv 0)) (da_cons de_int da_nil))) sc_law_rule.nd)
    (dss_one (ds_if (DW.dt (dw_and (dt_cmp (op_neA hr.units) neD.mono fitsNe (de_var (pv 5)) (de_var (pv 2))) (dw_and1 (dt_cmp op_lt cmpD.mono fitsCmp (de_var (pv 6)) de_int))))
    (dss_one (ds_set (i := 4) (de_bin op_addA addD.mono fitsAdd (de_var (pv 4)) (de_tup (da_cons (de_tup (da_cons (de_var (pv 5)) (da_cons (de_fn d_law_value m_law_value hg hr (takes_of rfl rfl rfl rfl) (da_cons (de_var (pv 0)) (da_cons (de_idx (de_var (pv 1)) (de_var (pv 5))) da_nil))) da_nil))) da_nil))) sc_law_rule.nd))
    (dss_one (ds_if (DW.dt (dw_and (dt_cmp (op_neA hr.units) neD.mono fitsNe (de_var (pv 5)) (de_var (pv 2))) (dw_and (dt_cmp (op_eqA hr.units) eqD.mono fitsEq (de_var (pv 6)) de_int) (dw_and1 (dt_isN (de_var (pv 3)))))))
    (dss_one (ds_set (i := 4) (de_bin op_addA addD.mono fitsAdd (de_var (pv 4)) (de_tup (da_cons (de_tup (da_cons (de_var (pv 5)) (da_cons de_non da_nil))) da_nil))) sc_law_rule.nd))
    dss_nil))))))
    (dss_one (ds_ret (de_tup (da_cons (de_var (pv 4)) (da_cons (de_var (pv 2)) (da_cons (de_var (pv 3)) da_nil)))))))))), ?_⟩
  rintro ds n Q x ⟨cs, k', rfl, rfl, hcs, hc1, hcl, q⟩
  simp only [wRet, wSet, wSeq, wNext, wDrop, wIfS, wTest, wAnd, wOr, wNot, wIf, wBin, wVar, wC, wAndV, wOrV, wNotV, wIsN, wNotN, wNeg, wChain, wNil, wCons, wTup, wLst, wBi, wCall, wIsi, wSl, wSo, wNo, wSeqI, wFor, gNm, gTp, puts, wAsg, wPar, wMul, wmD, wmO, putsI, wAug, wTryIs, wRng1, wRng2, wEnum, wEnumT, wZip, wLc, wYes, wLend, wRel, wOwn, wApp, wIns, wSetIx, wLstF, wListF, wRepF, wAddF, wSlS, wParO, wRevT, wSortedSet, wSortedSetL, wSortedSetT, wKeys, weI, wExt, allD, wMt, wRaise, wSeqO, wCallF, plainO, wCallA, wIdx0, wAnF, wSetA, wUnA, wSeqA, plainA, wFld, wFldO, wMake, wLRg, Ans.data, Ans.own.injEq, Ans.tup.injEq, Ans.dat.injEq, wTry, wTryM, wHs, wIsC, enOf, put, putUn, defEnds, lendE, lend, wipeE, hide, lenD, intD, listD, tupleD, reprD, wPen0, wPen1, wPen2, wPenS1, wPenS2, penAt, List.map_cons, List.map_nil, List.length_cons, List.length_nil, List.nil_append, List.cons_append, Nat.reduceAdd, Nat.reduceSub, Nat.reduceLeDiff, Nat.zero_add, List.replicate_zero, List.replicate_succ, List.getElem?_cons_zero, List.getElem?_cons_succ, List.set_cons_zero, List.set_cons_succ, Option.some.injEq, Slot.dat.injEq, Slot.own.injEq, PyData.bool.injEq, PyData.int.injEq, PyData.tuple.injEq, PyData.list.injEq, exists_eq_left', exists_eq_left, and_true, true_and, if_true, if_false, Bool.false_eq_true, reduceCtorEq, List.mapIdx_cons, List.mapIdx_nil, addD, eqD, twoInts, true_or, true_and]
  refine ⟨cs.length, k' + 29, rfl, rfl, by omega, small9 (by omega), fun c c0 c1 k1 l1 => ?_⟩
  have hc := hcs _ (getD_mem c0 c1)
  obtain ⟨k1, rfl⟩ : ∃ k, k1 = k + 4 := ⟨k1 - 4, by omega⟩
  refine ⟨_, atI_pos c0 c1, _, k1, rfl, rfl, ⟨_, rfl, hc⟩, fun v k2 l2 hv => ?_⟩
  have hv := hv _ rfl
  obtain ⟨k2, rfl⟩ : ∃ k, k2 = k + 1 := ⟨k2 - 1, by omega⟩
  refine ⟨_, _, k2, rfl, rfl, rfl, by simp, by simp, fun u hu k3 l3 => ?_⟩
  have hu : u = .none ∨ (isN u = false ∧ okVal (cs.getD c.toNat .none) u) := by
    simp only [List.mem_cons, List.not_mem_nil, or_false] at hu
    rcases hu with rfl | rfl | rfl
    · exact .inl rfl
    · exact .inl rfl
    · refine .inr ⟨?_, hv⟩
      obtain ⟨i, rfl, _⟩ := hv
      rfl
  refine ⟨by omega,
        by omega, ?_⟩
  rw [Int.toNat_natCast]
  refine wLoop.ind (fun ds e => ∃ (j : Nat) (zs : List (Int × D)) (u5 u6 : Slot) (k : Nat), e = ⟨[.dat penD, .dat (.tuple cs), .dat (.int c), .dat u, .dat (.tuple (zs.map entD)), u5, u6], k⟩ ∧ j ≤ cs.length ∧ ds = rngD j (cs.length - j) ∧ (∀ z ∈ zs, okEnt cs z ∧ (isN u = false → z.2 ≠ .none) ∧ z.1 ≠ c ∧ z.1 < j) ∧ (zs.map (·.1)).Pairwise (· < ·) ∧ zs.length ≤ j ∧ k' + 5 * (cs.length - j) ≤ k) ?_ ?_
    ⟨0, [], _, _, k3, rfl, Nat.zero_le _, rfl, fun z hz => (nomatch hz), List.Pairwise.nil, Nat.le_refl _, by omega⟩
  · rintro e ⟨j, zs, u5, u6, k, rfl, hj, hd, hz, hp, hl, hk⟩
    have hg : okGiv cs (zs.map (·.1)) (isN u) (.tuple (zs.map entD)) := ⟨zs, rfl, fun z h => ⟨(hz z h).1, (hz z h).2.1, List.mem_map.mpr ⟨z, h, rfl⟩⟩, hp, by omega⟩
    refine ⟨_, rfl, _, rfl, _, rfl, q _ k (by omega) (rule_of hcl hg ⟨c0, c1⟩ (fun h => ?_) ?_)⟩
    · obtain ⟨z, h1, h2⟩ := List.mem_map.mp h
      exact (hz z h1).2.2.1 h2
    · rcases hu with rfl | ⟨h1, h2⟩
      · exact .inl ⟨rfl, rfl⟩
      · exact .inr ⟨h1, h2⟩
  · rintro d ds e ih ⟨j, zs, u5, u6, k, rfl, hj, hd, hz, hp, hl, hk⟩
    obtain ⟨t, ht⟩ : ∃ t, cs.length - j = t + 1 := by
      have := congrArg List.length hd
      rw [rngD_length, List.length_cons] at this
      exact ⟨ds.length, this.symm⟩
    rw [ht, rngD_succ] at hd
    injection hd with hd1 hd2
    subst hd1 hd2
    have j1 : (j : Int) < cs.length := by omega
    have hcj := hcs _ (getD_mem (Int.natCast_nonneg j) j1)
    obtain ⟨k, rfl⟩ : ∃ k0, k = k0 + 5 := ⟨k - 5, by omega⟩
    simp only [wRet, wSet, wSeq, wNext, wDrop, wIfS, wTest, wAnd, wOr, wNot, wIf, wBin, wVar, wC, wAndV, wOrV, wNotV, wIsN, wNotN, wNeg, wChain, wNil, wCons, wTup, wLst, wBi, wCall, wIsi, wSl, wSo, wNo, wSeqI, wFor, gNm, gTp, puts, wAsg, wPar, wMul, wmD, wmO, putsI, wAug, wTryIs, wRng1, wRng2, wEnum, wEnumT, wZip, wLc, wYes, wLend, wRel, wOwn, wApp, wIns, wSetIx, wLstF, wListF, wRepF, wAddF, wSlS, wParO, wRevT, wSortedSet, wSortedSetL, wSortedSetT, wKeys, weI, wExt, allD, wMt, wRaise, wSeqO, wCallF, plainO, wCallA, wIdx0, wAnF, wSetA, wUnA, wSeqA, plainA, wFld, wFldO, wMake, wLRg, Ans.data, Ans.own.injEq, Ans.tup.injEq, Ans.dat.injEq, wTry, wTryM, wHs, wIsC, enOf, put, putUn, defEnds, lendE, lend, wipeE, hide, lenD, intD, listD, tupleD, reprD, wPen0, wPen1, wPen2, wPenS1, wPenS2, penAt, List.map_cons, List.map_nil, List.length_cons, List.length_nil, List.nil_append, List.cons_append, Nat.reduceAdd, Nat.reduceSub, Nat.reduceLeDiff, Nat.zero_add, List.replicate_zero, List.replicate_succ, List.getElem?_cons_zero, List.getElem?_cons_succ, List.set_cons_zero, List.set_cons_succ, Option.some.injEq, Slot.dat.injEq, Slot.own.injEq, PyData.bool.injEq, PyData.int.injEq, PyData.tuple.injEq, PyData.list.injEq, exists_eq_left', exists_eq_left, and_true, true_and, if_true, if_false, Bool.false_eq_true, reduceCtorEq, List.mapIdx_cons, List.mapIdx_nil, addD, cmpD, eqD, neD, twoInts, true_or, true_and]
    refine ⟨5, k + 4, rfl, rfl, by decide, small9 (by decide), fun r r0 r5 k4 l4 => ?_⟩
    dsimp only
    have zl : (zs.map entD).length + 1 ≤ sizeLine := by rw [List.length_map, sizeLine_eq]; omega
    -- an entry more
    have more : ∀ (y : D) (e' : En) (k5 : Nat) (u6 : Slot), (j : Int) ≠ c → okEnt cs ((j : Int), y) → (isN u = false → y ≠ .none) → k' + 5 * (cs.length - (j + 1)) ≤ k5 → e' = ⟨[.dat penD, .dat (.tuple cs), .dat (.int c), .dat u, .dat (.tuple (zs.map entD ++ [.tuple [.int j, y]])), .dat (.int j), u6], k5⟩ → _ := fun y e' k5 u6 hjc hy hn hk5 ee => ih e' ⟨j + 1, zs ++ [((j : Int), y)], .dat (.int j), u6, k5, ee.trans (by rw [List.map_append]; rfl), by omega, by
        have : cs.length - (j + 1) = t := by omega
        rw [this]
        rfl, fun z h => by
        rcases List.mem_append.mp
              h with h | h
        · obtain ⟨h1, h2, h3, h4⟩ := hz z h
          exact ⟨h1, h2, h3, by omega⟩
        · cases List.mem_singleton.mp h
          exact ⟨hy, hn, hjc, by show (j : Int) < ((j + 1 : Nat) : Int); omega⟩, by
        rw [List.map_append]
        exact pw_snoc hp fun i hi => by
          obtain ⟨z, h1, h2⟩ := List.mem_map.mp hi
          have := (hz z h1).2.2.2
          rw [← h2]
          exact this, by rw [List.length_append, List.length_singleton]; omega, hk5⟩
    have same : ∀ (e' : En) (k5 : Nat) (u6 : Slot), k' + 5 * (cs.length - (j + 1)) ≤ k5 → e' = ⟨[.dat penD, .dat (.tuple cs), .dat (.int c), .dat u, .dat (.tuple (zs.map entD)), .dat (.int j), u6], k5⟩ → _ := fun e' k5 u6 hk5 ee => ih e' ⟨j + 1, zs, .dat (.int j), u6, k5, ee, by omega, by
        have : cs.length - (j + 1) = t := by omega
        rw [this]
        rfl, fun z h => by
        obtain ⟨h1, h2, h3, h4⟩ := hz z h
        exact ⟨h1, h2, h3, by omega⟩, hp, by omega, hk5⟩
    rw [eqv_ints, eqv_ints]
    by_cases hjc : (j : Int) = c
    · rw [if_neg (by rw [decide_eq_true hjc]; decide), if_neg (by rw [decide_eq_true hjc]; decide)]
      exact same _ k4 _ (by omega) rfl
    · rw [if_pos (by rw [decide_eq_false hjc]; decide), if_pos (by rw [decide_eq_false hjc]; decide)]
      refine ⟨_, rfl, ?_⟩
      by_cases h2 : r < 2
      · rw [if_pos (decide_eq_true h2)]
        obtain ⟨k4, rfl⟩ : ∃ k0, k4 = k0 + 4 := ⟨k4 - 4, by omega⟩
        refine ⟨_, atI_pos (Int.natCast_nonneg j) j1, _, k4, rfl, rfl, ⟨_, rfl, hcj⟩, fun y k5 l5 hy => ⟨zl, ?_⟩⟩
        have hy := hy _ rfl
        refine more y _ k5 _ hjc ⟨Int.natCast_nonneg j, j1, .inr hy⟩ (fun _ => ?_) (by omega) rfl
        obtain ⟨i, rfl, _⟩ := hy
        exact fun z => nomatch z
      · rw [if_neg (by rw [decide_eq_false h2]; decide)]
        refine ⟨.inl rfl, ?_⟩
        by_cases h3 : r = 2
        · rw [if_pos (decide_eq_true h3)]
          rcases hu with rfl | ⟨h4, _⟩
          · refine ite_t rfl ⟨zl, more .none _ k4 _ hjc ⟨Int.natCast_nonneg j, j1, .inl rfl⟩ (fun z => by cases z) (by omega) rfl⟩
          · rw [if_neg (by rw [h4]; decide)]
            exact same _ k4 _ (by omega) rfl
        · rw [if_neg (by rw [decide_eq_false h3]; decide)]
          exact same _ k4 _ (by omega) rfl
end
end L2.DL.K46
namespace L2.DL.K46
open PySem PySem.Spec
      PyProof.Rows
section
variable {P : Program} {w : World} {K : PySem.W.Frag} {mg : Str → Option Value} {base : Heap} {A : Cls}
/-! ### tables and rules -/
def tabB (cs : List D) : D → Bool
  | .tuple rs => decide (rs.length ≤ 8) && rs.all (rowB cs)
  | _ => false
def rulsB (cs : List D) : D → Bool
  | .tuple rs => decide (rs.length ≤ 8) && rs.all (rulB cs)
  | _ => false
abbrev w_table_is_right : Wc := w2 (fun c v => colsish c ∧ Good v) (onCols tabB)
abbrev m_table_is_right : Wc.Mono w_table_is_right := w2.mono
theorem d_table_is_right (T : Txt K mg A) (d_row_is_right : Def P w K mg base "row_is_right" 3 ["columns", "value"] w_row_is_right) (F : FunAt K mg "table_is_right" s_table_is_right ["columns", "value"]) : Def P w K mg base "table_is_right" 4 ["columns", "value"] w_table_is_right := by
  obtain ⟨_, cc_MOST_ROWS⟩ := T.c_MOST_ROWS
  refine defD F sc_table_is_right (fun ds k Q x h => w2.len h) fun f cdv Ar outer s H E p G hg hr => ⟨_, (dss_cons (ds_if (DW.dt (dw_or (dt_not (dt_val (de_isi (T := "tuple") (de_var (pv 1)) T.z_isinstance T.z_tuple (by decide +kernel)))) (dw_or1 (dt_cmp op_gt cmpD.mono fitsCmp (de_bi lenD.mono fitsLen call_len_seq (da_cons (de_var (pv 1)) da_nil) T.z_len) (de_const cc_MOST_ROWS)))))
    (dss_one (ds_ret de_bl))
    dss_nil)
    (dss_cons (ds_for (passes_of rfl) rfl (di_seq (de_var (pv 1))) (dg_nm (i := 2) sc_table_is_right.nd)
    (dss_one (ds_if (dt_not (dt_val (de_fn d_row_is_right m_row_is_right hg hr (takes_of rfl rfl rfl rfl) (da_cons (de_var (pv 0)) (da_cons (de_var (pv 2)) da_nil)))))
    (dss_one (ds_ret de_bl))
    dss_nil)))
    (dss_one (ds_ret de_bl)))), ?_⟩
  rintro ds n Q x ⟨a, b, rfl, ⟨⟨cs, rfl, hc, hcl⟩, hv⟩, q⟩
  simp only [wRet, wSet, wSeq, wNext, wDrop, wIfS, wTest, wAnd, wOr, wNot, wIf, wBin, wVar, wC, wAndV, wOrV, wNotV, wIsN, wNotN, wNeg, wChain, wNil, wCons, wTup, wLst, wBi, wCall, wIsi, wSl, wSo, wNo, wSeqI, wFor, gNm, gTp, puts, wAsg, wPar, wMul, wmD, wmO, putsI, wAug, wTryIs, wRng1, wRng2, wEnum, wEnumT, wZip, wLc, wYes, wLend, wRel, wOwn, wApp, wIns, wSetIx, wLstF, wListF, wRepF, wAddF, wSlS, wParO, wRevT, wSortedSet, wSortedSetL, wSortedSetT, wKeys, weI, wExt, allD, wMt, wRaise, wSeqO, wCallF, plainO, wCallA, wIdx0, wAnF, wSetA, wUnA, wSeqA, plainA, wFld, wFldO, wMake, wLRg, Ans.data, Ans.own.injEq, Ans.tup.injEq, Ans.dat.injEq, wTry, wTryM, wHs, wIsC, enOf, put, putUn, defEnds, lendE, lend, wipeE, hide, lenD, intD, listD, tupleD, reprD, wPen0, wPen1, wPen2, wPenS1, wPenS2, penAt, List.map_cons, List.map_nil, List.length_cons, List.length_nil, List.nil_append, List.cons_append, Nat.reduceAdd, Nat.reduceSub, Nat.reduceLeDiff, Nat.zero_add, List.replicate_zero, List.replicate_succ, List.getElem?_cons_zero, List.getElem?_cons_succ, List.set_cons_zero, List.set_cons_succ, Option.some.injEq, Slot.dat.injEq, Slot.own.injEq, PyData.bool.injEq, PyData.int.injEq, PyData.tuple.injEq, PyData.list.injEq, exists_eq_left', exists_eq_left, and_true, true_and, if_true, if_false, Bool.false_eq_true, reduceCtorEq, List.mapIdx_cons, List.mapIdx_nil, kit_tuple hv.f, onCols] at q ⊢
  refine ⟨fine.nd hv.f, ?_⟩
  cases b with
  | tuple xs =>
    simp only [isT, Bool.not_true, if_false, Bool.false_eq_true, cmpD, tabB] at q ⊢
    refine ⟨_, rfl, ?_⟩
    by_cases hl : xs.length ≤ 8
    · have hl' : ¬ (8 : Int) < xs.length := by omega
      simp only [hl, hl', decide_true, decide_false, Bool.true_and, if_false, Bool.false_eq_true] at q ⊢
      refine ⟨xs, rfl, ?_⟩
      refine wLoop.ind (fun ds e => ∃ u, e = ⟨[.dat (.tuple cs), .dat (.tuple xs), u], n⟩ ∧ Q (.bool (ds.all (rowB cs))) n ∧ ∀ d ∈ ds, Good d) ?_ ?_ ⟨.un, rfl, q, hv.in_tuple⟩
      · rintro e ⟨u, rfl, q, _⟩
        exact q
      · rintro d ds e ih ⟨u, rfl, q, hf⟩
        simp only [wRet, wSet, wSeq, wNext, wDrop, wIfS, wTest, wAnd, wOr, wNot, wIf, wBin, wVar, wC, wAndV, wOrV, wNotV, wIsN, wNotN, wNeg, wChain, wNil, wCons, wTup, wLst, wBi, wCall, wIsi, wSl, wSo, wNo, wSeqI, wFor, gNm, gTp, puts, wAsg, wPar, wMul, wmD, wmO, putsI, wAug, wTryIs, wRng1, wRng2, wEnum, wEnumT, wZip, wLc, wYes, wLend, wRel, wOwn, wApp, wIns, wSetIx, wLstF, wListF, wRepF, wAddF, wSlS, wParO, wRevT, wSortedSet, wSortedSetL, wSortedSetT, wKeys, weI, wExt, allD, wMt, wRaise, wSeqO, wCallF, plainO, wCallA, wIdx0, wAnF, wSetA, wUnA, wSeqA, plainA, wFld, wFldO, wMake, wLRg, Ans.data, Ans.own.injEq, Ans.tup.injEq, Ans.dat.injEq, wTry, wTryM, wHs, wIsC, enOf, put, putUn, defEnds, lendE, lend, wipeE, hide, lenD, intD, listD, tupleD, reprD, wPen0, wPen1, wPen2, wPenS1, wPenS2, penAt, List.map_cons, List.map_nil, List.length_cons, List.length_nil, List.nil_append, List.cons_append, Nat.reduceAdd, Nat.reduceSub, Nat.reduceLeDiff, Nat.zero_add, List.replicate_zero, List.replicate_succ, List.getElem?_cons_zero, List.getElem?_cons_succ, List.set_cons_zero, List.set_cons_succ, Option.some.injEq, Slot.dat.injEq, Slot.own.injEq, PyData.bool.injEq, PyData.int.injEq, PyData.tuple.injEq, PyData.list.injEq, exists_eq_left', exists_eq_left, and_true, true_and, if_true, if_false, Bool.false_eq_true, reduceCtorEq, List.mapIdx_cons, List.mapIdx_nil]
        refine ⟨_, _, rfl, ⟨cs, rfl, hc, hf d List.mem_cons_self⟩, _, rfl, ?_⟩
        rw [List.all_cons] at q
        rcases Bool.eq_false_or_eq_true (rowB cs d) with h | h
        · simp only [h, Bool.true_and, Bool.not_true, if_false, Bool.false_eq_true] at q ⊢
          exact ih _ ⟨_, rfl, q, fun d hd => hf d (List.mem_cons_of_mem _ hd)⟩
        · simp only [h, Bool.false_and, Bool.not_false, if_true] at q ⊢
          exact q
    · have hl' : (8 : Int) < xs.length := by omega
      simp only [hl, hl', decide_true, decide_false, Bool.false_and, if_true] at q ⊢
      exact q
  | _ => exact q
abbrev w_rules_are_right : Wc := w2 (fun c v => colsish c ∧ Good v) (onCols rulsB)
abbrev m_rules_are_right : Wc.Mono w_rules_are_right := w2.mono
theorem d_rules_are_right (T : Txt K mg A) (d_rule_is_right : Def P w K mg base "rule_is_right" 5 ["columns", "value"] w_rule_is_right) (F : FunAt K mg "rules_are_right" s_rules_are_right ["columns", "value"]) : Def P w K mg base "rules_are_right" 6 ["columns", "value"] w_rules_are_right := by
  obtain ⟨_, cc_MOST_RULES⟩ := T.c_MOST_RULES
  refine defD F sc_rules_are_right (fun ds k Q x h => w2.len h) fun f cdv Ar outer s H E p G hg hr => ⟨_, (dss_cons (ds_if (DW.dt (dw_or (dt_not (dt_val (de_isi (T := "tuple") (de_var (pv 1)) T.z_isinstance T.z_tuple (by decide +kernel)))) (dw_or1 (dt_cmp op_gt cmpD.mono fitsCmp (de_bi lenD.mono fitsLen call_len_seq (da_cons (de_var (pv 1)) da_nil) T.z_len) (de_const cc_MOST_RULES)))))
    (dss_one (ds_ret de_bl))
    dss_nil)
    (dss_cons (ds_for (passes_of rfl) rfl (di_seq (de_var (pv 1))) (dg_nm (i := 2) sc_rules_are_right.nd)
    (dss_one (ds_if (dt_not (dt_val (de_fn d_rule_is_right m_rule_is_right hg hr (takes_of rfl rfl rfl rfl) (da_cons (de_var (pv 0)) (da_cons (de_var (pv 2)) da_nil)))))
    (dss_one (ds_ret de_bl))
    dss_nil)))
    (dss_one (ds_ret de_bl)))), ?_⟩
  rintro ds n Q x ⟨a, b, rfl, ⟨⟨cs, rfl, hc, hcl⟩, hv⟩, q⟩
  simp only [wRet, wSet, wSeq, wNext, wDrop, wIfS, wTest, wAnd, wOr, wNot, wIf, wBin, wVar, wC, wAndV, wOrV, wNotV, wIsN, wNotN, wNeg, wChain, wNil, wCons, wTup, wLst, wBi, wCall, wIsi, wSl, wSo, wNo, wSeqI, wFor, gNm, gTp, puts, wAsg, wPar, wMul, wmD, wmO, putsI, wAug, wTryIs, wRng1, wRng2, wEnum, wEnumT, wZip, wLc, wYes, wLend, wRel, wOwn, wApp, wIns, wSetIx, wLstF, wListF, wRepF, wAddF, wSlS, wParO, wRevT, wSortedSet, wSortedSetL, wSortedSetT, wKeys, weI, wExt, allD, wMt, wRaise, wSeqO, wCallF, plainO, wCallA, wIdx0, wAnF, wSetA, wUnA, wSeqA, plainA, wFld, wFldO, wMake, wLRg, Ans.data, Ans.own.injEq, Ans.tup.injEq, Ans.dat.injEq, wTry, wTryM, wHs, wIsC, enOf, put, putUn, defEnds, lendE, lend, wipeE, hide, lenD, intD, listD, tupleD, reprD, wPen0, wPen1, wPen2, wPenS1, wPenS2, penAt, List.map_cons, List.map_nil, List.length_cons, List.length_nil, List.nil_append, List.cons_append, Nat.reduceAdd, Nat.reduceSub, Nat.reduceLeDiff, Nat.zero_add, List.replicate_zero, List.replicate_succ, List.getElem?_cons_zero, List.getElem?_cons_succ, List.set_cons_zero, List.set_cons_succ, Option.some.injEq, Slot.dat.injEq, Slot.own.injEq, PyData.bool.injEq, PyData.int.injEq, PyData.tuple.injEq, PyData.list.injEq, exists_eq_left', exists_eq_left, and_true, true_and, if_true, if_false, Bool.false_eq_true, reduceCtorEq, List.mapIdx_cons, List.mapIdx_nil, kit_tuple hv.f, onCols] at q ⊢
  refine ⟨fine.nd hv.f, ?_⟩
  cases b with
  | tuple xs =>
    simp only [isT, Bool.not_true, if_false, Bool.false_eq_true, cmpD, rulsB] at q ⊢
    refine ⟨_, rfl, ?_⟩
    by_cases hl : xs.length ≤ 8
    · have hl' : ¬ (8 : Int) < xs.length := by omega
      simp only [hl, hl', decide_true, decide_false, Bool.true_and, if_false, Bool.false_eq_true] at q ⊢
      refine ⟨xs, rfl, ?_⟩
      refine wLoop.ind (fun ds e => ∃ u, e = ⟨[.dat (.tuple cs), .dat (.tuple xs), u], n⟩ ∧ Q (.bool (ds.all (rulB cs))) n ∧ ∀ d ∈ ds, Good d) ?_ ?_ ⟨.un, rfl, q, hv.in_tuple⟩
      · rintro e ⟨u, rfl, q, _⟩
        exact q
      · rintro d ds e ih ⟨u, rfl, q, hf⟩
        simp only [wRet, wSet, wSeq, wNext, wDrop, wIfS, wTest, wAnd, wOr, wNot, wIf, wBin, wVar, wC, wAndV, wOrV, wNotV, wIsN, wNotN, wNeg, wChain, wNil, wCons, wTup, wLst, wBi, wCall, wIsi, wSl, wSo, wNo, wSeqI, wFor, gNm, gTp, puts, wAsg, wPar, wMul, wmD, wmO, putsI, wAug, wTryIs, wRng1, wRng2, wEnum, wEnumT, wZip, wLc, wYes, wLend, wRel, wOwn, wApp, wIns, wSetIx, wLstF, wListF, wRepF, wAddF, wSlS, wParO, wRevT, wSortedSet, wSortedSetL, wSortedSetT, wKeys, weI, wExt, allD, wMt, wRaise, wSeqO, wCallF, plainO, wCallA, wIdx0, wAnF, wSetA, wUnA, wSeqA, plainA, wFld, wFldO, wMake, wLRg, Ans.data, Ans.own.injEq, Ans.tup.injEq, Ans.dat.injEq, wTry, wTryM, wHs, wIsC, enOf, put, putUn, defEnds, lendE, lend, wipeE, hide, lenD, intD, listD, tupleD, reprD, wPen0, wPen1, wPen2, wPenS1, wPenS2, penAt, List.map_cons, List.map_nil, List.length_cons, List.length_nil, List.nil_append, List.cons_append, Nat.reduceAdd, Nat.reduceSub, Nat.reduceLeDiff, Nat.zero_add, List.replicate_zero, List.replicate_succ, List.getElem?_cons_zero, List.getElem?_cons_succ, List.set_cons_zero, List.set_cons_succ, Option.some.injEq, Slot.dat.injEq, Slot.own.injEq, PyData.bool.injEq, PyData.int.injEq, PyData.tuple.injEq, PyData.list.injEq, exists_eq_left', exists_eq_left, and_true, true_and, if_true, if_false, Bool.false_eq_true, reduceCtorEq, List.mapIdx_cons, List.mapIdx_nil]
        refine ⟨_, _, rfl, ⟨⟨cs, rfl, hc, hcl⟩, hf d List.mem_cons_self⟩, ?_⟩
        dsimp only [onCols]
        refine ⟨_, rfl, ?_⟩
        rw [List.all_cons] at q
        rcases Bool.eq_false_or_eq_true (rulB cs d) with h | h
        · simp only [h, Bool.true_and, Bool.not_true, if_false, Bool.false_eq_true] at q ⊢
          exact ih _ ⟨_, rfl, q, fun d hd => hf d (List.mem_cons_of_mem _ hd)⟩
        · simp only [h, Bool.false_and, Bool.not_false, if_true] at q ⊢
          exact q
    · have hl' : (8 : Int) < xs.length := by omega
      simp only [hl, hl', decide_true, decide_false, Bool.false_and, if_true] at q ⊢
      exact q
  | _ => exact q
abbrev w_check_rules (A : Cls) : Wc := wChk2 A.InvalidRules (fun c v => colsish c ∧ Good v) rulsB
abbrev m_check_rules {A : Cls} : Wc.Mono (w_check_rules A) := wChk2.mono
abbrev w_check_table (A : Cls) : Wc := wChk2 A.InvalidTable (fun c v => colsish c ∧ Good v) tabB
abbrev m_check_table {A : Cls} : Wc.Mono (w_check_table A) := wChk2.mono
theorem d_check_rules (T : Txt K mg A) (d_rules_are_right : Def P w K mg base "rules_are_right" 6 ["columns", "value"] w_rules_are_right) (F : FunAt K mg "check_rules" s_check_rules ["columns", "rules"]) : Def P w K mg base "check_rules" 7 ["columns", "rules"] (w_check_rules A) := by
  refine defD F sc_check_rules (fun ds k Q x ⟨a, b, e, _⟩ => by rw [e]; rfl) fun f cdv Ar outer s H E p G hg hr => ⟨_, (dss_one (ds_if (dt_not (dt_val (de_fn d_rules_are_right m_rules_are_right hg hr (takes_of rfl rfl rfl rfl) (da_cons (de_var (pv 0)) (da_cons (de_var (pv 1)) da_nil)))))
    (dss_one (ds_raise (C := A.InvalidRules) rfl (takes_of rfl rfl rfl rfl) PySem.F.excBase_ValueError T.x_InvalidRules T.g_InvalidRules T.k_InvalidRules (raises_own T.s_InvalidRules T.t_InvalidRules)))
    dss_nil)), ?_⟩
  rintro ds n Q x ⟨cs, b, rfl, hb, q1, q2⟩
  simp only [wRet, wSet, wSeq, wNext, wDrop, wIfS, wTest, wAnd, wOr, wNot, wIf, wBin, wVar, wC, wAndV, wOrV, wNotV, wIsN, wNotN, wNeg, wChain, wNil, wCons, wTup, wLst, wBi, wCall, wIsi, wSl, wSo, wNo, wSeqI, wFor, gNm, gTp, puts, wAsg, wPar, wMul, wmD, wmO, putsI, wAug, wTryIs, wRng1, wRng2, wEnum, wEnumT, wZip, wLc, wYes, wLend, wRel, wOwn, wApp, wIns, wSetIx, wLstF, wListF, wRepF, wAddF, wSlS, wParO, wRevT, wSortedSet, wSortedSetL, wSortedSetT, wKeys, weI, wExt, allD, wMt, wRaise, wSeqO, wCallF, plainO, wCallA, wIdx0, wAnF, wSetA, wUnA, wSeqA, plainA, wFld, wFldO, wMake, wLRg, Ans.data, Ans.own.injEq, Ans.tup.injEq, Ans.dat.injEq, wTry, wTryM, wHs, wIsC, enOf, put, putUn, defEnds, lendE, lend, wipeE, hide, lenD, intD, listD, tupleD, reprD, wPen0, wPen1, wPen2, wPenS1, wPenS2, penAt, List.map_cons, List.map_nil, List.length_cons, List.length_nil, List.nil_append, List.cons_append, Nat.reduceAdd, Nat.reduceSub, Nat.reduceLeDiff, Nat.zero_add, List.replicate_zero, List.replicate_succ, List.getElem?_cons_zero, List.getElem?_cons_succ, List.set_cons_zero, List.set_cons_succ, Option.some.injEq, Slot.dat.injEq, Slot.own.injEq, PyData.bool.injEq, PyData.int.injEq, PyData.tuple.injEq, PyData.list.injEq, exists_eq_left', exists_eq_left, and_true, true_and, if_true, if_false, Bool.false_eq_true, reduceCtorEq, List.mapIdx_cons, List.mapIdx_nil]
  refine ⟨_, _, rfl, hb, ?_⟩
  dsimp only [onCols]
  refine ⟨_, rfl, ?_⟩
  rcases Bool.eq_false_or_eq_true (rulsB cs b) with h | h
  · simp only [h, Bool.not_true, if_false, Bool.false_eq_true]
    exact q1 h
  · simp only [h, Bool.not_false, if_true]
    exact q2 h
theorem d_check_table (T : Txt K mg A) (d_table_is_right : Def P w K mg base "table_is_right" 4 ["columns", "value"] w_table_is_right) (F : FunAt K mg "check_table" s_check_table ["columns", "table"]) : Def P w K mg base "check_table" 5 ["columns", "table"] (w_check_table A) := by
  refine defD F sc_check_table (fun ds k Q x ⟨a, b, e, _⟩ => by rw [e]; rfl) fun f cdv Ar outer s H E p G hg hr => ⟨_, (dss_one (ds_if (dt_not (dt_val (de_fn d_table_is_right m_table_is_right hg hr (takes_of rfl rfl rfl rfl) (da_cons (de_var (pv 0)) (da_cons (de_var (pv 1)) da_nil)))))
    (dss_one (ds_raise (C := A.InvalidTable) rfl (takes_of rfl rfl rfl rfl) PySem.F.excBase_ValueError T.x_InvalidTable T.g_InvalidTable T.k_InvalidTable (raises_own T.s_InvalidTable T.t_InvalidTable)))
    dss_nil)), ?_⟩
  rintro ds n Q x ⟨cs, b, rfl, hb, q1, q2⟩
  simp only [wRet, wSet, wSeq, wNext, wDrop, wIfS, wTest, wAnd, wOr, wNot, wIf, wBin, wVar, wC, wAndV, wOrV, wNotV, wIsN, wNotN, wNeg, wChain, wNil, wCons, wTup, wLst, wBi, wCall, wIsi, wSl, wSo, wNo, wSeqI, wFor, gNm, gTp, puts, wAsg, wPar, wMul, wmD, wmO, putsI, wAug, wTryIs, wRng1, wRng2, wEnum, wEnumT, wZip, wLc, wYes, wLend, wRel, wOwn, wApp, wIns, wSetIx, wLstF, wListF, wRepF, wAddF, wSlS, wParO, wRevT, wSortedSet, wSortedSetL, wSortedSetT, wKeys, weI, wExt, allD, wMt, wRaise, wSeqO, wCallF, plainO, wCallA, wIdx0, wAnF, wSetA, wUnA, wSeqA, plainA, wFld, wFldO, wMake, wLRg, Ans.data, Ans.own.injEq, Ans.tup.injEq, Ans.dat.injEq, wTry, wTryM, wHs, wIsC, enOf, put, putUn, defEnds, lendE, lend, wipeE, hide, lenD, intD, listD, tupleD, reprD, wPen0, wPen1, wPen2, wPenS1, wPenS2, penAt, List.map_cons, List.map_nil, List.length_cons, List.length_nil, List.nil_append, List.cons_append, Nat.reduceAdd, Nat.reduceSub, Nat.reduceLeDiff, Nat.zero_add, List.replicate_zero, List.replicate_succ, List.getElem?_cons_zero, List.getElem?_cons_succ, List.set_cons_zero, List.set_cons_succ, Option.some.injEq, Slot.dat.injEq, Slot.own.injEq, PyData.bool.injEq, PyData.int.injEq, PyData.tuple.injEq, PyData.list.injEq, exists_eq_left', exists_eq_left, and_true, true_and, if_true, if_false, Bool.false_eq_true, reduceCtorEq, List.mapIdx_cons, List.mapIdx_nil]
  refine ⟨_, _, rfl, hb, ?_⟩
  dsimp only [onCols]
  refine ⟨_, rfl, ?_⟩
  rcases Bool.eq_false_or_eq_true (tabB cs b) with h | h
  · simp only [h, Bool.not_true, if_false, Bool.false_eq_true]
    exact q1 h
  · simp only [h, Bool.not_false, if_true]
    exact q2 h
abbrev w_is_value_rule : Wc := w1 (fun r => ∃ g c v, r = .tuple [g, c, v]) fun r => match r with | .tuple [_, _, v] => .bool (!isN v) | _ => .none
abbrev m_is_value_rule : Wc.Mono w_is_value_rule := w1.mono
theorem d_is_value_rule (T : Txt K mg A) (F : FunAt K mg "is_value_rule" s_is_value_rule ["rule"]) : Def P w K mg base "is_value_rule" 1 ["rule"] w_is_value_rule := by
  refine defD F sc_is_value_rule (fun ds k Q x h => w1.len h) fun f cdv Ar outer s H E p G hg hr => ⟨_, (dss_one (ds_ret (de_notN (de_idx (de_var (pv 0)) de_int)))), ?_⟩
  rintro ds n Q x ⟨a, rfl, ⟨g, c, v, rfl⟩, q⟩
  simp only [wRet, wSet, wSeq, wNext, wDrop, wIfS, wTest, wAnd, wOr, wNot, wIf, wBin, wVar, wC, wAndV, wOrV, wNotV, wIsN, wNotN, wNeg, wChain, wNil, wCons, wTup, wLst, wBi, wCall, wIsi, wSl, wSo, wNo, wSeqI, wFor, gNm, gTp, puts, wAsg, wPar, wMul, wmD, wmO, putsI, wAug, wTryIs, wRng1, wRng2, wEnum, wEnumT, wZip, wLc, wYes, wLend, wRel, wOwn, wApp, wIns, wSetIx, wLstF, wListF, wRepF, wAddF, wSlS, wParO, wRevT, wSortedSet, wSortedSetL, wSortedSetT, wKeys, weI, wExt, allD, wMt, wRaise, wSeqO, wCallF, plainO, wCallA, wIdx0, wAnF, wSetA, wUnA, wSeqA, plainA, wFld, wFldO, wMake, wLRg, Ans.data, Ans.own.injEq, Ans.tup.injEq, Ans.dat.injEq, wTry, wTryM, wHs, wIsC, enOf, put, putUn, defEnds, lendE, lend, wipeE, hide, lenD, intD, listD, tupleD, reprD, wPen0, wPen1, wPen2, wPenS1, wPenS2, penAt, List.map_cons, List.map_nil, List.length_cons, List.length_nil, List.nil_append, List.cons_append, Nat.reduceAdd, Nat.reduceSub, Nat.reduceLeDiff, Nat.zero_add, List.replicate_zero, List.replicate_succ, List.getElem?_cons_zero, List.getElem?_cons_succ, List.set_cons_zero, List.set_cons_succ, Option.some.injEq, Slot.dat.injEq, Slot.own.injEq, PyData.bool.injEq, PyData.int.injEq, PyData.tuple.injEq, PyData.list.injEq, exists_eq_left', exists_eq_left, and_true, true_and, if_true, if_false, Bool.false_eq_true, reduceCtorEq, List.mapIdx_cons, List.mapIdx_nil]
  exact ⟨v, rfl, q⟩
end
end L2.DL.K46
namespace L2.DL.K46
open PySem PySem.Spec
      PyProof.Rows
/-! ### breaks -/
def likeB (es xs ys : List D) : Bool := es.all fun | .tuple [.int i, _] => PyData.eqv (xs.getD i.toNat .none) (ys.getD i.toNat .none) | _ => false
def itm : D → List D
  | .tuple xs => xs
  | _ => []
/-- rows of m values -/
def rowsOk (rows : List D) (m : Nat) : Prop := ∀ d ∈ rows, ∃ xs, d = .tuple xs ∧ xs.length = m ∧ ∀ x ∈ xs, Good x
section
variable {P : Program} {w : World} {K : PySem.W.Frag} {mg : Str → Option Value} {base : Heap} {A : Cls}
def w_are_alike : Wc := fun ds k Q _ => ∃ (es xs ys : List D), ds = [.tuple es, .tuple xs, .tuple ys] ∧ entsOk es xs.length ∧ ys.length = xs.length ∧ (∀ d ∈ xs, Good d) ∧ (∀ d ∈ ys, Good d) ∧ Q (.bool (hasB es xs && likeB es xs ys)) k
theorem m_are_alike : Wc.Mono w_are_alike := fun ds k Q Q' x x' h1 _ ⟨es, xs, ys, e, p1, p2, p3, p4, q⟩ => ⟨es, xs, ys, e, p1, p2, p3, p4, h1 _ _ q⟩
theorem d_are_alike (T : Txt K mg A) (d_has_given : Def P w K mg base "has_given" 1 ["given", "row"] w_has_given) (F : FunAt K mg "are_alike" s_are_alike ["given", "one", "other"]) : Def P w K mg base "are_alike" 2 ["given", "one", "other"] w_are_alike := by
  refine defD F sc_are_alike (fun ds k Q x ⟨es, xs, ys, e, _⟩ => by rw [e]; rfl) fun f cdv Ar outer s H E p G hg hr => ⟨_, (dss_cons (ds_if (dt_not (dt_val (de_fn d_has_given m_has_given hg hr (takes_of rfl rfl rfl rfl) (da_cons (de_var (pv 0)) (da_cons (de_var (pv 1)) da_nil)))))
    (dss_one (ds_ret de_bl))
    dss_nil)
    (dss_cons (ds_for (passes_of rfl) rfl (di_seq (de_var (pv 0))) (dg_tp rfl (dgs_cons (i := 3) sc_are_alike.nd (dgs_cons (i := 4) sc_are_alike.nd dgs_nil)))
    (dss_one (ds_if (dt_cmp (op_neA hr.units) neD.mono fitsNe (de_idx (de_var (pv 1)) (de_var (pv 3))) (de_idx (de_var (pv 2)) (de_var (pv 3))))
    (dss_one (ds_ret de_bl))
    dss_nil)))
    (dss_one (ds_ret de_bl)))), ?_⟩
  rintro ds n Q x ⟨es, xs, ys, rfl, he, hl, hx, hy, q⟩
  simp only [wRet, wSet, wSeq, wNext, wDrop, wIfS, wTest, wAnd, wOr, wNot, wIf, wBin, wVar, wC, wAndV, wOrV, wNotV, wIsN, wNotN, wNeg, wChain, wNil, wCons, wTup, wLst, wBi, wCall, wIsi, wSl, wSo, wNo, wSeqI, wFor, gNm, gTp, puts, wAsg, wPar, wMul, wmD, wmO, putsI, wAug, wTryIs, wRng1, wRng2, wEnum, wEnumT, wZip, wLc, wYes, wLend, wRel, wOwn, wApp, wIns, wSetIx, wLstF, wListF, wRepF, wAddF, wSlS, wParO, wRevT, wSortedSet, wSortedSetL, wSortedSetT, wKeys, weI, wExt, allD, wMt, wRaise, wSeqO, wCallF, plainO, wCallA, wIdx0, wAnF, wSetA, wUnA, wSeqA, plainA, wFld, wFldO, wMake, wLRg, Ans.data, Ans.own.injEq, Ans.tup.injEq, Ans.dat.injEq, wTry, wTryM, wHs, wIsC, enOf, put, putUn, defEnds, lendE, lend, wipeE, hide, lenD, intD, listD, tupleD, reprD, wPen0, wPen1, wPen2, wPenS1, wPenS2, penAt, List.map_cons, List.map_nil, List.length_cons, List.length_nil, List.nil_append, List.cons_append, Nat.reduceAdd, Nat.reduceSub, Nat.reduceLeDiff, Nat.zero_add, List.replicate_zero, List.replicate_succ, List.getElem?_cons_zero, List.getElem?_cons_succ, List.set_cons_zero, List.set_cons_succ, Option.some.injEq, Slot.dat.injEq, Slot.own.injEq, PyData.bool.injEq, PyData.int.injEq, PyData.tuple.injEq, PyData.list.injEq, exists_eq_left', exists_eq_left, and_true, true_and, if_true, if_false, Bool.false_eq_true, reduceCtorEq, List.mapIdx_cons, List.mapIdx_nil]
  refine ⟨_, _, rfl, ⟨es, xs, rfl, rfl, he, hx⟩, ?_⟩
  refine ⟨_, rfl, ?_⟩
  rcases Bool.eq_false_or_eq_true (hasB es xs) with h | h
  · simp only [h, Bool.true_and, Bool.not_true, if_false, Bool.false_eq_true] at q ⊢
    refine ⟨es, rfl, ?_⟩
    refine wLoop.ind (fun ds e => ∃ u v, e = ⟨[.dat (.tuple es), .dat (.tuple xs), .dat (.tuple ys), u, v], n⟩ ∧ Q (.bool (likeB ds xs ys)) n ∧ entsOk ds xs.length) ?_ ?_ ⟨.un, .un, rfl, q, he⟩
    · rintro e ⟨u, v, rfl, q, _⟩
      exact q
    · rintro d ds e ih ⟨u, v, rfl, q, hf⟩
      obtain ⟨i, b, rfl, h0, h1, hb⟩ := hf d List.mem_cons_self
      have hf' : entsOk ds xs.length := fun d hd => hf d (List.mem_cons_of_mem _ hd)
      simp only [wRet, wSet, wSeq, wNext, wDrop, wIfS, wTest, wAnd, wOr, wNot, wIf, wBin, wVar, wC, wAndV, wOrV, wNotV, wIsN, wNotN, wNeg, wChain, wNil, wCons, wTup, wLst, wBi, wCall, wIsi, wSl, wSo, wNo, wSeqI, wFor, gNm, gTp, puts, wAsg, wPar, wMul, wmD, wmO, putsI, wAug, wTryIs, wRng1, wRng2, wEnum, wEnumT, wZip, wLc, wYes, wLend, wRel, wOwn, wApp, wIns, wSetIx, wLstF, wListF, wRepF, wAddF, wSlS, wParO, wRevT, wSortedSet, wSortedSetL, wSortedSetT, wKeys, weI, wExt, allD, wMt, wRaise, wSeqO, wCallF, plainO, wCallA, wIdx0, wAnF, wSetA, wUnA, wSeqA, plainA, wFld, wFldO, wMake, wLRg, Ans.data, Ans.own.injEq, Ans.tup.injEq, Ans.dat.injEq, wTry, wTryM, wHs, wIsC, enOf, put, putUn, defEnds, lendE, lend, wipeE, hide, lenD, intD, listD, tupleD, reprD, wPen0, wPen1, wPen2, wPenS1, wPenS2, penAt, List.map_cons, List.map_nil, List.length_cons, List.length_nil, List.nil_append, List.cons_append, Nat.reduceAdd, Nat.reduceSub, Nat.reduceLeDiff, Nat.zero_add, List.replicate_zero, List.replicate_succ, List.getElem?_cons_zero, List.getElem?_cons_succ, List.set_cons_zero, List.set_cons_succ, Option.some.injEq, Slot.dat.injEq, Slot.own.injEq, PyData.bool.injEq, PyData.int.injEq, PyData.tuple.injEq, PyData.list.injEq, exists_eq_left', exists_eq_left, and_true, true_and, if_true, if_false, Bool.false_eq_true, reduceCtorEq, List.mapIdx_cons, List.mapIdx_nil]
      simp only [likeB, List.all_cons] at q
      refine ⟨_, atI_pos h0 h1, _, atI_pos h0 (by rw [hl]; exact h1), .inr ⟨hx _ (getD_mem h0 h1), hy _ (getD_mem h0 (by rw [hl]; exact h1))⟩, ?_⟩
      refine ⟨_, rfl, ?_⟩
      rcases Bool.eq_false_or_eq_true (PyData.eqv (xs.getD i.toNat .none) (ys.getD i.toNat .none)) with hq | hq
      · simp only [hq, Bool.true_and, Bool.not_true, if_false, Bool.false_eq_true] at q ⊢
        exact ih _ ⟨_, _, rfl, q, hf'⟩
      · simp only [hq, Bool.false_and, Bool.not_false, if_true] at q ⊢
        exact q
  · simp only [h, Bool.false_and, Bool.not_false, if_true] at q ⊢
    exact q
/-! #### value rules -/
def single (es : List D) (c : Int) (v : D) (rows : List D) (i : Nat) : Option D :=
  if (hasB es (itm (rows.getD i .none)) && !PyData.eqv ((itm (rows.getD i .none)).getD c.toNat .none) v) = true then some (.tuple [.int i]) else none
def w_broken_singles : Wc := fun ds k Q _ => ∃ (es rows : List D) (c : Int) (v : D) (m : Nat), ds = [.tuple [.tuple es, .int c, v], .tuple rows] ∧ entsOk es m ∧ rowsOk rows m ∧ rows.length ≤ 100 ∧ 0 ≤ c ∧ c < m ∧ Good v ∧ Q (.list ((List.range rows.length).filterMap (single es c v rows))) k
theorem m_broken_singles : Wc.Mono w_broken_singles := fun ds k Q Q' x x' h1 _ ⟨es, rows, c, v, m, e, p1, p2, p3, p4, p5, p6, q⟩ => ⟨es, rows, c, v, m, e, p1, p2, p3, p4, p5, p6, h1 _ _ q⟩
theorem d_broken_singles (T : Txt K mg A) (d_has_given : Def P w K mg base "has_given" 1 ["given", "row"] w_has_given) (F : FunAt K mg "broken_singles" s_broken_singles ["rule", "table"]) : Def P w K mg base "broken_singles" 2 ["rule", "table"] w_broken_singles := by
  refine defD F sc_broken_singles (fun ds k Q x ⟨es, rows, c, v, m, e, _⟩ => by rw [e]; rfl) fun f cdv Ar outer s H E p G hg hr => ⟨_, (dss_cons (ds_asg (de_var (pv 0)) (dg_tp rfl (dgs_cons (i := 2) sc_broken_singles.nd (dgs_cons (i := 3) sc_broken_singles.nd (dgs_cons (i := 4) sc_broken_singles.nd dgs_nil)))))
    (dss_cons (ds_own (i := 5) (df_lst da_nil) sc_broken_singles.nd)
    (dss_cons (ds_for (passes_of rfl) rfl (di_rng1 (de_bi lenD.mono fitsLen call_len_seq (da_cons (de_var (pv 1)) da_nil) T.z_len) T.z_range) (dg_nm (i := 6) sc_broken_singles.nd)
    (dss_one (ds_if (DW.dt (dw_and (dt_val (de_fn d_has_given m_has_given hg hr (takes_of rfl rfl rfl rfl) (da_cons (de_var (pv 2)) (da_cons (de_idx (de_var (pv 1)) (de_var (pv 6))) da_nil)))) (dw_and1 (dt_cmp (op_neA hr.units) neD.mono fitsNe (de_idx (de_idx (de_var (pv 1)) (de_var (pv 6))) (de_var (pv 3))) (de_var (pv 4))))))
    (dss_one (ds_append (i := 5) (de_tup (da_cons (de_var (pv 6)) da_nil)) (pv 5)))
    dss_nil)))
    (dss_rel (dss_one (ds_ret (de_var (pv 5)))))))), ?_⟩
  rintro ds n Q x ⟨es, rows, c, v, m, rfl, he, hrows, hl, c0, c1, gv, q⟩
  simp only [wRet, wSet, wSeq, wNext, wDrop, wIfS, wTest, wAnd, wOr, wNot, wIf, wBin, wVar, wC, wAndV, wOrV, wNotV, wIsN, wNotN, wNeg, wChain, wNil, wCons, wTup, wLst, wBi, wCall, wIsi, wSl, wSo, wNo, wSeqI, wFor, gNm, gTp, puts, wAsg, wPar, wMul, wmD, wmO, putsI, wAug, wTryIs, wRng1, wRng2, wEnum, wEnumT, wZip, wLc, wYes, wLend, wRel, wOwn, wApp, wIns, wSetIx, wLstF, wListF, wRepF, wAddF, wSlS, wParO, wRevT, wSortedSet, wSortedSetL, wSortedSetT, wKeys, weI, wExt, allD, wMt, wRaise, wSeqO, wCallF, plainO, wCallA, wIdx0, wAnF, wSetA, wUnA, wSeqA, plainA, wFld, wFldO, wMake, wLRg, Ans.data, Ans.own.injEq, Ans.tup.injEq, Ans.dat.injEq, wTry, wTryM, wHs, wIsC, enOf, put, putUn, defEnds, lendE, lend, wipeE, hide, lenD, intD, listD, tupleD, reprD, wPen0, wPen1, wPen2, wPenS1, wPenS2, penAt, List.map_cons, List.map_nil, List.length_cons, List.length_nil, List.nil_append, List.cons_append, Nat.reduceAdd, Nat.reduceSub, Nat.reduceLeDiff, Nat.zero_add, List.replicate_zero, List.replicate_succ, List.getElem?_cons_zero, List.getElem?_cons_succ, List.set_cons_zero, List.set_cons_succ, Option.some.injEq, Slot.dat.injEq, Slot.own.injEq, PyData.bool.injEq, PyData.int.injEq, PyData.tuple.injEq, PyData.list.injEq, exists_eq_left', exists_eq_left, and_true, true_and, if_true, if_false, Bool.false_eq_true, reduceCtorEq, List.mapIdx_cons, List.mapIdx_nil]
  refine ⟨by omega,
        by omega, ?_⟩
  rw [Int.toNat_natCast]
  have fl : ∀ j, j ≤ rows.length → ((List.range j).filterMap (single es c v rows)).length ≤ 100 := fun j hj => Nat.le_trans (List.length_filterMap_le _ _) (by rw [List.length_range]; omega)
  refine wLoop.ind (fun ds e => ∃ (j : Nat) (u : Slot), e = ⟨[.dat (.tuple [.tuple es, .int c, v]), .dat (.tuple rows), .dat (.tuple es), .dat (.int c), .dat v, .own ((List.range j).filterMap (single es c v rows)), u], n⟩ ∧ j ≤ rows.length ∧ ds = rngD j (rows.length - j)) ?_ ?_ ⟨0, .un, rfl, Nat.zero_le _, rfl⟩
  · rintro e ⟨j, u, rfl, hj, hd⟩
    have ej : j = rows.length := by
      have := congrArg List.length hd
      rw [rngD_length, List.length_nil] at this
      omega
    subst ej
    exact ⟨_, rfl, q⟩
  · rintro d ds e ih ⟨j, u, rfl, hj, hd⟩
    obtain ⟨t, ht⟩ : ∃ t, rows.length - j = t + 1 := by
      have := congrArg List.length hd
      rw [rngD_length, List.length_cons] at this
      exact ⟨ds.length, this.symm⟩
    rw [ht, rngD_succ] at hd
    injection hd with hd1 hd2
    subst hd1 hd2
    have j1 : (j : Int) < rows.length := by omega
    have hm := getD_mem (Int.natCast_nonneg j) j1
    rw [Int.toNat_natCast] at hm
    obtain ⟨xs, ex, hxl, hxg⟩ := hrows _ hm
    have at1 : atI rows (j : Int) = some (.tuple xs) := by
      rw [atI_pos (Int.natCast_nonneg j) j1, Int.toNat_natCast, ex]
    have tl : rngD ((j : Int) + 1) t = rngD ((j + 1 : Nat) : Int) (rows.length - (j + 1)) := by
      rw [show rows.length - (j + 1) = t by omega]
      rfl
    have next : ∀ (u : Slot) (acc : List D), acc = (List.range (j + 1)).filterMap (single es c v rows) → wLoop _ _ _ _ (⟨[.dat (.tuple [.tuple es, .int c, v]), .dat (.tuple rows), .dat (.tuple es), .dat (.int c), .dat v, .own acc, u], n⟩ : En) := fun u acc ea => ih _ ⟨j + 1, u, by rw [ea], by omega, tl⟩
    rw [List.range_succ, List.filterMap_append] at next
    simp only [wRet, wSet, wSeq, wNext, wDrop, wIfS, wTest, wAnd, wOr, wNot, wIf, wBin, wVar, wC, wAndV, wOrV, wNotV, wIsN, wNotN, wNeg, wChain, wNil, wCons, wTup, wLst, wBi, wCall, wIsi, wSl, wSo, wNo, wSeqI, wFor, gNm, gTp, puts, wAsg, wPar, wMul, wmD, wmO, putsI, wAug, wTryIs, wRng1, wRng2, wEnum, wEnumT, wZip, wLc, wYes, wLend, wRel, wOwn, wApp, wIns, wSetIx, wLstF, wListF, wRepF, wAddF, wSlS, wParO, wRevT, wSortedSet, wSortedSetL, wSortedSetT, wKeys, weI, wExt, allD, wMt, wRaise, wSeqO, wCallF, plainO, wCallA, wIdx0, wAnF, wSetA, wUnA, wSeqA, plainA, wFld, wFldO, wMake, wLRg, Ans.data, Ans.own.injEq, Ans.tup.injEq, Ans.dat.injEq, wTry, wTryM, wHs, wIsC, enOf, put, putUn, defEnds, lendE, lend, wipeE, hide, lenD, intD, listD, tupleD, reprD, wPen0, wPen1, wPen2, wPenS1, wPenS2, penAt, List.map_cons, List.map_nil, List.length_cons, List.length_nil, List.nil_append, List.cons_append, Nat.reduceAdd, Nat.reduceSub, Nat.reduceLeDiff, Nat.zero_add, List.replicate_zero, List.replicate_succ, List.getElem?_cons_zero, List.getElem?_cons_succ, List.set_cons_zero, List.set_cons_succ, Option.some.injEq, Slot.dat.injEq, Slot.own.injEq, PyData.bool.injEq, PyData.int.injEq, PyData.tuple.injEq, PyData.list.injEq, exists_eq_left', exists_eq_left, and_true, true_and, if_true, if_false, Bool.false_eq_true, reduceCtorEq, List.mapIdx_cons, List.mapIdx_nil]
    refine ⟨_, at1, _, _, rfl, ⟨es, xs, rfl, rfl, by rw [hxl]; exact he, hxg⟩, ?_⟩
    refine ⟨_, rfl, ?_⟩
    have es1 : single es c v rows j = if (hasB es xs && !PyData.eqv (xs.getD c.toNat .none) v) = true then some (.tuple [.int j]) else none := by
      simp only [single, ex, itm]
    rcases Bool.eq_false_or_eq_true (hasB es xs) with h | h
    · simp only [h, if_true]
      refine ⟨_, at1, _, atI_pos c0 (by rw [hxl]; exact c1), .inr ⟨hxg _ (getD_mem c0 (by rw [hxl]; exact c1)), gv⟩, ?_⟩
      refine ⟨_, rfl, ?_⟩
      rcases Bool.eq_false_or_eq_true (PyData.eqv (xs.getD c.toNat .none) v) with hq | hq
      · simp only [hq, Bool.not_true, if_false, Bool.false_eq_true]
        refine next _ _ ?_
        rw [List.filterMap_cons_none (by rw [es1, h, hq]; rfl), List.filterMap_nil, List.append_nil]
      · simp only [hq, Bool.not_false, if_true]
        refine ⟨⟨_, rfl⟩, by have := fl j hj; omega, next _ _ ?_⟩
        rw [List.filterMap_cons_some (b := .tuple [.int j]) (by rw [es1, h, hq]; rfl), List.filterMap_nil]
    · simp only [h, if_false, Bool.false_eq_true]
      refine next _ _ ?_
      rw [List.filterMap_cons_none (by rw [es1, h]; rfl), List.filterMap_nil, List.append_nil]
end
end L2.DL.K46
namespace L2.DL.K46
open PySem PySem.Spec
      PyProof.Rows
/-! ### rows -/
def okRow (cs xs : List D) : Prop := xs.length = cs.length ∧ ∀ (i : Nat) (c : D), cs[i]? = some c → ∃ v, xs[i]? = some v ∧ okVal c v
theorem okRow.b {cs xs : List D} (h : okRow cs xs) : rowB cs (.tuple xs) = true := by
  simp only [rowB, Bool.and_eq_true, decide_eq_true_eq]
  refine ⟨h.1, List.all_eq_true.mpr fun d hd => ?_⟩
  obtain ⟨i, hi⟩ := List.mem_iff_getElem?.mp hd
  obtain ⟨c, v, h1, h2, rfl⟩ := pairs_at hi
  obtain ⟨v', h3, h4⟩ := h.2 i c h1
  rw [h2] at h3
  cases h3
  exact h4.b
theorem okRow.val {cs xs : List D} (h : okRow cs xs) : ∀ d ∈ xs, ∃ i : Int, d = .int i ∧ 0 ≤ i ∧ i < 2 ^ 110 := fun d hd => by
  obtain ⟨i, hi⟩ := List.mem_iff_getElem?.mp hd
  have hl := (List.getElem?_eq_some_iff.mp hi).1
  rw [h.1] at hl
  obtain ⟨v, h3, j, rfl, j0, j1, _⟩ := h.2 i _ (List.getElem?_eq_getElem hl)
  rw [hi] at h3
  cases h3
  exact ⟨j, rfl, j0, j1⟩
theorem okRow.ok {cs xs : List D} (h : okRow cs xs) (hc : cs.length ≤ 4) : Ok 5 1 (.tuple xs) :=
  (Ok.tuple (n := 1) (m := 0) (k := 4) (fun d hd => by obtain ⟨i, rfl, i0, i1⟩ := h.val d hd; exact Ok.int (by omega)) (by rw [h.1]; exact hc)).mono (by decide) (by decide)
section
variable {P : Program} {w : World} {K : PySem.W.Frag} {mg : Str → Option Value} {base : Heap} {A : Cls}
def w_law_row : Wc := fun ds k Q _ => ∃ (cs : List D) (k' : Nat), ds = [penD, .tuple cs] ∧ k = k' + 16 ∧ (∀ d ∈ cs, okCol d) ∧ cs.length ≤ 4 ∧ ∀ xs k'', k' ≤ k'' → okRow cs xs → Q (.tuple xs) k''
theorem m_law_row : Wc.Mono w_law_row := fun ds k Q Q' x x' h1 _ ⟨cs, k', p1, p2, p3, p4, q⟩ => ⟨cs, k', p1, p2, p3, p4, fun g k'' l z => h1 _ _ (q g k'' l z)⟩
theorem d_law_row (T : Txt K mg A) (d_law_value : Def P w K mg base "_law_value" 4 ["_law_pen", "_law_column"] w_law_value) (F : FunAt K mg "_law_row" s_law_row ["_law_pen", "_law_columns_here"]) : Def P w K mg base "_law_row" 5 ["_law_pen", "_law_columns_here"] w_law_row := by
  refine defD F sc_law_row (fun ds k Q x ⟨cs, k', e, _⟩ => by rw [e]; rfl) fun f cdv Ar outer s H E p G hg hr => ⟨_, (dss_one (ds_ret (de_bt tupleD.mono fitsTuple call_tuple_of (da_cons (de_lc (own := [("_law_column", 2)]) rfl sc_law_row.nd (di_seq (de_var (pv 1))) (blkOk_by (N := ["_law_pen", "_law_columns_here", "_law_column"]) (sc := defScope s_law_row) (by decide +kernel)) (fun _ _ _ _ _ _ _ => (dgc_nm (i := 2) sc_law_row.nd (by decide))) (fun _ _ _ _ _ _ _ => dts_nil) (fun _ _ _ _ _ _ _ => (de_fn d_law_value m_law_value hg hr takes0 (da_cons (de_var (pv 0)) (da_cons (de_var (pv 2)) da_nil))))) da_nil) T.z_tuple))), ?_⟩
  rintro ds n Q x ⟨cs, k', rfl, rfl, hcs, hcl, q⟩
  simp only [wRet, wSet, wSeq, wNext, wDrop, wIfS, wTest, wAnd, wOr, wNot, wIf, wBin, wVar, wC, wAndV, wOrV, wNotV, wIsN, wNotN, wNeg, wChain, wNil, wCons, wTup, wLst, wBi, wCall, wIsi, wSl, wSo, wNo, wSeqI, wFor, gNm, gTp, puts, wAsg, wPar, wMul, wmD, wmO, putsI, wAug, wTryIs, wRng1, wRng2, wEnum, wEnumT, wZip, wLc, wYes, wLend, wRel, wOwn, wApp, wIns, wSetIx, wLstF, wListF, wRepF, wAddF, wSlS, wParO, wRevT, wSortedSet, wSortedSetL, wSortedSetT, wKeys, weI, wExt, allD, wMt, wRaise, wSeqO, wCallF, plainO, wCallA, wIdx0, wAnF, wSetA, wUnA, wSeqA, plainA, wFld, wFldO, wMake, wLRg, Ans.data, Ans.own.injEq, Ans.tup.injEq, Ans.dat.injEq, wTry, wTryM, wHs, wIsC, enOf, put, putUn, defEnds, lendE, lend, wipeE, hide, lenD, intD, listD, tupleD, reprD, wPen0, wPen1, wPen2, wPenS1, wPenS2, penAt, List.map_cons, List.map_nil, List.length_cons, List.length_nil, List.nil_append, List.cons_append, Nat.reduceAdd, Nat.reduceSub, Nat.reduceLeDiff, Nat.zero_add, List.replicate_zero, List.replicate_succ, List.getElem?_cons_zero, List.getElem?_cons_succ, List.set_cons_zero, List.set_cons_succ, Option.some.injEq, Slot.dat.injEq, Slot.own.injEq, PyData.bool.injEq, PyData.int.injEq, PyData.tuple.injEq, PyData.list.injEq, exists_eq_left', exists_eq_left, and_true, true_and, if_true, if_false, Bool.false_eq_true, reduceCtorEq, List.mapIdx_cons, List.mapIdx_nil]
  refine ⟨cs, rfl, ?_⟩
  refine lcLoop.ind (fun acc ds k => ∃ cs1, cs1 ++ ds = cs ∧ okRow cs1 acc ∧ k' + 4 * ds.length ≤ k) ?_ ?_ ⟨[], rfl, ⟨rfl, fun i c h => by cases h⟩, by omega⟩
  · rintro acc k ⟨cs1, e1, h1, hk⟩
    rw [List.append_nil] at e1
    subst e1
    exact q acc k (by simpa using hk) h1
  · rintro d ds acc k ih ⟨cs1, e1, h1, hk⟩
    rw [List.length_cons] at hk
    simp only [wRet, wSet, wSeq, wNext, wDrop, wIfS, wTest, wAnd, wOr, wNot, wIf, wBin, wVar, wC, wAndV, wOrV, wNotV, wIsN, wNotN, wNeg, wChain, wNil, wCons, wTup, wLst, wBi, wCall, wIsi, wSl, wSo, wNo, wSeqI, wFor, gNm, gTp, puts, wAsg, wPar, wMul, wmD, wmO, putsI, wAug, wTryIs, wRng1, wRng2, wEnum, wEnumT, wZip, wLc, wYes, wLend, wRel, wOwn, wApp, wIns, wSetIx, wLstF, wListF, wRepF, wAddF, wSlS, wParO, wRevT, wSortedSet, wSortedSetL, wSortedSetT, wKeys, weI, wExt, allD, wMt, wRaise, wSeqO, wCallF, plainO, wCallA, wIdx0, wAnF, wSetA, wUnA, wSeqA, plainA, wFld, wFldO, wMake, wLRg, Ans.data, Ans.own.injEq, Ans.tup.injEq, Ans.dat.injEq, wTry, wTryM, wHs, wIsC, enOf, put, putUn, defEnds, lendE, lend, wipeE, hide, lenD, intD, listD, tupleD, reprD, wPen0, wPen1, wPen2, wPenS1, wPenS2, penAt, List.map_cons, List.map_nil, List.length_cons, List.length_nil, List.nil_append, List.cons_append, Nat.reduceAdd, Nat.reduceSub, Nat.reduceLeDiff, Nat.zero_add, List.replicate_zero, List.replicate_succ, List.getElem?_cons_zero, List.getElem?_cons_succ, List.set_cons_zero, List.set_cons_succ, Option.some.injEq, Slot.dat.injEq, Slot.own.injEq, PyData.bool.injEq, PyData.int.injEq, PyData.tuple.injEq, PyData.list.injEq, exists_eq_left', exists_eq_left, and_true, true_and, if_true, if_false, Bool.false_eq_true, reduceCtorEq, List.mapIdx_cons, List.mapIdx_nil]
    have hd : okCol d := hcs d (by rw [← e1]; simp)
    obtain ⟨k0, rfl⟩ : ∃ k0, k = k0 + 4 := ⟨k - 4, by omega⟩
    have hl : acc.length ≤ 4 := by
      have := congrArg List.length e1
      rw [List.length_append] at this
      rw [h1.1]; omega
    refine ⟨_, rfl, _, k0, rfl, rfl, ⟨d, rfl, hd⟩, fun v k1 l1 hv => ⟨by omega, ih _ _ ⟨cs1 ++ [d], by rw [List.append_assoc]; exact e1, ⟨by rw [List.length_append, List.length_append, h1.1]; rfl, fun i c hc => ?_⟩, by omega⟩⟩⟩
    have hv := hv _ rfl
    by_cases hi : i < cs1.length
    · rw [List.getElem?_append_left hi] at hc
      obtain ⟨v', a, b⟩ := h1.2 i c hc
      exact ⟨v', by rw [List.getElem?_append_left (by rw [h1.1]; exact hi)]; exact a, b⟩
    · rw [List.getElem?_append_right (by omega)] at hc
      have : i - cs1.length = 0 := by
        have := (List.getElem?_eq_some_iff.mp hc).1
        simp only [List.length_singleton] at this
        omega
      rw [this] at hc
      cases hc
      exact ⟨v, by rw [List.getElem?_append_right (by rw [h1.1]; omega), h1.1, this]; rfl, hv⟩
end
end L2.DL.K46
namespace L2.DL.K46
open PySem PySem.Spec
      PyProof.Rows
/-! ### pair rules, all rules -/
/-- rows of m ints -/
def intRows (rows : List D) (m : Nat) : Prop := ∀ d ∈ rows, ∃ xs, d = .tuple xs ∧ xs.length = m ∧ ∀ x ∈ xs, ∃ i : Int, x = .int i ∧ i.natAbs < 2 ^ 120
theorem intRows.ok {rows : List D} {m : Nat} (h : intRows rows m) : rowsOk rows m := fun d hd => by
  obtain ⟨xs, e, hl, hx⟩ := h d hd
  refine ⟨xs, e, hl, fun x h => ?_⟩
  obtain ⟨i, rfl, hi⟩ := hx x h
  exact (Ok.int hi).good
def rowI (rows : List D) (i : Nat) : List D := itm (rows.getD i .none)
def pairB (es : List D) (c : Int) (rows : List D) (i j : Nat) : Bool := hasB es (rowI rows i) && likeB es (rowI rows i) (rowI rows j) && !PyData.eqv ((rowI rows i).getD c.toNat .none) ((rowI rows j).getD c.toNat .none)
def pairsOf (es : List D) (c : Int) (rows : List D) (i t : Nat) : List D := (List.range t).filterMap fun u => if pairB es c rows i (i + 1 + u) = true then some (.tuple [.int i, .int ((i + 1 + u : Nat) : Int)]) else none
def pairsTo (es : List D) (c : Int) (rows : List D) (j : Nat) : List D := (List.range j).flatMap fun i => pairsOf es c rows i (rows.length - (i + 1))
theorem pairsOf_succ {es : List D} {c : Int} {rows : List D} {i t : Nat} : pairsOf es c rows i (t + 1) = pairsOf es c rows i t ++ (if pairB es c rows i (i + 1 + t) = true then [.tuple [.int i, .int ((i + 1 + t : Nat) : Int)]] else []) := by
  unfold pairsOf
  rw [List.range_succ, List.filterMap_append]
  congr 1
  rw [List.filterMap_cons, List.filterMap_nil]
  split <;> simp_all
theorem pairsTo_succ {es : List D} {c : Int} {rows : List D} {j : Nat} : pairsTo es c rows (j + 1) = pairsTo es c rows j ++ pairsOf es c rows j (rows.length - (j + 1)) := by
  unfold pairsTo
  rw [List.range_succ, List.flatMap_append]
  simp
theorem pairsOf_len {es : List D} {c : Int} {rows : List D} {i t : Nat} : (pairsOf es c rows i t).length ≤ t := by
  unfold pairsOf
  exact Nat.le_trans (List.length_filterMap_le _ _) (by rw [List.length_range]; omega)
theorem pairsTo_len {es : List D} {c : Int} {rows : List D} : ∀ {j : Nat}, (pairsTo es c rows j).length ≤ j * rows.length
  | 0 => by simp [pairsTo]
  | j + 1 => by
    rw [pairsTo_succ, List.length_append]
    have := pairsTo_len (es := es) (c := c) (rows := rows) (j := j)
    have := pairsOf_len (es := es) (c := c) (rows := rows) (i := j) (t := rows.length - (j + 1))
    rw [Nat.succ_mul]
    omega
theorem rowI_at {rows : List D} {m i : Nat} (h : intRows rows m) (hi : i < rows.length) : atI rows (i : Int) = some (.tuple (rowI rows i)) ∧ (rowI rows i).length = m ∧ ∀ x ∈ rowI rows i, ∃ i : Int, x = .int i ∧ i.natAbs < 2 ^ 120 := by
  have e := atI_pos (xs := rows) (i := (i : Int)) (Int.natCast_nonneg i) (by omega)
  rw [Int.toNat_natCast] at e
  obtain ⟨xs, ex, hl, hx⟩ := h _ (getD_mem (xs := rows) (i := (i : Int)) (Int.natCast_nonneg i) (by omega))
  rw [Int.toNat_natCast] at ex
  have er : rowI rows i = xs := by unfold rowI; rw [ex]; rfl
  rw [er]
  exact ⟨by rw [e, ex], hl, hx⟩
section
variable {P : Program} {w : World} {K : PySem.W.Frag} {mg : Str → Option Value} {base : Heap} {A : Cls}
def w_broken_pairs : Wc := fun ds k Q _ => ∃ (es rows : List D) (c : Int) (v : D) (m : Nat), ds = [.tuple [.tuple es, .int c, v], .tuple rows] ∧ entsOk es m ∧ intRows rows m ∧ rows.length ≤ 8 ∧ 0 ≤ c ∧ c < m ∧ Q (.list (pairsTo es c rows rows.length)) k
theorem m_broken_pairs : Wc.Mono w_broken_pairs := fun ds k Q Q' x x' h1 _ ⟨es, rows, c, v, m, e, p1, p2, p3, p4, p5, q⟩ => ⟨es, rows, c, v, m, e, p1, p2, p3, p4, p5, h1 _ _ q⟩
theorem d_broken_pairs (T : Txt K mg A) (d_are_alike : Def P w K mg base "are_alike" 2 ["given", "one", "other"] w_are_alike) (F : FunAt K mg "broken_pairs" s_broken_pairs ["rule", "table"]) : Def P w K mg base "broken_pairs" 3 ["rule", "table"] w_broken_pairs := by
  refine defD F sc_broken_pairs (fun ds k Q x ⟨es, rows, c, v, m, e, _⟩ => by rw [e]; rfl) fun f cdv Ar outer s H E p G hg hr => ⟨_, (dss_cons (ds_asg (de_var (pv 0)) (dg_tp rfl (dgs_cons (i := 2) sc_broken_pairs.nd (dgs_cons (i := 3) sc_broken_pairs.nd (dgs_cons (i := 4) sc_broken_pairs.nd dgs_nil)))))
    (dss_cons (ds_own (i := 5) (df_lst da_nil) sc_broken_pairs.nd)
    (dss_cons (ds_for (passes_of rfl) rfl (di_rng1 (de_bi lenD.mono fitsLen call_len_seq (da_cons (de_var (pv 1)) da_nil) T.z_len) T.z_range) (dg_nm (i := 6) sc_broken_pairs.nd)
    (dss_one (ds_for (passes_of rfl) rfl (di_rng2 (de_bin op_addA addD.mono fitsAdd (de_var (pv 6)) de_int) (de_bi lenD.mono fitsLen call_len_seq (da_cons (de_var (pv 1)) da_nil) T.z_len) T.z_range) (dg_nm (i := 7) sc_broken_pairs.nd)
    (dss_one (ds_if (DW.dt (dw_and (dt_val (de_fn d_are_alike m_are_alike hg hr (takes_of rfl rfl rfl rfl) (da_cons (de_var (pv 2)) (da_cons (de_idx (de_var (pv 1)) (de_var (pv 6))) (da_cons (de_idx (de_var (pv 1)) (de_var (pv 7))) da_nil))))) (dw_and1 (dt_cmp (op_neA hr.units) neD.mono fitsNe (de_idx (de_idx (de_var (pv 1)) (de_var (pv 6))) (de_var (pv 3))) (de_idx (de_idx (de_var (pv 1)) (de_var (pv 7))) (de_var (pv 3)))))))
    (dss_one (ds_append (i := 5) (de_tup (da_cons (de_var (pv 6)) (da_cons (de_var (pv 7)) da_nil))) (pv 5)))
    dss_nil)))))
    (dss_rel (dss_one (ds_ret (de_var (pv 5)))))))), ?_⟩
  rintro ds n Q x ⟨es, rows, c, v, m, rfl, he, hrows, hl, c0, c1, q⟩
  simp only [wRet, wSet, wSeq, wNext, wDrop, wIfS, wTest, wAnd, wOr, wNot, wIf, wBin, wVar, wC, wAndV, wOrV, wNotV, wIsN, wNotN, wNeg, wChain, wNil, wCons, wTup, wLst, wBi, wCall, wIsi, wSl, wSo, wNo, wSeqI, wFor, gNm, gTp, puts, wAsg, wPar, wMul, wmD, wmO, putsI, wAug, wTryIs, wRng1, wRng2, wEnum, wEnumT, wZip, wLc, wYes, wLend, wRel, wOwn, wApp, wIns, wSetIx, wLstF, wListF, wRepF, wAddF, wSlS, wParO, wRevT, wSortedSet, wSortedSetL, wSortedSetT, wKeys, weI, wExt, allD, wMt, wRaise, wSeqO, wCallF, plainO, wCallA, wIdx0, wAnF, wSetA, wUnA, wSeqA, plainA, wFld, wFldO, wMake, wLRg, Ans.data, Ans.own.injEq, Ans.tup.injEq, Ans.dat.injEq, wTry, wTryM, wHs, wIsC, enOf, put, putUn, defEnds, lendE, lend, wipeE, hide, lenD, intD, listD, tupleD, reprD, wPen0, wPen1, wPen2, wPenS1, wPenS2, penAt, List.map_cons, List.map_nil, List.length_cons, List.length_nil, List.nil_append, List.cons_append, Nat.reduceAdd, Nat.reduceSub, Nat.reduceLeDiff, Nat.zero_add, List.replicate_zero, List.replicate_succ, List.getElem?_cons_zero, List.getElem?_cons_succ, List.set_cons_zero, List.set_cons_succ, Option.some.injEq, Slot.dat.injEq, Slot.own.injEq, PyData.bool.injEq, PyData.int.injEq, PyData.tuple.injEq, PyData.list.injEq, exists_eq_left', exists_eq_left, and_true, true_and, if_true, if_false, Bool.false_eq_true, reduceCtorEq, List.mapIdx_cons, List.mapIdx_nil]
  refine ⟨by omega,
        by omega, ?_⟩
  rw [Int.toNat_natCast]
  refine wLoop.ind (fun ds e => ∃ (j : Nat) (u v1 : Slot), e = ⟨[.dat (.tuple [.tuple es, .int c, v]), .dat (.tuple rows), .dat (.tuple es), .dat (.int c), .dat v, .own (pairsTo es c rows j), u, v1], n⟩ ∧ j ≤ rows.length ∧ ds = rngD j (rows.length - j)) ?_ ?_ ⟨0, _, _, rfl, Nat.zero_le _, rfl⟩
  · rintro e ⟨j, u, v1, rfl, hj, hd⟩
    have ej : j = rows.length := by
      have := congrArg List.length hd
      rw [rngD_length, List.length_nil] at this
      omega
    subst ej
    exact ⟨_, rfl, q⟩
  · rintro d ds e ih ⟨j, u, v1, rfl, hj, hd⟩
    obtain ⟨t, ht⟩ : ∃ t, rows.length - j = t + 1 := by
      have := congrArg List.length hd
      rw [rngD_length, List.length_cons] at this
      exact ⟨ds.length, this.symm⟩
    rw [ht, rngD_succ] at hd
    injection hd with hd1 hd2
    subst hd1 hd2
    have gd := hrows.ok
    obtain ⟨a1, l1, i1⟩ := rowI_at hrows (i := j) (by omega)
    have fl : (pairsTo es c rows j).length ≤ 64 := Nat.le_trans pairsTo_len (by
      have : j * rows.length ≤ 8 * 8 := Nat.mul_le_mul (by omega) hl
      omega)
    simp only [wRet, wSet, wSeq, wNext, wDrop, wIfS, wTest, wAnd, wOr, wNot, wIf, wBin, wVar, wC, wAndV, wOrV, wNotV, wIsN, wNotN, wNeg, wChain, wNil, wCons, wTup, wLst, wBi, wCall, wIsi, wSl, wSo, wNo, wSeqI, wFor, gNm, gTp, puts, wAsg, wPar, wMul, wmD, wmO, putsI, wAug, wTryIs, wRng1, wRng2, wEnum, wEnumT, wZip, wLc, wYes, wLend, wRel, wOwn, wApp, wIns, wSetIx, wLstF, wListF, wRepF, wAddF, wSlS, wParO, wRevT, wSortedSet, wSortedSetL, wSortedSetT, wKeys, weI, wExt, allD, wMt, wRaise, wSeqO, wCallF, plainO, wCallA, wIdx0, wAnF, wSetA, wUnA, wSeqA, plainA, wFld, wFldO, wMake, wLRg, Ans.data, Ans.own.injEq, Ans.tup.injEq, Ans.dat.injEq, wTry, wTryM, wHs, wIsC, enOf, put, putUn, defEnds, lendE, lend, wipeE, hide, lenD, intD, listD, tupleD, reprD, wPen0, wPen1, wPen2, wPenS1, wPenS2, penAt, List.map_cons, List.map_nil, List.length_cons, List.length_nil, List.nil_append, List.cons_append, Nat.reduceAdd, Nat.reduceSub, Nat.reduceLeDiff, Nat.zero_add, List.replicate_zero, List.replicate_succ, List.getElem?_cons_zero, List.getElem?_cons_succ, List.set_cons_zero, List.set_cons_succ, Option.some.injEq, Slot.dat.injEq, Slot.own.injEq, PyData.bool.injEq, PyData.int.injEq, PyData.tuple.injEq, PyData.list.injEq, exists_eq_left', exists_eq_left, and_true, true_and, if_true, if_false, Bool.false_eq_true, reduceCtorEq, List.mapIdx_cons, List.mapIdx_nil, addD]
    refine ⟨_, _, rfl, rfl, ⟨by omega, by omega, by omega, by omega⟩, ?_⟩
    have e1 : ((rows.length : Int) - ((j : Int) + 1)).toNat = rows.length - (j + 1) := by omega
    rw [e1]
    refine wLoop.ind (fun ds e => ∃ (b : Nat) (v1 : Slot), e = ⟨[.dat (.tuple [.tuple es, .int c, v]), .dat (.tuple rows), .dat (.tuple es), .dat (.int c), .dat v, .own (pairsTo es c rows j ++ pairsOf es c rows j b), .dat (.int j), v1], n⟩ ∧ b ≤ rows.length - (j + 1) ∧ ds = rngD ((j + 1 + b : Nat) : Int) (rows.length - (j + 1) - b)) ?_ ?_ ⟨0, _, by rw [show pairsOf es c rows j 0 = [] from rfl, List.append_nil], Nat.zero_le _, rfl⟩
    · rintro e ⟨b, v2, rfl, hb, hd⟩
      have eb : b = rows.length - (j + 1) := by
        have := congrArg List.length hd
        rw [rngD_length, List.length_nil] at this
        omega
      subst eb
      refine ih _ ⟨j + 1, _, _, by rw [pairsTo_succ], by omega, ?_⟩
      rw [show rows.length - (j + 1) = t by omega]
      rfl
    · rintro d ds e ih2 ⟨b, v2, rfl, hb, hd⟩
      obtain ⟨t2, ht2⟩ : ∃ t, rows.length - (j + 1) - b = t + 1 := by
        have := congrArg List.length hd
        rw [rngD_length, List.length_cons] at this
        exact ⟨ds.length, this.symm⟩
      rw [ht2, rngD_succ] at hd
      injection hd with hd1 hd2
      subst hd1 hd2
      obtain ⟨a2, l2, i2⟩ := rowI_at hrows (i := j + 1 + b) (by omega)
      have pl : (pairsOf es c rows j b).length ≤ 8 := Nat.le_trans pairsOf_len (by omega)
      have good : ∀ {xs : List D}, (∀ x ∈ xs, ∃ i : Int, x = .int i ∧ i.natAbs < 2 ^ 120) → ∀ x ∈ xs, Good x := fun h x hx => by
        obtain ⟨i, rfl, hi⟩ := h x hx
        exact (Ok.int hi).good
      have next : ∀ (acc : List D) (v3 : Slot), acc = pairsTo es c rows j ++ pairsOf es c rows j (b + 1) → wLoop _ _ _ _ (⟨[.dat (.tuple [.tuple es, .int c, v]), .dat (.tuple rows), .dat (.tuple es), .dat (.int c), .dat v, .own acc, .dat (.int j), v3], n⟩ : En) := fun acc v3 ea => ih2 _ ⟨b + 1, v3, by rw [ea], by omega, by
        rw [show rows.length - (j + 1) - (b + 1) = t2 by omega]
        rfl⟩
      rw [pairsOf_succ] at next
      simp only [wRet, wSet, wSeq, wNext, wDrop, wIfS, wTest, wAnd, wOr, wNot, wIf, wBin, wVar, wC, wAndV, wOrV, wNotV, wIsN, wNotN, wNeg, wChain, wNil, wCons, wTup, wLst, wBi, wCall, wIsi, wSl, wSo, wNo, wSeqI, wFor, gNm, gTp, puts, wAsg, wPar, wMul, wmD, wmO, putsI, wAug, wTryIs, wRng1, wRng2, wEnum, wEnumT, wZip, wLc, wYes, wLend, wRel, wOwn, wApp, wIns, wSetIx, wLstF, wListF, wRepF, wAddF, wSlS, wParO, wRevT, wSortedSet, wSortedSetL, wSortedSetT, wKeys, weI, wExt, allD, wMt, wRaise, wSeqO, wCallF, plainO, wCallA, wIdx0, wAnF, wSetA, wUnA, wSeqA, plainA, wFld, wFldO, wMake, wLRg, Ans.data, Ans.own.injEq, Ans.tup.injEq, Ans.dat.injEq, wTry, wTryM, wHs, wIsC, enOf, put, putUn, defEnds, lendE, lend, wipeE, hide, lenD, intD, listD, tupleD, reprD, wPen0, wPen1, wPen2, wPenS1, wPenS2, penAt, List.map_cons, List.map_nil, List.length_cons, List.length_nil, List.nil_append, List.cons_append, Nat.reduceAdd, Nat.reduceSub, Nat.reduceLeDiff, Nat.zero_add, List.replicate_zero, List.replicate_succ, List.getElem?_cons_zero, List.getElem?_cons_succ, List.set_cons_zero, List.set_cons_succ, Option.some.injEq, Slot.dat.injEq, Slot.own.injEq, PyData.bool.injEq, PyData.int.injEq, PyData.tuple.injEq, PyData.list.injEq, exists_eq_left', exists_eq_left, and_true, true_and, if_true, if_false, Bool.false_eq_true, reduceCtorEq, List.mapIdx_cons, List.mapIdx_nil]
      refine ⟨_, a1, _, a2, _, _, _, rfl, by rw [l1]; exact he, by rw [l1, l2], good i1, good i2, ?_⟩
      refine ⟨_, rfl, ?_⟩
      rcases Bool.eq_false_or_eq_true (hasB es (rowI rows j) && likeB es (rowI rows j) (rowI rows (j + 1 + b))) with h | h
      · rw [if_pos h]
        refine ⟨_, a1, _, atI_pos c0 (by rw [l1]; exact c1), _, a2, _, atI_pos c0 (by rw [l2]; exact c1), .inr ⟨good i1 _ (getD_mem c0 (by rw [l1]; exact c1)), good i2 _ (getD_mem c0 (by rw [l2]; exact c1))⟩, ?_⟩
        refine ⟨_, rfl, ?_⟩
        have e2 : pairB es c rows j (j + 1 + b) = !PyData.eqv ((rowI rows j).getD c.toNat .none) ((rowI rows (j + 1 + b)).getD c.toNat .none) := by
          unfold pairB
          rw [h, Bool.true_and]
        rcases Bool.eq_false_or_eq_true (PyData.eqv ((rowI rows j).getD c.toNat .none) ((rowI rows (j + 1 + b)).getD c.toNat .none)) with hq | hq
        · rw [if_neg (by rw [hq]; decide)]
          refine next _ _ ?_
          rw [if_neg (by rw [e2, hq]; decide), List.append_nil]
        · rw [if_pos (by rw [hq]; rfl)]
          refine ⟨⟨_, rfl⟩, by rw [List.length_append]; omega, next _ _ ?_⟩
          rw [if_pos (by rw [e2, hq]; rfl), List.append_assoc]
      · rw [if_neg (by rw [h]; decide)]
        refine next _ _ ?_
        rw [if_neg (by unfold pairB; rw [h, Bool.false_and]; decide), List.append_nil]
end
end L2.DL.K46
namespace L2.DL.K46
open PySem PySem.Spec
      PyProof.Rows
/-! ### the breaks of rules in a table -/
def okTab (cs ts : List D) : Prop := ts.length ≤ 8 ∧ ∀ d ∈ ts, ∃ xs, d = .tuple xs ∧ okRow cs xs
theorem okTab.int {cs ts : List D} (h : okTab cs ts) : intRows ts cs.length := fun d hd => by
  obtain ⟨xs, e, hx⟩ := h.2 d hd
  refine ⟨xs, e, hx.1, fun x hx' => ?_⟩
  obtain ⟨i, rfl, h0, h1⟩ := hx.val x hx'
  exact ⟨i, rfl, by omega⟩
theorem okTab.b {cs ts : List D} (h : okTab cs ts) : tabB cs (.tuple ts) = true := by
  simp only [tabB, Bool.and_eq_true, decide_eq_true_eq]
  refine ⟨h.1, List.all_eq_true.mpr fun d hd => ?_⟩
  obtain ⟨xs, rfl, hx⟩ := h.2 d hd
  exact hx.b
theorem okTab.good {cs ts : List D} (h : okTab cs ts) (hc : cs.length ≤ 4) : Ok 41 2 (.tuple ts) := (Ok.tuple (n := 5) (m := 1) (k := 8) (fun d hd => by
  obtain ⟨xs, rfl, hx⟩ := h.2 d hd
  exact hx.ok hc) h.1).mono (by decide) (by decide)
def okRuls (cs rs : List D) : Prop := rs.length ≤ 8 ∧ ∀ r ∈ rs, okRule cs r
theorem okRuls.b {cs rs : List D} (h : okRuls cs rs) : rulsB cs (.tuple rs) = true := by
  simp only [rulsB, Bool.and_eq_true, decide_eq_true_eq]
  exact ⟨h.1, List.all_eq_true.mpr fun d hd => (h.2 d hd).1⟩
theorem okRuls.good {cs rs : List D} (h : okRuls cs rs) : Ok 321 4 (.tuple rs) := (Ok.tuple (n := 40) (m := 3) (k := 8) (fun d hd => (h.2 d hd).2.1) h.1).mono (by decide) (by decide)
/-- the breaks of a rule -/
def brkR (rows : List D) : D → List D
  | .tuple [.tuple es, .int c, w] => if isN w = true then pairsTo es c rows rows.length else (List.range rows.length).filterMap (single es c w rows)
  | _ => []
theorem brkR_eq {rows es : List D} {c : Int} {w : D} : brkR rows (.tuple [.tuple es, .int c, w]) = if isN w = true then pairsTo es c rows rows.length else (List.range rows.length).filterMap (single es c w rows) := rfl
theorem brkR_len {rows : List D} {r : D} (h : rows.length ≤ 8) : (brkR rows r).length ≤ 64 := by
  unfold brkR
  split
  · split
    · exact Nat.le_trans pairsTo_len (Nat.mul_le_mul h h)
    · exact Nat.le_trans (List.length_filterMap_le _ _) (by rw [List.length_range]; omega)
  · simp
theorem brkR_in {rows : List D} {r : D} (h : rows.length ≤ 8) : ∀ b ∈ brkR rows r, ∃ xs, b = .tuple xs ∧ xs.length ≤ 2 ∧ ∀ x ∈ xs, ∃ i : Int, x = .int i ∧ 0 ≤ i ∧ i < 100 := by
  intro b hb
  unfold brkR at hb
  split at hb
  · split at hb
    · obtain ⟨i, hi, hb⟩ := List.mem_flatMap.mp hb
      obtain ⟨u, hu, hb⟩ := List.mem_filterMap.mp hb
      rw [List.mem_range] at hi hu
      split at hb
      · cases hb
        refine ⟨_, rfl, Nat.le_refl _, fun x hx => ?_⟩
        simp only [List.mem_cons,
              List.not_mem_nil, or_false] at hx
        rcases hx with rfl | rfl
        · exact ⟨_, rfl, by omega, by omega⟩
        · exact ⟨_, rfl, by omega, by omega⟩
      · cases hb
    · obtain ⟨i, hi, hb⟩ := List.mem_filterMap.mp hb
      rw [List.mem_range] at hi
      unfold single at hb
      split at hb
      · cases hb
        refine ⟨_, rfl, by simp, fun x hx => ?_⟩
        cases List.mem_singleton.mp hx
        exact ⟨_, rfl, by omega, by omega⟩
      · cases hb
  · cases hb
def tag (k : Nat) (b : D) : D := .tuple (.int k :: itm b)
def allTo (rs rows : List D) (j : Nat) : List D := (List.range j).flatMap fun k => (brkR rows (rs.getD k .none)).map (tag k)
theorem allTo_succ {rs rows : List D} {j : Nat} : allTo rs rows (j + 1) = allTo rs rows j ++ (brkR rows (rs.getD j .none)).map (tag j) := by
  unfold allTo
  rw [List.range_succ, List.flatMap_append]
  simp
theorem allTo_len {rs rows : List D} (h : rows.length ≤ 8) : ∀ {j : Nat}, (allTo rs rows j).length ≤ 64 * j
  | 0 => by simp [allTo]
  | j + 1 => by
    rw [allTo_succ, List.length_append, List.length_map]
    have := allTo_len (rs := rs) (rows := rows) h (j := j)
    have := brkR_len (rows := rows) (r := rs.getD j .none) h
    omega
theorem allTo_ok {rs rows : List D} (h : rows.length ≤ 8) {j : Nat} (hj : j ≤ 8) : ∀ b ∈ allTo rs rows j, Ok 4 1 b := by
  intro b hb
  obtain ⟨k, hk, hb⟩ := List.mem_flatMap.mp hb
  obtain ⟨b', hb', rfl⟩ := List.mem_map.mp hb
  rw [List.mem_range] at hk
  obtain ⟨xs, rfl, hl, hx⟩ := brkR_in h b' hb'
  refine (Ok.tuple (n := 1) (m := 0) (k := 3) (fun d hd => ?_) (by simp only [itm, List.length_cons]; omega)).mono (by decide) (by decide)
  rcases List.mem_cons.mp
        hd with rfl | hd
  · exact Ok.int (by omega)
  · obtain ⟨i, rfl, h0, h1⟩ := hx d hd
    exact Ok.int (by omega)
theorem allTo_good {rs rows : List D} (h : rows.length ≤ 8) {j : Nat} (hj : j ≤ 8) : Good (.list (allTo rs rows j)) :=
  (Ok.list (n := 4) (m := 1) (k := 512) (allTo_ok h hj) (Nat.le_trans (allTo_len h) (by omega))).good
theorem okRule.parts {cs : List D} {r : D} (h : okRule cs r) : ∃ es c w, r = .tuple [.tuple es, .int c, w] ∧ entsOk es cs.length ∧ 0 ≤ c ∧ c < cs.length ∧ Good w ∧ es.length ≤ 4 ∧ Good (.tuple es) := by
  obtain ⟨hb, ok, zs, c, w, rfl, hz, hp, hl⟩ := h
  have hn : numB (.int c) (.int cs.length) = true := by
    simp only [rulB, Bool.and_eq_true] at hb
    exact hb.2.1
  simp only [numB, Bool.and_eq_true, decide_eq_true_eq] at hn
  refine ⟨_, c, w, rfl, fun d hd => ?_, hn.1, hn.2, (ok.in_tuple w (by simp)).good, by rw [List.length_map]; exact hl, (ok.in_tuple _ List.mem_cons_self).good⟩
  obtain ⟨z, h1, rfl⟩ := List.mem_map.mp hd
  obtain ⟨z0, z1, z2⟩ := hz z h1
  refine ⟨z.1, z.2, rfl, z0, z1, ?_⟩
  rcases z2 with h | h
  · rw [h]
    exact Ok.none.good
  · exact h.ok.good
section
variable {P : Program} {w : World} {K : PySem.W.Frag} {mg : Str → Option Value} {base : Heap} {A : Cls}
def w_broken_rows : Wc := fun ds k Q _ => ∃ (cs ts : List D) (r : D), ds = [r, .tuple ts] ∧ okRule cs r ∧ okTab cs ts ∧ Q (.list (brkR ts r)) k
theorem m_broken_rows : Wc.Mono w_broken_rows := fun ds k Q Q' x x' h1 _ ⟨cs, ts, r, e, p1, p2, q⟩ => ⟨cs, ts, r, e, p1, p2, h1 _ _ q⟩
theorem d_broken_rows (T : Txt K mg A) (d_is_value_rule : Def P w K mg base "is_value_rule" 1 ["rule"] w_is_value_rule) (d_broken_singles : Def P w K mg base "broken_singles" 2 ["rule", "table"] w_broken_singles) (d_broken_pairs : Def P w K mg base "broken_pairs" 3 ["rule", "table"] w_broken_pairs)
    (F : FunAt K mg "broken_rows" s_broken_rows ["rule", "table"]) : Def P w K mg base "broken_rows" 4 ["rule", "table"] w_broken_rows := by
  refine defD F sc_broken_rows (fun ds k Q x ⟨cs, ts, r, e, _⟩ => by rw [e]; rfl) fun f cdv Ar outer s H E p G hg hr => ⟨_, (dss_cons (ds_if (dt_val (de_fn d_is_value_rule m_is_value_rule hg hr (takes_of rfl rfl rfl rfl) (da_cons (de_var (pv 0)) da_nil)))
    (dss_one (ds_ret (de_fn d_broken_singles m_broken_singles hg hr (takes_of rfl rfl rfl rfl) (da_cons (de_var (pv 0)) (da_cons (de_var (pv 1)) da_nil)))))
    dss_nil)
    (dss_one (ds_ret (de_fn d_broken_pairs m_broken_pairs hg hr (takes_of rfl rfl rfl rfl) (da_cons (de_var (pv 0)) (da_cons (de_var (pv 1)) da_nil)))))), ?_⟩
  rintro ds n Q x ⟨cs, ts, r, rfl, hr', ht, q⟩
  obtain ⟨es, c, v, rfl, he, c0, c1, gv, _, _⟩ := hr'.parts
  simp only [wRet, wSet, wSeq, wNext, wDrop, wIfS, wTest, wAnd, wOr, wNot, wIf, wBin, wVar, wC, wAndV, wOrV, wNotV, wIsN, wNotN, wNeg, wChain, wNil, wCons, wTup, wLst, wBi, wCall, wIsi, wSl, wSo, wNo, wSeqI, wFor, gNm, gTp, puts, wAsg, wPar, wMul, wmD, wmO, putsI, wAug, wTryIs, wRng1, wRng2, wEnum, wEnumT, wZip, wLc, wYes, wLend, wRel, wOwn, wApp, wIns, wSetIx, wLstF, wListF, wRepF, wAddF, wSlS, wParO, wRevT, wSortedSet, wSortedSetL, wSortedSetT, wKeys, weI, wExt, allD, wMt, wRaise, wSeqO, wCallF, plainO, wCallA, wIdx0, wAnF, wSetA, wUnA, wSeqA, plainA, wFld, wFldO, wMake, wLRg, Ans.data, Ans.own.injEq, Ans.tup.injEq, Ans.dat.injEq, wTry, wTryM, wHs, wIsC, enOf, put, putUn, defEnds, lendE, lend, wipeE, hide, lenD, intD, listD, tupleD, reprD, wPen0, wPen1, wPen2, wPenS1, wPenS2, penAt, List.map_cons, List.map_nil, List.length_cons, List.length_nil, List.nil_append, List.cons_append, Nat.reduceAdd, Nat.reduceSub, Nat.reduceLeDiff, Nat.zero_add, List.replicate_zero, List.replicate_succ, List.getElem?_cons_zero, List.getElem?_cons_succ, List.set_cons_zero, List.set_cons_succ, Option.some.injEq, Slot.dat.injEq, Slot.own.injEq, PyData.bool.injEq, PyData.int.injEq, PyData.tuple.injEq, PyData.list.injEq, exists_eq_left', exists_eq_left, and_true, true_and, if_true, if_false, Bool.false_eq_true, reduceCtorEq, List.mapIdx_cons, List.mapIdx_nil]
  refine ⟨_, rfl, ⟨_, _, _, rfl⟩, ?_⟩
  dsimp only
  refine ⟨_, rfl, ?_⟩
  rw [brkR_eq] at q
  rcases Bool.eq_false_or_eq_true (isN v) with h | h
  · rw [if_neg (by rw [h]; decide)]
    rw [if_pos h] at q
    exact ⟨es, ts, c, v, cs.length, rfl, he, ht.int, ht.1, c0, c1, q⟩
  · rw [if_pos (by rw [h]; rfl)]
    rw [if_neg (by rw [h]; decide)] at q
    exact ⟨es, ts, c, v, cs.length, rfl, he, ht.int.ok, by have := ht.1; omega, c0, c1, gv, q⟩
def x_list_breaks : Wo := fun ds k Q _ => ∃ (cs rs ts : List D), ds = [.tuple rs, .tuple ts] ∧ okRuls cs rs ∧ okTab cs ts ∧ Q (allTo rs ts rs.length) k
theorem n_list_breaks : Wo.Mono x_list_breaks := fun ds k Q Q' x x' h1 _ ⟨cs, rs, ts, e, p1, p2, q⟩ => ⟨cs, rs, ts, e, p1, p2, h1 _ _ q⟩
theorem o_list_breaks (T : Txt K mg A) (d_broken_rows : Def P w K mg base "broken_rows" 4 ["rule", "table"] w_broken_rows) (F : FunAt K mg "list_breaks" s_list_breaks ["rules", "table"]) : DefO P w K mg base "list_breaks" 5 ["rules", "table"] x_list_breaks := by
  refine defO F sc_list_breaks (fun ds k Q x ⟨cs, rs, ts, e, _⟩ => by rw [e]; rfl) fun f cdv Ar outer s H E p G hg hr => ⟨_, (dso_cons (ds_own (i := 2) (df_lst da_nil) sc_list_breaks.nd)
    (dso_cons (ds_for (passes_of rfl) rfl (di_rng1 (de_bi lenD.mono fitsLen call_len_seq (da_cons (de_var (pv 0)) da_nil) T.z_len) T.z_range) (dg_nm (i := 3) sc_list_breaks.nd)
    (dss_one (ds_for (passes_of rfl) rfl (di_seq (de_fn d_broken_rows m_broken_rows hg hr (takes_of rfl rfl rfl rfl) (da_cons (de_idx (de_var (pv 0)) (de_var (pv 3))) (da_cons (de_var (pv 1)) da_nil)))) (dg_nm (i := 4) sc_list_breaks.nd)
    (dss_one (ds_append (i := 2) (de_bin op_addA addD.mono fitsAdd (de_tup (da_cons (de_var (pv 3)) da_nil)) (de_var (pv 4))) (pv 2))))))
    (dso_own (pv 2)))), ?_⟩
  rintro ds n Q x ⟨cs, rs, ts, rfl, hrs, ht, q⟩
  simp only [wRet, wSet, wSeq, wNext, wDrop, wIfS, wTest, wAnd, wOr, wNot, wIf, wBin, wVar, wC, wAndV, wOrV, wNotV, wIsN, wNotN, wNeg, wChain, wNil, wCons, wTup, wLst, wBi, wCall, wIsi, wSl, wSo, wNo, wSeqI, wFor, gNm, gTp, puts, wAsg, wPar, wMul, wmD, wmO, putsI, wAug, wTryIs, wRng1, wRng2, wEnum, wEnumT, wZip, wLc, wYes, wLend, wRel, wOwn, wApp, wIns, wSetIx, wLstF, wListF, wRepF, wAddF, wSlS, wParO, wRevT, wSortedSet, wSortedSetL, wSortedSetT, wKeys, weI, wExt, allD, wMt, wRaise, wSeqO, wCallF, plainO, wCallA, wIdx0, wAnF, wSetA, wUnA, wSeqA, plainA, wFld, wFldO, wMake, wLRg, Ans.data, Ans.own.injEq, Ans.tup.injEq, Ans.dat.injEq, wTry, wTryM, wHs, wIsC, enOf, put, putUn, defEnds, lendE, lend, wipeE, hide, lenD, intD, listD, tupleD, reprD, wPen0, wPen1, wPen2, wPenS1, wPenS2, penAt, List.map_cons, List.map_nil, List.length_cons, List.length_nil, List.nil_append, List.cons_append, Nat.reduceAdd, Nat.reduceSub, Nat.reduceLeDiff, Nat.zero_add, List.replicate_zero, List.replicate_succ, List.getElem?_cons_zero, List.getElem?_cons_succ, List.set_cons_zero, List.set_cons_succ, Option.some.injEq, Slot.dat.injEq, Slot.own.injEq, PyData.bool.injEq, PyData.int.injEq, PyData.tuple.injEq, PyData.list.injEq, exists_eq_left', exists_eq_left, and_true, true_and, if_true, if_false, Bool.false_eq_true, reduceCtorEq, List.mapIdx_cons, List.mapIdx_nil]
  have hl8 := hrs.1
  refine ⟨by omega,
        by omega, ?_⟩
  rw [Int.toNat_natCast]
  refine wLoop.ind (fun ds e => ∃ (j : Nat) (u3 u4 : Slot), e = ⟨[.dat (.tuple rs), .dat (.tuple ts), .own (allTo rs ts j), u3, u4], n⟩ ∧ j ≤ rs.length ∧ ds = rngD j (rs.length - j)) ?_ ?_ ⟨0, _, _, rfl, Nat.zero_le _, rfl⟩
  · rintro e ⟨j, u3, u4, rfl, hj, hd⟩
    have ej : j = rs.length := by
      have := congrArg List.length hd
      rw [rngD_length, List.length_nil] at this
      omega
    subst ej
    exact ⟨_, rfl, q⟩
  · rintro d ds e ih ⟨j, u3, u4, rfl, hj, hd⟩
    obtain ⟨t, ht'⟩ : ∃ t, rs.length - j = t + 1 := by
      have := congrArg List.length hd
      rw [rngD_length, List.length_cons] at this
      exact ⟨ds.length, this.symm⟩
    rw [ht', rngD_succ] at hd
    injection hd with hd1 hd2
    subst hd1 hd2
    have j1 : (j : Int) < rs.length := by omega
    have hm := getD_mem (Int.natCast_nonneg j) j1
    have at1 := atI_pos (Int.natCast_nonneg j) j1
    rw [Int.toNat_natCast] at hm at1
    have fl := allTo_len (rs := rs) (rows := ts) ht.1 (j := j)
    have bl := brkR_len (rows := ts) (r := rs.getD j .none) ht.1
    have bi := brkR_in (rows := ts) (r := rs.getD j .none) ht.1
    simp only [wRet, wSet, wSeq, wNext, wDrop, wIfS, wTest, wAnd, wOr, wNot, wIf, wBin, wVar, wC, wAndV, wOrV, wNotV, wIsN, wNotN, wNeg, wChain, wNil, wCons, wTup, wLst, wBi, wCall, wIsi, wSl, wSo, wNo, wSeqI, wFor, gNm, gTp, puts, wAsg, wPar, wMul, wmD, wmO, putsI, wAug, wTryIs, wRng1, wRng2, wEnum, wEnumT, wZip, wLc, wYes, wLend, wRel, wOwn, wApp, wIns, wSetIx, wLstF, wListF, wRepF, wAddF, wSlS, wParO, wRevT, wSortedSet, wSortedSetL, wSortedSetT, wKeys, weI, wExt, allD, wMt, wRaise, wSeqO, wCallF, plainO, wCallA, wIdx0, wAnF, wSetA, wUnA, wSeqA, plainA, wFld, wFldO, wMake, wLRg, Ans.data, Ans.own.injEq, Ans.tup.injEq, Ans.dat.injEq, wTry, wTryM, wHs, wIsC, enOf, put, putUn, defEnds, lendE, lend, wipeE, hide, lenD, intD, listD, tupleD, reprD, wPen0, wPen1, wPen2, wPenS1, wPenS2, penAt, List.map_cons, List.map_nil, List.length_cons, List.length_nil, List.nil_append, List.cons_append, Nat.reduceAdd, Nat.reduceSub, Nat.reduceLeDiff, Nat.zero_add, List.replicate_zero, List.replicate_succ, List.getElem?_cons_zero, List.getElem?_cons_succ, List.set_cons_zero, List.set_cons_succ, Option.some.injEq, Slot.dat.injEq, Slot.own.injEq, PyData.bool.injEq, PyData.int.injEq, PyData.tuple.injEq, PyData.list.injEq, exists_eq_left', exists_eq_left, and_true, true_and, if_true, if_false, Bool.false_eq_true, reduceCtorEq, List.mapIdx_cons, List.mapIdx_nil, addD]
    refine ⟨_, at1, cs, ts, _, rfl, hrs.2 _ hm, ht, _, rfl, ?_⟩
    have next : ∀ (acc : List D) (u4 : Slot), acc = allTo rs ts j ++ (brkR ts (rs.getD j .none)).map (tag j) → wLoop _ _ _ _ (⟨[.dat (.tuple rs), .dat (.tuple ts), .own acc, .dat (.int j), u4], n⟩ : En) := fun acc u4 ea => ih _ ⟨j + 1, .dat (.int j), u4, by rw [ea, allTo_succ], by omega, by
      rw [show rs.length - (j + 1) = t by omega]
      rfl⟩
    generalize brkR ts (rs.getD j .none) = bs at next bl bi
    refine wLoop.ind (fun es e => ∃ (ys : List D) (u4 : Slot), e = ⟨[.dat (.tuple rs), .dat (.tuple ts), .own (allTo rs ts j ++ ys.map (tag j)), .dat (.int j), u4], n⟩ ∧ ys ++ es = bs) ?_ ?_ ⟨[], _, by rw [List.map_nil, List.append_nil], rfl⟩
    · rintro e ⟨ys, u4, rfl, hy⟩
      rw [List.append_nil] at hy
      subst hy
      exact next _ _ rfl
    · rintro b es e ih2 ⟨ys, u4, rfl, hy⟩
      obtain ⟨xs, rfl, xl, _⟩ := bi b (by rw [← hy]; simp)
      have yl : ys.length ≤ 64 := by
        have := congrArg List.length hy
        rw [List.length_append] at this
        omega
      simp only [wRet, wSet, wSeq, wNext, wDrop, wIfS, wTest, wAnd, wOr, wNot, wIf, wBin, wVar, wC, wAndV, wOrV, wNotV, wIsN, wNotN, wNeg, wChain, wNil, wCons, wTup, wLst, wBi, wCall, wIsi, wSl, wSo, wNo, wSeqI, wFor, gNm, gTp, puts, wAsg, wPar, wMul, wmD, wmO, putsI, wAug, wTryIs, wRng1, wRng2, wEnum, wEnumT, wZip, wLc, wYes, wLend, wRel, wOwn, wApp, wIns, wSetIx, wLstF, wListF, wRepF, wAddF, wSlS, wParO, wRevT, wSortedSet, wSortedSetL, wSortedSetT, wKeys, weI, wExt, allD, wMt, wRaise, wSeqO, wCallF, plainO, wCallA, wIdx0, wAnF, wSetA, wUnA, wSeqA, plainA, wFld, wFldO, wMake, wLRg, Ans.data, Ans.own.injEq, Ans.tup.injEq, Ans.dat.injEq, wTry, wTryM, wHs, wIsC, enOf, put, putUn, defEnds, lendE, lend, wipeE, hide, lenD, intD, listD, tupleD, reprD, wPen0, wPen1, wPen2, wPenS1, wPenS2, penAt, List.map_cons, List.map_nil, List.length_cons, List.length_nil, List.nil_append, List.cons_append, Nat.reduceAdd, Nat.reduceSub, Nat.reduceLeDiff, Nat.zero_add, List.replicate_zero, List.replicate_succ, List.getElem?_cons_zero, List.getElem?_cons_succ, List.set_cons_zero, List.set_cons_succ, Option.some.injEq, Slot.dat.injEq, Slot.own.injEq, PyData.bool.injEq, PyData.int.injEq, PyData.tuple.injEq, PyData.list.injEq, exists_eq_left', exists_eq_left, and_true, true_and, if_true, if_false, Bool.false_eq_true, reduceCtorEq, List.mapIdx_cons, List.mapIdx_nil, addD]
      refine ⟨⟨_, rfl⟩, by rw [sizeLine_eq]; omega, by rw [List.length_append, List.length_map]; omega, ih2 _ ⟨ys ++ [.tuple xs], _, by rw [List.map_append, ← List.append_assoc]; rfl, by rw [List.append_assoc]; exact hy⟩⟩
theorem m_list_breaks : Wc.Mono (plainO x_list_breaks) := plainO.mono n_list_breaks
end
end L2.DL.K46
namespace L2.DL.K46
open PySem PySem.Spec
      PyProof.Rows
/-! ### the arguments of a fix -/
/-- ascending, each of a column -/
def okNs (m : Nat) (ns : List Int) : Prop := ns.Pairwise (· < ·) ∧ ∀ n ∈ ns, 0 ≤ n ∧ n < m
theorem okNs.len {m : Nat} {ns : List Int} (h : okNs m ns) : ns.length ≤ m := by
  have nd : (ns.map Int.toNat).Nodup := by
    refine List.pairwise_map.mpr (h.1.imp_of_mem fun {a b} ha hb lt => ?_)
    have := h.2 a ha
    have := h.2 b hb
    omega
  have := nat_nodup_len (ns.map Int.toNat) (List.range m) nd fun x hx => by
    obtain ⟨n, hn, e⟩ := List.mem_map.mp hx
    have := h.2 n hn
    exact List.mem_range.mpr (by omega)
  rwa [List.length_map, List.length_range] at this
theorem okNs.good {m : Nat} {ns : List Int} (h : okNs m ns) (hm : m ≤ 4) : Good (.tuple (ns.map PyData.int)) := by
  refine (Ok.tuple (n := 1) (m := 0) (k := 4) (fun d hd => ?_) (by rw [List.length_map]; have := h.len; omega)).good
  obtain ⟨n, hn, rfl⟩ := List.mem_map.mp hd
  have := h.2 n hn
  exact Ok.int (by omega)
theorem inB_dec {i : Int} {ns : List Int} : inB (.int i) (ns.map PyData.int) = decide (i ∈ ns) := by
  by_cases h : i ∈ ns
  · rw [inB_mem (List.mem_map_of_mem h), decide_eq_true h]
  · rw [inB_not h, decide_eq_false h]
section
variable {P : Program} {w : World} {K : PySem.W.Frag} {mg : Str → Option Value} {base : Heap} {A : Cls}
def w_is_ascending : Wc := fun ds k Q _ => ∃ ns : List Int, ds = [.tuple (ns.map PyData.int)] ∧ ns.length ≤ 100 ∧ ns.Pairwise (· < ·) ∧ Q (.bool true) k
theorem m_is_ascending : Wc.Mono w_is_ascending := fun ds k Q Q' x x' h1 _ ⟨ns, e, p1, p2, q⟩ => ⟨ns, e, p1, p2, h1 _ _ q⟩
theorem d_is_ascending (T : Txt K mg A) (F : FunAt K mg "is_ascending" s_is_ascending ["values"]) : Def P w K mg base "is_ascending" 1 ["values"] w_is_ascending := by
  refine defD F sc_is_ascending (fun ds k Q x ⟨ns, e, _⟩ => by rw [e]; rfl) fun f cdv Ar outer s H E p G hg hr => ⟨_, (dss_cons (ds_for (passes_of rfl) rfl (di_rng2 de_int (de_bi lenD.mono fitsLen call_len_seq (da_cons (de_var (pv 0)) da_nil) T.z_len) T.z_range) (dg_nm (i := 1) sc_is_ascending.nd)
    (dss_one (ds_if (dt_not (dt_cmp op_lt cmpD.mono fitsCmp (de_idx (de_var (pv 0)) (de_bin op_sub subD.mono fitsSub (de_var (pv 1)) de_int)) (de_idx (de_var (pv 0)) (de_var (pv 1)))))
    (dss_one (ds_ret de_bl))
    dss_nil)))
    (dss_one (ds_ret de_bl))), ?_⟩
  rintro ds n Q x ⟨ns, rfl, hl, hp, q⟩
  simp only [wRet, wSet, wSeq, wNext, wDrop, wIfS, wTest, wAnd, wOr, wNot, wIf, wBin, wVar, wC, wAndV, wOrV, wNotV, wIsN, wNotN, wNeg, wChain, wNil, wCons, wTup, wLst, wBi, wCall, wIsi, wSl, wSo, wNo, wSeqI, wFor, gNm, gTp, puts, wAsg, wPar, wMul, wmD, wmO, putsI, wAug, wTryIs, wRng1, wRng2, wEnum, wEnumT, wZip, wLc, wYes, wLend, wRel, wOwn, wApp, wIns, wSetIx, wLstF, wListF, wRepF, wAddF, wSlS, wParO, wRevT, wSortedSet, wSortedSetL, wSortedSetT, wKeys, weI, wExt, allD, wMt, wRaise, wSeqO, wCallF, plainO, wCallA, wIdx0, wAnF, wSetA, wUnA, wSeqA, plainA, wFld, wFldO, wMake, wLRg, Ans.data, Ans.own.injEq, Ans.tup.injEq, Ans.dat.injEq, wTry, wTryM, wHs, wIsC, enOf, put, putUn, defEnds, lendE, lend, wipeE, hide, lenD, intD, listD, tupleD, reprD, wPen0, wPen1, wPen2, wPenS1, wPenS2, penAt, List.map_cons, List.map_nil, List.length_cons, List.length_nil, List.nil_append, List.cons_append, Nat.reduceAdd, Nat.reduceSub, Nat.reduceLeDiff, Nat.zero_add, List.replicate_zero, List.replicate_succ, List.getElem?_cons_zero, List.getElem?_cons_succ, List.set_cons_zero, List.set_cons_succ, Option.some.injEq, Slot.dat.injEq, Slot.own.injEq, PyData.bool.injEq, PyData.int.injEq, PyData.tuple.injEq, PyData.list.injEq, exists_eq_left', exists_eq_left, and_true, true_and, if_true, if_false, Bool.false_eq_true, reduceCtorEq, List.mapIdx_cons, List.mapIdx_nil]
  refine ⟨1, ns.length, rfl, by rw [List.length_map], by omega, ?_⟩
  refine wLoop.ind (fun ds e => ∃ (j : Nat) (u : Slot), e = ⟨[.dat (.tuple (ns.map PyData.int)), u], n⟩ ∧ ds = rngD ((j : Int) + 1) (ns.length - 1 - j)) ?_ ?_ ⟨0, .un, rfl, ?_⟩
  · rintro e ⟨j, u, rfl, hd⟩
    exact q
  · rintro d ds e ih ⟨j, u, rfl, hd⟩
    obtain ⟨t, ht⟩ : ∃ t, ns.length - 1 - j = t + 1 := by
      have := congrArg List.length hd
      rw [rngD_length, List.length_cons] at this
      exact ⟨ds.length, this.symm⟩
    rw [ht, rngD_succ] at hd
    injection hd with hd1 hd2
    subst hd1 hd2
    have l1 : j < ns.length := by omega
    have l2 : j + 1 < ns.length := by omega
    have g1 : (ns.map PyData.int).getD j .none = .int ns[j] := by
      rw [List.getD_eq_getElem?_getD, List.getElem?_map, List.getElem?_eq_getElem l1] <;> rfl
    have g2 : (ns.map PyData.int).getD (j + 1) .none = .int ns[j + 1] := by
      rw [List.getD_eq_getElem?_getD, List.getElem?_map, List.getElem?_eq_getElem l2] <;> rfl
    have lt : ns[j] < ns[j + 1] := List.pairwise_iff_getElem.mp hp j (j + 1) l1 l2 (by omega)
    simp only [wRet, wSet, wSeq, wNext, wDrop, wIfS, wTest, wAnd, wOr, wNot, wIf, wBin, wVar, wC, wAndV, wOrV, wNotV, wIsN, wNotN, wNeg, wChain, wNil, wCons, wTup, wLst, wBi, wCall, wIsi, wSl, wSo, wNo, wSeqI, wFor, gNm, gTp, puts, wAsg, wPar, wMul, wmD, wmO, putsI, wAug, wTryIs, wRng1, wRng2, wEnum, wEnumT, wZip, wLc, wYes, wLend, wRel, wOwn, wApp, wIns, wSetIx, wLstF, wListF, wRepF, wAddF, wSlS, wParO, wRevT, wSortedSet, wSortedSetL, wSortedSetT, wKeys, weI, wExt, allD, wMt, wRaise, wSeqO, wCallF, plainO, wCallA, wIdx0, wAnF, wSetA, wUnA, wSeqA, plainA, wFld, wFldO, wMake, wLRg, Ans.data, Ans.own.injEq, Ans.tup.injEq, Ans.dat.injEq, wTry, wTryM, wHs, wIsC, enOf, put, putUn, defEnds, lendE, lend, wipeE, hide, lenD, intD, listD, tupleD, reprD, wPen0, wPen1, wPen2, wPenS1, wPenS2, penAt, List.map_cons, List.map_nil, List.length_cons, List.length_nil, List.nil_append, List.cons_append, Nat.reduceAdd, Nat.reduceSub, Nat.reduceLeDiff, Nat.zero_add, List.replicate_zero, List.replicate_succ, List.getElem?_cons_zero, List.getElem?_cons_succ, List.set_cons_zero, List.set_cons_succ, Option.some.injEq, Slot.dat.injEq, Slot.own.injEq, PyData.bool.injEq, PyData.int.injEq, PyData.tuple.injEq, PyData.list.injEq, exists_eq_left', exists_eq_left, and_true, true_and, if_true, if_false, Bool.false_eq_true, reduceCtorEq, List.mapIdx_cons, List.mapIdx_nil]
    have a1 : atI (ns.map PyData.int) ((j : Int) + 1 - 1) = some (.int ns[j]) := by
      rw [show (j : Int) + 1 - 1 = j by omega, atI_pos (by omega) (by rw [List.length_map]; omega), Int.toNat_natCast, g1]
    have a2 : atI (ns.map PyData.int) ((j : Int) + 1) = some (.int ns[j + 1]) := by
      rw [atI_pos (by omega) (by rw [List.length_map]; omega), show ((j : Int) + 1).toNat = j + 1 by omega, g2]
    refine ⟨_, a1, _, a2, _, rfl, ?_⟩
    rw [if_neg (by simp [lt])]
    refine ih _ ⟨j + 1, _, rfl, ?_⟩
    rw [show ns.length - 1 - (j + 1) = t by omega]
    rfl
  · congr 1
    omega
def w_is_column_set : Wc := fun ds k Q _ => ∃ (cs : List D) (ns : List Int), ds = [.tuple cs, .tuple (ns.map PyData.int)] ∧ cs.length ≤ 4 ∧ okNs cs.length ns ∧ Q (.bool true) k
theorem m_is_column_set : Wc.Mono w_is_column_set := fun ds k Q Q' x x' h1 _ ⟨cs, ns, e, p1, p2, q⟩ => ⟨cs, ns, e, p1, p2, h1 _ _ q⟩
theorem d_is_column_set (T : Txt K mg A) (d_is_number : Def P w K mg base "is_number" 2 ["value", "limit"] w_is_number) (d_is_ascending : Def P w K mg base "is_ascending" 1 ["values"] w_is_ascending) (F : FunAt K mg "is_column_set" s_is_column_set ["columns", "value"]) : Def P w K mg base "is_column_set" 3 ["columns", "value"] w_is_column_set := by
  refine defD F sc_is_column_set (fun ds k Q x ⟨cs, ns, e, _⟩ => by rw [e]; rfl) fun f cdv Ar outer s H E p G hg hr => ⟨_, (dss_cons (ds_if (dt_not (dt_val (de_isi (T := "tuple") (de_var (pv 1)) T.z_isinstance T.z_tuple (by decide +kernel))))
    (dss_one (ds_ret de_bl))
    dss_nil)
    (dss_cons (ds_for (passes_of rfl) rfl (di_seq (de_var (pv 1))) (dg_nm (i := 2) sc_is_column_set.nd)
    (dss_one (ds_if (dt_not (dt_val (de_fn d_is_number m_is_number hg hr (takes_of rfl rfl rfl rfl) (da_cons (de_var (pv 2)) (da_cons (de_bi lenD.mono fitsLen call_len_seq (da_cons (de_var (pv 0)) da_nil) T.z_len) da_nil)))))
    (dss_one (ds_ret de_bl))
    dss_nil)))
    (dss_one (ds_ret (de_fn d_is_ascending m_is_ascending hg hr (takes_of rfl rfl rfl rfl) (da_cons (de_var (pv 1)) da_nil)))))), ?_⟩
  rintro ds n Q x ⟨cs, ns, rfl, hl, hn, q⟩
  simp only [wRet, wSet, wSeq, wNext, wDrop, wIfS, wTest, wAnd, wOr, wNot, wIf, wBin, wVar, wC, wAndV, wOrV, wNotV, wIsN, wNotN, wNeg, wChain, wNil, wCons, wTup, wLst, wBi, wCall, wIsi, wSl, wSo, wNo, wSeqI, wFor, gNm, gTp, puts, wAsg, wPar, wMul, wmD, wmO, putsI, wAug, wTryIs, wRng1, wRng2, wEnum, wEnumT, wZip, wLc, wYes, wLend, wRel, wOwn, wApp, wIns, wSetIx, wLstF, wListF, wRepF, wAddF, wSlS, wParO, wRevT, wSortedSet, wSortedSetL, wSortedSetT, wKeys, weI, wExt, allD, wMt, wRaise, wSeqO, wCallF, plainO, wCallA, wIdx0, wAnF, wSetA, wUnA, wSeqA, plainA, wFld, wFldO, wMake, wLRg, Ans.data, Ans.own.injEq, Ans.tup.injEq, Ans.dat.injEq, wTry, wTryM, wHs, wIsC, enOf, put, putUn, defEnds, lendE, lend, wipeE, hide, lenD, intD, listD, tupleD, reprD, wPen0, wPen1, wPen2, wPenS1, wPenS2, penAt, List.map_cons, List.map_nil, List.length_cons, List.length_nil, List.nil_append, List.cons_append, Nat.reduceAdd, Nat.reduceSub, Nat.reduceLeDiff, Nat.zero_add, List.replicate_zero, List.replicate_succ, List.getElem?_cons_zero, List.getElem?_cons_succ, List.set_cons_zero, List.set_cons_succ, Option.some.injEq, Slot.dat.injEq, Slot.own.injEq, PyData.bool.injEq, PyData.int.injEq, PyData.tuple.injEq, PyData.list.injEq, exists_eq_left', exists_eq_left, and_true, true_and, if_true, if_false, Bool.false_eq_true, reduceCtorEq, List.mapIdx_cons, List.mapIdx_nil]
  refine ⟨true, rfl, (fun kv z => nomatch z), ?_⟩
  simp only [Bool.not_true, if_false, Bool.false_eq_true]
  refine ⟨_, rfl, ?_⟩
  refine wLoop.ind (fun ds e => ∃ (ms : List Int) (u : Slot), e = ⟨[.dat (.tuple cs), .dat (.tuple (ns.map PyData.int)), u], n⟩ ∧ ds = ms.map PyData.int ∧ ∀ m ∈ ms, 0 ≤ m ∧ m < cs.length) ?_ ?_ ⟨ns, .un, rfl, rfl, hn.2⟩
  · rintro e ⟨ms, u, rfl, _⟩
    exact ⟨_, rfl, ns, rfl, by have := hn.len; omega, hn.1, q⟩
  · rintro d ds e ih ⟨ms, u, rfl, hd, hm⟩
    cases ms with
    | nil => cases hd
    | cons m ms =>
      rw [List.map_cons] at hd
      injection hd with hd1 hd2
      subst hd1 hd2
      obtain ⟨m0, m1⟩ := hm m List.mem_cons_self
      simp only [wRet, wSet, wSeq, wNext, wDrop, wIfS, wTest, wAnd, wOr, wNot, wIf, wBin, wVar, wC, wAndV, wOrV, wNotV, wIsN, wNotN, wNeg, wChain, wNil, wCons, wTup, wLst, wBi, wCall, wIsi, wSl, wSo, wNo, wSeqI, wFor, gNm, gTp, puts, wAsg, wPar, wMul, wmD, wmO, putsI, wAug, wTryIs, wRng1, wRng2, wEnum, wEnumT, wZip, wLc, wYes, wLend, wRel, wOwn, wApp, wIns, wSetIx, wLstF, wListF, wRepF, wAddF, wSlS, wParO, wRevT, wSortedSet, wSortedSetL, wSortedSetT, wKeys, weI, wExt, allD, wMt, wRaise, wSeqO, wCallF, plainO, wCallA, wIdx0, wAnF, wSetA, wUnA, wSeqA, plainA, wFld, wFldO, wMake, wLRg, Ans.data, Ans.own.injEq, Ans.tup.injEq, Ans.dat.injEq, wTry, wTryM, wHs, wIsC, enOf, put, putUn, defEnds, lendE, lend, wipeE, hide, lenD, intD, listD, tupleD, reprD, wPen0, wPen1, wPen2, wPenS1, wPenS2, penAt, List.map_cons, List.map_nil, List.length_cons, List.length_nil, List.nil_append, List.cons_append, Nat.reduceAdd, Nat.reduceSub, Nat.reduceLeDiff, Nat.zero_add, List.replicate_zero, List.replicate_succ, List.getElem?_cons_zero, List.getElem?_cons_succ, List.set_cons_zero, List.set_cons_succ, Option.some.injEq, Slot.dat.injEq, Slot.own.injEq, PyData.bool.injEq, PyData.int.injEq, PyData.tuple.injEq, PyData.list.injEq, exists_eq_left', exists_eq_left, and_true, true_and, if_true, if_false, Bool.false_eq_true, reduceCtorEq, List.mapIdx_cons, List.mapIdx_nil]
      refine ⟨_, _, rfl, ⟨(Ok.int (i := m) (by omega)).f, _, rfl⟩, true, ?_, ?_⟩
      · simp [numB, m0, m1]
      · simp only [Bool.not_true, if_false, Bool.false_eq_true]
        exact ih _ ⟨ms, _, rfl, rfl, fun z hz => hm z (List.mem_cons_of_mem _ hz)⟩
def w_check_settled : Wc := fun ds k Q _ => ∃ (cs : List D) (ns : List Int), ds = [.tuple cs, .tuple (ns.map PyData.int)] ∧ cs.length ≤ 4 ∧ okNs cs.length ns ∧ Q .none k
theorem m_check_settled : Wc.Mono w_check_settled := fun ds k Q Q' x x' h1 _ ⟨cs, ns, e, p1, p2, q⟩ => ⟨cs, ns, e, p1, p2, h1 _ _ q⟩
theorem d_check_settled (T : Txt K mg A) (d_is_column_set : Def P w K mg base "is_column_set" 3 ["columns", "value"] w_is_column_set) (F : FunAt K mg "check_settled" s_check_settled ["columns", "settled"]) : Def P w K mg base "check_settled" 4 ["columns", "settled"] w_check_settled := by
  refine defD F sc_check_settled (fun ds k Q x ⟨cs, ns, e, _⟩ => by rw [e]; rfl) fun f cdv Ar outer s H E p G hg hr => ⟨_, (dss_one (ds_if (dt_not (dt_val (de_fn d_is_column_set m_is_column_set hg hr (takes_of rfl rfl rfl rfl) (da_cons (de_var (pv 0)) (da_cons (de_var (pv 1)) da_nil)))))
    (dss_one (ds_raise (C := A.InvalidSettled) rfl (takes_of rfl rfl rfl rfl) PySem.F.excBase_ValueError T.x_InvalidSettled T.g_InvalidSettled T.k_InvalidSettled (raises_own T.s_InvalidSettled T.t_InvalidSettled)))
    dss_nil)), ?_⟩
  rintro ds n Q x ⟨cs, ns, rfl, hl, hn, q⟩
  simp only [wRet, wSet, wSeq, wNext, wDrop, wIfS, wTest, wAnd, wOr, wNot, wIf, wBin, wVar, wC, wAndV, wOrV, wNotV, wIsN, wNotN, wNeg, wChain, wNil, wCons, wTup, wLst, wBi, wCall, wIsi, wSl, wSo, wNo, wSeqI, wFor, gNm, gTp, puts, wAsg, wPar, wMul, wmD, wmO, putsI, wAug, wTryIs, wRng1, wRng2, wEnum, wEnumT, wZip, wLc, wYes, wLend, wRel, wOwn, wApp, wIns, wSetIx, wLstF, wListF, wRepF, wAddF, wSlS, wParO, wRevT, wSortedSet, wSortedSetL, wSortedSetT, wKeys, weI, wExt, allD, wMt, wRaise, wSeqO, wCallF, plainO, wCallA, wIdx0, wAnF, wSetA, wUnA, wSeqA, plainA, wFld, wFldO, wMake, wLRg, Ans.data, Ans.own.injEq, Ans.tup.injEq, Ans.dat.injEq, wTry, wTryM, wHs, wIsC, enOf, put, putUn, defEnds, lendE, lend, wipeE, hide, lenD, intD, listD, tupleD, reprD, wPen0, wPen1, wPen2, wPenS1, wPenS2, penAt, List.map_cons, List.map_nil, List.length_cons, List.length_nil, List.nil_append, List.cons_append, Nat.reduceAdd, Nat.reduceSub, Nat.reduceLeDiff, Nat.zero_add, List.replicate_zero, List.replicate_succ, List.getElem?_cons_zero, List.getElem?_cons_succ, List.set_cons_zero, List.set_cons_succ, Option.some.injEq, Slot.dat.injEq, Slot.own.injEq, PyData.bool.injEq, PyData.int.injEq, PyData.tuple.injEq, PyData.list.injEq, exists_eq_left', exists_eq_left, and_true, true_and, if_true, if_false, Bool.false_eq_true, reduceCtorEq, List.mapIdx_cons, List.mapIdx_nil]
  refine ⟨cs, ns, rfl, hl, hn, true, rfl, ?_⟩
  simp only [Bool.not_true, if_false, Bool.false_eq_true]
  exact q
/-- right arguments of a fix -/
structure FixOk (cs rules rows xs : List D) (ns : List Int) : Prop where
  f1 : colsB (.tuple cs) = true
  f2 : colsish (.tuple cs)
  f3 : Good (.tuple cs)
  f4 : rulsB cs (.tuple rules) = true
  f5 : Good (.tuple rules)
  f6 : tabB cs (.tuple rows) = true
  f7 : Good (.tuple rows)
  f8 : rowB cs (.tuple xs) = true
  f9 : Good (.tuple xs)
  len : cs.length ≤ 4
  set : okNs cs.length ns
def allIn (ns : List Int) (es : List D) : Bool := es.all fun | .tuple [.int i, _] => decide (i ∈ ns) | _ => false
def w_has_all_of : Wc := fun ds k Q _ => ∃ (ns : List Int) (es : List D) (m : Nat), ds = [.tuple (ns.map PyData.int), .tuple es] ∧ entsOk es m ∧ m ≤ 4 ∧ okNs m ns ∧ Q (.bool (allIn ns es)) k
theorem m_has_all_of : Wc.Mono w_has_all_of := fun ds k Q Q' x x' h1 _ ⟨ns, es, m, e, p1, p2, p3, q⟩ => ⟨ns, es, m, e, p1, p2, p3, h1 _ _ q⟩
theorem d_has_all_of (T : Txt K mg A) (F : FunAt K mg "has_all_of" s_has_all_of ["settled", "given"]) : Def P w K mg base "has_all_of" 1 ["settled", "given"] w_has_all_of := by
  refine defD F sc_has_all_of (fun ds k Q x ⟨ns, es, m, e, _⟩ => by rw [e]; rfl) fun f cdv Ar outer s H E p G hg hr => ⟨_, (dss_cons (ds_for (passes_of rfl) rfl (di_seq (de_var (pv 1))) (dg_tp rfl (dgs_cons (i := 2) sc_has_all_of.nd (dgs_cons (i := 3) sc_has_all_of.nd dgs_nil)))
    (dss_one (ds_if (dt_cmp (op_notInA (hr65 hr)) notInD.mono fitsNotIn (de_var (pv 2)) (de_var (pv 0)))
    (dss_one (ds_ret de_bl))
    dss_nil)))
    (dss_one (ds_ret de_bl))), ?_⟩
  rintro ds n Q x ⟨ns, es, m, rfl, he, hl, hn, q⟩
  simp only [wRet, wSet, wSeq, wNext, wDrop, wIfS, wTest, wAnd, wOr, wNot, wIf, wBin, wVar, wC, wAndV, wOrV, wNotV, wIsN, wNotN, wNeg, wChain, wNil, wCons, wTup, wLst, wBi, wCall, wIsi, wSl, wSo, wNo, wSeqI, wFor, gNm, gTp, puts, wAsg, wPar, wMul, wmD, wmO, putsI, wAug, wTryIs, wRng1, wRng2, wEnum, wEnumT, wZip, wLc, wYes, wLend, wRel, wOwn, wApp, wIns, wSetIx, wLstF, wListF, wRepF, wAddF, wSlS, wParO, wRevT, wSortedSet, wSortedSetL, wSortedSetT, wKeys, weI, wExt, allD, wMt, wRaise, wSeqO, wCallF, plainO, wCallA, wIdx0, wAnF, wSetA, wUnA, wSeqA, plainA, wFld, wFldO, wMake, wLRg, Ans.data, Ans.own.injEq, Ans.tup.injEq, Ans.dat.injEq, wTry, wTryM, wHs, wIsC, enOf, put, putUn, defEnds, lendE, lend, wipeE, hide, lenD, intD, listD, tupleD, reprD, wPen0, wPen1, wPen2, wPenS1, wPenS2, penAt, List.map_cons, List.map_nil, List.length_cons, List.length_nil, List.nil_append, List.cons_append, Nat.reduceAdd, Nat.reduceSub, Nat.reduceLeDiff, Nat.zero_add, List.replicate_zero, List.replicate_succ, List.getElem?_cons_zero, List.getElem?_cons_succ, List.set_cons_zero, List.set_cons_succ, Option.some.injEq, Slot.dat.injEq, Slot.own.injEq, PyData.bool.injEq, PyData.int.injEq, PyData.tuple.injEq, PyData.list.injEq, exists_eq_left', exists_eq_left, and_true, true_and, if_true, if_false, Bool.false_eq_true, reduceCtorEq, List.mapIdx_cons, List.mapIdx_nil]
  refine ⟨_, rfl, ?_⟩
  refine wLoop.ind (fun ds e => ∃ u v, e = ⟨[.dat (.tuple (ns.map PyData.int)), .dat (.tuple es), u, v], n⟩ ∧ Q (.bool (allIn ns ds)) n ∧ entsOk ds m) ?_ ?_ ⟨.un, .un, rfl, q, he⟩
  · rintro e ⟨u, v, rfl, q, _⟩
    exact q
  · rintro d ds e ih ⟨u, v, rfl, q, hf⟩
    obtain ⟨i, b, rfl, h0, h1, hb⟩ := hf d List.mem_cons_self
    have hf' : entsOk ds m := fun d hd => hf d (List.mem_cons_of_mem _ hd)
    simp only [wRet, wSet, wSeq, wNext, wDrop, wIfS, wTest, wAnd, wOr, wNot, wIf, wBin, wVar, wC, wAndV, wOrV, wNotV, wIsN, wNotN, wNeg, wChain, wNil, wCons, wTup, wLst, wBi, wCall, wIsi, wSl, wSo, wNo, wSeqI, wFor, gNm, gTp, puts, wAsg, wPar, wMul, wmD, wmO, putsI, wAug, wTryIs, wRng1, wRng2, wEnum, wEnumT, wZip, wLc, wYes, wLend, wRel, wOwn, wApp, wIns, wSetIx, wLstF, wListF, wRepF, wAddF, wSlS, wParO, wRevT, wSortedSet, wSortedSetL, wSortedSetT, wKeys, weI, wExt, allD, wMt, wRaise, wSeqO, wCallF, plainO, wCallA, wIdx0, wAnF, wSetA, wUnA, wSeqA, plainA, wFld, wFldO, wMake, wLRg, Ans.data, Ans.own.injEq, Ans.tup.injEq, Ans.dat.injEq, wTry, wTryM, wHs, wIsC, enOf, put, putUn, defEnds, lendE, lend, wipeE, hide, lenD, intD, listD, tupleD, reprD, wPen0, wPen1, wPen2, wPenS1, wPenS2, penAt, List.map_cons, List.map_nil, List.length_cons, List.length_nil, List.nil_append, List.cons_append, Nat.reduceAdd, Nat.reduceSub, Nat.reduceLeDiff, Nat.zero_add, List.replicate_zero, List.replicate_succ, List.getElem?_cons_zero, List.getElem?_cons_succ, List.set_cons_zero, List.set_cons_succ, Option.some.injEq, Slot.dat.injEq, Slot.own.injEq, PyData.bool.injEq, PyData.int.injEq, PyData.tuple.injEq, PyData.list.injEq, exists_eq_left', exists_eq_left, and_true, true_and, if_true, if_false, Bool.false_eq_true, reduceCtorEq, List.mapIdx_cons, List.mapIdx_nil]
    simp only [allIn, List.all_cons] at q
    refine ⟨(Ok.int (by omega)).good, hn.good hl, _, rfl, ?_⟩
    rw [inB_dec]
    refine ⟨_, rfl, ?_⟩
    by_cases h : i ∈ ns
    · simp only [h, decide_true, Bool.not_true, if_false, Bool.false_eq_true, Bool.true_and] at q ⊢
      exact ih _ ⟨_, _, rfl, q, hf'⟩
    · simp only [h, decide_false, Bool.not_false, if_true, Bool.false_and] at q ⊢
      exact q
/-! ### the values that a rule settles -/
/-- z is a value to which the rule settles its column -/
def Settles (es : List D) (c : Int) (v : D) (rows xs : List D) (z : Int) : Prop :=
  (v = .int z ∧ hasB es xs = true) ∨ (v = .none ∧ ∃ ys, PyData.tuple ys ∈ rows ∧ hasB es xs = true ∧ likeB es xs ys = true ∧ ys.getD c.toNat .none = .int z)
/-- rows of m ints -/
def intRow (m : Nat) (xs : List D) : Prop := xs.length = m ∧ ∀ x ∈ xs, ∃ i : Int, x = .int i ∧ 0 ≤ i ∧ i < 2 ^ 120
def w_settling_values : Wc := fun ds k Q _ => ∃ (es rows xs : List D) (c : Int) (v : D) (m : Nat), ds = [.tuple [.tuple es, .int c, v], .tuple rows, .tuple xs] ∧ entsOk es m ∧ intRow m xs ∧ (∀ d ∈ rows, ∃ ys, d = .tuple ys ∧ intRow m ys) ∧ rows.length ≤ 8 ∧ 0 ≤ c ∧ c < m ∧ (v = .none ∨ ∃ i : Int, v = .int i ∧ 0 ≤ i ∧ i < 2 ^ 120) ∧
  ∀ ms : List Int, ms.Pairwise (· < ·) → (∀ z, z ∈ ms ↔ Settles es c v rows xs z) → ms.length ≤ 8 → Q (.list (ms.map PyData.int)) k
theorem m_settling_values : Wc.Mono w_settling_values := fun ds k Q Q' x x' h1 _ ⟨es, rows, xs, c, v, m, e, p1, p2, p3, p4, p5, p6, p7, q⟩ => ⟨es, rows, xs, c, v, m, e, p1, p2, p3, p4, p5, p6, p7, fun ms a b d => h1 _ _ (q ms a b d)⟩
theorem intRow.good {m : Nat} {xs : List D} (h : intRow m xs) : ∀ d ∈ xs, Good d := fun d hd => by
  obtain ⟨i, rfl, i0, i1⟩ := h.2 d hd
  exact (Ok.int (by omega)).good
theorem d_settling_values (T : Txt K mg A) (d_is_value_rule : Def P w K mg base "is_value_rule" 1 ["rule"] w_is_value_rule) (d_has_given : Def P w K mg base "has_given" 1 ["given", "row"] w_has_given) (d_are_alike : Def P w K mg base "are_alike" 2 ["given", "one", "other"] w_are_alike) (F : FunAt K mg "settling_values" s_settling_values ["rule", "master", "row"]) : Def P w K mg base "settling_values" 3 ["rule", "master", "row"] w_settling_values := by
  refine defD F sc_settling_values (fun ds k Q x ⟨es, rows, xs, c, v, m, e, _⟩ => by rw [e]; rfl) fun f cdv Ar outer s H E p G hg hr => ⟨_, (dss_cons (ds_asg (de_var (pv 0)) (dg_tp rfl (dgs_cons (i := 3) sc_settling_values.nd (dgs_cons (i := 4) sc_settling_values.nd (dgs_cons (i := 5) sc_settling_values.nd dgs_nil)))))
    (dss_cons (ds_if (dt_val (de_fn d_is_value_rule m_is_value_rule hg hr (takes_of rfl rfl rfl rfl) (da_cons (de_var (pv 0)) da_nil)))
    (dss_one (ds_ret (de_if (dt_val (de_fn d_has_given m_has_given hg hr (takes_of rfl rfl rfl rfl) (da_cons (de_var (pv 3)) (da_cons (de_var (pv 2)) da_nil)))) (de_lst (da_cons (de_var (pv 5)) da_nil)) (de_lst da_nil))))
    dss_nil)
    (dss_keys (j := 6) (vs := [7]) (passes_of rfl) rfl hr.units sc_settling_values.nd (by decide) (fun _ _ => (di_seq (de_var (pv 1)))) (fun _ _ => (dgc_nm (i := 7) sc_settling_values.nd (by decide))) (fun _ _ => (dt_val (de_fn d_are_alike m_are_alike hg hr takes0 (da_cons (de_var (pv 3)) (da_cons (de_var (pv 2)) (da_cons (de_var (pv 7)) da_nil)))))) (fun _ _ => (de_idx (de_var (pv 7)) (de_var (pv 4)))) (pv 6) (pv 6) T.z_sorted))), ?_⟩
  rintro ds n Q x ⟨es, rows, xs, c, v, m, rfl, he, hx, hrows, hl, c0, c1, hv, q⟩
  simp only [wRet, wSet, wSeq, wNext, wDrop, wIfS, wTest, wAnd, wOr, wNot, wIf, wBin, wVar, wC, wAndV, wOrV, wNotV, wIsN, wNotN, wNeg, wChain, wNil, wCons, wTup, wLst, wBi, wCall, wIsi, wSl, wSo, wNo, wSeqI, wFor, gNm, gTp, puts, wAsg, wPar, wMul, wmD, wmO, putsI, wAug, wTryIs, wRng1, wRng2, wEnum, wEnumT, wZip, wLc, wYes, wLend, wRel, wOwn, wApp, wIns, wSetIx, wLstF, wListF, wRepF, wAddF, wSlS, wParO, wRevT, wSortedSet, wSortedSetL, wSortedSetT, wKeys, weI, wExt, allD, wMt, wRaise, wSeqO, wCallF, plainO, wCallA, wIdx0, wAnF, wSetA, wUnA, wSeqA, plainA, wFld, wFldO, wMake, wLRg, Ans.data, Ans.own.injEq, Ans.tup.injEq, Ans.dat.injEq, wTry, wTryM, wHs, wIsC, enOf, put, putUn, defEnds, lendE, lend, wipeE, hide, lenD, intD, listD, tupleD, reprD, wPen0, wPen1, wPen2, wPenS1, wPenS2, penAt, List.map_cons, List.map_nil, List.length_cons, List.length_nil, List.nil_append, List.cons_append, Nat.reduceAdd, Nat.reduceSub, Nat.reduceLeDiff, Nat.zero_add, List.replicate_zero, List.replicate_succ, List.getElem?_cons_zero, List.getElem?_cons_succ, List.set_cons_zero, List.set_cons_succ, Option.some.injEq, Slot.dat.injEq, Slot.own.injEq, PyData.bool.injEq, PyData.int.injEq, PyData.tuple.injEq, PyData.list.injEq, exists_eq_left', exists_eq_left, and_true, true_and, if_true, if_false, Bool.false_eq_true, reduceCtorEq, List.mapIdx_cons, List.mapIdx_nil]
  have none_int : ∀ z : Int, (PyData.none = .int z) = False := fun z => by simp
  rcases hv with rfl | ⟨i, rfl, i0, i1⟩
  · refine ⟨_, rfl, ⟨_, _, _, rfl⟩, false, rfl, ?_⟩
    simp only [if_false, Bool.false_eq_true]
    refine ⟨rfl, by decide, _, rfl, ?_⟩
    refine lcLoop.ind (fun acc ds k => k = n ∧ ∃ (done : List D) (ns : List Int), rows = done ++ ds ∧ acc = ns.map PyData.int ∧ ns.length ≤ done.length ∧ ∀ z, z ∈ ns ↔ ∃ ys, PyData.tuple ys ∈ done ∧ hasB es xs = true ∧ likeB es xs ys = true ∧ ys.getD c.toNat .none = .int z) ?_ ?_ ⟨rfl, [], [], rfl, rfl, Nat.le_refl _, fun z => by simp⟩
    · rintro acc k ⟨rfl, done, ns, ed, ea, hnl, hz⟩
      rw [List.append_nil] at ed
      subst ed
      refine ⟨ns, ea, by omega, fun ms h1 h2 h3 => q ms h1 (fun z => ?_) (by omega)⟩
      rw [h2, hz]
      simp [Settles]
    · rintro d ds acc k ih ⟨rfl, done, ns, ed, rfl, hnl, hz⟩
      obtain ⟨ys, rfl, hy⟩ := hrows d (by rw [ed]; simp)
      simp (decide := true) only [if_false] at ih ⊢
      simp only [wRet, wSet, wSeq, wNext, wDrop, wIfS, wTest, wAnd, wOr, wNot, wIf, wBin, wVar, wC, wAndV, wOrV, wNotV, wIsN, wNotN, wNeg, wChain, wNil, wCons, wTup, wLst, wBi, wCall, wIsi, wSl, wSo, wNo, wSeqI, wFor, gNm, gTp, puts, wAsg, wPar, wMul, wmD, wmO, putsI, wAug, wTryIs, wRng1, wRng2, wEnum, wEnumT, wZip, wLc, wYes, wLend, wRel, wOwn, wApp, wIns, wSetIx, wLstF, wListF, wRepF, wAddF, wSlS, wParO, wRevT, wSortedSet, wSortedSetL, wSortedSetT, wKeys, weI, wExt, allD, wMt, wRaise, wSeqO, wCallF, plainO, wCallA, wIdx0, wAnF, wSetA, wUnA, wSeqA, plainA, wFld, wFldO, wMake, wLRg, Ans.data, Ans.own.injEq, Ans.tup.injEq, Ans.dat.injEq, wTry, wTryM, wHs, wIsC, enOf, put, putUn, defEnds, lendE, lend, wipeE, hide, lenD, intD, listD, tupleD, reprD, wPen0, wPen1, wPen2, wPenS1, wPenS2, penAt, List.map_cons, List.map_nil, List.length_cons, List.length_nil, List.nil_append, List.cons_append, Nat.reduceAdd, Nat.reduceSub, Nat.reduceLeDiff, Nat.zero_add, List.replicate_zero, List.replicate_succ, List.getElem?_cons_zero, List.getElem?_cons_succ, List.set_cons_zero, List.set_cons_succ, Option.some.injEq, Slot.dat.injEq, Slot.own.injEq, PyData.bool.injEq, PyData.int.injEq, PyData.tuple.injEq, PyData.list.injEq, exists_eq_left', exists_eq_left, and_true, true_and, if_true, if_false, Bool.false_eq_true, reduceCtorEq, List.mapIdx_cons, List.mapIdx_nil]
      refine ⟨es, xs, ys, rfl, by rw [hx.1]; exact he, by rw [hy.1, hx.1], hx.good, hy.good, _, rfl, ?_⟩
      have ed' : rows = (done ++ [PyData.tuple ys]) ++ ds := by rw [ed]; simp
      have dl : done.length < 8 := by
        have := congrArg List.length ed
        rw [List.length_append, List.length_cons] at this
        omega
      by_cases h : (hasB es xs && likeB es xs ys) = true
      · rw [if_pos h]
        rw [Bool.and_eq_true] at h
        have cy : c < ys.length := by rw [hy.1]; exact c1
        obtain ⟨z, ez, z0, z1⟩ := hy.2 _ (getD_mem c0 cy)
        refine ⟨_, atI_pos c0 cy, z, ez, by rw [List.length_map]; omega, ?_⟩
        refine ih _ _ ⟨rfl, done ++ [PyData.tuple ys], ns ++ [z], ed', by rw [List.map_append, ez] <;> rfl, by simp; omega, fun u => ?_⟩
        rw [List.mem_append, hz, List.mem_singleton]
        constructor
        · rintro (⟨os, h1, h2⟩ | rfl)
          · exact ⟨os, List.mem_append_left _ h1, h2⟩
          · exact ⟨ys, List.mem_append_right _ (List.mem_singleton.mpr rfl), h.1, h.2, ez⟩
        · rintro ⟨os, h1, h2, h3, h4⟩
          rcases List.mem_append.mp h1 with h1 | h1
          · exact .inl ⟨os, h1, h2, h3, h4⟩
          · have e := List.mem_singleton.mp h1
            injection e with e
            rw [e, ez] at h4
            injection h4 with h4
            exact .inr h4.symm
      · rw [if_neg h]
        refine ih _ _ ⟨rfl, done ++ [PyData.tuple ys], ns, ed', rfl, by simp; omega, fun u => ?_⟩
        rw [hz]
        constructor
        · rintro ⟨os, h1, h2⟩
          exact ⟨os, List.mem_append_left _ h1, h2⟩
        · rintro ⟨os, h1, h2, h3, h4⟩
          rcases List.mem_append.mp h1 with h1 | h1
          · exact ⟨os, h1, h2, h3, h4⟩
          · have e := List.mem_singleton.mp h1
            injection e with e
            rw [e] at h3
            exact absurd (by rw [h2, h3] <;> rfl) h
  · refine ⟨_, rfl, ⟨_, _, _, rfl⟩, true, rfl, ?_⟩
    simp only [if_true]
    refine ⟨_, _, rfl, ⟨es, xs, rfl, rfl, by rw [hx.1]; exact he, hx.good⟩, _, rfl, ?_⟩
    by_cases h : hasB es xs = true
    · rw [if_pos h]
      exact q [i] (List.pairwise_singleton _ _) (fun z => ⟨fun hz => .inl ⟨by rw [List.mem_singleton.mp hz], h⟩, fun hz => by
        rcases hz with ⟨e, _⟩ | ⟨e, _⟩
        · injection e with e
          rw [e]
          exact List.mem_singleton.mpr rfl
        · cases e⟩) (by simp)
    · rw [if_neg h]
      exact q [] .nil (fun z => ⟨fun hz => (nomatch hz), fun hz => by
        rcases hz with ⟨_, e⟩ | ⟨e, _⟩
        · exact absurd e h
        · cases e⟩) (by simp)
end
end L2.DL.K46
namespace L2.DL.K46
open PySem PySem.Spec
      PyProof.Rows
/-! ### the law's own: rules, tables, breaks -/
theorem ite_f {c : Bool} {a b : Prop} (hc : c = false) (h : b) : if c = true then a else b := by rw [if_neg (by rw [hc]; decide)]; exact h
theorem cut_to {xs : List D} {i : Nat} (h : i ≤ xs.length) : cutD xs none (some (i : Int)) = xs.take i := by
  unfold cutD
  rw [show HT.sIx xs.length 0 none = 0 from rfl, HT.sIx_nat, Nat.min_eq_left h, List.drop_zero, Nat.sub_zero]
theorem cut_from {xs : List D} {i : Nat} (h : i ≤ xs.length) : cutD xs (some (i : Int)) none = xs.drop i := by
  unfold cutD
  rw [show HT.sIx xs.length xs.length none = xs.length from rfl, HT.sIx_nat, Nat.min_eq_left h]
  exact List.take_of_length_le
        (by rw [List.length_drop]; omega)
theorem cut_one {xs : List D} {i : Nat} (h : i < xs.length) : cutD xs (some (i : Int)) (some ((i : Int) + 1)) = [xs.getD i .none] := by
  unfold cutD
  rw [show ((i : Int) + 1) = ((i + 1 : Nat) : Int) from rfl, HT.sIx_nat, HT.sIx_nat, Nat.min_eq_left (show i ≤ xs.length by omega), Nat.min_eq_left (show i + 1 ≤ xs.length by omega), show i + 1 - i = 1 by omega, List.drop_eq_getElem_cons h, List.getD_eq_getElem?_getD, List.getElem?_eq_getElem h]
  rfl
theorem mix {os rs : List D} {i : Nat} (h : i < os.length) (h' : i < rs.length) : cutD os none (some (i : Int)) ++ cutD rs (some (i : Int)) (some ((i : Int) + 1)) ++ cutD os (some ((i : Int) + 1)) none = os.set i (rs.getD i .none) := by
  rw [cut_to (by omega), cut_one h', show ((i : Int) + 1) = ((i + 1 : Nat) : Int) from rfl, cut_from (by omega), List.set_eq_take_append_cons_drop, if_pos h, List.append_assoc]
  rfl
theorem okRow.at {cs ys : List D} {i : Nat} (h : okRow cs ys) (i1 : i < cs.length) : okVal (cs.getD i .none) (ys.getD i .none) := by
  obtain ⟨v, h1, h2⟩ := h.2 i _ (List.getElem?_eq_getElem i1)
  rw [List.getD_eq_getElem?_getD, List.getD_eq_getElem?_getD, h1, List.getElem?_eq_getElem i1]
  exact h2
theorem okRow.put {cs ys : List D} {i : Nat} {v : D} (h : okRow cs ys) (i1 : i < cs.length) (hv : okVal (cs.getD i .none) v) : okRow cs (ys.set i v) := by
  refine ⟨by rw [List.length_set]; exact h.1, fun j c hc => ?_⟩
  by_cases e : i = j
  · subst e
    rw [List.getD_eq_getElem?_getD, hc] at hv
    exact ⟨v, List.getElem?_set_self (by rw [h.1]; omega), hv⟩
  · rw [List.getElem?_set_ne e]
    exact h.2 j c hc
section
variable {P : Program} {w : World} {K : PySem.W.Frag} {mg : Str → Option Value} {base : Heap} {A : Cls}
def w_law_table : Wc := fun ds k Q _ => ∃ (cs : List D) (m : Int) (k' : Nat), ds = [penD, .tuple cs, .int m] ∧ 0 ≤ m ∧ m ≤ 8 ∧ k = k' + 200 ∧ (∀ d ∈ cs, okCol d) ∧ 1 ≤ cs.length ∧ cs.length ≤ 4 ∧ ∀ ts k'', k' ≤ k'' → okTab cs ts → (ts.length : Int) = m → Q (.tuple ts) k''
theorem m_law_table : Wc.Mono w_law_table := fun ds k Q Q' x x' h1 _ ⟨cs, m, k', p0, p1, p2, p3, p4, p5, p6, q⟩ => ⟨cs, m, k', p0, p1, p2, p3, p4, p5, p6, fun g k'' l z y => h1 _ _ (q g k'' l z y)⟩
theorem d_law_table (T : Txt K mg A) (d_law_take : Def P w K mg base "_law_take" 2 ["_law_pen", "_law_many"] w_law_take) (d_law_one : Def P w K mg base "_law_one" 3 ["_law_pen", "_law_some"] w_law_one) (d_law_row : Def P w K mg base "_law_row" 5 ["_law_pen", "_law_columns_here"] w_law_row) (F : FunAt K mg "_law_table" s_law_table ["_law_pen", "_law_columns_here", "_law_many"]) : Def P w K mg base "_law_table" 6 ["_law_pen", "_law_columns_here", "_law_many"] w_law_table := by
  refine defD F sc_law_table (fun ds k Q x ⟨cs, m, k', e, _⟩ => by rw [e]; rfl) fun f cdv Ar outer s H E p G hg hr => ⟨_, (dss_cons (ds_set (i := 3) (de_tup da_nil) sc_law_table.nd)
    (dss_cons (ds_for (passes_of rfl) rfl (di_rng1 (de_var (pv 2)) T.z_range) (dg_nm (i := 4) sc_law_table.nd)
    (dss_cons (ds_set (i := 5) (de_fn d_law_row m_law_row hg hr (takes_of rfl rfl rfl rfl) (da_cons (de_var (pv 0)) (da_cons (de_var (pv 1)) da_nil))) sc_law_table.nd)
    (dss_cons (ds_if (DW.dt (dw_and (dt_cmp op_gt cmpD.mono fitsCmp (de_var (pv 4)) de_int) (dw_and1 (dt_cmp (op_eqA hr.units) eqD.mono fitsEq (de_fn d_law_take m_law_take hg hr (takes_of rfl rfl rfl rfl) (da_cons (de_var (pv 0)) (da_cons de_int da_nil))) de_int))))
    (dss_cons (ds_set (i := 6) (de_fn d_law_take m_law_take hg hr (takes_of rfl rfl rfl rfl) (da_cons (de_var (pv 0)) (da_cons (de_bi lenD.mono fitsLen call_len_seq (da_cons (de_var (pv 1)) da_nil) T.z_len) da_nil))) sc_law_table.nd)
    (dss_cons (ds_set (i := 7) (de_fn d_law_one m_law_one hg hr (takes_of rfl rfl rfl rfl) (da_cons (de_var (pv 0)) (da_cons (de_var (pv 3)) da_nil))) sc_law_table.nd)
    (dss_one (ds_set (i := 5) (de_bin op_addA addD.mono fitsAdd (de_bin op_addA addD.mono fitsAdd (de_sl (de_var (pv 7)) do_none (do_some (de_var (pv 6)))) (de_sl (de_var (pv 5)) (do_some (de_var (pv 6))) (do_some (de_bin op_addA addD.mono fitsAdd (de_var (pv 6)) de_int)))) (de_sl (de_var (pv 7)) (do_some (de_bin op_addA addD.mono fitsAdd (de_var (pv 6)) de_int)) do_none)) sc_law_table.nd))))
    dss_nil)
    (dss_one (ds_set (i := 3) (de_bin op_addA addD.mono fitsAdd (de_var (pv 3)) (de_tup (da_cons (de_var (pv 5)) da_nil))) sc_law_table.nd)))))
    (dss_one (ds_ret (de_var (pv 3)))))), ?_⟩
  rintro ds n Q x ⟨cs, m, k', rfl, m0, m8, rfl, hcs, hc1, hcl, q⟩
  simp only [wRet, wSet, wSeq, wNext, wDrop, wIfS, wTest, wAnd, wOr, wNot, wIf, wBin, wVar, wC, wAndV, wOrV, wNotV, wIsN, wNotN, wNeg, wChain, wNil, wCons, wTup, wLst, wBi, wCall, wIsi, wSl, wSo, wNo, wSeqI, wFor, gNm, gTp, puts, wAsg, wPar, wMul, wmD, wmO, putsI, wAug, wTryIs, wRng1, wRng2, wEnum, wEnumT, wZip, wLc, wYes, wLend, wRel, wOwn, wApp, wIns, wSetIx, wLstF, wListF, wRepF, wAddF, wSlS, wParO, wRevT, wSortedSet, wSortedSetL, wSortedSetT, wKeys, weI, wExt, allD, wMt, wRaise, wSeqO, wCallF, plainO, wCallA, wIdx0, wAnF, wSetA, wUnA, wSeqA, plainA, wFld, wFldO, wMake, wLRg, Ans.data, Ans.own.injEq, Ans.tup.injEq, Ans.dat.injEq, wTry, wTryM, wHs, wIsC, enOf, put, putUn, defEnds, lendE, lend, wipeE, hide, lenD, intD, listD, tupleD, reprD, wPen0, wPen1, wPen2, wPenS1, wPenS2, penAt, List.map_cons, List.map_nil, List.length_cons, List.length_nil, List.nil_append, List.cons_append, Nat.reduceAdd, Nat.reduceSub, Nat.reduceLeDiff, Nat.zero_add, List.replicate_zero, List.replicate_succ, List.getElem?_cons_zero, List.getElem?_cons_succ, List.set_cons_zero, List.set_cons_succ, Option.some.injEq, Slot.dat.injEq, Slot.own.injEq, PyData.bool.injEq, PyData.int.injEq, PyData.tuple.injEq, PyData.list.injEq, exists_eq_left', exists_eq_left, and_true, true_and, if_true, if_false, Bool.false_eq_true, reduceCtorEq, List.mapIdx_cons, List.mapIdx_nil]
  refine ⟨by omega,
        by omega, ?_⟩
  refine wLoop.ind (fun ds e => ∃ (ts : List D) (u4 u5 u6 u7 : Slot) (k : Nat), e = ⟨[.dat penD, .dat (.tuple cs), .dat (.int m), .dat (.tuple ts), u4, u5, u6, u7], k⟩ ∧ ds = rngD ts.length (m.toNat - ts.length) ∧ ts.length ≤ m.toNat ∧ (∀ d ∈ ts, ∃ xs, d = .tuple xs ∧ okRow cs xs) ∧ k' + 20 * (m.toNat - ts.length) ≤ k) ?_ ?_
    ⟨[], _, _, _, _, _, rfl, rfl, Nat.zero_le _, fun d hd => (nomatch hd), by rw [List.length_nil]; omega⟩
  · rintro e ⟨ts, u4, u5, u6, u7, k, rfl, hd, hl, ht, hk⟩
    have em : m.toNat - ts.length = 0 := by
      have := congrArg List.length hd
      rw [rngD_length, List.length_nil] at this
      exact this.symm
    exact ⟨_, rfl, q ts k (by omega) ⟨by omega, ht⟩ (by omega)⟩
  · rintro d ds e ih ⟨ts, u4, u5, u6, u7, k, rfl, hd, hl, ht, hk⟩
    obtain ⟨t, ht'⟩ : ∃ t, m.toNat - ts.length = t + 1 := by
      have := congrArg List.length hd
      rw [rngD_length, List.length_cons] at this
      exact ⟨ds.length, this.symm⟩
    rw [ht', rngD_succ] at hd
    injection hd with hd1 hd2
    subst hd1 hd2
    obtain ⟨k, rfl⟩ : ∃ k0, k = k0 + 20 := ⟨k - 20, by omega⟩
    simp only [wRet, wSet, wSeq, wNext, wDrop, wIfS, wTest, wAnd, wOr, wNot, wIf, wBin, wVar, wC, wAndV, wOrV, wNotV, wIsN, wNotN, wNeg, wChain, wNil, wCons, wTup, wLst, wBi, wCall, wIsi, wSl, wSo, wNo, wSeqI, wFor, gNm, gTp, puts, wAsg, wPar, wMul, wmD, wmO, putsI, wAug, wTryIs, wRng1, wRng2, wEnum, wEnumT, wZip, wLc, wYes, wLend, wRel, wOwn, wApp, wIns, wSetIx, wLstF, wListF, wRepF, wAddF, wSlS, wParO, wRevT, wSortedSet, wSortedSetL, wSortedSetT, wKeys, weI, wExt, allD, wMt, wRaise, wSeqO, wCallF, plainO, wCallA, wIdx0, wAnF, wSetA, wUnA, wSeqA, plainA, wFld, wFldO, wMake, wLRg, Ans.data, Ans.own.injEq, Ans.tup.injEq, Ans.dat.injEq, wTry, wTryM, wHs, wIsC, enOf, put, putUn, defEnds, lendE, lend, wipeE, hide, lenD, intD, listD, tupleD, reprD, wPen0, wPen1, wPen2, wPenS1, wPenS2, penAt, List.map_cons, List.map_nil, List.length_cons, List.length_nil, List.nil_append, List.cons_append, Nat.reduceAdd, Nat.reduceSub, Nat.reduceLeDiff, Nat.zero_add, List.replicate_zero, List.replicate_succ, List.getElem?_cons_zero, List.getElem?_cons_succ, List.set_cons_zero, List.set_cons_succ, Option.some.injEq, Slot.dat.injEq, Slot.own.injEq, PyData.bool.injEq, PyData.int.injEq, PyData.tuple.injEq, PyData.list.injEq, exists_eq_left', exists_eq_left, and_true, true_and, if_true, if_false, Bool.false_eq_true, reduceCtorEq, List.mapIdx_cons, List.mapIdx_nil]
    refine ⟨cs, k + 4, rfl, rfl, hcs, hcl, fun xs k2 l2 hx => ?_⟩
    dsimp only
    have more : ∀ (ys : List D) (e' : En) (k5 : Nat) (v6 v7 : Slot), okRow cs ys → k + 0 ≤ k5 + 0 → e' = ⟨[.dat penD, .dat (.tuple cs), .dat (.int m), .dat (.tuple (ts ++ [.tuple ys])), .dat (.int ts.length), .dat (.tuple ys), v6, v7], k5⟩ → _ := fun ys e' k5 v6 v7 hy hk5 ee => ih e' ⟨ts ++ [.tuple ys], _, _, _, _, k5, ee, by
      rw [List.length_append, List.length_singleton, show m.toNat - (ts.length + 1) = t by omega]
      rfl, by rw [List.length_append, List.length_singleton]; omega, fun d hd => (List.mem_append.mp hd).elim (ht d) fun h => by cases List.mem_singleton.mp h; exact ⟨ys, rfl, hy⟩, by rw [List.length_append, List.length_singleton]; omega⟩
    have tl1 : ts.length + 1 ≤ sizeLine := by rw [sizeLine_eq]; omega
    refine ⟨_, rfl, ?_⟩
    by_cases h0 : (0 : Int) < ts.length
    · refine ite_t (decide_eq_true h0) ?_
      obtain ⟨k2, rfl⟩ : ∃ k0, k2 = k0 + 3 := ⟨k2 - 3, by omega⟩
      refine ⟨2, k2 + 2, rfl, rfl, by decide, small9 (by decide), fun r r0 r2 k3 l3 => ⟨.inl rfl, _, rfl, ?_⟩⟩
      rw [eqv_ints]
      by_cases hr0 : r = 0
      · rw [if_pos (decide_eq_true hr0)]
        obtain ⟨k3, rfl⟩ : ∃ k0, k3 = k0 + 2 := ⟨k3 - 2, by omega⟩
        refine ⟨cs.length, k3 + 1, rfl, rfl, by omega, small9 (by omega), fun at_ a0 a1 k4 l4 => ?_⟩
        obtain ⟨k4, rfl⟩ : ∃ k0, k4 = k0 + 1 := ⟨k4 - 1, by omega⟩
        refine ⟨_, ts, k4, rfl, rfl, rfl, (fun z => by rw [z] at h0; exact absurd h0 (by decide)), by omega, fun o ho k5 l5 => ?_⟩
        obtain ⟨os, rfl, hos⟩ := ht o ho
        obtain ⟨i, rfl⟩ : ∃ i : Nat, at_ = i := ⟨at_.toNat, by omega⟩
        have il : i < cs.length := by omega
        have em := mix (os := os) (rs := xs) (i := i) (by rw [hos.1]; exact il) (by rw [hx.1]; exact il)
        have cl : ∀ {ys : List D} {lo hi : Option Int}, (cutD ys lo hi).length ≤ ys.length := fun {ys lo hi} => by
          unfold cutD
          rw [List.length_take,
                List.length_drop]
          omega
        have c1 := cl (ys := os) (lo := none) (hi := some (i : Int))
        have c2 := cl (ys := xs) (lo := some (i : Int)) (hi := some ((i : Int) + 1))
        have c3 := cl (ys := os) (lo := some ((i : Int) + 1)) (hi := none)
        have o1 := hos.1
        have x1 := hx.1
        refine ⟨_, rfl, _, rfl, _, rfl, by rw [sizeLine_eq]; omega, _, rfl, by rw [sizeLine_eq, List.length_append]; omega, ?_⟩
        rw [em]
        exact ⟨tl1, more _ _ k5 _ _ (hos.put il (hx.at il)) (by omega) rfl⟩
      · rw [if_neg (by rw [decide_eq_false hr0] <;> decide)]
        exact ⟨tl1, more _ _ k3 _ _ hx (by omega) rfl⟩
    · refine ite_f (decide_eq_false h0) ?_
      exact ⟨tl1, more _ _ k2 _ _ hx (by omega) rfl⟩
end
end L2.DL.K46
namespace L2.DL.K46
open PySem PySem.Spec
      PyProof.Rows
/-! ### the steps that are possible -/
/-- in order: by the rule, then by the value -/
def before (s t : List Int) : Prop := ∃ k c z k' c' z' : Int, s = [k, c, z] ∧ t = [k', c', z'] ∧ (k < k' ∨ (k = k' ∧ c = c' ∧ z < z'))
/-- t is a step that the i-th rule makes possible -/
def StepAt (rules rows xs : List D) (ns : List Int) (i : Nat) (t : List Int) : Prop :=
  ∃ (es : List D) (c : Int) (v : D) (z : Int), rules[i]? = some (.tuple [.tuple es, .int c, v]) ∧ t = [(i : Int), c, z] ∧ c ∉ ns ∧ allIn ns es = true ∧ Settles es c v rows xs z
/-- rules as they are asked for here -/
def ruleOk (m : Nat) (r : D) : Prop := ∃ (es : List D) (c : Int) (v : D), r = .tuple [.tuple es, .int c, v] ∧ entsOk es m ∧ 0 ≤ c ∧ c < m ∧ (v = .none ∨ ∃ i : Int, v = .int i ∧ 0 ≤ i ∧ i < 2 ^ 120)
structure StepsIn (m : Nat) (rules rows xs : List D) (ns : List Int) : Prop where
  m4 : m ≤ 4
  rl : ∀ r ∈ rules, ruleOk m r
  r8 : rules.length ≤ 8
  tb : ∀ d ∈ rows, ∃ ys, d = .tuple ys ∧ intRow m ys
  t8 : rows.length ≤ 8
  row : intRow m xs
  set : okNs m ns
theorem steps_more {rules rows xs : List D} {ns : List Int} {ts : List (List Int)} {j : Nat} {es : List D} {c : Int} {v : D} (hr : rules[j]? = some (.tuple [.tuple es, .int c, v])) (hp : ts.Pairwise before)
    (hm : ∀ t, t ∈ ts ↔ ∃ i, i < j ∧ StepAt rules rows xs ns i t) (ms : List Int) (mp : ms.Pairwise (· < ·)) (hz : ∀ z, z ∈ ms ↔ (c ∉ ns ∧ allIn ns es = true ∧ Settles es c v rows xs z)) :
    (ts ++ ms.map fun z => [(j : Int), c, z]).Pairwise before ∧ ∀ t, t ∈ (ts ++ ms.map fun z => [(j : Int), c, z]) ↔ ∃ i, i < j + 1 ∧ StepAt rules rows xs ns i t := by
  refine ⟨List.pairwise_append.mpr ⟨hp, List.pairwise_map.mpr (mp.imp fun {a b} lt => ⟨_, _, _, _, _, _, rfl, rfl, .inr ⟨rfl, rfl, lt⟩⟩), fun s hs t ht => ?_⟩, fun t => ?_⟩
  · obtain ⟨i, hi, es', c', v', z', _, rfl, _⟩ := (hm s).mp hs
    obtain ⟨z, _, rfl⟩ := List.mem_map.mp ht
    exact ⟨_, _, _, _, _, _, rfl, rfl, .inl (by omega)⟩
  · rw [List.mem_append, hm]
    constructor
    · rintro (⟨i, hi, h⟩ | h)
      · exact ⟨i, by omega, h⟩
      · obtain ⟨z, h1, rfl⟩ := List.mem_map.mp h
        obtain ⟨a, b, d⟩ := (hz z).mp h1
        exact ⟨j, by omega, es, c, v, z, hr, rfl, a, b, d⟩
    · rintro ⟨i, hi, h⟩
      by_cases e : i = j
      · subst e
        obtain ⟨es', c', v', z, h1, rfl, h2, h3, h4⟩ := h
        rw [hr] at h1
        injection h1 with h1
        injection h1 with h1
        injection h1 with h1 h5
        injection h5 with h5 h6
        injection h6 with h6 _
        injection h1 with h1
        injection h5 with h5
        subst h1 h5 h6
        exact .inr (List.mem_map.mpr ⟨z, (hz z).mpr ⟨h2, h3, h4⟩, rfl⟩)
      · exact .inl ⟨i, by omega, h⟩
section
variable {P : Program} {w : World} {K : PySem.W.Frag} {mg : Str → Option Value} {base : Heap} {A : Cls}
def w_possible_steps : Wo := fun ds k Q _ => ∃ (m : Nat) (rules rows xs : List D) (ns : List Int), ds = [.tuple rules, .tuple rows, .tuple xs, .tuple (ns.map PyData.int)] ∧ StepsIn m rules rows xs ns ∧
  ∀ ts : List (List Int), ts.Pairwise before → (∀ t, t ∈ ts ↔ ∃ i, i < rules.length ∧ StepAt rules rows xs ns i t) → ts.length ≤ 64 → Q (ts.map tupI) k
theorem n_possible_steps : Wo.Mono w_possible_steps := fun ds k Q Q' x x' h1 _ ⟨m, rules, rows, xs, ns, e, p1, q⟩ => ⟨m, rules, rows, xs, ns, e, p1, fun ts a b c => h1 _ _ (q ts a b c)⟩
theorem o_possible_steps (T : Txt K mg A) (d_has_all_of : Def P w K mg base "has_all_of" 1 ["settled", "given"] w_has_all_of) (d_settling_values : Def P w K mg base "settling_values" 3 ["rule", "master", "row"] w_settling_values) (F : FunAt K mg "possible_steps" s_possible_steps ["rules", "master", "row", "settled"]) : DefO P w K mg base "possible_steps" 4 ["rules", "master", "row", "settled"] w_possible_steps := by
  refine defO F sc_possible_steps (fun ds k Q x ⟨m, rules, rows, xs, ns, e, _⟩ => by rw [e]; rfl) fun f cdv Ar outer s H E p G hg hr => ⟨_, (dso_cons (ds_own (i := 4) (df_lst da_nil) sc_possible_steps.nd)
    (dso_cons (ds_for (passes_of rfl) rfl (di_rng1 (de_bi lenD.mono fitsLen call_len_seq (da_cons (de_var (pv 0)) da_nil) T.z_len) T.z_range) (dg_nm (i := 5) sc_possible_steps.nd)
    (dss_cons (ds_asg (de_idx (de_var (pv 0)) (de_var (pv 5))) (dg_tp rfl (dgs_cons (i := 6) sc_possible_steps.nd (dgs_cons (i := 7) sc_possible_steps.nd (dgs_cons (i := 8) sc_possible_steps.nd dgs_nil)))))
    (dss_one (ds_if (DW.dt (dw_and (dt_cmp (op_notInA (hr65 hr)) notInD.mono fitsNotIn (de_var (pv 7)) (de_var (pv 3))) (dw_and1 (dt_val (de_fn d_has_all_of m_has_all_of hg hr (takes_of rfl rfl rfl rfl) (da_cons (de_var (pv 3)) (da_cons (de_var (pv 6)) da_nil)))))))
    (dss_one (ds_for (passes_of rfl) rfl (di_seq (de_fn d_settling_values m_settling_values hg hr (takes_of rfl rfl rfl rfl) (da_cons (de_idx (de_var (pv 0)) (de_var (pv 5))) (da_cons (de_var (pv 1)) (da_cons (de_var (pv 2)) da_nil))))) (dg_nm (i := 9) sc_possible_steps.nd)
    (dss_one (ds_append (i := 4) (de_tup (da_cons (de_var (pv 5)) (da_cons (de_var (pv 7)) (da_cons (de_var (pv 9)) da_nil)))) (pv 4)))))
    dss_nil))))
    (dso_own (pv 4)))), ?_⟩
  rintro ds n Q x ⟨m, rules, rows, xs, ns, rfl, h, q⟩
  simp only [wRet, wSet, wSeq, wNext, wDrop, wIfS, wTest, wAnd, wOr, wNot, wIf, wBin, wVar, wC, wAndV, wOrV, wNotV, wIsN, wNotN, wNeg, wChain, wNil, wCons, wTup, wLst, wBi, wCall, wIsi, wSl, wSo, wNo, wSeqI, wFor, gNm, gTp, puts, wAsg, wPar, wMul, wmD, wmO, putsI, wAug, wTryIs, wRng1, wRng2, wEnum, wEnumT, wZip, wLc, wYes, wLend, wRel, wOwn, wApp, wIns, wSetIx, wLstF, wListF, wRepF, wAddF, wSlS, wParO, wRevT, wSortedSet, wSortedSetL, wSortedSetT, wKeys, weI, wExt, allD, wMt, wRaise, wSeqO, wCallF, plainO, wCallA, wIdx0, wAnF, wSetA, wUnA, wSeqA, plainA, wFld, wFldO, wMake, wLRg, Ans.data, Ans.own.injEq, Ans.tup.injEq, Ans.dat.injEq, wTry, wTryM, wHs, wIsC, enOf, put, putUn, defEnds, lendE, lend, wipeE, hide, lenD, intD, listD, tupleD, reprD, wPen0, wPen1, wPen2, wPenS1, wPenS2, penAt, List.map_cons, List.map_nil, List.length_cons, List.length_nil, List.nil_append, List.cons_append, Nat.reduceAdd, Nat.reduceSub, Nat.reduceLeDiff, Nat.zero_add, List.replicate_zero, List.replicate_succ, List.getElem?_cons_zero, List.getElem?_cons_succ, List.set_cons_zero, List.set_cons_succ, Option.some.injEq, Slot.dat.injEq, Slot.own.injEq, PyData.bool.injEq, PyData.int.injEq, PyData.tuple.injEq, PyData.list.injEq, exists_eq_left', exists_eq_left, and_true, true_and, if_true, if_false, Bool.false_eq_true, reduceCtorEq, List.mapIdx_cons, List.mapIdx_nil]
  have r8 := h.r8
  refine ⟨by omega,
        by omega, ?_⟩
  rw [Int.toNat_natCast]
  refine wLoop.ind (fun ds e => ∃ (j : Nat) (ts : List (List Int)) (u5 u6 u7 u8 u9 : Slot), e = ⟨[.dat (.tuple rules), .dat (.tuple rows), .dat (.tuple xs), .dat (.tuple (ns.map PyData.int)), .own (ts.map tupI), u5, u6, u7, u8, u9], n⟩ ∧ j ≤ rules.length ∧ ds = rngD j (rules.length - j) ∧
      ts.Pairwise before ∧ (∀ t, t ∈ ts ↔ ∃ i, i < j ∧ StepAt rules rows xs ns i t) ∧ ts.length ≤ 8 * j) ?_ ?_ ⟨0, [], _, _, _, _, _, rfl, Nat.zero_le _, rfl, .nil, fun t => ⟨fun z => (nomatch z), fun ⟨i, hi, _⟩ => (nomatch hi)⟩, Nat.zero_le _⟩
  · rintro e ⟨j, ts, u5, u6, u7, u8, u9, rfl, hj, hd, hp, hm, hl⟩
    have ej : j = rules.length := by
      have := congrArg List.length hd
      rw [rngD_length, List.length_nil] at this
      omega
    subst ej
    exact ⟨_, rfl, q ts hp hm (by omega)⟩
  · rintro d ds e ih ⟨j, ts, u5, u6, u7, u8, u9, rfl, hj, hd, hp, hm, hl⟩
    obtain ⟨t, ht⟩ : ∃ t, rules.length - j = t + 1 := by
      have := congrArg List.length hd
      rw [rngD_length, List.length_cons] at this
      exact ⟨ds.length, this.symm⟩
    rw [ht, rngD_succ] at hd
    injection hd with hd1 hd2
    subst hd1 hd2
    have jl : j < rules.length := by omega
    have j1 : (j : Int) < rules.length := by omega
    obtain ⟨es, c, v, er, he, c0, c1, hv⟩ := h.rl rules[j] (List.getElem_mem jl)
    have hr : rules[j]? = some (.tuple [.tuple es, .int c, v]) := by rw [List.getElem?_eq_getElem jl, er]
    have at1 : atI rules (j : Int) = some (.tuple [.tuple es, .int c, v]) := by
      rw [atI_pos (Int.natCast_nonneg j) j1, Int.toNat_natCast, List.getD_eq_getElem?_getD, hr] <;> rfl
    have tl : rngD ((j : Int) + 1) t = rngD ((j + 1 : Nat) : Int) (rules.length - (j + 1)) := by
      rw [show rules.length - (j + 1) = t by omega]
      rfl
    have next : ∀ (ms : List Int) (u5 u6 u7 u8 u9 : Slot), ms.Pairwise (· < ·) → ms.length ≤ 8 → (∀ z, z ∈ ms ↔ (c ∉ ns ∧ allIn ns es = true ∧ Settles es c v rows xs z)) →
        wLoop _ _ _ _ (⟨[.dat (.tuple rules), .dat (.tuple rows), .dat (.tuple xs), .dat (.tuple (ns.map PyData.int)), .own ((ts ++ ms.map fun z => [(j : Int), c, z]).map tupI), u5, u6, u7, u8, u9], n⟩ : En) := fun ms u5 u6 u7 u8 u9 m1 m2 m3 => by
      obtain ⟨a, b⟩ := steps_more hr hp hm ms m1 m3
      exact ih _ ⟨j + 1, _, u5, u6, u7, u8, u9, rfl, by omega, tl, a, b, by rw [List.length_append, List.length_map]; omega⟩
    have next0 : ∀ (u5 u6 u7 u8 u9 : Slot), (∀ z, ¬ (c ∉ ns ∧ allIn ns es = true ∧ Settles es c v rows xs z)) → wLoop _ _ _ _ (⟨[.dat (.tuple rules), .dat (.tuple rows), .dat (.tuple xs), .dat (.tuple (ns.map PyData.int)), .own (ts.map tupI), u5, u6, u7, u8, u9], n⟩ : En) := fun u5 u6 u7 u8 u9 no => by
      have z := next [] u5 u6 u7 u8 u9 .nil (Nat.zero_le _) fun z => ⟨fun y => (nomatch y), fun y => absurd y (no z)⟩
      rw [List.map_nil, List.append_nil] at z
      exact z
    simp only [wRet, wSet, wSeq, wNext, wDrop, wIfS, wTest, wAnd, wOr, wNot, wIf, wBin, wVar, wC, wAndV, wOrV, wNotV, wIsN, wNotN, wNeg, wChain, wNil, wCons, wTup, wLst, wBi, wCall, wIsi, wSl, wSo, wNo, wSeqI, wFor, gNm, gTp, puts, wAsg, wPar, wMul, wmD, wmO, putsI, wAug, wTryIs, wRng1, wRng2, wEnum, wEnumT, wZip, wLc, wYes, wLend, wRel, wOwn, wApp, wIns, wSetIx, wLstF, wListF, wRepF, wAddF, wSlS, wParO, wRevT, wSortedSet, wSortedSetL, wSortedSetT, wKeys, weI, wExt, allD, wMt, wRaise, wSeqO, wCallF, plainO, wCallA, wIdx0, wAnF, wSetA, wUnA, wSeqA, plainA, wFld, wFldO, wMake, wLRg, Ans.data, Ans.own.injEq, Ans.tup.injEq, Ans.dat.injEq, wTry, wTryM, wHs, wIsC, enOf, put, putUn, defEnds, lendE, lend, wipeE, hide, lenD, intD, listD, tupleD, reprD, wPen0, wPen1, wPen2, wPenS1, wPenS2, penAt, List.map_cons, List.map_nil, List.length_cons, List.length_nil, List.nil_append, List.cons_append, Nat.reduceAdd, Nat.reduceSub, Nat.reduceLeDiff, Nat.zero_add, List.replicate_zero, List.replicate_succ, List.getElem?_cons_zero, List.getElem?_cons_succ, List.set_cons_zero, List.set_cons_succ, Option.some.injEq, Slot.dat.injEq, Slot.own.injEq, PyData.bool.injEq, PyData.int.injEq, PyData.tuple.injEq, PyData.list.injEq, exists_eq_left', exists_eq_left, and_true, true_and, if_true, if_false, Bool.false_eq_true, reduceCtorEq, List.mapIdx_cons, List.mapIdx_nil]
    have m4 := h.m4
    refine ⟨_, at1, _, rfl, rfl, ?_⟩
    simp only [wRet, wSet, wSeq, wNext, wDrop, wIfS, wTest, wAnd, wOr, wNot, wIf, wBin, wVar, wC, wAndV, wOrV, wNotV, wIsN, wNotN, wNeg, wChain, wNil, wCons, wTup, wLst, wBi, wCall, wIsi, wSl, wSo, wNo, wSeqI, wFor, gNm, gTp, puts, wAsg, wPar, wMul, wmD, wmO, putsI, wAug, wTryIs, wRng1, wRng2, wEnum, wEnumT, wZip, wLc, wYes, wLend, wRel, wOwn, wApp, wIns, wSetIx, wLstF, wListF, wRepF, wAddF, wSlS, wParO, wRevT, wSortedSet, wSortedSetL, wSortedSetT, wKeys, weI, wExt, allD, wMt, wRaise, wSeqO, wCallF, plainO, wCallA, wIdx0, wAnF, wSetA, wUnA, wSeqA, plainA, wFld, wFldO, wMake, wLRg, Ans.data, Ans.own.injEq, Ans.tup.injEq, Ans.dat.injEq, wTry, wTryM, wHs, wIsC, enOf, put, putUn, defEnds, lendE, lend, wipeE, hide, lenD, intD, listD, tupleD, reprD, wPen0, wPen1, wPen2, wPenS1, wPenS2, penAt, List.map_cons, List.map_nil, List.length_cons, List.length_nil, List.nil_append, List.cons_append, Nat.reduceAdd, Nat.reduceSub, Nat.reduceLeDiff, Nat.zero_add, List.replicate_zero, List.replicate_succ, List.getElem?_cons_zero, List.getElem?_cons_succ, List.set_cons_zero, List.set_cons_succ, Option.some.injEq, Slot.dat.injEq, Slot.own.injEq, PyData.bool.injEq, PyData.int.injEq, PyData.tuple.injEq, PyData.list.injEq, exists_eq_left', exists_eq_left, and_true, true_and, if_true, if_false, Bool.false_eq_true, reduceCtorEq, List.mapIdx_cons, List.mapIdx_nil]
    refine ⟨(Ok.int (by omega)).good, h.set.good h.m4, _, rfl, _, rfl, ?_⟩
    rw [inB_dec]
    by_cases hc : c ∈ ns
    · simp only [hc, decide_true, Bool.not_true, if_false, Bool.false_eq_true]
      exact next0 _ _ _ _ _ fun z y => absurd hc y.1
    · simp only [hc, decide_false, Bool.not_false, if_true]
      refine ⟨ns, es, m, rfl, he, h.m4, h.set, _, rfl, ?_⟩
      by_cases ha : allIn ns es = true
      · rw [if_pos ha]
        refine ⟨_, at1, es, rows, xs, c, v, m, rfl, he, h.row, h.tb, h.t8, c0, c1, hv, fun ms m1 m2 m3 => ⟨_, rfl, ?_⟩⟩
        refine wLoop.ind (fun ds e => ∃ (as bs : List Int) (u9 : Slot), ms = as ++ bs ∧ ds = bs.map PyData.int ∧ e = ⟨[.dat (.tuple rules), .dat (.tuple rows), .dat (.tuple xs), .dat (.tuple (ns.map PyData.int)), .own ((ts ++ as.map fun z => [(j : Int), c, z]).map tupI), .dat (.int j), .dat (.tuple es), .dat (.int c), .dat v, u9], n⟩) ?_ ?_ ⟨[], ms, _, rfl, rfl, by rw [List.map_nil, List.append_nil]⟩
        · rintro e ⟨as, bs, u9, em, eb, rfl⟩
          have : bs = [] := by
            cases bs with
            | nil => rfl
            | cons b bs => cases eb
          subst this
          rw [List.append_nil] at em
          subst em
          exact next _ _ _ _ _ _ m1 m3 fun z => ⟨fun y => ⟨hc, ha, (m2 z).mp y⟩, fun y => (m2 z).mpr y.2.2⟩
        · rintro d ds e ih2 ⟨as, bs, u9, em, eb, rfl⟩
          cases bs with
          | nil => cases eb
          | cons b bs =>
            rw [List.map_cons] at eb
            injection eb with e1 e2
            subst e1 e2
            simp only [wRet, wSet, wSeq, wNext, wDrop, wIfS, wTest, wAnd, wOr, wNot, wIf, wBin, wVar, wC, wAndV, wOrV, wNotV, wIsN, wNotN, wNeg, wChain, wNil, wCons, wTup, wLst, wBi, wCall, wIsi, wSl, wSo, wNo, wSeqI, wFor, gNm, gTp, puts, wAsg, wPar, wMul, wmD, wmO, putsI, wAug, wTryIs, wRng1, wRng2, wEnum, wEnumT, wZip, wLc, wYes, wLend, wRel, wOwn, wApp, wIns, wSetIx, wLstF, wListF, wRepF, wAddF, wSlS, wParO, wRevT, wSortedSet, wSortedSetL, wSortedSetT, wKeys, weI, wExt, allD, wMt, wRaise, wSeqO, wCallF, plainO, wCallA, wIdx0, wAnF, wSetA, wUnA, wSeqA, plainA, wFld, wFldO, wMake, wLRg, Ans.data, Ans.own.injEq, Ans.tup.injEq, Ans.dat.injEq, wTry, wTryM, wHs, wIsC, enOf, put, putUn, defEnds, lendE, lend, wipeE, hide, lenD, intD, listD, tupleD, reprD, wPen0, wPen1, wPen2, wPenS1, wPenS2, penAt, List.map_cons, List.map_nil, List.length_cons, List.length_nil, List.nil_append, List.cons_append, Nat.reduceAdd, Nat.reduceSub, Nat.reduceLeDiff, Nat.zero_add, List.replicate_zero, List.replicate_succ, List.getElem?_cons_zero, List.getElem?_cons_succ, List.set_cons_zero, List.set_cons_succ, Option.some.injEq, Slot.dat.injEq, Slot.own.injEq, PyData.bool.injEq, PyData.int.injEq, PyData.tuple.injEq, PyData.list.injEq, exists_eq_left', exists_eq_left, and_true, true_and, if_true, if_false, Bool.false_eq_true, reduceCtorEq, List.mapIdx_cons, List.mapIdx_nil]
            have ml := congrArg List.length em
            rw [List.length_append, List.length_cons] at ml
            refine ⟨⟨_, rfl⟩, by rw [List.length_map, List.length_append, List.length_map]; omega, ih2 _ ⟨as ++ [b], bs, .dat (.int b), by rw [em]; simp, rfl, ?_⟩⟩
            have eo : (ts ++ (as ++ [b]).map fun z => [(j : Int), c, z]).map tupI = (ts ++ as.map fun z => [(j : Int), c, z]).map tupI ++ [.tuple [.int (j : Int), .int c, .int b]] := by simp
            rw [eo]
      · rw [if_neg ha]
        exact next0 _ _ _ _ _ fun z y => absurd y.2.1 ha
/-! ### next_steps -/
end
end L2.DL.K46
namespace L2.DL.K46
open PySem PySem.Spec
      PyProof.Rows
/-! ### a case -/
structure CaseOk (cs rules rows xs : List D) (ns : List Int) : Prop where
  cols : okCols (.tuple cs)
  r8 : rules.length ≤ 8
  rl : ∀ r ∈ rules, okRule cs r
  tab : okTab cs rows
  row : okRow cs xs
  set : okNs cs.length ns
  ne : 1 ≤ rows.length
section
variable {P : Program} {w : World} {K : PySem.W.Frag} {mg : Str → Option Value} {base : Heap} {A : Cls}
def w_law_case : Wc := fun ds k Q _ => ∃ k' : Nat, ds = [penD] ∧ k = k' + 520 ∧ ∀ cs rules rows xs ns k'', k' ≤ k'' → CaseOk cs rules rows xs ns → Q (.tuple [.tuple cs, .tuple rules, .tuple rows, .tuple xs, .tuple (ns.map PyData.int)]) k''
theorem m_law_case : Wc.Mono w_law_case := fun ds k Q Q' x x' h1 _ ⟨k', e, p1, q⟩ => ⟨k', e, p1, fun a b c d f g l z => h1 _ _ (q a b c d f g l z)⟩
theorem d_law_case (T : Txt K mg A) (d_law_columns : Def P w K mg base "_law_columns" 3 ["_law_pen", "_law_most"] w_law_columns) (d_law_take : Def P w K mg base "_law_take" 2 ["_law_pen", "_law_many"] w_law_take) (d_law_rule : Def P w K mg base "_law_rule" 6 ["_law_pen", "_law_columns_here"] w_law_rule) (d_law_table : Def P w K mg base "_law_table" 6 ["_law_pen", "_law_columns_here", "_law_many"] w_law_table) (d_law_one : Def P w K mg base "_law_one" 3 ["_law_pen", "_law_some"] w_law_one) (d_law_row : Def P w K mg base "_law_row" 5 ["_law_pen", "_law_columns_here"] w_law_row) (F : FunAt K mg "_law_case" s_law_case ["_law_pen"]) : Def P w K mg base "_law_case" 8 ["_law_pen"] w_law_case := by
  refine defD F sc_law_case (fun ds k Q x ⟨k', e, _⟩ => by rw [e]; rfl) fun f cdv Ar outer s H E p G hg hr => ⟨_, (dss_cons (ds_set (i := 1) (de_fn d_law_columns m_law_columns hg hr (takes_of rfl rfl rfl rfl) (da_cons (de_var (pv 0)) (da_cons de_int da_nil))) sc_law_case.nd)
    (dss_cons (ds_set (i := 2) (de_tup da_nil) sc_law_case.nd)
    (dss_cons (ds_for (passes_of rfl) rfl (di_rng1 (de_fn d_law_take m_law_take hg hr (takes_of rfl rfl rfl rfl) (da_cons (de_var (pv 0)) (da_cons de_int da_nil))) T.z_range) (dg_nm (i := 3) sc_law_case.nd)
    (dss_one (ds_set (i := 2) (de_bin op_addA addD.mono fitsAdd (de_var (pv 2)) (de_tup (da_cons (de_fn d_law_rule m_law_rule hg hr (takes_of rfl rfl rfl rfl) (da_cons (de_var (pv 0)) (da_cons (de_var (pv 1)) da_nil))) da_nil))) sc_law_case.nd)))
    (dss_cons (ds_set (i := 4) (de_fn d_law_table m_law_table hg hr (takes_of rfl rfl rfl rfl) (da_cons (de_var (pv 0)) (da_cons (de_var (pv 1)) (da_cons (de_fn d_law_one m_law_one hg hr (takes_of rfl rfl rfl rfl) (da_cons (de_var (pv 0)) (da_cons (de_lst (da_cons de_int (da_cons de_int (da_cons de_int (da_cons de_int (da_cons de_int (da_cons de_int da_nil))))))) da_nil))) da_nil)))) sc_law_case.nd)
    (dss_cons (ds_set (i := 5) (de_fn d_law_one m_law_one hg hr (takes_of rfl rfl rfl rfl) (da_cons (de_var (pv 0)) (da_cons (de_lst (da_cons (de_fn d_law_row m_law_row hg hr (takes_of rfl rfl rfl rfl) (da_cons (de_var (pv 0)) (da_cons (de_var (pv 1)) da_nil))) (da_cons (de_fn d_law_one m_law_one hg hr (takes_of rfl rfl rfl rfl) (da_cons (de_var (pv 0)) (da_cons (de_var (pv 4)) da_nil))) da_nil))) da_nil))) sc_law_case.nd)
    (dss_cons (ds_set (i := 6) (de_bt tupleD.mono fitsTuple call_tuple_of (da_cons (de_lc (own := [("_law_k", 3)]) rfl sc_law_case.nd (di_rng1 (de_bi lenD.mono fitsLen call_len_seq (da_cons (de_var (pv 1)) da_nil) T.z_len) T.z_range) (blkOk_by (N := ["_law_pen", "_law_columns_here", "_law_rules", "_law_k", "_law_master", "_law_row_here", "_law_settled"]) (sc := defScope s_law_case) (by decide +kernel)) (fun _ _ _ _ _ _ _ => (dgc_nm (i := 3) sc_law_case.nd (by decide))) (fun _ _ _ _ _ _ _ => (dts_one (dt_cmp op_lt cmpD.mono fitsCmp (de_fn d_law_take m_law_take hg hr takes0 (da_cons (de_var (pv 0)) (da_cons de_int da_nil))) de_int))) (fun _ _ _ _ _ _ _ => (de_var (pv 3)))) da_nil) T.z_tuple) sc_law_case.nd)
    (dss_one (ds_ret (de_tup (da_cons (de_var (pv 1)) (da_cons (de_var (pv 2)) (da_cons (de_var (pv 4)) (da_cons (de_var (pv 5)) (da_cons (de_var (pv 6)) da_nil)))))))))))))), ?_⟩
  rintro ds n Q x ⟨k', rfl, rfl, q⟩
  simp only [wRet, wSet, wSeq, wNext, wDrop, wIfS, wTest, wAnd, wOr, wNot, wIf, wBin, wVar, wC, wAndV, wOrV, wNotV, wIsN, wNotN, wNeg, wChain, wNil, wCons, wTup, wLst, wBi, wCall, wIsi, wSl, wSo, wNo, wSeqI, wFor, gNm, gTp, puts, wAsg, wPar, wMul, wmD, wmO, putsI, wAug, wTryIs, wRng1, wRng2, wEnum, wEnumT, wZip, wLc, wYes, wLend, wRel, wOwn, wApp, wIns, wSetIx, wLstF, wListF, wRepF, wAddF, wSlS, wParO, wRevT, wSortedSet, wSortedSetL, wSortedSetT, wKeys, weI, wExt, allD, wMt, wRaise, wSeqO, wCallF, plainO, wCallA, wIdx0, wAnF, wSetA, wUnA, wSeqA, plainA, wFld, wFldO, wMake, wLRg, Ans.data, Ans.own.injEq, Ans.tup.injEq, Ans.dat.injEq, wTry, wTryM, wHs, wIsC, enOf, put, putUn, defEnds, lendE, lend, wipeE, hide, lenD, intD, listD, tupleD, reprD, wPen0, wPen1, wPen2, wPenS1, wPenS2, penAt, List.map_cons, List.map_nil, List.length_cons, List.length_nil, List.nil_append, List.cons_append, Nat.reduceAdd, Nat.reduceSub, Nat.reduceLeDiff, Nat.zero_add, List.replicate_zero, List.replicate_succ, List.getElem?_cons_zero, List.getElem?_cons_succ, List.set_cons_zero, List.set_cons_succ, Option.some.injEq, Slot.dat.injEq, Slot.own.injEq, PyData.bool.injEq, PyData.int.injEq, PyData.tuple.injEq, PyData.list.injEq, exists_eq_left', exists_eq_left, and_true, true_and, if_true, if_false, Bool.false_eq_true, reduceCtorEq, List.mapIdx_cons, List.mapIdx_nil, addD]
  refine ⟨[.int 4], k' + 490, rfl, by omega, ⟨4, rfl, by decide, by decide⟩, fun c k1 l1 hc => ?_⟩
  obtain ⟨cs, rfl, hcs, hc1, hcl, hcn⟩ := id hc
  obtain ⟨k1, rfl⟩ : ∃ k0, k1 = k0 + 490 := ⟨k1 - 490, by omega⟩
  refine ⟨9, k1 + 489, rfl, rfl, by decide, small9 (by decide), fun t t0 t1 k2 l2 => ⟨_, rfl, by omega, by omega, ?_⟩⟩
  obtain ⟨k2, rfl⟩ : ∃ k0, k2 = k0 + 489 := ⟨k2 - 489, by omega⟩
  refine wLoop.ind (fun ds e => ∃ (rs : List D) (u3 u4 u5 u6 : Slot) (k3 : Nat), e = ⟨[.dat penD, .dat (.tuple cs), .dat (.tuple rs), u3, u4, u5, u6], k3⟩ ∧ rs.length + ds.length ≤ 8 ∧ (∀ r ∈ rs, okRule cs r) ∧ k2 + 245 + 30 * ds.length ≤ k3) ?_ ?_ ⟨[], _, _, _, _, k2 + 489, rfl, by rw [rngD_length, List.length_nil]; omega, fun r h => (nomatch h), by rw [rngD_length]; omega⟩
  · rintro e ⟨rs, u3, u4, u5, u6, k3, rfl, hl, hr, hk⟩
    rw [List.length_nil] at hl hk
    obtain ⟨k3, rfl⟩ : ∃ k0, k3 = k0 + 240 := ⟨k3 - 240, by omega⟩
    refine ⟨_, rfl, _, rfl, _, rfl, _, _, k3 + 239, rfl, rfl, rfl, by simp, by simp, fun r hr' k4 l4 => ?_⟩
    obtain ⟨m, rfl, m1, m8⟩ : ∃ m : Int, r = .int m ∧ 1 ≤ m ∧ m ≤ 8 := by
      simp only [List.mem_cons, List.not_mem_nil, or_false] at hr'
      rcases hr' with rfl | rfl | rfl | rfl | rfl | rfl <;> exact ⟨_, rfl, by decide, by decide⟩
    obtain ⟨k4, rfl⟩ : ∃ k0, k4 = k0 + 200 := ⟨k4 - 200, by omega⟩
    refine ⟨cs, m, k4, rfl, by omega, m8, rfl, hcs, hc1, hcl, fun ts k5 l5 ht hlen => ?_⟩
    obtain ⟨k5, rfl⟩ : ∃ k0, k5 = k0 + 16 := ⟨k5 - 16, by omega⟩
    refine ⟨_, rfl, _, rfl, _, rfl, cs, k5, rfl, rfl, hcs, hcl, fun xs k6 l6 hx => ⟨_, rfl, _, rfl, ?_⟩⟩
    obtain ⟨k6, rfl⟩ : ∃ k0, k6 = k0 + 1 := ⟨k6 - 1, by omega⟩
    refine ⟨_, ts, k6, rfl, rfl, rfl, (fun z => by rw [z, List.length_nil] at hlen; omega), by have := ht.1; omega, fun o ho k7 l7 => ?_⟩
    obtain ⟨os, rfl, hos⟩ := ht.2 o ho
    obtain ⟨k7, rfl⟩ : ∃ k0, k7 = k0 + 1 := ⟨k7 - 1, by omega⟩
    refine ⟨_, [.tuple xs, .tuple os], k7, rfl, rfl, rfl, by simp, by simp, fun y hy k8 l8 => ?_⟩
    obtain ⟨ys, rfl, hys⟩ : ∃ ys, y = .tuple ys ∧ okRow cs ys := by
      simp only [List.mem_cons, List.not_mem_nil, or_false] at hy
      rcases hy with rfl | rfl
      · exact ⟨_, rfl, hx⟩
      · exact ⟨_, rfl, hos⟩
    refine ⟨_, rfl, _, rfl, by omega, by omega, ?_⟩
    rw [Int.toNat_natCast]
    simp (decide := true) only [wRet, wSet, wSeq, wNext, wDrop, wIfS, wTest, wAnd, wOr, wNot, wIf, wBin, wVar, wC, wAndV, wOrV, wNotV, wIsN, wNotN, wNeg, wChain, wNil, wCons, wTup, wLst, wBi, wCall, wIsi, wSl, wSo, wNo, wSeqI, wFor, gNm, gTp, puts, wAsg, wPar, wMul, wmD, wmO, putsI, wAug, wTryIs, wRng1, wRng2, wEnum, wEnumT, wZip, wLc, wYes, wLend, wRel, wOwn, wApp, wIns, wSetIx, wLstF, wListF, wRepF, wAddF, wSlS, wParO, wRevT, wSortedSet, wSortedSetL, wSortedSetT, wKeys, weI, wExt, allD, wMt, wRaise, wSeqO, wCallF, plainO, wCallA, wIdx0, wAnF, wSetA, wUnA, wSeqA, plainA, wFld, wFldO, wMake, wLRg, Ans.data, Ans.own.injEq, Ans.tup.injEq, Ans.dat.injEq, wTry, wTryM, wHs, wIsC, enOf, put, putUn, defEnds, lendE, lend, wipeE, hide, lenD, intD, listD, tupleD, reprD, wPen0, wPen1, wPen2, wPenS1, wPenS2, penAt, List.map_cons, List.map_nil, List.length_cons, List.length_nil, List.nil_append, List.cons_append, Nat.reduceAdd, Nat.reduceSub, Nat.reduceLeDiff, Nat.zero_add, List.replicate_zero, List.replicate_succ, List.getElem?_cons_zero, List.getElem?_cons_succ, List.set_cons_zero, List.set_cons_succ, Option.some.injEq, Slot.dat.injEq, Slot.own.injEq, PyData.bool.injEq, PyData.int.injEq, PyData.tuple.injEq, PyData.list.injEq, exists_eq_left', exists_eq_left, and_true, true_and, if_true, if_false, Bool.false_eq_true, reduceCtorEq, List.mapIdx_cons, List.mapIdx_nil]
    refine lcLoop.ind (fun acc ds k9 => ∃ (j : Nat) (ns : List Int), ds = rngD j (cs.length - j) ∧ acc = ns.map PyData.int ∧ ns.Pairwise (· < ·) ∧ (∀ n ∈ ns, 0 ≤ n ∧ n < (j : Int)) ∧ j ≤ cs.length ∧ ns.length ≤ j ∧ k' + 4 + 1 * (cs.length - j) ≤ k9) ?_ ?_ ⟨0, [], rfl, rfl, .nil, fun n h => (nomatch h), Nat.zero_le _, Nat.zero_le _, by omega⟩
    · rintro acc k9 ⟨j, ns, hd, rfl, hp, hn, hj, hnl, hk9⟩
      have ej : j = cs.length := by
        have := congrArg List.length hd
        rw [rngD_length, List.length_nil] at this
        omega
      subst ej
      exact q cs rs ts ys ns k9 (by omega) ⟨hc, by omega, hr, ht, hys, ⟨hp, hn⟩, by omega⟩
    · rintro d ds acc k9 ih9 ⟨j, ns, hd, rfl, hp, hn, hj, hnl, hk9⟩
      obtain ⟨t, ht⟩ : ∃ t, cs.length - j = t + 1 := by
        have := congrArg List.length hd
        rw [rngD_length, List.length_cons] at this
        exact ⟨ds.length, this.symm⟩
      rw [ht, rngD_succ] at hd
      injection hd with hd1 hd2
      subst hd1 hd2
      obtain ⟨k9, rfl⟩ : ∃ k0, k9 = k0 + 1 := ⟨k9 - 1, by omega⟩
      have tl : rngD ((j : Int) + 1) t = rngD ((j + 1 : Nat) : Int) (cs.length - (j + 1)) := by
        rw [show cs.length - (j + 1) = t by omega]
        rfl
      simp (decide := true) only [wRet, wSet, wSeq, wNext, wDrop, wIfS, wTest, wAnd, wOr, wNot, wIf, wBin, wVar, wC, wAndV, wOrV, wNotV, wIsN, wNotN, wNeg, wChain, wNil, wCons, wTup, wLst, wBi, wCall, wIsi, wSl, wSo, wNo, wSeqI, wFor, gNm, gTp, puts, wAsg, wPar, wMul, wmD, wmO, putsI, wAug, wTryIs, wRng1, wRng2, wEnum, wEnumT, wZip, wLc, wYes, wLend, wRel, wOwn, wApp, wIns, wSetIx, wLstF, wListF, wRepF, wAddF, wSlS, wParO, wRevT, wSortedSet, wSortedSetL, wSortedSetT, wKeys, weI, wExt, allD, wMt, wRaise, wSeqO, wCallF, plainO, wCallA, wIdx0, wAnF, wSetA, wUnA, wSeqA, plainA, wFld, wFldO, wMake, wLRg, Ans.data, Ans.own.injEq, Ans.tup.injEq, Ans.dat.injEq, wTry, wTryM, wHs, wIsC, enOf, put, putUn, defEnds, lendE, lend, wipeE, hide, lenD, intD, listD, tupleD, reprD, wPen0, wPen1, wPen2, wPenS1, wPenS2, penAt, List.map_cons, List.map_nil, List.length_cons, List.length_nil, List.nil_append, List.cons_append, Nat.reduceAdd, Nat.reduceSub, Nat.reduceLeDiff, Nat.zero_add, List.replicate_zero, List.replicate_succ, List.getElem?_cons_zero, List.getElem?_cons_succ, List.set_cons_zero, List.set_cons_succ, Option.some.injEq, Slot.dat.injEq, Slot.own.injEq, PyData.bool.injEq, PyData.int.injEq, PyData.tuple.injEq, PyData.list.injEq, exists_eq_left', exists_eq_left, and_true, true_and, if_true, if_false, Bool.false_eq_true, reduceCtorEq, List.mapIdx_cons, List.mapIdx_nil]
      refine ⟨5, k9, rfl, rfl, by decide, small9 (by decide), fun r r0 r1 k10 l10 => ⟨_, rfl, ?_⟩⟩
      by_cases h2 : r < 2
      · rw [if_pos (decide_eq_true h2)]
        refine ⟨by rw [List.length_map]; omega, ih9 _ _ ⟨j + 1, ns ++ [(j : Int)], tl, by rw [List.map_append] <;> rfl, ?_, fun n h => ?_, by omega, by rw [List.length_append, List.length_singleton]; omega, by omega⟩⟩
        · exact List.pairwise_append.mpr ⟨hp, List.pairwise_singleton _ _, fun a ha b hb => by rw [List.mem_singleton.mp hb]; exact (hn a ha).2⟩
        · rcases List.mem_append.mp
              h with h | h
          · have := hn n h
            omega
          · rw [List.mem_singleton.mp h]
            omega
      · rw [if_neg (by simpa using h2)]
        exact ih9 _ _ ⟨j + 1, ns, tl, rfl, hp, fun n h => by have := hn n h; omega, by omega, by omega, by omega⟩
  · rintro d ds e ih ⟨rs, u3, u4, u5, u6, k3, rfl, hl, hr, hk⟩
    rw [List.length_cons] at hl hk
    obtain ⟨k3, rfl⟩ : ∃ k0, k3 = k0 + 30 := ⟨k3 - 30, by omega⟩
    simp only [wRet, wSet, wSeq, wNext, wDrop, wIfS, wTest, wAnd, wOr, wNot, wIf, wBin, wVar, wC, wAndV, wOrV, wNotV, wIsN, wNotN, wNeg, wChain, wNil, wCons, wTup, wLst, wBi, wCall, wIsi, wSl, wSo, wNo, wSeqI, wFor, gNm, gTp, puts, wAsg, wPar, wMul, wmD, wmO, putsI, wAug, wTryIs, wRng1, wRng2, wEnum, wEnumT, wZip, wLc, wYes, wLend, wRel, wOwn, wApp, wIns, wSetIx, wLstF, wListF, wRepF, wAddF, wSlS, wParO, wRevT, wSortedSet, wSortedSetL, wSortedSetT, wKeys, weI, wExt, allD, wMt, wRaise, wSeqO, wCallF, plainO, wCallA, wIdx0, wAnF, wSetA, wUnA, wSeqA, plainA, wFld, wFldO, wMake, wLRg, Ans.data, Ans.own.injEq, Ans.tup.injEq, Ans.dat.injEq, wTry, wTryM, wHs, wIsC, enOf, put, putUn, defEnds, lendE, lend, wipeE, hide, lenD, intD, listD, tupleD, reprD, wPen0, wPen1, wPen2, wPenS1, wPenS2, penAt, List.map_cons, List.map_nil, List.length_cons, List.length_nil, List.nil_append, List.cons_append, Nat.reduceAdd, Nat.reduceSub, Nat.reduceLeDiff, Nat.zero_add, List.replicate_zero, List.replicate_succ, List.getElem?_cons_zero, List.getElem?_cons_succ, List.set_cons_zero, List.set_cons_succ, Option.some.injEq, Slot.dat.injEq, Slot.own.injEq, PyData.bool.injEq, PyData.int.injEq, PyData.tuple.injEq, PyData.list.injEq, exists_eq_left', exists_eq_left, and_true, true_and, if_true, if_false, Bool.false_eq_true, reduceCtorEq, List.mapIdx_cons, List.mapIdx_nil]
    refine ⟨cs, k3, rfl, rfl, hcs, hc1, hcl, fun r k4 l4 ho => ⟨by rw [sizeLine_eq, List.length_singleton]; omega, ih _ ⟨rs ++ [r], _, _, _, _, k4, rfl, by rw [List.length_append, List.length_singleton]; omega, fun u hu => (List.mem_append.mp hu).elim (hr u) fun h => by rw [List.mem_singleton.mp h]; exact ho, by omega⟩⟩⟩
/-! ### the law's own steps -/
def w_law_matches : Wc := fun ds k Q _ => ∃ (es xs : List D), ds = [.tuple es, .tuple xs] ∧ entsOk es xs.length ∧ (∀ d ∈ xs, Good d) ∧ es.length ≤ 100 ∧ Q (.bool (hasB es xs)) k
theorem m_law_matches : Wc.Mono w_law_matches := fun ds k Q Q' x x' h1 _ ⟨es, xs, p1, p2, p3, p5, q⟩ => ⟨es, xs, p1, p2, p3, p5, h1 _ _ q⟩
def hasE (xs : List D) : D → Bool
  | .tuple [.int i, b] => isN b || PyData.eqv (xs.getD i.toNat .none) b
  | _ => false
theorem d_law_matches (T : Txt K mg A) (F : FunAt K mg "_law_matches" s_law_matches ["_law_given", "_law_row_here"]) : Def P w K mg base "_law_matches" 1 ["_law_given", "_law_row_here"] w_law_matches := by
  refine defD F sc_law_matches (fun ds k Q x ⟨es, xs, e, _⟩ => by rw [e]; rfl) fun f cdv Ar outer s H E p G hg hr => ⟨_, (dss_one (ds_ret (de_bi allD.mono fitsAll (cr_all rfl) (da_cons (de_lc (own := [("_law_column", 2), ("_law_value_here", 3)]) rfl sc_law_matches.nd (di_seq (de_var (pv 0))) (blkOk_by (N := ["_law_given", "_law_row_here", "_law_column", "_law_value_here"]) (sc := defScope s_law_matches) (by decide +kernel)) (fun _ _ _ _ _ _ _ => (dgc_tp rfl (dgs_cons (i := 2) sc_law_matches.nd (dgs_cons (i := 3) sc_law_matches.nd dgs_nil)) (by decide))) (fun _ _ _ _ _ _ _ => dts_nil) (fun _ _ _ _ _ _ _ => (de_or (de_isN (de_var (pv 3))) (de_one (de_cmp (op_eqA hr.units) eqD.mono fitsEq (de_idx (de_var (pv 1)) (de_var (pv 2))) (de_var (pv 3))))))) da_nil) T.z_all))), ?_⟩
  rintro ds n Q x ⟨es, xs, rfl, he, hx, hl, q⟩
  simp only [wRet, wSet, wSeq, wNext, wDrop, wIfS, wTest, wAnd, wOr, wNot, wIf, wBin, wVar, wC, wAndV, wOrV, wNotV, wIsN, wNotN, wNeg, wChain, wNil, wCons, wTup, wLst, wBi, wCall, wIsi, wSl, wSo, wNo, wSeqI, wFor, gNm, gTp, puts, wAsg, wPar, wMul, wmD, wmO, putsI, wAug, wTryIs, wRng1, wRng2, wEnum, wEnumT, wZip, wLc, wYes, wLend, wRel, wOwn, wApp, wIns, wSetIx, wLstF, wListF, wRepF, wAddF, wSlS, wParO, wRevT, wSortedSet, wSortedSetL, wSortedSetT, wKeys, weI, wExt, allD, wMt, wRaise, wSeqO, wCallF, plainO, wCallA, wIdx0, wAnF, wSetA, wUnA, wSeqA, plainA, wFld, wFldO, wMake, wLRg, Ans.data, Ans.own.injEq, Ans.tup.injEq, Ans.dat.injEq, wTry, wTryM, wHs, wIsC, enOf, put, putUn, defEnds, lendE, lend, wipeE, hide, lenD, intD, listD, tupleD, reprD, wPen0, wPen1, wPen2, wPenS1, wPenS2, penAt, List.map_cons, List.map_nil, List.length_cons, List.length_nil, List.nil_append, List.cons_append, Nat.reduceAdd, Nat.reduceSub, Nat.reduceLeDiff, Nat.zero_add, List.replicate_zero, List.replicate_succ, List.getElem?_cons_zero, List.getElem?_cons_succ, List.set_cons_zero, List.set_cons_succ, Option.some.injEq, Slot.dat.injEq, Slot.own.injEq, PyData.bool.injEq, PyData.int.injEq, PyData.tuple.injEq, PyData.list.injEq, exists_eq_left', exists_eq_left, and_true, true_and, if_true, if_false, Bool.false_eq_true, reduceCtorEq, List.mapIdx_cons, List.mapIdx_nil]
  refine ⟨es, rfl, ?_⟩
  refine lcLoop.fm (fun e => some (.bool (hasE xs e))) (fun e hm A B h3 h4 => ?_) (by rw [List.length_nil]; omega) ?_
  · obtain ⟨i, b, rfl, h0, h1, hb⟩ := he e hm
    simp only [wRet, wSet, wSeq, wNext, wDrop, wIfS, wTest, wAnd, wOr, wNot, wIf, wBin, wVar, wC, wAndV, wOrV, wNotV, wIsN, wNotN, wNeg, wChain, wNil, wCons, wTup, wLst, wBi, wCall, wIsi, wSl, wSo, wNo, wSeqI, wFor, gNm, gTp, puts, wAsg, wPar, wMul, wmD, wmO, putsI, wAug, wTryIs, wRng1, wRng2, wEnum, wEnumT, wZip, wLc, wYes, wLend, wRel, wOwn, wApp, wIns, wSetIx, wLstF, wListF, wRepF, wAddF, wSlS, wParO, wRevT, wSortedSet, wSortedSetL, wSortedSetT, wKeys, weI, wExt, allD, wMt, wRaise, wSeqO, wCallF, plainO, wCallA, wIdx0, wAnF, wSetA, wUnA, wSeqA, plainA, wFld, wFldO, wMake, wLRg, Ans.data, Ans.own.injEq, Ans.tup.injEq, Ans.dat.injEq, wTry, wTryM, wHs, wIsC, enOf, put, putUn, defEnds, lendE, lend, wipeE, hide, lenD, intD, listD, tupleD, reprD, wPen0, wPen1, wPen2, wPenS1, wPenS2, penAt, List.map_cons, List.map_nil, List.length_cons, List.length_nil, List.nil_append, List.cons_append, Nat.reduceAdd, Nat.reduceSub, Nat.reduceLeDiff, Nat.zero_add, List.replicate_zero, List.replicate_succ, List.getElem?_cons_zero, List.getElem?_cons_succ, List.set_cons_zero, List.set_cons_succ, Option.some.injEq, Slot.dat.injEq, Slot.own.injEq, PyData.bool.injEq, PyData.int.injEq, PyData.tuple.injEq, PyData.list.injEq, exists_eq_left', exists_eq_left, and_true, true_and, if_true, if_false, Bool.false_eq_true, reduceCtorEq, List.mapIdx_cons, List.mapIdx_nil]
    rcases Bool.eq_false_or_eq_true (isN b) with h | h
    · rw [if_pos h]
      refine h4 _ ?_
      simp only [hasE, h, Bool.true_or]
    · rw [if_neg (by rw [h] <;> decide)]
      refine ⟨_, rfl, _, atI_pos h0 h1, .inr ⟨hx _ (getD_mem h0 h1), hb⟩, h4 _ ?_⟩
      simp only [hasE, h, Bool.false_or]
  · rw [List.nil_append, fmap_some]
    refine ⟨es.map (hasE xs), by rw [List.map_map]; rfl, ?_⟩
    have e : (es.map (hasE xs)).all id = hasB es xs := by
      rw [List.all_map]
      unfold hasB
      congr 1
    rw [e]
    exact q
end
/-- rows of ints: what is alike in the given columns has the given values in both rows -/
theorem like_has {es xs ys : List D} {m : Nat} (he : entsOk es m) (hx : xs.length = m) (hy : ys.length = m) (ix : ∀ x ∈ xs, ∃ i : Int, x = .int i ∧ i.natAbs < 2 ^ 120) (iy : ∀ y ∈ ys, ∃ i : Int, y = .int i ∧ i.natAbs < 2 ^ 120) (hl : likeB es xs ys = true) : hasB es ys = hasB es xs := by
  induction es with
  | nil => rfl
  | cons e es ih =>
    obtain ⟨i, b, rfl, h0, h1, hb⟩ := he e List.mem_cons_self
    simp only [likeB, List.all_cons, Bool.and_eq_true] at hl
    have rc := ih (fun e h => he e (List.mem_cons_of_mem _ h)) hl.2
    simp only [hasB, List.all_cons] at rc ⊢
    rw [rc]
    obtain ⟨a, ea, _⟩ := ix _ (getD_mem (xs := xs) h0 (by rw [hx]; exact h1))
    obtain ⟨c, ec, _⟩ := iy _ (getD_mem (xs := ys) h0 (by rw [hy]; exact h1))
    have l1 := hl.1
    rw [ea, ec, eqv_ints, decide_eq_true_eq] at l1
    rw [ea, ec, l1]
def apart (xs ys : List D) : D → Option D
  | .int i => if PyData.eqv (xs.getD i.toNat .none) (ys.getD i.toNat .none) = true then none else some (.int i)
  | _ => none
theorem apart_nil {es xs ys : List D} {m : Nat} (he : entsOk es m) : ((es.map fstD).filterMap (apart xs ys) = []) ↔ likeB es xs ys = true := by
  induction es with
  | nil => simp [likeB]
  | cons e es ih =>
    obtain ⟨i, b, rfl, h0, h1, hb⟩ := he e List.mem_cons_self
    have rc := ih fun e h => he e (List.mem_cons_of_mem _ h)
    simp only [likeB, List.all_cons, Bool.and_eq_true] at rc ⊢
    rw [← rc, List.map_cons]
    have e1 : apart xs ys (fstD (.tuple [.int i, b])) = if PyData.eqv (xs.getD i.toNat .none) (ys.getD i.toNat .none) = true then none else some (.int i) := rfl
    by_cases h : PyData.eqv (xs.getD i.toNat .none) (ys.getD i.toNat .none) = true
    · rw [List.filterMap_cons_none (by rw [e1, if_pos h])]
      exact ⟨fun z => ⟨h, z⟩, fun z => z.2⟩
    · rw [List.filterMap_cons_some (by rw [e1, if_neg h])]
      exact ⟨(fun z => by cases z), fun z => absurd z.1 h⟩
section
variable {P : Program} {w : World} {K : PySem.W.Frag} {mg : Str → Option Value} {base : Heap} {A : Cls}
def w_law_values : Wc := fun ds k Q _ => ∃ (es rows xs : List D) (c : Int) (v : D) (m : Nat), ds = [.tuple [.tuple es, .int c, v], .tuple rows, .tuple xs] ∧ entsOk es m ∧ (es.length ≤ 4 ∧ m ≤ 4) ∧ intRow m xs ∧ (∀ d ∈ rows, ∃ ys, d = .tuple ys ∧ intRow m ys) ∧ rows.length ≤ 8 ∧ 0 ≤ c ∧ c < m ∧ (v = .none ∨ ∃ i : Int, v = .int i ∧ 0 ≤ i ∧ i < 2 ^ 120) ∧ hasB es xs = true ∧
  ∀ vs : List Int, vs.length ≤ 8 → (∀ z, z ∈ vs ↔ Settles es c v rows xs z) → Q (.list (vs.map PyData.int)) k
theorem m_law_values : Wc.Mono w_law_values := fun ds k Q Q' x x' h1 _ ⟨es, rows, xs, c, v, m, e, p1, p2, p3, p4, p5, p6, p7, p8, p9, q⟩ => ⟨es, rows, xs, c, v, m, e, p1, p2, p3, p4, p5, p6, p7, p8, p9, fun vs a b => h1 _ _ (q vs a b)⟩
theorem d_law_values (T : Txt K mg A) (d_law_matches : Def P w K mg base "_law_matches" 1 ["_law_given", "_law_row_here"] w_law_matches) (F : FunAt K mg "_law_values" s_law_values ["_law_rule_here", "_law_master", "_law_row_here"]) : Def P w K mg base "_law_values" 2 ["_law_rule_here", "_law_master", "_law_row_here"] w_law_values := by
  refine defD F sc_law_values (fun ds k Q x ⟨es, rows, xs, c, v, m, e, _⟩ => by rw [e]; rfl) fun f cdv Ar outer s H E p G hg hr => ⟨_, (dss_cons (ds_asg (de_var (pv 0)) (dg_tp rfl (dgs_cons (i := 3) sc_law_values.nd (dgs_cons (i := 4) sc_law_values.nd (dgs_cons (i := 5) sc_law_values.nd dgs_nil)))))
    (dss_cons (ds_if (dt_notN (de_var (pv 5)))
    (dss_one (ds_ret (de_lst (da_cons (de_var (pv 5)) da_nil))))
    dss_nil)
    (dss_cons (ds_own (i := 6) (df_lst da_nil) sc_law_values.nd)
    (dss_cons (ds_for (passes_of rfl) rfl (di_seq (de_var (pv 1))) (dg_nm (i := 7) sc_law_values.nd)
    (dss_cons (ds_setLc (i := 8) (own := [("_law_one_here", 9), ("_law_value_here", 10)]) rfl sc_law_values.nd (di_seq (de_var (pv 3))) (blkOk_by (N := ["_law_rule_here", "_law_master", "_law_row_here", "_law_given", "_law_column", "_law_want", "_law_found", "_law_other", "_law_apart", "_law_one_here", "_law_value_here"]) (sc := defScope s_law_values) (by decide +kernel)) (fun _ _ _ _ _ _ _ => (dgc_tp rfl (dgs_cons (i := 9) sc_law_values.nd (dgs_cons (i := 10) sc_law_values.nd dgs_nil)) (by decide))) (fun _ _ _ _ _ _ _ => (dts_one (dt_cmp (op_neA hr.units) neD.mono fitsNe (de_idx (de_var (pv 2)) (de_var (pv 9))) (de_idx (de_var (pv 7)) (de_var (pv 9)))))) (fun _ _ _ _ _ _ _ => (de_var (pv 9))) (sw_true rfl rfl rfl (by decide +kernel)))
    (dss_one (ds_if (DW.dt (dw_and (dt_cmp (op_eqA hr.units) eqD.mono fitsEq (de_var (pv 8)) (de_lst da_nil)) (dw_and1 (dt_val (de_fn d_law_matches m_law_matches hg hr (takes_of rfl rfl rfl rfl) (da_cons (de_var (pv 3)) (da_cons (de_var (pv 7)) da_nil)))))))
    (dss_one (ds_append (i := 6) (de_idx (de_var (pv 7)) (de_var (pv 4))) (pv 6)))
    dss_nil))))
    (dss_rel (dss_one (ds_ret (de_var (pv 6))))))))), ?_⟩
  rintro ds n Q x ⟨es, rows, xs, c, v, m, rfl, he, ⟨hel, hm4⟩, hx, hrows, hl, c0, c1, hv, hh, q⟩
  simp only [wRet, wSet, wSeq, wNext, wDrop, wIfS, wTest, wAnd, wOr, wNot, wIf, wBin, wVar, wC, wAndV, wOrV, wNotV, wIsN, wNotN, wNeg, wChain, wNil, wCons, wTup, wLst, wBi, wCall, wIsi, wSl, wSo, wNo, wSeqI, wFor, gNm, gTp, puts, wAsg, wPar, wMul, wmD, wmO, putsI, wAug, wTryIs, wRng1, wRng2, wEnum, wEnumT, wZip, wLc, wYes, wLend, wRel, wOwn, wApp, wIns, wSetIx, wLstF, wListF, wRepF, wAddF, wSlS, wParO, wRevT, wSortedSet, wSortedSetL, wSortedSetT, wKeys, weI, wExt, allD, wMt, wRaise, wSeqO, wCallF, plainO, wCallA, wIdx0, wAnF, wSetA, wUnA, wSeqA, plainA, wFld, wFldO, wMake, wLRg, Ans.data, Ans.own.injEq, Ans.tup.injEq, Ans.dat.injEq, wTry, wTryM, wHs, wIsC, enOf, put, putUn, defEnds, lendE, lend, wipeE, hide, lenD, intD, listD, tupleD, reprD, wPen0, wPen1, wPen2, wPenS1, wPenS2, penAt, List.map_cons, List.map_nil, List.length_cons, List.length_nil, List.nil_append, List.cons_append, Nat.reduceAdd, Nat.reduceSub, Nat.reduceLeDiff, Nat.zero_add, List.replicate_zero, List.replicate_succ, List.getElem?_cons_zero, List.getElem?_cons_succ, List.set_cons_zero, List.set_cons_succ, Option.some.injEq, Slot.dat.injEq, Slot.own.injEq, PyData.bool.injEq, PyData.int.injEq, PyData.tuple.injEq, PyData.list.injEq, exists_eq_left', exists_eq_left, and_true, true_and, if_true, if_false, Bool.false_eq_true, reduceCtorEq, List.mapIdx_cons, List.mapIdx_nil]
  rcases hv with rfl | ⟨i, rfl, i0, i1⟩
  · simp only [isN, Bool.not_true, if_false, Bool.false_eq_true]
    refine ⟨_, rfl, ?_⟩
    refine wLoop.ind (fun ds e => ∃ (done : List D) (vs : List Int) (u7 u8 u9 u10 : Slot), rows = done ++ ds ∧ e = ⟨[.dat (.tuple [.tuple es, .int c, .none]), .dat (.tuple rows), .dat (.tuple xs), .dat (.tuple es), .dat (.int c), .dat .none, .own (vs.map PyData.int), u7, u8, u9, u10], n⟩ ∧
        vs.length ≤ done.length ∧ ∀ z, z ∈ vs ↔ ∃ ys, PyData.tuple ys ∈ done ∧ hasB es xs = true ∧ likeB es xs ys = true ∧ ys.getD c.toNat .none = .int z) ?_ ?_ ⟨[], [], _, _, _, _, rfl, rfl, Nat.le_refl _, fun z => by simp⟩
    · rintro e ⟨done, vs, u7, u8, u9, u10, ed, rfl, hvl, hz⟩
      rw [List.append_nil] at ed
      subst ed
      refine ⟨_, rfl, q vs (by omega) fun z => ?_⟩
      rw [hz]
      simp [Settles]
    · rintro d ds e ih ⟨done, vs, u7, u8, u9, u10, ed, rfl, hvl, hz⟩
      obtain ⟨ys, rfl, hy⟩ := hrows d (by rw [ed]; simp)
      have ed' : rows = (done ++ [PyData.tuple ys]) ++ ds := by rw [ed]; simp
      have dl : done.length < 8 := by
        have := congrArg List.length ed
        rw [List.length_append, List.length_cons] at this
        omega
      have next : ∀ (us : List Int) (u7 u8 u9 u10 : Slot), us.length ≤ vs.length + 1 → (∀ z, z ∈ us ↔ z ∈ vs ∨ (hasB es xs = true ∧ likeB es xs ys = true ∧ ys.getD c.toNat .none = .int z)) → wLoop _ _ _ _ (⟨[.dat (.tuple [.tuple es, .int c, .none]), .dat (.tuple rows), .dat (.tuple xs), .dat (.tuple es), .dat (.int c), .dat .none, .own (us.map PyData.int), u7, u8, u9, u10], n⟩ : En) := fun us u7 u8 u9 u10 ul uz =>
        ih _ ⟨done ++ [.tuple ys], us, u7, u8, u9, u10, ed', rfl, by rw [List.length_append, List.length_singleton]; omega, fun z => by
          rw [uz, hz]
          constructor
          · rintro (⟨os, h1, h2⟩ | h2)
            · exact ⟨os, List.mem_append_left _ h1, h2⟩
            · exact ⟨ys, List.mem_append_right _ (List.mem_singleton.mpr rfl), h2⟩
          · rintro ⟨os, h1, h2⟩
            rcases List.mem_append.mp h1 with h1 | h1
            · exact .inl ⟨os, h1, h2⟩
            · have e := List.mem_singleton.mp h1
              injection e with e
              rw [e] at h2
              exact .inr h2⟩
      simp (decide := true) only [wRet, wSet, wSeq, wNext, wDrop, wIfS, wTest, wAnd, wOr, wNot, wIf, wBin, wVar, wC, wAndV, wOrV, wNotV, wIsN, wNotN, wNeg, wChain, wNil, wCons, wTup, wLst, wBi, wCall, wIsi, wSl, wSo, wNo, wSeqI, wFor, gNm, gTp, puts, wAsg, wPar, wMul, wmD, wmO, putsI, wAug, wTryIs, wRng1, wRng2, wEnum, wEnumT, wZip, wLc, wYes, wLend, wRel, wOwn, wApp, wIns, wSetIx, wLstF, wListF, wRepF, wAddF, wSlS, wParO, wRevT, wSortedSet, wSortedSetL, wSortedSetT, wKeys, weI, wExt, allD, wMt, wRaise, wSeqO, wCallF, plainO, wCallA, wIdx0, wAnF, wSetA, wUnA, wSeqA, plainA, wFld, wFldO, wMake, wLRg, Ans.data, Ans.own.injEq, Ans.tup.injEq, Ans.dat.injEq, wTry, wTryM, wHs, wIsC, enOf, put, putUn, defEnds, lendE, lend, wipeE, hide, lenD, intD, listD, tupleD, reprD, wPen0, wPen1, wPen2, wPenS1, wPenS2, penAt, List.map_cons, List.map_nil, List.length_cons, List.length_nil, List.nil_append, List.cons_append, Nat.reduceAdd, Nat.reduceSub, Nat.reduceLeDiff, Nat.zero_add, List.replicate_zero, List.replicate_succ, List.getElem?_cons_zero, List.getElem?_cons_succ, List.set_cons_zero, List.set_cons_succ, Option.some.injEq, Slot.dat.injEq, Slot.own.injEq, PyData.bool.injEq, PyData.int.injEq, PyData.tuple.injEq, PyData.list.injEq, exists_eq_left', exists_eq_left, and_true, true_and, if_true, if_false, Bool.false_eq_true, reduceCtorEq, List.mapIdx_cons, List.mapIdx_nil]
      refine ⟨es, rfl, ?_⟩
      refine lcLoop.fm (fun e => apart xs ys (fstD e)) (fun e hm A B h3 h4 => ?_) (by rw [List.length_nil]; omega) ?_
      · obtain ⟨i, w', rfl, h0, h1, _⟩ := he e hm
        simp only [wRet, wSet, wSeq, wNext, wDrop, wIfS, wTest, wAnd, wOr, wNot, wIf, wBin, wVar, wC, wAndV, wOrV, wNotV, wIsN, wNotN, wNeg, wChain, wNil, wCons, wTup, wLst, wBi, wCall, wIsi, wSl, wSo, wNo, wSeqI, wFor, gNm, gTp, puts, wAsg, wPar, wMul, wmD, wmO, putsI, wAug, wTryIs, wRng1, wRng2, wEnum, wEnumT, wZip, wLc, wYes, wLend, wRel, wOwn, wApp, wIns, wSetIx, wLstF, wListF, wRepF, wAddF, wSlS, wParO, wRevT, wSortedSet, wSortedSetL, wSortedSetT, wKeys, weI, wExt, allD, wMt, wRaise, wSeqO, wCallF, plainO, wCallA, wIdx0, wAnF, wSetA, wUnA, wSeqA, plainA, wFld, wFldO, wMake, wLRg, Ans.data, Ans.own.injEq, Ans.tup.injEq, Ans.dat.injEq, wTry, wTryM, wHs, wIsC, enOf, put, putUn, defEnds, lendE, lend, wipeE, hide, lenD, intD, listD, tupleD, reprD, wPen0, wPen1, wPen2, wPenS1, wPenS2, penAt, List.map_cons, List.map_nil, List.length_cons, List.length_nil, List.nil_append, List.cons_append, Nat.reduceAdd, Nat.reduceSub, Nat.reduceLeDiff, Nat.zero_add, List.replicate_zero, List.replicate_succ, List.getElem?_cons_zero, List.getElem?_cons_succ, List.set_cons_zero, List.set_cons_succ, Option.some.injEq, Slot.dat.injEq, Slot.own.injEq, PyData.bool.injEq, PyData.int.injEq, PyData.tuple.injEq, PyData.list.injEq, exists_eq_left', exists_eq_left, and_true, true_and, if_true, if_false, Bool.false_eq_true, reduceCtorEq, List.mapIdx_cons, List.mapIdx_nil, fstD] at h3 h4 ⊢
        refine ⟨_, atI_pos h0 (by rw [hx.1]; exact h1), _, atI_pos h0 (by rw [hy.1]; exact h1), .inr ⟨hx.good _ (getD_mem h0 (by rw [hx.1]; exact h1)), hy.good _ (getD_mem h0 (by rw [hy.1]; exact h1))⟩, _, rfl, ?_⟩
        rcases Bool.eq_false_or_eq_true (PyData.eqv (xs.getD i.toNat .none) (ys.getD i.toNat .none)) with h5 | h5
        · rw [if_neg (by rw [h5] <;> decide)]
          exact h3 (if_pos h5)
        · rw [if_pos (by rw [h5] <;> rfl)]
          exact h4 _ (if_neg (by rw [h5] <;> decide))
      · rw [List.nil_append, show (es.filterMap fun e => apart xs ys (fstD e)) = (es.map fstD).filterMap (apart xs ys) by rw [List.filterMap_map] <;> rfl]
        have an := apart_nil (es := es) (xs := xs) (ys := ys) he
        have big : ∀ {zs : List D}, intRow m zs → ∀ z ∈ zs, ∃ i : Int, z = .int i ∧ i.natAbs < 2 ^ 120 := fun h z hz => by
          obtain ⟨i, e, i0, i1⟩ := h.2 z hz
          exact ⟨i, e, by omega⟩
        have lh := like_has (es := es) (xs := xs) (ys := ys) he hx.1 hy.1 (big hx) (big hy)
        have ga : Good (.list ((es.map fstD).filterMap (apart xs ys))) := (Ok.list (n := 1) (m := 0) (k := 4) (fun o ho => by
          obtain ⟨y, h5, h6⟩ := List.mem_filterMap.mp ho
          obtain ⟨e', h7, rfl⟩ := List.mem_map.mp h5
          obtain ⟨i, w', rfl, h8, h9, _⟩ := he e' h7
          have e6 : (if PyData.eqv (xs.getD i.toNat .none) (ys.getD i.toNat .none) = true then none else some (PyData.int i)) = some o := h6
          split at e6
          · cases e6
          · cases e6
            exact Ok.int (by omega)) (Nat.le_trans (List.length_filterMap_le _ _) (by rw [List.length_map]; exact hel))).good
        have gn : Good (.list []) := (by exact ⟨by decide +kernel, by decide +kernel, by decide +kernel⟩ : Ok 1 1 (.list [])).good
        generalize (es.map fstD).filterMap (apart xs ys) = ap at an ga
        refine ⟨.inr ⟨ga, gn⟩, _, rfl, ?_⟩
        by_cases h6 : ap = []
        · have hlk := an.mp h6
          rw [if_pos (by rw [h6]; rfl)]
          refine ⟨es, ys, rfl, by rw [hy.1]; exact he, hy.good, by omega, true, by rw [lh hlk, hh], ?_⟩
          rw [if_pos rfl]
          have cy : c < ys.length := by rw [hy.1]; exact c1
          obtain ⟨z, ez, z0, z1⟩ := hy.2 _ (getD_mem c0 cy)
          refine ⟨⟨_, rfl⟩, _, atI_pos c0 cy, by rw [List.length_map]; omega, ?_⟩
          rw [ez, show vs.map PyData.int ++ [PyData.int z] = (vs ++ [z]).map PyData.int by rw [List.map_append] <;> rfl]
          refine next (vs ++ [z]) _ _ _ _ (by rw [List.length_append, List.length_singleton]; omega) fun u => ?_
          rw [List.mem_append, List.mem_singleton, ez]
          constructor
          · rintro (h | rfl)
            · exact .inl h
            · exact .inr ⟨hh, hlk, rfl⟩
          · rintro (h | ⟨_, _, h⟩)
            · exact .inl h
            · injection h with h
              exact .inr h.symm
        · rw [if_neg (by
            cases ap with
            | nil => exact absurd rfl h6
            | cons x xs => simp [PyData.eqv, PyData.eqvAll])]
          exact next vs _ _ _ _ (by omega) fun u => ⟨.inl, fun h => h.elim id fun ⟨_, h7, _⟩ => absurd (an.mpr h7) h6⟩
  · simp only [isN, Bool.not_false, if_true]
    exact q [i] (by simp) fun z => ⟨fun hz => .inl ⟨by rw [List.mem_singleton.mp hz], hh⟩, fun hz => by
      rcases hz with ⟨e, _⟩ | ⟨e, _⟩
      · injection e with e
        rw [e]
        exact List.mem_singleton.mpr rfl
      · cases e⟩
end
end L2.DL.K46
namespace L2.DL.K46
open PySem PySem.Spec
      PyProof.Rows
/-! ### the law's breaks -/
section
variable {P : Program} {w : World} {K : PySem.W.Frag} {mg : Str → Option Value} {base : Heap} {A : Cls}
/-! what it says of rows, once more -/
theorem pairsOf_nil {es : List D} {c : Int} {rows : List D} {i t : Nat} (h : hasB es (rowI rows i) = false) : pairsOf es c rows i t = [] := by
  unfold pairsOf
  rw [List.filterMap_eq_nil_iff]
  intro u _
  rw [if_neg (by unfold pairB; rw [h, Bool.false_and, Bool.false_and]; decide)]
def w_law_rule_breaks : Wc := fun ds k Q _ => ∃ (cs ts : List D) (r : D), ds = [r, .tuple ts] ∧ okRule cs r ∧ okTab cs ts ∧ Q (.list (brkR ts r)) k
theorem m_law_rule_breaks : Wc.Mono w_law_rule_breaks := fun ds k Q Q' x x' h1 _ ⟨cs, ts, r, e, p1, p2, q⟩ => ⟨cs, ts, r, e, p1, p2, h1 _ _ q⟩
theorem d_law_rule_breaks (T : Txt K mg A) (d_law_matches : Def P w K mg base "_law_matches" 1 ["_law_given", "_law_row_here"] w_law_matches) (F : FunAt K mg "_law_rule_breaks" s_law_rule_breaks ["_law_rule_here", "_law_table_here"]) : Def P w K mg base "_law_rule_breaks" 2 ["_law_rule_here", "_law_table_here"] w_law_rule_breaks := by
  refine defD F sc_law_rule_breaks (fun ds k Q x ⟨cs, ts, r, e, _⟩ => by rw [e]; rfl) fun f cdv Ar outer s H E p G hg hr => ⟨_, (dss_cons (ds_asg (de_var (pv 0)) (dg_tp rfl (dgs_cons (i := 2) sc_law_rule_breaks.nd (dgs_cons (i := 3) sc_law_rule_breaks.nd (dgs_cons (i := 4) sc_law_rule_breaks.nd dgs_nil)))))
    (dss_cons (ds_own (i := 5) (df_lst da_nil) sc_law_rule_breaks.nd)
    (dss_cons (ds_for (passes_of rfl) rfl (di_rng1 (de_bi lenD.mono fitsLen call_len_seq (da_cons (de_var (pv 1)) da_nil) T.z_len) T.z_range) (dg_nm (i := 6) sc_law_rule_breaks.nd)
    (dss_one (ds_if (dt_val (de_fn d_law_matches m_law_matches hg hr (takes_of rfl rfl rfl rfl) (da_cons (de_var (pv 2)) (da_cons (de_idx (de_var (pv 1)) (de_var (pv 6))) da_nil))))
    (dss_cons (ds_if (DW.dt (dw_and (dt_notN (de_var (pv 4))) (dw_and1 (dt_cmp (op_neA hr.units) neD.mono fitsNe (de_idx (de_idx (de_var (pv 1)) (de_var (pv 6))) (de_var (pv 3))) (de_var (pv 4))))))
    (dss_one (ds_append (i := 5) (de_tup (da_cons (de_var (pv 6)) da_nil)) (pv 5)))
    dss_nil)
    (dss_one (ds_for (passes_of rfl) rfl (di_rng2 (de_bin op_addA addD.mono fitsAdd (de_var (pv 6)) de_int) (de_if (dt_isN (de_var (pv 4))) (de_bi lenD.mono fitsLen call_len_seq (da_cons (de_var (pv 1)) da_nil) T.z_len) de_int) T.z_range) (dg_nm (i := 7) sc_law_rule_breaks.nd)
    (dss_cons (ds_setLc (i := 8) (own := [("_law_entry", 9)]) rfl sc_law_rule_breaks.nd (di_seq (de_var (pv 2))) (blkOk_by (N := ["_law_rule_here", "_law_table_here", "_law_given", "_law_column", "_law_want", "_law_found", "_law_i", "_law_j", "_law_own", "_law_entry", "_law_apart", "_law_k"]) (sc := defScope s_law_rule_breaks) (by decide +kernel)) (fun _ _ _ _ _ _ _ => (dgc_nm (i := 9) sc_law_rule_breaks.nd (by decide))) (fun _ _ _ _ _ _ _ => dts_nil) (fun _ _ _ _ _ _ _ => (de_idx (de_var (pv 9)) de_int)) (sw_true rfl rfl rfl (by decide +kernel)))
    (dss_cons (ds_setLc (i := 10) (own := [("_law_k", 11)]) rfl sc_law_rule_breaks.nd (di_seq (de_var (pv 8))) (blkOk_by (N := ["_law_rule_here", "_law_table_here", "_law_given", "_law_column", "_law_want", "_law_found", "_law_i", "_law_j", "_law_own", "_law_entry", "_law_apart", "_law_k"]) (sc := defScope s_law_rule_breaks) (by decide +kernel)) (fun _ _ _ _ _ _ _ => (dgc_nm (i := 11) sc_law_rule_breaks.nd (by decide))) (fun _ _ _ _ _ _ _ => (dts_one (dt_cmp (op_neA hr.units) neD.mono fitsNe (de_idx (de_idx (de_var (pv 1)) (de_var (pv 6))) (de_var (pv 11))) (de_idx (de_idx (de_var (pv 1)) (de_var (pv 7))) (de_var (pv 11)))))) (fun _ _ _ _ _ _ _ => (de_var (pv 11))) (sw_true rfl rfl rfl (by decide +kernel)))
    (dss_one (ds_if (DW.dt (dw_and (dt_val (de_fn d_law_matches m_law_matches hg hr (takes_of rfl rfl rfl rfl) (da_cons (de_var (pv 2)) (da_cons (de_idx (de_var (pv 1)) (de_var (pv 7))) da_nil)))) (dw_and1 (dt_cmp (op_eqA hr.units) eqD.mono fitsEq (de_var (pv 10)) (de_lst da_nil)))))
    (dss_one (ds_if (dt_cmp (op_neA hr.units) neD.mono fitsNe (de_idx (de_idx (de_var (pv 1)) (de_var (pv 6))) (de_var (pv 3))) (de_idx (de_idx (de_var (pv 1)) (de_var (pv 7))) (de_var (pv 3))))
    (dss_one (ds_append (i := 5) (de_tup (da_cons (de_var (pv 6)) (da_cons (de_var (pv 7)) da_nil))) (pv 5)))
    dss_nil))
    dss_nil)))))))
    dss_nil)))
    (dss_rel (dss_one (ds_ret (de_var (pv 5)))))))), ?_⟩
  rintro ds n Q x ⟨cs, ts, r, rfl, hr', ht, q⟩
  obtain ⟨es, c, v, rfl, he, c0, c1, gv, el, ge⟩ := hr'.parts
  have hrows := ht.int
  have hl := ht.1
  simp only [wRet, wSet, wSeq, wNext, wDrop, wIfS, wTest, wAnd, wOr, wNot, wIf, wBin, wVar, wC, wAndV, wOrV, wNotV, wIsN, wNotN, wNeg, wChain, wNil, wCons, wTup, wLst, wBi, wCall, wIsi, wSl, wSo, wNo, wSeqI, wFor, gNm, gTp, puts, wAsg, wPar, wMul, wmD, wmO, putsI, wAug, wTryIs, wRng1, wRng2, wEnum, wEnumT, wZip, wLc, wYes, wLend, wRel, wOwn, wApp, wIns, wSetIx, wLstF, wListF, wRepF, wAddF, wSlS, wParO, wRevT, wSortedSet, wSortedSetL, wSortedSetT, wKeys, weI, wExt, allD, wMt, wRaise, wSeqO, wCallF, plainO, wCallA, wIdx0, wAnF, wSetA, wUnA, wSeqA, plainA, wFld, wFldO, wMake, wLRg, Ans.data, Ans.own.injEq, Ans.tup.injEq, Ans.dat.injEq, wTry, wTryM, wHs, wIsC, enOf, put, putUn, defEnds, lendE, lend, wipeE, hide, lenD, intD, listD, tupleD, reprD, wPen0, wPen1, wPen2, wPenS1, wPenS2, penAt, List.map_cons, List.map_nil, List.length_cons, List.length_nil, List.nil_append, List.cons_append, Nat.reduceAdd, Nat.reduceSub, Nat.reduceLeDiff, Nat.zero_add, List.replicate_zero, List.replicate_succ, List.getElem?_cons_zero, List.getElem?_cons_succ, List.set_cons_zero, List.set_cons_succ, Option.some.injEq, Slot.dat.injEq, Slot.own.injEq, PyData.bool.injEq, PyData.int.injEq, PyData.tuple.injEq, PyData.list.injEq, exists_eq_left', exists_eq_left, and_true, true_and, if_true, if_false, Bool.false_eq_true, reduceCtorEq, List.mapIdx_cons, List.mapIdx_nil]
  refine ⟨by omega,
        by omega, ?_⟩
  rw [Int.toNat_natCast]
  have good : ∀ {xs : List D}, (∀ x ∈ xs, ∃ i : Int, x = .int i ∧ i.natAbs < 2 ^ 120) → ∀ x ∈ xs, Good x := fun h x hx => by
    obtain ⟨i, rfl, hi⟩ := h x hx
    exact (Ok.int hi).good
  rw [brkR_eq] at q
  rcases Bool.eq_false_or_eq_true (isN v) with hv | hv
  · rw [if_pos hv] at q
    refine wLoop.ind (fun ds e => ∃ (j : Nat) (u6 u7 u8 u9 u10 u11 : Slot), e = ⟨[.dat (.tuple [.tuple es, .int c, v]), .dat (.tuple ts), .dat (.tuple es), .dat (.int c), .dat v, .own (pairsTo es c ts j), u6, u7, u8, u9, u10, u11], n⟩ ∧ j ≤ ts.length ∧ ds = rngD j (ts.length - j)) ?_ ?_ ⟨0, _, _, _, _, _, _, rfl, Nat.zero_le _, rfl⟩
    · rintro e ⟨j, u6, u7, u8, u9, u10, u11, rfl, hj, hd⟩
      have ej : j = ts.length := by
        have := congrArg List.length hd
        rw [rngD_length, List.length_nil] at this
        omega
      subst ej
      exact ⟨_, rfl, q⟩
    · rintro d ds e ih ⟨j, u6, u7, u8, u9, u10, u11, rfl, hj, hd⟩
      obtain ⟨t, ht'⟩ : ∃ t, ts.length - j = t + 1 := by
        have := congrArg List.length hd
        rw [rngD_length, List.length_cons] at this
        exact ⟨ds.length, this.symm⟩
      rw [ht', rngD_succ] at hd
      injection hd with hd1 hd2
      subst hd1 hd2
      obtain ⟨a1, l1, i1⟩ := rowI_at hrows (i := j) (by omega)
      have fl : (pairsTo es c ts j).length ≤ 64 := Nat.le_trans pairsTo_len (by
        have : j * ts.length ≤ 8 * 8 := Nat.mul_le_mul (by omega) hl
        omega)
      have next : ∀ (acc : List D) (v6 v7 v8 v9 v10 v11 : Slot), acc = pairsTo es c ts j ++ pairsOf es c ts j (ts.length - (j + 1)) → wLoop _ _ _ _ (⟨[.dat (.tuple [.tuple es, .int c, v]), .dat (.tuple ts), .dat (.tuple es), .dat (.int c), .dat v, .own acc, v6, v7, v8, v9, v10, v11], n⟩ : En) := fun acc v6 v7 v8 v9 v10 v11 ea => ih _ ⟨j + 1, v6, v7, v8, v9, v10, v11, by rw [ea, pairsTo_succ], by omega, by
        rw [show ts.length - (j + 1) = t by omega]
        rfl⟩
      simp only [wRet, wSet, wSeq, wNext, wDrop, wIfS, wTest, wAnd, wOr, wNot, wIf, wBin, wVar, wC, wAndV, wOrV, wNotV, wIsN, wNotN, wNeg, wChain, wNil, wCons, wTup, wLst, wBi, wCall, wIsi, wSl, wSo, wNo, wSeqI, wFor, gNm, gTp, puts, wAsg, wPar, wMul, wmD, wmO, putsI, wAug, wTryIs, wRng1, wRng2, wEnum, wEnumT, wZip, wLc, wYes, wLend, wRel, wOwn, wApp, wIns, wSetIx, wLstF, wListF, wRepF, wAddF, wSlS, wParO, wRevT, wSortedSet, wSortedSetL, wSortedSetT, wKeys, weI, wExt, allD, wMt, wRaise, wSeqO, wCallF, plainO, wCallA, wIdx0, wAnF, wSetA, wUnA, wSeqA, plainA, wFld, wFldO, wMake, wLRg, Ans.data, Ans.own.injEq, Ans.tup.injEq, Ans.dat.injEq, wTry, wTryM, wHs, wIsC, enOf, put, putUn, defEnds, lendE, lend, wipeE, hide, lenD, intD, listD, tupleD, reprD, wPen0, wPen1, wPen2, wPenS1, wPenS2, penAt, List.map_cons, List.map_nil, List.length_cons, List.length_nil, List.nil_append, List.cons_append, Nat.reduceAdd, Nat.reduceSub, Nat.reduceLeDiff, Nat.zero_add, List.replicate_zero, List.replicate_succ, List.getElem?_cons_zero, List.getElem?_cons_succ, List.set_cons_zero, List.set_cons_succ, Option.some.injEq, Slot.dat.injEq, Slot.own.injEq, PyData.bool.injEq, PyData.int.injEq, PyData.tuple.injEq, PyData.list.injEq, exists_eq_left', exists_eq_left, and_true, true_and, if_true, if_false, Bool.false_eq_true, reduceCtorEq, List.mapIdx_cons, List.mapIdx_nil, addD]
      refine ⟨_, a1, _, _, rfl, by rw [l1]; exact he, good i1, by omega, ?_⟩
      refine ⟨_, rfl, ?_⟩
      rcases Bool.eq_false_or_eq_true (hasB es (rowI ts j)) with h | h
      · rw [if_pos h, if_neg (by rw [hv] <;> decide)]
        rw [if_pos hv]
        refine ⟨_, _, rfl, rfl, ⟨by omega, by omega, by omega, by omega⟩, ?_⟩
        have e1 : ((ts.length : Int) - ((j : Int) + 1)).toNat = ts.length - (j + 1) := by omega
        rw [e1]
        refine wLoop.ind (fun ds e => ∃ (b : Nat) (v7 v8 v9 v10 v11 : Slot), e = ⟨[.dat (.tuple [.tuple es, .int c, v]), .dat (.tuple ts), .dat (.tuple es), .dat (.int c), .dat v, .own (pairsTo es c ts j ++ pairsOf es c ts j b), .dat (.int j), v7, v8, v9, v10, v11], n⟩ ∧ b ≤ ts.length - (j + 1) ∧ ds = rngD ((j + 1 + b : Nat) : Int) (ts.length - (j + 1) - b)) ?_ ?_ ⟨0, _, _, _, _, _, by rw [show pairsOf es c ts j 0 = [] from rfl, List.append_nil], Nat.zero_le _, rfl⟩
        · rintro e ⟨b, v7, v8, v9, v10, v11, rfl, hb, hd⟩
          have eb : b = ts.length - (j + 1) := by
            have := congrArg List.length hd
            rw [rngD_length, List.length_nil] at this
            omega
          subst eb
          exact next _ _ _ _ _ _ _ rfl
        · rintro d ds e ih2 ⟨b, v7, v8, v9, v10, v11, rfl, hb, hd⟩
          obtain ⟨t2, ht2⟩ : ∃ t, ts.length - (j + 1) - b = t + 1 := by
            have := congrArg List.length hd
            rw [rngD_length, List.length_cons] at this
            exact ⟨ds.length, this.symm⟩
          rw [ht2, rngD_succ] at hd
          injection hd with hd1 hd2
          subst hd1 hd2
          obtain ⟨a2, l2, i2⟩ := rowI_at hrows (i := j + 1 + b) (by omega)
          have pl : (pairsOf es c ts j b).length ≤ 8 := Nat.le_trans pairsOf_len (by omega)
          have next2 : ∀ (acc : List D) (v7 v8 v9 v10 v11 : Slot), acc = pairsTo es c ts j ++ pairsOf es c ts j (b + 1) → wLoop _ _ _ _ (⟨[.dat (.tuple [.tuple es, .int c, v]), .dat (.tuple ts), .dat (.tuple es), .dat (.int c), .dat v, .own acc, .dat (.int j), v7, v8, v9, v10, v11], n⟩ : En) := fun acc v7 v8 v9 v10 v11 ea => ih2 _ ⟨b + 1, v7, v8, v9, v10, v11, by rw [ea], by omega, by
            rw [show ts.length - (j + 1) - (b + 1) = t2 by omega]
            rfl⟩
          rw [pairsOf_succ] at next2
          simp only [wRet, wSet, wSeq, wNext, wDrop, wIfS, wTest, wAnd, wOr, wNot, wIf, wBin, wVar, wC, wAndV, wOrV, wNotV, wIsN, wNotN, wNeg, wChain, wNil, wCons, wTup, wLst, wBi, wCall, wIsi, wSl, wSo, wNo, wSeqI, wFor, gNm, gTp, puts, wAsg, wPar, wMul, wmD, wmO, putsI, wAug, wTryIs, wRng1, wRng2, wEnum, wEnumT, wZip, wLc, wYes, wLend, wRel, wOwn, wApp, wIns, wSetIx, wLstF, wListF, wRepF, wAddF, wSlS, wParO, wRevT, wSortedSet, wSortedSetL, wSortedSetT, wKeys, weI, wExt, allD, wMt, wRaise, wSeqO, wCallF, plainO, wCallA, wIdx0, wAnF, wSetA, wUnA, wSeqA, plainA, wFld, wFldO, wMake, wLRg, Ans.data, Ans.own.injEq, Ans.tup.injEq, Ans.dat.injEq, wTry, wTryM, wHs, wIsC, enOf, put, putUn, defEnds, lendE, lend, wipeE, hide, lenD, intD, listD, tupleD, reprD, wPen0, wPen1, wPen2, wPenS1, wPenS2, penAt, List.map_cons, List.map_nil, List.length_cons, List.length_nil, List.nil_append, List.cons_append, Nat.reduceAdd, Nat.reduceSub, Nat.reduceLeDiff, Nat.zero_add, List.replicate_zero, List.replicate_succ, List.getElem?_cons_zero, List.getElem?_cons_succ, List.set_cons_zero, List.set_cons_succ, Option.some.injEq, Slot.dat.injEq, Slot.own.injEq, PyData.bool.injEq, PyData.int.injEq, PyData.tuple.injEq, PyData.list.injEq, exists_eq_left', exists_eq_left, and_true, true_and, if_true, if_false, Bool.false_eq_true, reduceCtorEq, List.mapIdx_cons, List.mapIdx_nil]
          refine ⟨es, rfl, ?_⟩
          refine lcLoop.fm (fun e => some (fstD e)) (fun e hm A B h3 h4 => ?_) (by rw [List.length_nil]; omega) ?_
          · obtain ⟨i, w', rfl, _⟩ := he e hm
            simp only [wRet, wSet, wSeq, wNext, wDrop, wIfS, wTest, wAnd, wOr, wNot, wIf, wBin, wVar, wC, wAndV, wOrV, wNotV, wIsN, wNotN, wNeg, wChain, wNil, wCons, wTup, wLst, wBi, wCall, wIsi, wSl, wSo, wNo, wSeqI, wFor, gNm, gTp, puts, wAsg, wPar, wMul, wmD, wmO, putsI, wAug, wTryIs, wRng1, wRng2, wEnum, wEnumT, wZip, wLc, wYes, wLend, wRel, wOwn, wApp, wIns, wSetIx, wLstF, wListF, wRepF, wAddF, wSlS, wParO, wRevT, wSortedSet, wSortedSetL, wSortedSetT, wKeys, weI, wExt, allD, wMt, wRaise, wSeqO, wCallF, plainO, wCallA, wIdx0, wAnF, wSetA, wUnA, wSeqA, plainA, wFld, wFldO, wMake, wLRg, Ans.data, Ans.own.injEq, Ans.tup.injEq, Ans.dat.injEq, wTry, wTryM, wHs, wIsC, enOf, put, putUn, defEnds, lendE, lend, wipeE, hide, lenD, intD, listD, tupleD, reprD, wPen0, wPen1, wPen2, wPenS1, wPenS2, penAt, List.map_cons, List.map_nil, List.length_cons, List.length_nil, List.nil_append, List.cons_append, Nat.reduceAdd, Nat.reduceSub, Nat.reduceLeDiff, Nat.zero_add, List.replicate_zero, List.replicate_succ, List.getElem?_cons_zero, List.getElem?_cons_succ, List.set_cons_zero, List.set_cons_succ, Option.some.injEq, Slot.dat.injEq, Slot.own.injEq, PyData.bool.injEq, PyData.int.injEq, PyData.tuple.injEq, PyData.list.injEq, exists_eq_left', exists_eq_left, and_true, true_and, if_true, if_false, Bool.false_eq_true, reduceCtorEq, List.mapIdx_cons, List.mapIdx_nil]
            exact ⟨_, rfl, h4 _ rfl⟩
          rw [List.nil_append, fmap_some]
          refine ⟨_, rfl, ?_⟩
          refine lcLoop.fm (apart (rowI ts j) (rowI ts (j + 1 + b))) (fun e hm A B h3 h4 => ?_) (by rw [List.length_map, List.length_nil]; omega) ?_
          · obtain ⟨e', hm', rfl⟩ := List.mem_map.mp hm
            obtain ⟨i, w', rfl, h0, h1, _⟩ := he e' hm'
            simp only [wRet, wSet, wSeq, wNext, wDrop, wIfS, wTest, wAnd, wOr, wNot, wIf, wBin, wVar, wC, wAndV, wOrV, wNotV, wIsN, wNotN, wNeg, wChain, wNil, wCons, wTup, wLst, wBi, wCall, wIsi, wSl, wSo, wNo, wSeqI, wFor, gNm, gTp, puts, wAsg, wPar, wMul, wmD, wmO, putsI, wAug, wTryIs, wRng1, wRng2, wEnum, wEnumT, wZip, wLc, wYes, wLend, wRel, wOwn, wApp, wIns, wSetIx, wLstF, wListF, wRepF, wAddF, wSlS, wParO, wRevT, wSortedSet, wSortedSetL, wSortedSetT, wKeys, weI, wExt, allD, wMt, wRaise, wSeqO, wCallF, plainO, wCallA, wIdx0, wAnF, wSetA, wUnA, wSeqA, plainA, wFld, wFldO, wMake, wLRg, Ans.data, Ans.own.injEq, Ans.tup.injEq, Ans.dat.injEq, wTry, wTryM, wHs, wIsC, enOf, put, putUn, defEnds, lendE, lend, wipeE, hide, lenD, intD, listD, tupleD, reprD, wPen0, wPen1, wPen2, wPenS1, wPenS2, penAt, List.map_cons, List.map_nil, List.length_cons, List.length_nil, List.nil_append, List.cons_append, Nat.reduceAdd, Nat.reduceSub, Nat.reduceLeDiff, Nat.zero_add, List.replicate_zero, List.replicate_succ, List.getElem?_cons_zero, List.getElem?_cons_succ, List.set_cons_zero, List.set_cons_succ, Option.some.injEq, Slot.dat.injEq, Slot.own.injEq, PyData.bool.injEq, PyData.int.injEq, PyData.tuple.injEq, PyData.list.injEq, exists_eq_left', exists_eq_left, and_true, true_and, if_true, if_false, Bool.false_eq_true, reduceCtorEq, List.mapIdx_cons, List.mapIdx_nil, fstD]
            refine ⟨_, rfl, _, rfl, _, a1, _, atI_pos h0 (by rw [l1]; exact h1), _, rfl, _, rfl, _, a2, _, atI_pos h0 (by rw [l2]; exact h1), .inr ⟨good i1 _ (getD_mem h0 (by rw [l1]; exact h1)), good i2 _ (getD_mem h0 (by rw [l2]; exact h1))⟩, _, rfl, ?_⟩
            rcases Bool.eq_false_or_eq_true (PyData.eqv ((rowI ts j).getD i.toNat .none) ((rowI ts (j + 1 + b)).getD i.toNat .none)) with h5 | h5
            · rw [if_neg (by rw [h5] <;> decide)]
              exact h3 (if_pos h5)
            · rw [if_pos (by rw [h5] <;> rfl)]
              exact h4 _ (if_neg (by rw [h5] <;> decide))
          rw [List.nil_append]
          have an := apart_nil (es := es) (xs := rowI ts j) (ys := rowI ts (j + 1 + b)) he
          have lh := like_has (es := es) (xs := rowI ts j) (ys := rowI ts (j + 1 + b)) he l1 l2 i1 i2
          have ga : Good (.list (List.filterMap (apart (rowI ts j) (rowI ts (j + 1 + b))) (List.map fstD es))) := (Ok.list (n := 40) (m := 3) (k := 4) (fun o ho => by
            obtain ⟨y, h5, h6⟩ := List.mem_filterMap.mp ho
            obtain ⟨e', h7, rfl⟩ := List.mem_map.mp h5
            obtain ⟨i, w', rfl, h8, h9, _⟩ := he e' h7
            have e6 : (if PyData.eqv ((rowI ts j).getD i.toNat .none) ((rowI ts (j + 1 + b)).getD i.toNat .none) = true then none else some (PyData.int i)) = some o := h6
            split at e6
            · cases e6
            · cases e6
              have f := (Ok.in_tuple (Ok.in_tuple ge _ h7) (.int i) List.mem_cons_self).f
              simp only [fine] at f
              exact (Ok.int (of_decide_eq_true f)).mono (by decide) (by decide)) (Nat.le_trans (List.length_filterMap_le _ _) (by rw [List.length_map]; exact el))).good
          have gn : Good (.list []) := (by exact ⟨by decide +kernel, by decide +kernel, by decide +kernel⟩ : Ok 1 1 (.list [])).good
          generalize List.filterMap (apart (rowI ts j) (rowI ts (j + 1 + b))) (List.map fstD es) = ap at an ga
          refine ⟨_, a2, _, _, rfl, by rw [l2]; exact he, good i2, by omega, _, rfl, ?_⟩
          rcases Bool.eq_false_or_eq_true (hasB es (rowI ts (j + 1 + b))) with h5 | h5
          · rw [if_pos h5]
            refine ⟨.inr ⟨ga, gn⟩, _, rfl, ?_⟩
            by_cases h6 : ap = []
            · have hlk := an.mp h6
              rw [if_pos (by rw [h6]; rfl)]
              refine ⟨_, a1, _, atI_pos c0 (by rw [l1]; exact c1), _, a2, _, atI_pos c0 (by rw [l2]; exact c1), .inr ⟨good i1 _ (getD_mem c0 (by rw [l1]; exact c1)), good i2 _ (getD_mem c0 (by rw [l2]; exact c1))⟩, _, rfl, ?_⟩
              have e2 : pairB es c ts j (j + 1 + b) = !PyData.eqv ((rowI ts j).getD c.toNat .none) ((rowI ts (j + 1 + b)).getD c.toNat .none) := by
                unfold pairB
                rw [h, hlk, Bool.true_and, Bool.true_and]
              rcases Bool.eq_false_or_eq_true (PyData.eqv ((rowI ts j).getD c.toNat .none) ((rowI ts (j + 1 + b)).getD c.toNat .none)) with hq | hq
              · rw [if_neg (by rw [hq] <;> decide)]
                refine next2 _ _ _ _ _ _ ?_
                rw [if_neg (by rw [e2, hq] <;> decide), List.append_nil]
              · rw [if_pos (by rw [hq] <;> rfl)]
                refine ⟨⟨_, rfl⟩, by rw [List.length_append]; omega, next2 _ _ _ _ _ _ ?_⟩
                rw [if_pos (by rw [e2, hq] <;> rfl), List.append_assoc]
            · have hlk : likeB es (rowI ts j) (rowI ts (j + 1 + b)) = false := Bool.eq_false_iff.mpr fun z => h6 (an.mpr z)
              rw [if_neg (by
                cases ap with
                | nil => exact absurd rfl h6
                | cons x xs => simp [PyData.eqv, PyData.eqvAll])]
              refine next2 _ _ _ _ _ _ ?_
              rw [if_neg (by unfold pairB; rw [hlk, Bool.and_false, Bool.false_and]; decide), List.append_nil]
          · have hlk : likeB es (rowI ts j) (rowI ts (j + 1 + b)) = false := Bool.eq_false_iff.mpr fun z => by
              rw [lh z, h] at h5
              cases h5
            rw [if_neg (by rw [h5] <;> decide)]
            refine next2 _ _ _ _ _ _ ?_
            rw [if_neg (by unfold pairB; rw [hlk, Bool.and_false, Bool.false_and]; decide), List.append_nil]
      · rw [if_neg (by rw [h] <;> decide)]
        refine next _ _ _ _ _ _ _ ?_
        rw [pairsOf_nil h, List.append_nil]
  · rw [if_neg (by rw [hv] <;> decide)] at q
    refine wLoop.ind (fun ds e => ∃ (j : Nat) (u6 u7 u8 u9 u10 u11 : Slot), e = ⟨[.dat (.tuple [.tuple es, .int c, v]), .dat (.tuple ts), .dat (.tuple es), .dat (.int c), .dat v, .own ((List.range j).filterMap (single es c v ts)), u6, u7, u8, u9, u10, u11], n⟩ ∧ j ≤ ts.length ∧ ds = rngD j (ts.length - j)) ?_ ?_ ⟨0, _, _, _, _, _, _, rfl, Nat.zero_le _, rfl⟩
    · rintro e ⟨j, u6, u7, u8, u9, u10, u11, rfl, hj, hd⟩
      have ej : j = ts.length := by
        have := congrArg List.length hd
        rw [rngD_length, List.length_nil] at this
        omega
      subst ej
      exact ⟨_, rfl, q⟩
    · rintro d ds e ih ⟨j, u6, u7, u8, u9, u10, u11, rfl, hj, hd⟩
      obtain ⟨t, ht'⟩ : ∃ t, ts.length - j = t + 1 := by
        have := congrArg List.length hd
        rw [rngD_length, List.length_cons] at this
        exact ⟨ds.length, this.symm⟩
      rw [ht', rngD_succ] at hd
      injection hd with hd1 hd2
      subst hd1 hd2
      obtain ⟨a1, l1, i1⟩ := rowI_at hrows (i := j) (by omega)
      have fl : ((List.range j).filterMap (single es c v ts)).length ≤ 8 := Nat.le_trans (List.length_filterMap_le _ _) (by rw [List.length_range]; omega)
      have es1 : single es c v ts j = if (hasB es (rowI ts j) && !PyData.eqv ((rowI ts j).getD c.toNat .none) v) = true then some (.tuple [.int j]) else none := rfl
      have next : ∀ (acc : List D) (v6 v7 v8 v9 v10 v11 : Slot), acc = (List.range j).filterMap (single es c v ts) ++ [j].filterMap (single es c v ts) → wLoop _ _ _ _ (⟨[.dat (.tuple [.tuple es, .int c, v]), .dat (.tuple ts), .dat (.tuple es), .dat (.int c), .dat v, .own acc, v6, v7, v8, v9, v10, v11], n⟩ : En) := fun acc v6 v7 v8 v9 v10 v11 ea => ih _ ⟨j + 1, v6, v7, v8, v9, v10, v11, by rw [ea, ← List.filterMap_append, ← List.range_succ], by omega, by
        rw [show ts.length - (j + 1) = t by omega]
        rfl⟩
      simp only [wRet, wSet, wSeq, wNext, wDrop, wIfS, wTest, wAnd, wOr, wNot, wIf, wBin, wVar, wC, wAndV, wOrV, wNotV, wIsN, wNotN, wNeg, wChain, wNil, wCons, wTup, wLst, wBi, wCall, wIsi, wSl, wSo, wNo, wSeqI, wFor, gNm, gTp, puts, wAsg, wPar, wMul, wmD, wmO, putsI, wAug, wTryIs, wRng1, wRng2, wEnum, wEnumT, wZip, wLc, wYes, wLend, wRel, wOwn, wApp, wIns, wSetIx, wLstF, wListF, wRepF, wAddF, wSlS, wParO, wRevT, wSortedSet, wSortedSetL, wSortedSetT, wKeys, weI, wExt, allD, wMt, wRaise, wSeqO, wCallF, plainO, wCallA, wIdx0, wAnF, wSetA, wUnA, wSeqA, plainA, wFld, wFldO, wMake, wLRg, Ans.data, Ans.own.injEq, Ans.tup.injEq, Ans.dat.injEq, wTry, wTryM, wHs, wIsC, enOf, put, putUn, defEnds, lendE, lend, wipeE, hide, lenD, intD, listD, tupleD, reprD, wPen0, wPen1, wPen2, wPenS1, wPenS2, penAt, List.map_cons, List.map_nil, List.length_cons, List.length_nil, List.nil_append, List.cons_append, Nat.reduceAdd, Nat.reduceSub, Nat.reduceLeDiff, Nat.zero_add, List.replicate_zero, List.replicate_succ, List.getElem?_cons_zero, List.getElem?_cons_succ, List.set_cons_zero, List.set_cons_succ, Option.some.injEq, Slot.dat.injEq, Slot.own.injEq, PyData.bool.injEq, PyData.int.injEq, PyData.tuple.injEq, PyData.list.injEq, exists_eq_left', exists_eq_left, and_true, true_and, if_true, if_false, Bool.false_eq_true, reduceCtorEq, List.mapIdx_cons, List.mapIdx_nil, addD]
      refine ⟨_, a1, _, _, rfl, by rw [l1]; exact he, good i1, by omega, ?_⟩
      refine ⟨_, rfl, ?_⟩
      rcases Bool.eq_false_or_eq_true (hasB es (rowI ts j)) with h | h
      · rw [if_pos h, if_pos (by rw [hv] <;> rfl)]
        have fin : ∀ (acc : List D), acc = (List.range j).filterMap (single es c v ts) ++ [j].filterMap (single es c v ts) → ∀ P : Prop, P → P := fun _ _ P p => p
        refine ⟨_, a1, _, atI_pos c0 (by rw [l1]; exact c1), .inr ⟨good i1 _ (getD_mem c0 (by rw [l1]; exact c1)), gv⟩, _, rfl, ?_⟩
        have e0 : ((0 : Int) - ((j : Int) + 1)).toNat = 0 := by omega
        rcases Bool.eq_false_or_eq_true (PyData.eqv ((rowI ts j).getD c.toNat .none) v) with hq | hq
        · rw [if_neg (by rw [hq] <;> decide), if_neg (by rw [hv] <;> decide)]
          refine ⟨_, _, rfl, rfl, ⟨by omega, by omega, by omega, by omega⟩, ?_⟩
          rw [e0]
          refine next _ _ _ _ _ _ _ ?_
          rw [List.filterMap_cons_none (by rw [es1, h, hq]; rfl), List.filterMap_nil, List.append_nil]
        · rw [if_pos (by rw [hq] <;> rfl), if_neg (by rw [hv] <;> decide)]
          refine ⟨⟨_, rfl⟩, by omega, _, _, rfl, rfl, ⟨by omega, by omega, by omega, by omega⟩, ?_⟩
          rw [e0]
          refine next _ _ _ _ _ _ _ ?_
          rw [List.filterMap_cons_some (b := .tuple [.int j]) (by rw [es1, h, hq]; rfl), List.filterMap_nil]
      · rw [if_neg (by rw [h] <;> decide)]
        refine next _ _ _ _ _ _ _ ?_
        rw [List.filterMap_cons_none (by rw [es1, h]; rfl), List.filterMap_nil, List.append_nil]
end
end L2.DL.K46
namespace L2.DL.K46
open PySem PySem.Spec
      PyProof.Rows
/-! ### the law's list of steps -/
def Steps (rules rows xs : List D) (ns : List Int) (t : List Int) : Prop := ∃ i, i < rules.length ∧ StepAt rules rows xs ns i t
def FewS (rules rows xs : List D) (ns : List Int) : Prop := ∀ L : List (List Int), L.Nodup → (∀ t ∈ L, Steps rules rows xs ns t) → L.length < 63
def lack (ns : List Int) : D → Option D
  | .tuple [.int i, _] => if i ∈ ns then none else some (.int i)
  | _ => none
theorem lack_nil {ns : List Int} {es : List D} {m : Nat} (he : entsOk es m) : es.filterMap (lack ns) = [] ↔ allIn ns es = true := by
  induction es with
  | nil => simp [allIn]
  | cons e es ih =>
    obtain ⟨i, b, rfl, h0, h1, hb⟩ := he e List.mem_cons_self
    have rc := ih fun e h => he e (List.mem_cons_of_mem _ h)
    simp only [allIn, List.all_cons, Bool.and_eq_true] at rc ⊢
    rw [← rc]
    have e1 : lack ns (.tuple [.int i, b]) = if i ∈ ns then none else some (.int i) := rfl
    by_cases h : i ∈ ns
    · rw [List.filterMap_cons_none (by rw [e1, if_pos h])]
      simp [h]
    · rw [List.filterMap_cons_some (by rw [e1, if_neg h])]
      simp [h]
theorem steps_mem {rules rows xs : List D} {ns : List Int} {ts : List (List Int)} {j : Nat} {es : List D} {c : Int} {v : D} (hr : rules[j]? = some (.tuple [.tuple es, .int c, v]))
    (hm : ∀ t, t ∈ ts ↔ ∃ i, i < j ∧ StepAt rules rows xs ns i t) (ms : List Int) (hz : ∀ z, z ∈ ms ↔ (c ∉ ns ∧ allIn ns es = true ∧ Settles es c v rows xs z)) (t : List Int) :
    t ∈ (ts ++ ms.map fun z => [(j : Int), c, z]) ↔ ∃ i, i < j + 1 ∧ StepAt rules rows xs ns i t := by
  rw [List.mem_append, hm]
  constructor
  · rintro (⟨i, hi, h⟩ | h)
    · exact ⟨i, by omega, h⟩
    · obtain ⟨z, h1, rfl⟩ := List.mem_map.mp h
      obtain ⟨a, b, d⟩ := (hz z).mp h1
      exact ⟨j, by omega, es, c, v, z, hr, rfl, a, b, d⟩
  · rintro ⟨i, hi, h⟩
    by_cases e : i = j
    · subst e
      obtain ⟨es', c', v', z, h1, rfl, h2, h3, h4⟩ := h
      rw [hr] at h1
      injection h1 with h1
      injection h1 with h1
      injection h1 with h1 h5
      injection h5 with h5 h6
      injection h6 with h6 _
      injection h1 with h1
      injection h5 with h5
      subst h1 h5 h6
      exact .inr (List.mem_map.mpr ⟨z, (hz z).mpr ⟨h2, h3, h4⟩, rfl⟩)
    · exact .inl ⟨i, by omega, h⟩
theorem step_bd {m : Nat} {rules rows xs : List D} {ns : List Int} {i : Nat} {t : List Int} (h : StepsIn m rules rows xs ns) (s : StepAt rules rows xs ns i t) : t.length = 3 ∧ TS.Bd (2 ^ 120) t := by
  obtain ⟨es, c, v, z, h1, rfl, h2, h3, h4⟩ := s
  have il := (List.getElem?_eq_some_iff.mp h1).1
  have r8 := h.r8
  have m4 := h.m4
  obtain ⟨es', c', v', er, he, c0, c1, hv⟩ := h.rl _ (List.mem_of_getElem? h1)
  injection er with er
  injection er with e1 e2
  injection e2 with e2 e3
  injection e3 with e3 _
  injection e2 with e2
  subst e2 e3
  have hz : 0 ≤ z ∧ z < 2 ^ 120 := by
    rcases h4 with ⟨rfl, _⟩ | ⟨_, ys, hy, _, _, ez⟩
    · rcases hv with e | ⟨i, e, b1, b2⟩
      · cases e
      · injection e with e
        subst e
        exact ⟨b1, b2⟩
    · obtain ⟨ys', ey, hl, hi⟩ := h.tb _ hy
      injection ey with ey
      subst ey
      obtain ⟨i, e, b1, b2⟩ := hi _ (getD_mem c0 (by rw [hl]; exact c1))
      rw [ez] at e
      injection e with e
      subst e
      exact ⟨b1, b2⟩
  refine ⟨rfl, fun y hy => ?_⟩
  simp only [List.mem_cons, List.not_mem_nil, or_false] at hy
  rcases hy with rfl | rfl | rfl
  · exact ⟨by omega, by omega⟩
  · exact ⟨by omega, by omega⟩
  · exact hz
section
variable {P : Program} {w : World} {K : PySem.W.Frag} {mg : Str → Option Value} {base : Heap} {A : Cls}
def w_law_steps : Wc := fun ds k Q _ => ∃ (m : Nat) (rules rows xs : List D) (ns : List Int), ds = [.tuple rules, .tuple rows, .tuple xs, .tuple (ns.map PyData.int)] ∧ StepsIn m rules rows xs ns ∧ (∀ r ∈ rules, ∀ es c v, r = .tuple [.tuple es, c, v] → es.length ≤ 4) ∧ FewS rules rows xs ns ∧
  ∀ us : List (List Int), us.Nodup → (∀ t, t ∈ us ↔ Steps rules rows xs ns t) → us.Pairwise (fun a b => TS.code (2 ^ 120) a ≤ TS.code (2 ^ 120) b) → Q (.list (us.map tupI)) k
theorem m_law_steps : Wc.Mono w_law_steps := fun ds k Q Q' x x' h1 _ ⟨m, rules, rows, xs, ns, e, p1, p2, p3, q⟩ => ⟨m, rules, rows, xs, ns, e, p1, p2, p3, fun us a b c => h1 _ _ (q us a b c)⟩
theorem d_law_steps (T : Txt K mg A) (d_law_matches : Def P w K mg base "_law_matches" 1 ["_law_given", "_law_row_here"] w_law_matches) (d_law_values : Def P w K mg base "_law_values" 2 ["_law_rule_here", "_law_master", "_law_row_here"] w_law_values) (F : FunAt K mg "_law_steps" s_law_steps ["_law_rules", "_law_master", "_law_row_here", "_law_settled"]) : Def P w K mg base "_law_steps" 3 ["_law_rules", "_law_master", "_law_row_here", "_law_settled"] w_law_steps := by
  refine defD F sc_law_steps (fun ds k Q x ⟨m, rules, rows, xs, ns, e, _⟩ => by rw [e]; rfl) fun f cdv Ar outer s H E p G hg hr => ⟨_, (dss_cons (ds_own (i := 4) (df_lst da_nil) sc_law_steps.nd)
    (dss_cons (ds_for (passes_of rfl) rfl (di_rng1 (de_bi lenD.mono fitsLen call_len_seq (da_cons (de_var (pv 0)) da_nil) T.z_len) T.z_range) (dg_nm (i := 5) sc_law_steps.nd)
    (dss_cons (ds_asg (de_idx (de_var (pv 0)) (de_var (pv 5))) (dg_tp rfl (dgs_cons (i := 6) sc_law_steps.nd (dgs_cons (i := 7) sc_law_steps.nd (dgs_cons (i := 8) sc_law_steps.nd dgs_nil)))))
    (dss_cons (ds_setLc (i := 9) (own := [("_law_one_here", 10)]) rfl sc_law_steps.nd (di_seq (de_var (pv 6))) (blkOk_by (N := ["_law_rules", "_law_master", "_law_row_here", "_law_settled", "_law_found", "_law_k", "_law_given", "_law_column", "_law_want", "_law_lacking", "_law_one_here", "_law_values_here", "_law_value_here"]) (sc := defScope s_law_steps) (by decide +kernel)) (fun _ _ _ _ _ _ _ => (dgc_nm (i := 10) sc_law_steps.nd (by decide))) (fun _ _ _ _ _ _ _ => (dts_one (dt_cmp (op_notInA (hr65 hr)) notInD.mono fitsNotIn (de_idx (de_var (pv 10)) de_int) (de_var (pv 3))))) (fun _ _ _ _ _ _ _ => (de_idx (de_var (pv 10)) de_int)) (sw_true rfl rfl rfl (by decide +kernel)))
    (dss_one (ds_if (DW.dt (dw_and (dt_cmp (op_notInA (hr65 hr)) notInD.mono fitsNotIn (de_var (pv 7)) (de_var (pv 3))) (dw_and (dt_cmp (op_eqA hr.units) eqD.mono fitsEq (de_var (pv 9)) (de_lst da_nil)) (dw_and1 (dt_val (de_fn d_law_matches m_law_matches hg hr (takes_of rfl rfl rfl rfl) (da_cons (de_var (pv 6)) (da_cons (de_var (pv 2)) da_nil))))))))
    (dss_cons (ds_set (i := 11) (de_fn d_law_values m_law_values hg hr (takes_of rfl rfl rfl rfl) (da_cons (de_idx (de_var (pv 0)) (de_var (pv 5))) (da_cons (de_var (pv 1)) (da_cons (de_var (pv 2)) da_nil)))) sc_law_steps.nd)
    (dss_one (ds_extend (i := 4) (de_lc (own := [("_law_value_here", 12)]) rfl sc_law_steps.nd (di_seq (de_var (pv 11))) (blkOk_by (N := ["_law_rules", "_law_master", "_law_row_here", "_law_settled", "_law_found", "_law_k", "_law_given", "_law_column", "_law_want", "_law_lacking", "_law_one_here", "_law_values_here", "_law_value_here"]) (sc := defScope s_law_steps) (by decide +kernel)) (fun _ _ _ _ _ _ _ => (dgc_nm (i := 12) sc_law_steps.nd (by decide))) (fun _ _ _ _ _ _ _ => dts_nil) (fun _ _ _ _ _ _ _ => (de_tup (da_cons (de_var (pv 5)) (da_cons (de_var (pv 7)) (da_cons (de_var (pv 12)) da_nil)))))) (pv 4))))
    dss_nil)))))
    (dss_rel (dss_one (ds_ret (de_sortedSetT rfl hr.units (de_var (pv 4)) T.z_sorted T.z_set)))))), ?_⟩
  rintro ds n Q x ⟨m, rules, rows, xs, ns, rfl, h, hel, few, q⟩
  simp only [wRet, wSet, wSeq, wNext, wDrop, wIfS, wTest, wAnd, wOr, wNot, wIf, wBin, wVar, wC, wAndV, wOrV, wNotV, wIsN, wNotN, wNeg, wChain, wNil, wCons, wTup, wLst, wBi, wCall, wIsi, wSl, wSo, wNo, wSeqI, wFor, gNm, gTp, puts, wAsg, wPar, wMul, wmD, wmO, putsI, wAug, wTryIs, wRng1, wRng2, wEnum, wEnumT, wZip, wLc, wYes, wLend, wRel, wOwn, wApp, wIns, wSetIx, wLstF, wListF, wRepF, wAddF, wSlS, wParO, wRevT, wSortedSet, wSortedSetL, wSortedSetT, wKeys, weI, wExt, allD, wMt, wRaise, wSeqO, wCallF, plainO, wCallA, wIdx0, wAnF, wSetA, wUnA, wSeqA, plainA, wFld, wFldO, wMake, wLRg, Ans.data, Ans.own.injEq, Ans.tup.injEq, Ans.dat.injEq, wTry, wTryM, wHs, wIsC, enOf, put, putUn, defEnds, lendE, lend, wipeE, hide, lenD, intD, listD, tupleD, reprD, wPen0, wPen1, wPen2, wPenS1, wPenS2, penAt, List.map_cons, List.map_nil, List.length_cons, List.length_nil, List.nil_append, List.cons_append, Nat.reduceAdd, Nat.reduceSub, Nat.reduceLeDiff, Nat.zero_add, List.replicate_zero, List.replicate_succ, List.getElem?_cons_zero, List.getElem?_cons_succ, List.set_cons_zero, List.set_cons_succ, Option.some.injEq, Slot.dat.injEq, Slot.own.injEq, PyData.bool.injEq, PyData.int.injEq, PyData.tuple.injEq, PyData.list.injEq, exists_eq_left', exists_eq_left, and_true, true_and, if_true, if_false, Bool.false_eq_true, reduceCtorEq, List.mapIdx_cons, List.mapIdx_nil]
  have r8 := h.r8
  refine ⟨by omega,
        by omega, ?_⟩
  rw [Int.toNat_natCast]
  refine wLoop.ind (fun ds e => ∃ (j : Nat) (ts : List (List Int)) (u5 u6 u7 u8 u9 u10 u11 u12 : Slot), e = ⟨[.dat (.tuple rules), .dat (.tuple rows), .dat (.tuple xs), .dat (.tuple (ns.map PyData.int)), .own (ts.map tupI), u5, u6, u7, u8, u9, u10, u11, u12], n⟩ ∧ j ≤ rules.length ∧ ds = rngD j (rules.length - j) ∧
      (∀ t, t ∈ ts ↔ ∃ i, i < j ∧ StepAt rules rows xs ns i t) ∧ ts.length ≤ 8 * j) ?_ ?_ ⟨0, [], _, _, _, _, _, _, _, _, rfl, Nat.zero_le _, rfl, fun t => ⟨fun z => (nomatch z), fun ⟨i, hi, _⟩ => (nomatch hi)⟩, Nat.zero_le _⟩
  · rintro e ⟨j, ts, u5, u6, u7, u8, u9, u10, u11, u12, rfl, hj, hd, hm, hl⟩
    have ej : j = rules.length := by
      have := congrArg List.length hd
      rw [rngD_length, List.length_nil] at this
      omega
    subst ej
    exact ⟨_, rfl, ts, 3, 2 ^ 120, rfl, by decide, fun t ht => by
      obtain ⟨i, hi, s⟩ := (hm t).mp ht
      exact step_bd h s, fun L nd sub => few L nd fun t ht => (hm t).mp (sub t ht), fun us u1 u2 u3 => q us u1 (fun t => by rw [u2, hm]; rfl) u3⟩
  · rintro d ds e ih ⟨j, ts, u5, u6, u7, u8, u9, u10, u11, u12, rfl, hj, hd, hm, hl⟩
    obtain ⟨t, ht⟩ : ∃ t, rules.length - j = t + 1 := by
      have := congrArg List.length hd
      rw [rngD_length, List.length_cons] at this
      exact ⟨ds.length, this.symm⟩
    rw [ht, rngD_succ] at hd
    injection hd with hd1 hd2
    subst hd1 hd2
    have jl : j < rules.length := by omega
    have j1 : (j : Int) < rules.length := by omega
    obtain ⟨es, c, v, er, he, c0, c1, hv⟩ := h.rl rules[j] (List.getElem_mem jl)
    have hr' : rules[j]? = some (.tuple [.tuple es, .int c, v]) := by rw [List.getElem?_eq_getElem jl, er]
    have at1 : atI rules (j : Int) = some (.tuple [.tuple es, .int c, v]) := by
      rw [atI_pos (Int.natCast_nonneg j) j1, Int.toNat_natCast, List.getD_eq_getElem?_getD, hr'] <;> rfl
    have tl : rngD ((j : Int) + 1) t = rngD ((j + 1 : Nat) : Int) (rules.length - (j + 1)) := by
      rw [show rules.length - (j + 1) = t by omega]
      rfl
    have m4 := h.m4
    have next : ∀ (ms : List Int) (u5 u6 u7 u8 u9 u10 u11 u12 : Slot), ms.length ≤ 8 → (∀ z, z ∈ ms ↔ (c ∉ ns ∧ allIn ns es = true ∧ Settles es c v rows xs z)) →
        wLoop _ _ _ _ (⟨[.dat (.tuple rules), .dat (.tuple rows), .dat (.tuple xs), .dat (.tuple (ns.map PyData.int)), .own ((ts ++ ms.map fun z => [(j : Int), c, z]).map tupI), u5, u6, u7, u8, u9, u10, u11, u12], n⟩ : En) := fun ms u5 u6 u7 u8 u9 u10 u11 u12 m2 m3 =>
      ih _ ⟨j + 1, _, u5, u6, u7, u8, u9, u10, u11, u12, rfl, by omega, tl, steps_mem hr' hm ms m3, by rw [List.length_append, List.length_map]; omega⟩
    have next0 : ∀ (u5 u6 u7 u8 u9 u10 u11 u12 : Slot), (∀ z, ¬ (c ∉ ns ∧ allIn ns es = true ∧ Settles es c v rows xs z)) → wLoop _ _ _ _ (⟨[.dat (.tuple rules), .dat (.tuple rows), .dat (.tuple xs), .dat (.tuple (ns.map PyData.int)), .own (ts.map tupI), u5, u6, u7, u8, u9, u10, u11, u12], n⟩ : En) := fun u5 u6 u7 u8 u9 u10 u11 u12 no => by
      have z := next [] u5 u6 u7 u8 u9 u10 u11 u12 (Nat.zero_le _) fun z => ⟨fun y => (nomatch y), fun y => absurd y (no z)⟩
      rw [List.map_nil, List.append_nil] at z
      exact z
    simp only [wRet, wSet, wSeq, wNext, wDrop, wIfS, wTest, wAnd, wOr, wNot, wIf, wBin, wVar, wC, wAndV, wOrV, wNotV, wIsN, wNotN, wNeg, wChain, wNil, wCons, wTup, wLst, wBi, wCall, wIsi, wSl, wSo, wNo, wSeqI, wFor, gNm, gTp, puts, wAsg, wPar, wMul, wmD, wmO, putsI, wAug, wTryIs, wRng1, wRng2, wEnum, wEnumT, wZip, wLc, wYes, wLend, wRel, wOwn, wApp, wIns, wSetIx, wLstF, wListF, wRepF, wAddF, wSlS, wParO, wRevT, wSortedSet, wSortedSetL, wSortedSetT, wKeys, weI, wExt, allD, wMt, wRaise, wSeqO, wCallF, plainO, wCallA, wIdx0, wAnF, wSetA, wUnA, wSeqA, plainA, wFld, wFldO, wMake, wLRg, Ans.data, Ans.own.injEq, Ans.tup.injEq, Ans.dat.injEq, wTry, wTryM, wHs, wIsC, enOf, put, putUn, defEnds, lendE, lend, wipeE, hide, lenD, intD, listD, tupleD, reprD, wPen0, wPen1, wPen2, wPenS1, wPenS2, penAt, List.map_cons, List.map_nil, List.length_cons, List.length_nil, List.nil_append, List.cons_append, Nat.reduceAdd, Nat.reduceSub, Nat.reduceLeDiff, Nat.zero_add, List.replicate_zero, List.replicate_succ, List.getElem?_cons_zero, List.getElem?_cons_succ, List.set_cons_zero, List.set_cons_succ, Option.some.injEq, Slot.dat.injEq, Slot.own.injEq, PyData.bool.injEq, PyData.int.injEq, PyData.tuple.injEq, PyData.list.injEq, exists_eq_left', exists_eq_left, and_true, true_and, if_true, if_false, Bool.false_eq_true, reduceCtorEq, List.mapIdx_cons, List.mapIdx_nil]
    refine ⟨_, at1, _, rfl, rfl, ?_⟩
    simp (decide := true) only [wRet, wSet, wSeq, wNext, wDrop, wIfS, wTest, wAnd, wOr, wNot, wIf, wBin, wVar, wC, wAndV, wOrV, wNotV, wIsN, wNotN, wNeg, wChain, wNil, wCons, wTup, wLst, wBi, wCall, wIsi, wSl, wSo, wNo, wSeqI, wFor, gNm, gTp, puts, wAsg, wPar, wMul, wmD, wmO, putsI, wAug, wTryIs, wRng1, wRng2, wEnum, wEnumT, wZip, wLc, wYes, wLend, wRel, wOwn, wApp, wIns, wSetIx, wLstF, wListF, wRepF, wAddF, wSlS, wParO, wRevT, wSortedSet, wSortedSetL, wSortedSetT, wKeys, weI, wExt, allD, wMt, wRaise, wSeqO, wCallF, plainO, wCallA, wIdx0, wAnF, wSetA, wUnA, wSeqA, plainA, wFld, wFldO, wMake, wLRg, Ans.data, Ans.own.injEq, Ans.tup.injEq, Ans.dat.injEq, wTry, wTryM, wHs, wIsC, enOf, put, putUn, defEnds, lendE, lend, wipeE, hide, lenD, intD, listD, tupleD, reprD, wPen0, wPen1, wPen2, wPenS1, wPenS2, penAt, List.map_cons, List.map_nil, List.length_cons, List.length_nil, List.nil_append, List.cons_append, Nat.reduceAdd, Nat.reduceSub, Nat.reduceLeDiff, Nat.zero_add, List.replicate_zero, List.replicate_succ, List.getElem?_cons_zero, List.getElem?_cons_succ, List.set_cons_zero, List.set_cons_succ, Option.some.injEq, Slot.dat.injEq, Slot.own.injEq, PyData.bool.injEq, PyData.int.injEq, PyData.tuple.injEq, PyData.list.injEq, exists_eq_left', exists_eq_left, and_true, true_and, if_true, if_false, Bool.false_eq_true, reduceCtorEq, List.mapIdx_cons, List.mapIdx_nil]
    refine ⟨es, rfl, ?_⟩
    have el := hel _ (List.getElem_mem jl) _ _ _ er
    refine lcLoop.fm (lack ns) (fun e hm' A B h3 h4 => ?_) (by rw [List.length_nil]; omega) ?_
    · obtain ⟨i, b, rfl, h0, h1, hb⟩ := he e hm'
      simp only [wRet, wSet, wSeq, wNext, wDrop, wIfS, wTest, wAnd, wOr, wNot, wIf, wBin, wVar, wC, wAndV, wOrV, wNotV, wIsN, wNotN, wNeg, wChain, wNil, wCons, wTup, wLst, wBi, wCall, wIsi, wSl, wSo, wNo, wSeqI, wFor, gNm, gTp, puts, wAsg, wPar, wMul, wmD, wmO, putsI, wAug, wTryIs, wRng1, wRng2, wEnum, wEnumT, wZip, wLc, wYes, wLend, wRel, wOwn, wApp, wIns, wSetIx, wLstF, wListF, wRepF, wAddF, wSlS, wParO, wRevT, wSortedSet, wSortedSetL, wSortedSetT, wKeys, weI, wExt, allD, wMt, wRaise, wSeqO, wCallF, plainO, wCallA, wIdx0, wAnF, wSetA, wUnA, wSeqA, plainA, wFld, wFldO, wMake, wLRg, Ans.data, Ans.own.injEq, Ans.tup.injEq, Ans.dat.injEq, wTry, wTryM, wHs, wIsC, enOf, put, putUn, defEnds, lendE, lend, wipeE, hide, lenD, intD, listD, tupleD, reprD, wPen0, wPen1, wPen2, wPenS1, wPenS2, penAt, List.map_cons, List.map_nil, List.length_cons, List.length_nil, List.nil_append, List.cons_append, Nat.reduceAdd, Nat.reduceSub, Nat.reduceLeDiff, Nat.zero_add, List.replicate_zero, List.replicate_succ, List.getElem?_cons_zero, List.getElem?_cons_succ, List.set_cons_zero, List.set_cons_succ, Option.some.injEq, Slot.dat.injEq, Slot.own.injEq, PyData.bool.injEq, PyData.int.injEq, PyData.tuple.injEq, PyData.list.injEq, exists_eq_left', exists_eq_left, and_true, true_and, if_true, if_false, Bool.false_eq_true, reduceCtorEq, List.mapIdx_cons, List.mapIdx_nil]
      refine ⟨_, rfl, (Ok.int (by omega)).good, h.set.good h.m4, _, rfl, _, rfl, ?_⟩
      rw [inB_dec]
      by_cases hi : i ∈ ns
      · rw [if_neg (by simp [hi])]
        exact h3 (if_pos hi)
      · rw [if_pos (by simp [hi])]
        exact ⟨_, rfl, h4 _ (if_neg hi)⟩
    · rw [List.nil_append]
      have an := lack_nil (ns := ns) he
      have ga : Good (.list (es.filterMap (lack ns))) := (Ok.list (n := 1) (m := 0) (k := 4) (fun o ho => by
        obtain ⟨y, h5, h6⟩ := List.mem_filterMap.mp ho
        obtain ⟨i, w', rfl, h8, h9, _⟩ := he y h5
        have e6 : (if i ∈ ns then none else some (PyData.int i)) = some o := h6
        split at e6
        · cases e6
        · cases e6
          exact Ok.int (by omega)) (Nat.le_trans (List.length_filterMap_le _ _) el)).good
      have gn : Good (.list []) := (by exact ⟨by decide +kernel, by decide +kernel, by decide +kernel⟩ : Ok 1 1 (.list [])).good
      generalize es.filterMap (lack ns) = ap at an ga
      refine ⟨(Ok.int (by omega)).good, h.set.good h.m4, _, rfl, _, rfl, ?_⟩
      rw [inB_dec]
      by_cases hc : c ∈ ns
      · rw [if_neg (by simp [hc])]
        exact next0 _ _ _ _ _ _ _ _ fun z y => absurd hc y.1
      · rw [if_pos (by simp [hc])]
        refine ⟨.inr ⟨ga, gn⟩, _, rfl, ?_⟩
        by_cases h6 : ap = []
        · have ha := an.mp h6
          rw [if_pos (by rw [h6]; rfl)]
          refine ⟨es, xs, rfl, by rw [h.row.1]; exact he, h.row.good, by omega, _, rfl, ?_⟩
          by_cases hh : hasB es xs = true
          · rw [if_pos hh]
            refine ⟨_, at1, es, rows, xs, c, v, m, rfl, he, ⟨el, m4⟩, h.row, h.tb, h.t8, c0, c1, hv, hh, fun vs v8 vz => ⟨⟨_, rfl⟩, _, rfl, ?_⟩⟩
            refine lcLoop.fm (fun z => some (.tuple [.int j, .int c, z])) (fun z hz A B h3 h4 => ?_) (by rw [List.length_nil, List.length_map]; omega) ?_
            · simp only [wRet, wSet, wSeq, wNext, wDrop, wIfS, wTest, wAnd, wOr, wNot, wIf, wBin, wVar, wC, wAndV, wOrV, wNotV, wIsN, wNotN, wNeg, wChain, wNil, wCons, wTup, wLst, wBi, wCall, wIsi, wSl, wSo, wNo, wSeqI, wFor, gNm, gTp, puts, wAsg, wPar, wMul, wmD, wmO, putsI, wAug, wTryIs, wRng1, wRng2, wEnum, wEnumT, wZip, wLc, wYes, wLend, wRel, wOwn, wApp, wIns, wSetIx, wLstF, wListF, wRepF, wAddF, wSlS, wParO, wRevT, wSortedSet, wSortedSetL, wSortedSetT, wKeys, weI, wExt, allD, wMt, wRaise, wSeqO, wCallF, plainO, wCallA, wIdx0, wAnF, wSetA, wUnA, wSeqA, plainA, wFld, wFldO, wMake, wLRg, Ans.data, Ans.own.injEq, Ans.tup.injEq, Ans.dat.injEq, wTry, wTryM, wHs, wIsC, enOf, put, putUn, defEnds, lendE, lend, wipeE, hide, lenD, intD, listD, tupleD, reprD, wPen0, wPen1, wPen2, wPenS1, wPenS2, penAt, List.map_cons, List.map_nil, List.length_cons, List.length_nil, List.nil_append, List.cons_append, Nat.reduceAdd, Nat.reduceSub, Nat.reduceLeDiff, Nat.zero_add, List.replicate_zero, List.replicate_succ, List.getElem?_cons_zero, List.getElem?_cons_succ, List.set_cons_zero, List.set_cons_succ, Option.some.injEq, Slot.dat.injEq, Slot.own.injEq, PyData.bool.injEq, PyData.int.injEq, PyData.tuple.injEq, PyData.list.injEq, exists_eq_left', exists_eq_left, and_true, true_and, if_true, if_false, Bool.false_eq_true, reduceCtorEq, List.mapIdx_cons, List.mapIdx_nil]
              exact h4 _ rfl
            · rw [List.nil_append, fmap_some]
              refine ⟨_, _, rfl, rfl, by rw [List.length_map, List.length_map, List.length_map]; omega, ?_⟩
              have eo : ts.map tupI ++ (vs.map PyData.int).map (fun z => PyData.tuple [.int j, .int c, z]) = (ts ++ vs.map fun z => [(j : Int), c, z]).map tupI := by simp
              rw [eo]
              exact next vs _ _ _ _ _ _ _ _ v8 fun z => by
                rw [vz]
                exact ⟨fun y => ⟨hc, ha, y⟩, fun y => y.2.2⟩
          · rw [if_neg hh]
            exact next0 _ _ _ _ _ _ _ _ fun z y => by
              rcases y.2.2 with ⟨_, e⟩ | ⟨_, _, _, e, _⟩ <;> exact hh e
        · rw [if_neg (by
            cases ap with
            | nil => exact absurd rfl h6
            | cons x xs => simp [PyData.eqv, PyData.eqvAll])]
          exact next0 _ _ _ _ _ _ _ _ fun z y => h6 (an.mpr y.2.1)
end
end L2.DL.K46
namespace L2.DL.K46
open PySem PySem.Spec
      PyProof.Rows
/-! ### both lists of steps are one; few of them -/
theorem in_len {α : Type} [DecidableEq α] : ∀ (l d : List α), l.Nodup → (∀ x ∈ l, x ∈ d) → l.length ≤ d.length
  | [], _, _, _ =>
        Nat.zero_le _
  | x :: l, d, nd, h => by
    have nd' := List.nodup_cons.mp nd
    have hx := h x List.mem_cons_self
    have := in_len l (d.erase x) nd'.2 fun y hy => (List.mem_erase_of_ne fun e => nd'.1 (by rw [← e]; exact hy)).mpr (h y (List.mem_cons_of_mem _ hy))
    rw [List.length_erase_of_mem hx] at this
    have := List.length_pos_of_mem hx
    rw [List.length_cons]
    omega
theorem flat_len {α β : Type} {f : α → List β} {m : Nat} : ∀ {l : List α}, (∀ x ∈ l, (f x).length ≤ m) → (l.flatMap f).length ≤ m * l.length
  | [], _ => Nat.zero_le _
  | x :: l, h => by
    rw [List.flatMap_cons, List.length_append, List.length_cons, Nat.mul_add]
    have := h x List.mem_cons_self
    have := flat_len (f := f) (m := m) (l := l) fun y hy => h y (List.mem_cons_of_mem _ hy)
    omega
def intOf : D → Int
  | .int i => i
  | _ => 0
/-- the values of a column -/
def colKinds : D → List Int
  | .tuple xs => xs.map intOf
  | _ => six
/-- the values to which a rule may settle its column -/
def kinds (cs : List D) : D → List Int
  | .tuple [_, .int _, .int z] => [z]
  | .tuple [_, .int c, _] => colKinds (cs.getD c.toNat .none)
  | _ => []
def colOf : D → Int
  | .tuple [_, .int c, _] => c
  | _ => 0
theorem colKinds_len {c : D} (h : okCol c) : (colKinds c).length ≤ 6 := by
  rcases h.inv with rfl | ⟨ys, rfl, _, l3, _⟩
  · exact (by decide : six.length ≤ 6)
  · show (ys.map intOf).length ≤ 6
    rw [List.length_map]
    omega
/-- right arguments, told of what is drawn -/
structure Half (cs rules rows : List D) (ns : List Int) : Prop where
  cols : okCols (.tuple cs)
  r8 : rules.length ≤ 8
  rl : ∀ r ∈ rules, okRule cs r
  tab : okTab cs rows
  set : okNs cs.length ns
theorem kinds_len {cs rules rows : List D} {ns : List Int} (h : Half cs rules rows ns) : ∀ r ∈ rules, (kinds cs r).length ≤ 6 := fun r hr => by
  obtain ⟨hb, _, zs, c, v, rfl, _⟩ := h.rl r hr
  obtain ⟨cs', ec, hcs, _⟩ := h.cols
  injection ec with ec
  subst ec
  have two : (colKinds (cs.getD c.toNat .none)).length ≤ 6 := by
    by_cases hl : c.toNat < cs.length
    · rw [List.getD_eq_getElem?_getD, List.getElem?_eq_getElem hl]
      exact colKinds_len (hcs _ (List.getElem_mem hl))
    · rw [List.getD_eq_getElem?_getD, List.getElem?_eq_none (by omega)]
      exact (by decide : six.length ≤ 6)
  cases v with
  | int z => exact (by decide : 1 ≤ 6)
  | _ => exact two
theorem in_kinds {c v : D} (h : okVal c v) (hc : okCol c) : ∃ z, v = .int z ∧ z ∈ colKinds c := by
  obtain ⟨z, rfl, z0, z1, hz, h6⟩ := h
  refine ⟨z, rfl, ?_⟩
  rcases hc.inv with rfl | ⟨ys, rfl, _, _, _, hy⟩
  · exact h6 rfl
  · obtain ⟨y, hy1, hy2⟩ := List.any_eq_true.mp (show inB (.int z) ys = true from hz)
    obtain ⟨i, rfl, _⟩ := hy y hy1
    have e : i = z := by simpa [PyData.eqv] using hy2
    subst e
    exact List.mem_map.mpr ⟨_, hy1, rfl⟩
theorem case_few {cs rules rows xs : List D} {ns : List Int} (h : Half cs rules rows ns) : FewS rules rows xs ns := fun L nd sub => by
  obtain ⟨cs', ec, hcs, hc1, hcl, _⟩ := id h.cols
  injection ec with ec
  subst ec
  have all := in_len L ((List.range rules.length).flatMap fun i => (kinds cs (rules.getD i .none)).map fun z => [(i : Int), colOf (rules.getD i .none), z]) nd fun t ht => by
    obtain ⟨i, hi, es, c, v, z, h1, rfl, h2, h3, h4⟩ := sub t ht
    have eg : rules.getD i .none = .tuple [.tuple es, .int c, v] := by rw [List.getD_eq_getElem?_getD, h1] <;> rfl
    refine List.mem_flatMap.mpr ⟨i, List.mem_range.mpr hi, List.mem_map.mpr ⟨z, ?_, by rw [eg] <;> rfl⟩⟩
    rw [eg]
    rcases h4 with ⟨rfl, _⟩ | ⟨rfl, ys, hy, _, _, ez⟩
    · exact List.mem_singleton.mpr rfl
    · show z ∈ colKinds (cs.getD c.toNat .none)
      obtain ⟨ys', e, hr⟩ := h.tab.2 _ hy
      injection e with e
      subst e
      by_cases hl : c.toNat < cs.length
      · have hv := hr.at hl
        rw [ez] at hv
        obtain ⟨z', e1, e2⟩ := in_kinds hv (by rw [List.getD_eq_getElem?_getD, List.getElem?_eq_getElem hl]; exact hcs _ (List.getElem_mem hl))
        injection e1 with e1
        rw [e1]
        exact e2
      · rw [List.getD_eq_getElem?_getD, List.getElem?_eq_none (by rw [hr.1]; omega)] at ez
        cases ez
  have := flat_len (f := fun i => (kinds cs (rules.getD i .none)).map fun z => [(i : Int), colOf (rules.getD i .none), z]) (m := 6) (l := List.range rules.length) fun i hi => by
    have hi := List.mem_range.mp hi
    rw [List.length_map, List.getD_eq_getElem?_getD, List.getElem?_eq_getElem hi]
    exact kinds_len h _ (List.getElem_mem hi)
  rw [List.length_range] at this
  have := h.r8
  omega
end L2.DL.K46
namespace L2.DL.K46
open PySem PySem.Spec
      PyProof.Rows
/-! ### a case is right -/
theorem okRow.ints {cs xs : List D} (h : okRow cs xs) : intRow cs.length xs := ⟨h.1, fun x hx => by
  obtain ⟨i, rfl, i0, i1⟩ := h.val x hx
  exact ⟨i, rfl, i0, by omega⟩⟩
theorem okRule.one {cs : List D} {r : D} (h : okRule cs r) : ∃ (es : List D) (c : Int) (v : D), r = .tuple [.tuple es, .int c, v] ∧ es.length ≤ 4 ∧ entsOk es cs.length ∧ 0 ≤ c ∧ c < cs.length ∧ (v = .none ∨ ∃ i : Int, v = .int i ∧ 0 ≤ i ∧ i < 2 ^ 120) := by
  obtain ⟨hb, ho, zs, c, v, rfl, hz, hzp, hzl⟩ := h
  have nb : numB (.int c) (.int cs.length) = true := by
    simp only [rulB, Bool.and_eq_true] at hb
    exact hb.2.1
  simp only [numB, Bool.and_eq_true, decide_eq_true_eq] at nb
  refine ⟨_, c, v, rfl, by rw [List.length_map]; exact hzl, fun e he => ?_, nb.1, nb.2, ?_⟩
  · obtain ⟨z, h1, rfl⟩ := List.mem_map.mp he
    obtain ⟨h2, h3, h4⟩ := hz z h1
    refine ⟨z.1, z.2, rfl, h2, h3, ?_⟩
    rcases h4 with h4 | h4
    · rw [h4]
      exact Ok.none.good
    · exact h4.ok.good
  · have gw := (ho.in_tuple v (by simp)).f
    simp only [rulB, Bool.and_eq_true] at hb
    have h4 := hb.2.2.2
    cases v with
    | none => exact .inl rfl
    | int i =>
      refine .inr ⟨i, rfl, ?_⟩
      simp only [isN, Bool.false_or, Bool.and_eq_true, valAt, valB, decide_eq_true_eq] at h4
      have f := gw
      simp only [fine] at f
      have := of_decide_eq_true f
      have := h4.2.1
      omega
    | _ => simp [isN, valAt, valB] at h4
theorem Half.steps {cs rules rows xs : List D} {ns : List Int} (h : Half cs rules rows ns) (hx : intRow cs.length xs) : StepsIn cs.length rules rows xs ns where
  m4 := by
    obtain ⟨cs', ec, _, _, hcl, _⟩ := h.cols
    injection ec with ec
    subst ec
    exact hcl
  rl := fun r hr => by
    obtain ⟨es, c, v, e, _, h1, h2, h3, h4⟩ := (h.rl r hr).one
    exact ⟨es, c, v, e, h1, h2, h3, h4⟩
  r8 := h.r8
  tb := fun d hd => by
    obtain ⟨ys, e, hy⟩ := h.tab.2 d hd
    exact ⟨ys, e, hy.ints⟩
  t8 := h.tab.1
  row := hx
  set := h.set
theorem Half.fix {cs rules rows xs : List D} {ns : List Int} (h : Half cs rules rows ns) (hx : rowB cs (.tuple xs) = true) (gx : Good (.tuple xs)) (hc : colsish (.tuple cs)) : FixOk cs rules rows xs ns := by
  obtain ⟨cs', ec, _, _, hcl, _⟩ := id h.cols
  injection ec with ec
  subst ec
  exact ⟨h.cols.b, hc, h.cols.ok.good, by
    simp only [rulsB, Bool.and_eq_true, decide_eq_true_eq]
    exact ⟨h.r8, List.all_eq_true.mpr fun d hd => (h.rl d hd).1⟩, ((Ok.tuple (n := 40) (m := 3) (k := 8) (fun d hd => (h.rl d hd).2.1) h.r8).mono (n' := 321) (m' := 4) (by decide) (by decide)).good, h.tab.b, (h.tab.good hcl).good, hx, gx, hcl, h.set⟩
theorem steps_good {m : Nat} {rules rows xs : List D} {ns : List Int} {ts : List (List Int)} (hS : StepsIn m rules rows xs ns) (tm : ∀ t, t ∈ ts ↔ ∃ i, i < rules.length ∧ StepAt rules rows xs ns i t) (tl : ts.length ≤ 64) : Good (.list (ts.map tupI)) := by
  refine (Ok.list (n := 4) (m := 1) (k := 64) (fun d hd => ?_) (by rw [List.length_map]; exact tl)).good
  obtain ⟨t, ht, rfl⟩ := List.mem_map.mp hd
  obtain ⟨i, hi, s⟩ := (tm t).mp ht
  obtain ⟨l3, b⟩ := step_bd hS s
  refine (Ok.tuple (n := 1) (m := 0) (k := 3) (fun d hd => ?_) (by rw [List.length_map, l3]; exact Nat.le_refl _)).mono (by decide) (by decide)
  obtain ⟨n, hn, rfl⟩ := List.mem_map.mp hd
  have := b n hn
  exact Ok.int (by omega)
theorem case_short {cs rules rows : List D} {ns : List Int} (h : Half cs rules rows ns) : ∀ r ∈ rules, ∀ (es : List D) (c v : D), r = .tuple [.tuple es, c, v] → es.length ≤ 4 := fun r hr es c v e => by
  obtain ⟨es', c', v', e', l4, _⟩ := (h.rl r hr).one
  rw [e] at e'
  injection e' with e'
  injection e' with e1 e2
  injection e1 with e1
  rw [e1]
  exact l4
section
variable {P : Program} {w : World} {K : PySem.W.Frag} {mg : Str → Option Value} {base : Heap} {A : Cls}
def w_law_behind : Wc := fun ds k Q _ => ∃ (xs : List D) (ns : List Int) (m : Nat) (i c z : Int), ds = [.tuple xs, .tuple (ns.map PyData.int), tupI [i, c, z]] ∧ xs.length = m ∧ m ≤ 4 ∧ okNs m ns ∧ 0 ≤ c ∧ c < m ∧ c ∉ ns ∧ ∀ ns' : List Int, okNs m ns' → (∀ y, y ∈ ns' ↔ y ∈ ns ∨ y = c) → Q (.tuple [.tuple (xs.set c.toNat (.int z)), .tuple (ns'.map PyData.int)]) k
theorem m_law_behind : Wc.Mono w_law_behind := fun ds k Q Q' x x' h1 _ ⟨xs, ns, m, i, c, z, e, p1, p2, p3, p4, p5, p6, q⟩ => ⟨xs, ns, m, i, c, z, e, p1, p2, p3, p4, p5, p6, fun a b c => h1 _ _ (q a b c)⟩
theorem d_law_behind (T : Txt K mg A) (F : FunAt K mg "_law_behind" s_law_behind ["_law_row_here", "_law_settled", "_law_step"]) : Def P w K mg base "_law_behind" 1 ["_law_row_here", "_law_settled", "_law_step"] w_law_behind := by
  refine defD F sc_law_behind (fun ds k Q x ⟨xs, ns, m, i, c, z, e, _⟩ => by rw [e]; rfl) fun f cdv Ar outer s H E p G hg hr => ⟨_, (dss_cons (ds_set (i := 3) (de_idx (de_var (pv 2)) de_int) sc_law_behind.nd)
    (dss_one (ds_ret (de_tup (da_cons (de_bin op_addA addD.mono fitsAdd (de_bin op_addA addD.mono fitsAdd (de_sl (de_var (pv 0)) do_none (do_some (de_var (pv 3)))) (de_tup (da_cons (de_idx (de_var (pv 2)) de_int) da_nil))) (de_sl (de_var (pv 0)) (do_some (de_bin op_addA addD.mono fitsAdd (de_var (pv 3)) de_int)) do_none)) (da_cons (de_bt tupleD.mono fitsTuple call_tuple_of (da_cons (de_bi sortedTD.mono fitsSortedT cr_sortedTup (da_cons (de_bin op_addA addD.mono fitsAdd (de_var (pv 1)) (de_tup (da_cons (de_var (pv 3)) da_nil))) da_nil) T.z_sorted) da_nil) T.z_tuple) da_nil)))))), ?_⟩
  rintro ds n Q x ⟨xs, ns, m, i, c, z, rfl, hl, hm, hn, c0, c1, hc, q⟩
  obtain ⟨j, rfl⟩ : ∃ j : Nat, c = j := ⟨c.toNat, by omega⟩
  have nl := hn.len
  have cat : cutD xs none (some (j : Int)) ++ [PyData.int z] ++ cutD xs (some ((j : Int) + 1)) none = xs.set j (.int z) := by
    rw [cut_to (by omega), show ((j : Int) + 1) = ((j + 1 : Nat) : Int) from rfl, cut_from (by omega), List.set_eq_take_append_cons_drop, if_pos (by omega), List.append_assoc]
    rfl
  have cl : ∀ {lo hi : Option Int}, (cutD xs lo hi).length ≤ xs.length := fun {lo hi} => by
    unfold cutD
    rw [List.length_take,
          List.length_drop]
    omega
  have c2 := cl (lo := none) (hi := some (j : Int))
  have c3 := cl (lo := some ((j : Int) + 1)) (hi := none)
  simp only [wRet, wSet, wSeq, wNext, wDrop, wIfS, wTest, wAnd, wOr, wNot, wIf, wBin, wVar, wC, wAndV, wOrV, wNotV, wIsN, wNotN, wNeg, wChain, wNil, wCons, wTup, wLst, wBi, wCall, wIsi, wSl, wSo, wNo, wSeqI, wFor, gNm, gTp, puts, wAsg, wPar, wMul, wmD, wmO, putsI, wAug, wTryIs, wRng1, wRng2, wEnum, wEnumT, wZip, wLc, wYes, wLend, wRel, wOwn, wApp, wIns, wSetIx, wLstF, wListF, wRepF, wAddF, wSlS, wParO, wRevT, wSortedSet, wSortedSetL, wSortedSetT, wKeys, weI, wExt, allD, wMt, wRaise, wSeqO, wCallF, plainO, wCallA, wIdx0, wAnF, wSetA, wUnA, wSeqA, plainA, wFld, wFldO, wMake, wLRg, Ans.data, Ans.own.injEq, Ans.tup.injEq, Ans.dat.injEq, wTry, wTryM, wHs, wIsC, enOf, put, putUn, defEnds, lendE, lend, wipeE, hide, lenD, intD, listD, tupleD, reprD, wPen0, wPen1, wPen2, wPenS1, wPenS2, penAt, List.map_cons, List.map_nil, List.length_cons, List.length_nil, List.nil_append, List.cons_append, Nat.reduceAdd, Nat.reduceSub, Nat.reduceLeDiff, Nat.zero_add, List.replicate_zero, List.replicate_succ, List.getElem?_cons_zero, List.getElem?_cons_succ, List.set_cons_zero, List.set_cons_succ, Option.some.injEq, Slot.dat.injEq, Slot.own.injEq, PyData.bool.injEq, PyData.int.injEq, PyData.tuple.injEq, PyData.list.injEq, exists_eq_left', exists_eq_left, and_true, true_and, if_true, if_false, Bool.false_eq_true, reduceCtorEq, List.mapIdx_cons, List.mapIdx_nil, addD, sortedTD]
  refine ⟨_, rfl, j, rfl, ?_⟩
  refine ⟨.int z, rfl, by rw [sizeLine_eq, List.length_singleton]; omega, (j : Int) + 1, rfl, by rw [sizeLine_eq, List.length_append, List.length_singleton]; omega, by rw [List.length_map, sizeLine_eq]; omega, ns ++ [(j : Int)], by rw [List.map_append] <;> rfl, by rw [List.length_append, List.length_singleton]; omega, fun ns' pm pw => ?_⟩
  rw [cat]
  have nd : ns'.Nodup := pm.nodup_iff.mpr (List.nodup_append.mpr ⟨hn.1.imp fun {a b} lt => by omega, by simp, fun a ha b hb e => hc (by rw [List.mem_singleton] at hb; rw [← hb, ← e]; exact ha)⟩)
  refine q ns' ⟨strict_of pw nd, fun y hy => ?_⟩ fun y => by rw [pm.mem_iff, List.mem_append, List.mem_singleton]
  rcases List.mem_append.mp (pm.mem_iff.mp hy) with h | h
  · exact hn.2 y h
  · rw [List.mem_singleton.mp h]
    exact ⟨c0, c1⟩
end
end L2.DL.K46
namespace L2.DL.K46
open PySem PySem.Spec
      PyProof.Rows
/-! ### runs -/
structure NsAdd (ns : List Int) (c : Int) (ns' : List Int) : Prop where
  asc : ns'.Pairwise (· < ·)
  mem : ∀ y, y ∈ ns' ↔ y ∈ ns ∨ y = c
theorem asc_uniq : ∀ {as bs : List Int}, as.Pairwise (· < ·) → bs.Pairwise (· < ·) → (∀ y, y ∈ as ↔ y ∈ bs) → as = bs
  | [], [], _, _, _ => rfl
  | [], b :: bs, _, _, h => nomatch (h b).mpr List.mem_cons_self
  | a :: as, [], _, _, h => nomatch (h a).mp List.mem_cons_self
  | a :: as, b :: bs, pa, pb, h => by
    have pa' := List.pairwise_cons.mp pa
    have pb' := List.pairwise_cons.mp pb
    have e : a = b := by
      rcases List.mem_cons.mp ((h a).mp List.mem_cons_self) with e | h1
      · exact e
      · rcases List.mem_cons.mp ((h b).mpr List.mem_cons_self) with e | h2
        · exact e.symm
        · have := pa'.1 b h2
          have := pb'.1 a h1
          omega
    subst e
    rw [asc_uniq pa'.2 pb'.2 fun y => ⟨fun hy => ?_, fun hy => ?_⟩]
    · rcases List.mem_cons.mp ((h y).mp (List.mem_cons_of_mem _ hy)) with z | z
      · have := pa'.1 y hy
        omega
      · exact z
    · rcases List.mem_cons.mp ((h y).mpr (List.mem_cons_of_mem _ hy)) with z | z
      · have := pb'.1 y hy
        omega
      · exact z
theorem NsAdd.uniq {ns a b : List Int} {c : Int} (h : NsAdd ns c a) (h' : NsAdd ns c b) : a = b := asc_uniq h.asc h'.asc fun y => by rw [h.mem, h'.mem]
/-- the first of the steps that are possible -/
def Least (rules rows xs : List D) (ns : List Int) (t : List Int) : Prop := Steps rules rows xs ns t ∧ ∀ u, Steps rules rows xs ns u → u = t ∨ before t u
theorem before.anti {s t : List Int} (h : before s t) (h' : before t s) : False := by
  obtain ⟨k, c, z, k', c', z', rfl, rfl, h⟩ := h
  obtain ⟨l, d, y, l', d', y', e1, e2, h'⟩ := h'
  cases e1
  cases e2
  omega
theorem Least.uniq {rules rows xs : List D} {ns : List Int} {t u : List Int} (h : Least rules rows xs ns t) (h' : Least rules rows xs ns u) : t = u := by
  rcases h.2 u h'.1 with e | b
  · exact e.symm
  · rcases h'.2 t h.1 with e | b'
    · exact e
    · exact (b.anti b').elim
theorem Least.head {rules rows xs : List D} {ns : List Int} {t : List Int} {ts : List (List Int)} (hp : (t :: ts).Pairwise before) (hm : ∀ u, u ∈ t :: ts ↔ ∃ i, i < rules.length ∧ StepAt rules rows xs ns i u) : Least rules rows xs ns t :=
  ⟨(hm t).mp List.mem_cons_self, fun u hu => (List.mem_cons.mp ((hm u).mpr hu)).elim .inl fun h => .inr ((List.pairwise_cons.mp hp).1 u h)⟩
inductive Run (rules rows : List D) : List D → List Int → List (List Int) → List D → List Int → Prop where
  | nil {xs : List D} {ns : List Int} : Run rules rows xs ns [] xs ns
  | cons {xs ys : List D} {ns ns1 ns2 : List Int} {i c z : Int} {ts : List (List Int)} : Least rules rows xs ns [i, c, z] → NsAdd ns c ns1 → Run rules rows (xs.set c.toNat (.int z)) ns1 ts ys ns2 → Run rules rows xs ns ([i, c, z] :: ts) ys ns2
theorem Run.snoc {rules rows xs ys : List D} {ns ns1 ns2 : List Int} {i c z : Int} {ts : List (List Int)} (r : Run rules rows xs ns ts ys ns1) (s : Least rules rows ys ns1 [i, c, z]) (a : NsAdd ns1 c ns2) : Run rules rows xs ns (ts ++ [[i, c, z]]) (ys.set c.toNat (.int z)) ns2 := by
  induction r with
  | nil => exact .cons s a .nil
  | cons s' a' _ ih => exact .cons s' a' (ih s a)
def Ends (rules rows ys : List D) (ns : List Int) : Prop := ∀ t, ¬ Steps rules rows ys ns t
theorem Run.uniq {rules rows xs ys ys' : List D} {ns ns1 ns2 : List Int} {ts us : List (List Int)} (r : Run rules rows xs ns ts ys ns1) (h : Ends rules rows ys ns1) (r' : Run rules rows xs ns us ys' ns2) (h' : Ends rules rows ys' ns2) : ts = us ∧ ys = ys' ∧ ns1 = ns2 := by
  induction r generalizing us with
  | nil =>
    cases r' with
    | nil => exact ⟨rfl, rfl, rfl⟩
    | cons s _ _ => exact absurd s.1 (h _)
  | cons s a r ih =>
    cases r' with
    | nil => exact absurd s.1 (h' _)
    | cons s' a' r' =>
      have e := s.uniq s'
      cases e
      have e2 := a.uniq a'
      subst e2
      obtain ⟨e3, e4, e5⟩ := ih h r'
      exact ⟨by rw [e3], e4, e5⟩
theorem intRow.set {m : Nat} {xs : List D} {j : Nat} {z : Int} (h : intRow m xs) (z0 : 0 ≤ z) (z1 : z < 2 ^ 120) : intRow m (xs.set j (.int z)) := ⟨by rw [List.length_set]; exact h.1, fun x hx => by
  rcases List.mem_or_eq_of_mem_set hx with h1 | h1
  · exact h.2 x h1
  · exact ⟨z, h1, z0, z1⟩⟩
/-- what a step says -/
theorem StepsIn.at {m : Nat} {rules rows xs : List D} {ns : List Int} {i : Nat} {t : List Int} (h : StepsIn m rules rows xs ns) (s : StepAt rules rows xs ns i t) : ∃ c z : Int, t = [(i : Int), c, z] ∧ 0 ≤ c ∧ c < m ∧ c ∉ ns ∧ 0 ≤ z ∧ z < 2 ^ 120 := by
  obtain ⟨_, bd⟩ := step_bd h s
  obtain ⟨es, c, v, z, h1, rfl, h2, h3, h4⟩ := s
  obtain ⟨es', c', v', er, he, c0, c1, hv⟩ := h.rl _ (List.mem_of_getElem? h1)
  injection er with er
  injection er with e1 e2
  injection e2 with e2 e3
  injection e2 with e2
  subst e2
  have hz := bd z (by simp)
  exact ⟨c, z, rfl, c0, c1, h2, hz.1, hz.2⟩
theorem StepsIn.next {m : Nat} {rules rows xs : List D} {ns ns' : List Int} {c z : Int} (h : StepsIn m rules rows xs ns) (z0 : 0 ≤ z) (z1 : z < 2 ^ 120) (hn : okNs m ns') : StepsIn m rules rows (xs.set c.toNat (.int z)) ns' :=
  ⟨h.m4, h.rl, h.r8, h.tb, h.t8, h.row.set z0 z1, hn⟩
theorem NsAdd.len {ns ns' : List Int} {c : Int} (h : NsAdd ns c ns') (hn : ns.Pairwise (· < ·)) (hc : c ∉ ns) : ns'.length = ns.length + 1 := by
  have p : ns'.Perm (c :: ns) := by
    refine (List.perm_ext_iff_of_nodup (h.asc.imp fun {a b} lt => by omega) (List.nodup_cons.mpr ⟨hc, hn.imp fun {a b} lt => by omega⟩)).mpr fun y => ?_
    rw [h.mem, List.mem_cons]
    exact ⟨fun z => z.elim .inr .inl, fun z => z.elim .inr .inl⟩
  rw [p.length_eq, List.length_cons]
/-- rows of right ints, no matter where they come from -/
def midRow (cs ys : List D) : Prop := ys.length = cs.length ∧ ∀ (i : Nat) (c : D), cs[i]? = some c → ∃ z : Int, ys[i]? = some (.int z) ∧ 0 ≤ z ∧ z < 2 ^ 120 ∧ valB c (.int z) = true
theorem okRow.mid {cs ys : List D} (h : okRow cs ys) : midRow cs ys := ⟨h.1, fun i c hc => by
  obtain ⟨v, h1, h2⟩ := h.2 i c hc
  have hb := h2.b
  obtain ⟨z, rfl, z0, z1, _⟩ := h2
  exact ⟨z, h1, z0, by omega, hb⟩⟩
theorem midRow.ints {cs ys : List D} (h : midRow cs ys) : intRow cs.length ys := ⟨h.1, fun x hx => by
  obtain ⟨i, hi⟩ :=
        List.mem_iff_getElem?.mp hx
  have il : i < cs.length := by rw [← h.1]; exact (List.getElem?_eq_some_iff.mp hi).1
  obtain ⟨z, h1, z0, z1, _⟩ := h.2 i _ (List.getElem?_eq_getElem il)
  rw [hi] at h1
  injection h1 with h1
  exact ⟨z, h1, z0, z1⟩⟩
theorem midRow.b {cs ys : List D} (h : midRow cs ys) : rowB cs (.tuple ys) = true := by
  simp only [rowB, Bool.and_eq_true, decide_eq_true_eq]
  refine ⟨h.1, List.all_eq_true.mpr fun d hd => ?_⟩
  obtain ⟨i, hi⟩ := List.mem_iff_getElem?.mp hd
  obtain ⟨c, v, h1, h2, rfl⟩ := pairs_at hi
  obtain ⟨z, h3, _, _, h4⟩ := h.2 i c h1
  rw [h2] at h3
  injection h3 with h3
  subst h3
  exact h4
theorem midRow.good {cs ys : List D} (h : midRow cs ys) (hc : cs.length ≤ 4) : Good (.tuple ys) := (Ok.tuple (n := 1) (m := 0) (k := 4) (fun d hd => by
  obtain ⟨z, rfl, z0, z1⟩ := h.ints.2 d hd
  exact Ok.int (by omega)) (by rw [h.1]; exact hc)).good
theorem midRow.put {cs ys : List D} {j : Nat} {z : Int} (h : midRow cs ys) (j1 : j < cs.length) (z0 : 0 ≤ z) (z1 : z < 2 ^ 120) (hv : valB (cs.getD j .none) (.int z) = true) : midRow cs (ys.set j (.int z)) := by
  refine ⟨by rw [List.length_set]; exact h.1, fun i c hc => ?_⟩
  by_cases e : j = i
  · subst e
    rw [List.getD_eq_getElem?_getD, hc] at hv
    exact ⟨z, List.getElem?_set_self (by rw [h.1]; omega), z0, z1, hv⟩
  · rw [List.getElem?_set_ne e]
    exact h.2 i c hc
theorem Half.step {cs rules rows xs : List D} {ns : List Int} (h : Half cs rules rows ns) {i : Nat} {t : List Int} (s : StepAt rules rows xs ns i t) : ∃ c z : Int, t = [(i : Int), c, z] ∧ 0 ≤ c ∧ c < cs.length ∧ c ∉ ns ∧ 0 ≤ z ∧ z < 2 ^ 120 ∧ valB (cs.getD c.toNat .none) (.int z) = true := by
  obtain ⟨es, c, v, z, h1, rfl, h2, h3, h4⟩ := s
  have hr := h.rl _ (List.mem_of_getElem? h1)
  obtain ⟨es', c', v', er, _, _, c0, c1, hv⟩ := hr.one
  injection er with er
  injection er with e1 e2
  injection e2 with e2 e3
  injection e3 with e3 _
  injection e2 with e2
  subst e2 e3
  refine ⟨c, z, rfl, c0, c1, h2, ?_⟩
  rcases h4 with ⟨rfl, _⟩ | ⟨_, ys, hy, _, _, ez⟩
  · rcases hv with e | ⟨i, e, b1, b2⟩
    · cases e
    · injection e with e
      subst e
      refine ⟨b1, b2, ?_⟩
      have hb := hr.1
      simp only [rulB, Bool.and_eq_true, isN, Bool.false_or, valAt] at hb
      exact hb.2.2.2.2
  · obtain ⟨ys', ey, hr⟩ := h.tab.2 _ hy
    injection ey with ey
    subst ey
    have hv := hr.at (i := c.toNat) (by omega)
    rw [ez] at hv
    have hb := hv.b
    obtain ⟨i, e, b0, b1, _⟩ := hv
    injection e with e
    subst e
    exact ⟨b0, by omega, hb⟩
theorem cut_mem {xs : List D} {lo hi : Option Int} {d : D} (h : d ∈ cutD xs lo hi) : d ∈ xs := List.mem_of_mem_drop (List.mem_of_mem_take h)
theorem eqv_str (s : Str) : PyData.eqv (.str s) (.str s) = true := by simp [PyData.eqv]
theorem step_ok {m : Nat} {rules rows xs : List D} {ns : List Int} {t : List Int} (hS : StepsIn m rules rows xs ns) (st : Steps rules rows xs ns t) : Ok 4 1 (tupI t) := by
  obtain ⟨i, hi, s⟩ := st
  obtain ⟨l3, b⟩ := step_bd hS s
  refine (Ok.tuple (n := 1) (m := 0) (k := 3) (fun d hd => ?_) (by rw [List.length_map, l3]; exact Nat.le_refl _)).mono (by decide) (by decide)
  obtain ⟨n, hn, rfl⟩ := List.mem_map.mp hd
  have := b n hn
  exact Ok.int (by omega)
theorem inB_str {s : Str} {xs : List D} (h : PyData.str s ∈ xs) : inB (.str s) xs = true := List.any_eq_true.mpr ⟨_, h, eqv_str s⟩
section
variable {P : Program} {w : World} {K : PySem.W.Frag} {mg : Str → Option Value} {base : Heap} {A : Cls}
def w_with_item : Wc := fun ds k Q _ => ∃ (xs : List D) (j : Nat) (d : D), ds = [.tuple xs, .int j, d] ∧ j < xs.length ∧ xs.length ≤ 100 ∧ Q (.tuple (xs.set j d)) k
theorem m_with_item : Wc.Mono w_with_item := fun ds k Q Q' x x' h1 _ ⟨xs, j, d, e, p1, p2, q⟩ => ⟨xs, j, d, e, p1, p2, h1 _ _ q⟩
theorem d_with_item (T : Txt K mg A) (F : FunAt K mg "with_item" s_with_item ["items", "place", "item"]) : Def P w K mg base "with_item" 1 ["items", "place", "item"] w_with_item := by
  refine defD F sc_with_item (fun ds k Q x ⟨xs, j, d, e, _⟩ => by rw [e]; rfl) fun f cdv Ar outer s H E p G hg hr => ⟨_, (dss_one (ds_ret (de_bin op_addA addD.mono fitsAdd (de_bin op_addA addD.mono fitsAdd (de_sl (de_var (pv 0)) do_none (do_some (de_var (pv 1)))) (de_tup (da_cons (de_var (pv 2)) da_nil))) (de_sl (de_var (pv 0)) (do_some (de_bin op_addA addD.mono fitsAdd (de_var (pv 1)) de_int)) do_none)))), ?_⟩
  rintro ds n Q x ⟨xs, j, d, rfl, hj, hl, q⟩
  have cat : cutD xs none (some (j : Int)) ++ [d] ++ cutD xs (some ((j : Int) + 1)) none = xs.set j d := by
    rw [cut_to (by omega), show ((j : Int) + 1) = ((j + 1 : Nat) : Int) from rfl, cut_from (by omega), List.set_eq_take_append_cons_drop, if_pos (by omega), List.append_assoc]
    rfl
  have cl : ∀ {lo hi : Option Int}, (cutD xs lo hi).length ≤ xs.length := fun {lo hi} => by
    unfold cutD
    rw [List.length_take,
          List.length_drop]
    omega
  have c2 := cl (lo := none) (hi := some (j : Int))
  have c3 := cl (lo := some ((j : Int) + 1)) (hi := none)
  simp only [wRet, wSet, wSeq, wNext, wDrop, wIfS, wTest, wAnd, wOr, wNot, wIf, wBin, wVar, wC, wAndV, wOrV, wNotV, wIsN, wNotN, wNeg, wChain, wNil, wCons, wTup, wLst, wBi, wCall, wIsi, wSl, wSo, wNo, wSeqI, wFor, gNm, gTp, puts, wAsg, wPar, wMul, wmD, wmO, putsI, wAug, wTryIs, wRng1, wRng2, wEnum, wEnumT, wZip, wLc, wYes, wLend, wRel, wOwn, wApp, wIns, wSetIx, wLstF, wListF, wRepF, wAddF, wSlS, wParO, wRevT, wSortedSet, wSortedSetL, wSortedSetT, wKeys, weI, wExt, allD, wMt, wRaise, wSeqO, wCallF, plainO, wCallA, wIdx0, wAnF, wSetA, wUnA, wSeqA, plainA, wFld, wFldO, wMake, wLRg, Ans.data, Ans.own.injEq, Ans.tup.injEq, Ans.dat.injEq, wTry, wTryM, wHs, wIsC, enOf, put, putUn, defEnds, lendE, lend, wipeE, hide, lenD, intD, listD, tupleD, reprD, wPen0, wPen1, wPen2, wPenS1, wPenS2, penAt, List.map_cons, List.map_nil, List.length_cons, List.length_nil, List.nil_append, List.cons_append, Nat.reduceAdd, Nat.reduceSub, Nat.reduceLeDiff, Nat.zero_add, List.replicate_zero, List.replicate_succ, List.getElem?_cons_zero, List.getElem?_cons_succ, List.set_cons_zero, List.set_cons_succ, Option.some.injEq, Slot.dat.injEq, Slot.own.injEq, PyData.bool.injEq, PyData.int.injEq, PyData.tuple.injEq, PyData.list.injEq, exists_eq_left', exists_eq_left, and_true, true_and, if_true, if_false, Bool.false_eq_true, reduceCtorEq, List.mapIdx_cons, List.mapIdx_nil, addD]
  refine ⟨by rw [sizeLine_eq, List.length_singleton]; omega, by rw [sizeLine_eq, List.length_append, List.length_singleton]; omega, ?_⟩
  rw [cat]
  exact q
def w_after_step : Wc := fun ds k Q _ => ∃ (xs : List D) (ns : List Int) (m : Nat) (i c z : Int), ds = [.tuple xs, .tuple (ns.map PyData.int), tupI [i, c, z]] ∧ xs.length = m ∧ m ≤ 4 ∧ okNs m ns ∧ 0 ≤ c ∧ c < m ∧ c ∉ ns ∧ ∀ ns' : List Int, okNs m ns' → NsAdd ns c ns' → Q (.tuple [.tuple (xs.set c.toNat (.int z)), .tuple (ns'.map PyData.int)]) k
theorem m_after_step : Wc.Mono w_after_step := fun ds k Q Q' x x' h1 _ ⟨xs, ns, m, i, c, z, e, p1, p2, p3, p4, p5, p6, q⟩ => ⟨xs, ns, m, i, c, z, e, p1, p2, p3, p4, p5, p6, fun a b c => h1 _ _ (q a b c)⟩
theorem d_after_step (T : Txt K mg A) (d_with_item : Def P w K mg base "with_item" 1 ["items", "place", "item"] w_with_item) (F : FunAt K mg "after_step" s_after_step ["row", "settled", "step"]) : Def P w K mg base "after_step" 2 ["row", "settled", "step"] w_after_step := by
  refine defD F sc_after_step (fun ds k Q x ⟨xs, ns, m, i, c, z, e, _⟩ => by rw [e]; rfl) fun f cdv Ar outer s H E p G hg hr => ⟨_, (dss_cons (ds_asg (de_var (pv 2)) (dg_tp rfl (dgs_cons (i := 3) sc_after_step.nd (dgs_cons (i := 4) sc_after_step.nd (dgs_cons (i := 5) sc_after_step.nd dgs_nil)))))
    (dss_one (ds_ret (de_tup (da_cons (de_fn d_with_item m_with_item hg hr (takes_of rfl rfl rfl rfl) (da_cons (de_var (pv 0)) (da_cons (de_var (pv 4)) (da_cons (de_var (pv 5)) da_nil)))) (da_cons (de_bt tupleD.mono fitsTuple call_tuple_of (da_cons (de_bi sortedTD.mono fitsSortedT cr_sortedTup (da_cons (de_bin op_addA addD.mono fitsAdd (de_var (pv 1)) (de_tup (da_cons (de_var (pv 4)) da_nil))) da_nil) T.z_sorted) da_nil) T.z_tuple) da_nil)))))), ?_⟩
  rintro ds n Q x ⟨xs, ns, m, i, c, z, rfl, hl, hm, hn, c0, c1, hc, q⟩
  obtain ⟨j, rfl⟩ : ∃ j : Nat, c = j := ⟨c.toNat, by omega⟩
  have nl := hn.len
  simp only [wRet, wSet, wSeq, wNext, wDrop, wIfS, wTest, wAnd, wOr, wNot, wIf, wBin, wVar, wC, wAndV, wOrV, wNotV, wIsN, wNotN, wNeg, wChain, wNil, wCons, wTup, wLst, wBi, wCall, wIsi, wSl, wSo, wNo, wSeqI, wFor, gNm, gTp, puts, wAsg, wPar, wMul, wmD, wmO, putsI, wAug, wTryIs, wRng1, wRng2, wEnum, wEnumT, wZip, wLc, wYes, wLend, wRel, wOwn, wApp, wIns, wSetIx, wLstF, wListF, wRepF, wAddF, wSlS, wParO, wRevT, wSortedSet, wSortedSetL, wSortedSetT, wKeys, weI, wExt, allD, wMt, wRaise, wSeqO, wCallF, plainO, wCallA, wIdx0, wAnF, wSetA, wUnA, wSeqA, plainA, wFld, wFldO, wMake, wLRg, Ans.data, Ans.own.injEq, Ans.tup.injEq, Ans.dat.injEq, wTry, wTryM, wHs, wIsC, enOf, put, putUn, defEnds, lendE, lend, wipeE, hide, lenD, intD, listD, tupleD, reprD, wPen0, wPen1, wPen2, wPenS1, wPenS2, penAt, List.map_cons, List.map_nil, List.length_cons, List.length_nil, List.nil_append, List.cons_append, Nat.reduceAdd, Nat.reduceSub, Nat.reduceLeDiff, Nat.zero_add, List.replicate_zero, List.replicate_succ, List.getElem?_cons_zero, List.getElem?_cons_succ, List.set_cons_zero, List.set_cons_succ, Option.some.injEq, Slot.dat.injEq, Slot.own.injEq, PyData.bool.injEq, PyData.int.injEq, PyData.tuple.injEq, PyData.list.injEq, exists_eq_left', exists_eq_left, and_true, true_and, if_true, if_false, Bool.false_eq_true, reduceCtorEq, List.mapIdx_cons, List.mapIdx_nil, addD, sortedTD]
  refine ⟨xs, j, _, rfl, by omega, by omega, ?_⟩
  refine ⟨by rw [List.length_map, sizeLine_eq]; omega, ns ++ [(j : Int)], by rw [List.map_append] <;> rfl, by rw [List.length_append, List.length_singleton]; omega, fun ns' pm pw => ?_⟩
  have nd : ns'.Nodup := pm.nodup_iff.mpr (List.nodup_append.mpr ⟨hn.1.imp fun {a b} lt => by omega, by simp, fun a ha b hb e => hc (by rw [List.mem_singleton] at hb; rw [← hb, ← e]; exact ha)⟩)
  have asc := strict_of pw nd
  refine q ns' ⟨asc, fun y hy => ?_⟩ ⟨asc, fun y => by rw [pm.mem_iff, List.mem_append, List.mem_singleton]⟩
  rcases List.mem_append.mp (pm.mem_iff.mp hy) with h | h
  · exact hn.2 y h
  · rw [List.mem_singleton.mp h]
    exact ⟨c0, c1⟩
def w_finish : Wa := fun ds k Q _ => ∃ (m : Nat) (rules rows xs : List D) (ns : List Int), ds = [.tuple rules, .tuple rows, .tuple xs, .tuple (ns.map PyData.int)] ∧ StepsIn m rules rows xs ns ∧
  ∀ (ts : List (List Int)) (ys : List D) (ns' : List Int), Run rules rows xs ns ts ys ns' → Ends rules rows ys ns' → StepsIn m rules rows ys ns' → ts.length + ns.length = ns'.length → Q (.tup (ts.map tupI) [.tuple ys, .tuple (ns'.map PyData.int)]) k
theorem n_finish : Wa.Mono w_finish := fun ds k Q Q' x x' h1 _ ⟨m, rules, rows, xs, ns, e, p1, q⟩ => ⟨m, rules, rows, xs, ns, e, p1, fun ts ys ns' a b c d => h1 _ _ (q ts ys ns' a b c d)⟩
theorem a_finish (T : Txt K mg A) (o_possible_steps : DefO P w K mg base "possible_steps" 4 ["rules", "master", "row", "settled"] w_possible_steps) (d_after_step : Def P w K mg base "after_step" 2 ["row", "settled", "step"] w_after_step) (F : FunAt K mg "finish" s_finish ["rules", "master", "row", "settled"]) : DefA P w K mg base "finish" 5 ["rules", "master", "row", "settled"] w_finish := by
  have d_possible_steps := o_possible_steps.plain n_possible_steps
  have m_possible_steps : Wc.Mono (plainO w_possible_steps) := plainO.mono n_possible_steps
  refine defA F sc_finish (fun ds k Q x ⟨m, rules, rows, xs, ns, e, _⟩ => by rw [e]; rfl) fun f cdv Ar outer s H E p G hg hr => ⟨_, (dsa_cons (ds_own (i := 4) (df_lst da_nil) sc_finish.nd)
    (dsa_cons (ds_set (i := 5) (de_fn d_possible_steps m_possible_steps hg hr (takes_of rfl rfl rfl rfl) (da_cons (de_var (pv 0)) (da_cons (de_var (pv 1)) (da_cons (de_var (pv 2)) (da_cons (de_var (pv 3)) da_nil))))) sc_finish.nd)
    (dsa_cons (ds_while (passes_of rfl) (dt_cmp op_gt cmpD.mono fitsCmp (de_bi lenD.mono fitsLen call_len_seq (da_cons (de_var (pv 5)) da_nil) T.z_len) de_int)
    (dss_cons (ds_append (i := 4) (de_idx (de_var (pv 5)) de_int) (pv 4))
    (dss_cons (ds_asg (de_fn d_after_step m_after_step hg hr (takes_of rfl rfl rfl rfl) (da_cons (de_var (pv 2)) (da_cons (de_var (pv 3)) (da_cons (de_idx (de_var (pv 5)) de_int) da_nil)))) (dg_tp rfl (dgs_cons (i := 2) sc_finish.nd (dgs_cons (i := 3) sc_finish.nd dgs_nil))))
    (dss_one (ds_set (i := 5) (de_fn d_possible_steps m_possible_steps hg hr (takes_of rfl rfl rfl rfl) (da_cons (de_var (pv 0)) (da_cons (de_var (pv 1)) (da_cons (de_var (pv 2)) (da_cons (de_var (pv 3)) da_nil))))) sc_finish.nd)))))
    (dsa_tup (pv 4) (da_cons (de_var (pv 2)) (da_cons (de_var (pv 3)) da_nil)))))), ?_⟩
  rintro ds n Q x ⟨m, rules, rows, xs, ns, rfl, h, q⟩
  simp only [wRet, wSet, wSeq, wNext, wDrop, wIfS, wTest, wAnd, wOr, wNot, wIf, wBin, wVar, wC, wAndV, wOrV, wNotV, wIsN, wNotN, wNeg, wChain, wNil, wCons, wTup, wLst, wBi, wCall, wIsi, wSl, wSo, wNo, wSeqI, wFor, gNm, gTp, puts, wAsg, wPar, wMul, wmD, wmO, putsI, wAug, wTryIs, wRng1, wRng2, wEnum, wEnumT, wZip, wLc, wYes, wLend, wRel, wOwn, wApp, wIns, wSetIx, wLstF, wListF, wRepF, wAddF, wSlS, wParO, wRevT, wSortedSet, wSortedSetL, wSortedSetT, wKeys, weI, wExt, allD, wMt, wRaise, wSeqO, wCallF, plainO, wCallA, wIdx0, wAnF, wSetA, wUnA, wSeqA, plainA, wFld, wFldO, wMake, wLRg, Ans.data, Ans.own.injEq, Ans.tup.injEq, Ans.dat.injEq, wTry, wTryM, wHs, wIsC, enOf, put, putUn, defEnds, lendE, lend, wipeE, hide, lenD, intD, listD, tupleD, reprD, wPen0, wPen1, wPen2, wPenS1, wPenS2, penAt, List.map_cons, List.map_nil, List.length_cons, List.length_nil, List.nil_append, List.cons_append, Nat.reduceAdd, Nat.reduceSub, Nat.reduceLeDiff, Nat.zero_add, List.replicate_zero, List.replicate_succ, List.getElem?_cons_zero, List.getElem?_cons_succ, List.set_cons_zero, List.set_cons_succ, Option.some.injEq, Slot.dat.injEq, Slot.own.injEq, PyData.bool.injEq, PyData.int.injEq, PyData.tuple.injEq, PyData.list.injEq, exists_eq_left', exists_eq_left, and_true, true_and, if_true, if_false, Bool.false_eq_true, reduceCtorEq, List.mapIdx_cons, List.mapIdx_nil]
  refine ⟨m, rules, rows, xs, ns, rfl, h, fun ts tb tm tl => ?_⟩
  refine ⟨fun mm e => ∃ (done : List (List Int)) (ys : List D) (ns' : List Int) (ts : List (List Int)), e = ⟨[.dat (.tuple rules), .dat (.tuple rows), .dat (.tuple ys), .dat (.tuple (ns'.map PyData.int)), .own (done.map tupI), .dat (.list (ts.map tupI))], n⟩ ∧ Run rules rows xs ns done ys ns' ∧ StepsIn m rules rows ys ns' ∧ done.length + ns.length = ns'.length ∧ mm + ns'.length = m ∧
    ts.Pairwise before ∧ (∀ t, t ∈ ts ↔ ∃ i, i < rules.length ∧ StepAt rules rows ys ns' i t), ⟨m - ns.length, [], xs, ns, ts, rfl, .nil, h, Nat.zero_add _, by have := h.set.len; omega, tb, tm⟩, ?_⟩
  rintro mm e ⟨done, ys, ns', ts, rfl, hr, hs, hd, hm, hb, ht⟩
  have ml := hs.set.len
  have m4 := hs.m4
  simp only [wRet, wSet, wSeq, wNext, wDrop, wIfS, wTest, wAnd, wOr, wNot, wIf, wBin, wVar, wC, wAndV, wOrV, wNotV, wIsN, wNotN, wNeg, wChain, wNil, wCons, wTup, wLst, wBi, wCall, wIsi, wSl, wSo, wNo, wSeqI, wFor, gNm, gTp, puts, wAsg, wPar, wMul, wmD, wmO, putsI, wAug, wTryIs, wRng1, wRng2, wEnum, wEnumT, wZip, wLc, wYes, wLend, wRel, wOwn, wApp, wIns, wSetIx, wLstF, wListF, wRepF, wAddF, wSlS, wParO, wRevT, wSortedSet, wSortedSetL, wSortedSetT, wKeys, weI, wExt, allD, wMt, wRaise, wSeqO, wCallF, plainO, wCallA, wIdx0, wAnF, wSetA, wUnA, wSeqA, plainA, wFld, wFldO, wMake, wLRg, Ans.data, Ans.own.injEq, Ans.tup.injEq, Ans.dat.injEq, wTry, wTryM, wHs, wIsC, enOf, put, putUn, defEnds, lendE, lend, wipeE, hide, lenD, intD, listD, tupleD, reprD, wPen0, wPen1, wPen2, wPenS1, wPenS2, penAt, List.map_cons, List.map_nil, List.length_cons, List.length_nil, List.nil_append, List.cons_append, Nat.reduceAdd, Nat.reduceSub, Nat.reduceLeDiff, Nat.zero_add, List.replicate_zero, List.replicate_succ, List.getElem?_cons_zero, List.getElem?_cons_succ, List.set_cons_zero, List.set_cons_succ, Option.some.injEq, Slot.dat.injEq, Slot.own.injEq, PyData.bool.injEq, PyData.int.injEq, PyData.tuple.injEq, PyData.list.injEq, exists_eq_left', exists_eq_left, and_true, true_and, if_true, if_false, Bool.false_eq_true, reduceCtorEq, List.mapIdx_cons, List.mapIdx_nil, cmpD]
  cases ts with
  | nil =>
    rw [if_neg (by simp)]
    exact ⟨⟨_, rfl⟩, q done ys ns' hr (fun t st => nomatch (ht t).mpr st) hs hd⟩
  | cons t ts =>
    rw [if_pos (by rw [List.length_map, List.length_cons]; exact decide_eq_true (by omega))]
    have ls := Least.head hb ht
    obtain ⟨i, hi, s⟩ := (ht t).mp List.mem_cons_self
    obtain ⟨c, z, rfl, c0, c1, cn, z0, z1⟩ := hs.at s
    have h0 : atI (([(i : Int), c, z] :: ts).map tupI) (0 : Int) = some (tupI [(i : Int), c, z]) := by simp [atI, ixN]
    refine ⟨⟨_, rfl⟩, _, h0, by rw [List.length_map]; omega, _, h0, ys, ns', m, i, c, z, rfl, hs.row.1, m4, hs.set, c0, c1, cn, fun ns2 hn2 ad => ⟨_, rfl, rfl, ?_⟩⟩
    simp only [wRet, wSet, wSeq, wNext, wDrop, wIfS, wTest, wAnd, wOr, wNot, wIf, wBin, wVar, wC, wAndV, wOrV, wNotV, wIsN, wNotN, wNeg, wChain, wNil, wCons, wTup, wLst, wBi, wCall, wIsi, wSl, wSo, wNo, wSeqI, wFor, gNm, gTp, puts, wAsg, wPar, wMul, wmD, wmO, putsI, wAug, wTryIs, wRng1, wRng2, wEnum, wEnumT, wZip, wLc, wYes, wLend, wRel, wOwn, wApp, wIns, wSetIx, wLstF, wListF, wRepF, wAddF, wSlS, wParO, wRevT, wSortedSet, wSortedSetL, wSortedSetT, wKeys, weI, wExt, allD, wMt, wRaise, wSeqO, wCallF, plainO, wCallA, wIdx0, wAnF, wSetA, wUnA, wSeqA, plainA, wFld, wFldO, wMake, wLRg, Ans.data, Ans.own.injEq, Ans.tup.injEq, Ans.dat.injEq, wTry, wTryM, wHs, wIsC, enOf, put, putUn, defEnds, lendE, lend, wipeE, hide, lenD, intD, listD, tupleD, reprD, wPen0, wPen1, wPen2, wPenS1, wPenS2, penAt, List.map_cons, List.map_nil, List.length_cons, List.length_nil, List.nil_append, List.cons_append, Nat.reduceAdd, Nat.reduceSub, Nat.reduceLeDiff, Nat.zero_add, List.replicate_zero, List.replicate_succ, List.getElem?_cons_zero, List.getElem?_cons_succ, List.set_cons_zero, List.set_cons_succ, Option.some.injEq, Slot.dat.injEq, Slot.own.injEq, PyData.bool.injEq, PyData.int.injEq, PyData.tuple.injEq, PyData.list.injEq, exists_eq_left', exists_eq_left, and_true, true_and, if_true, if_false, Bool.false_eq_true, reduceCtorEq, List.mapIdx_cons, List.mapIdx_nil]
    have hs2 := hs.next (c := c) z0 z1 hn2
    have l2 := ad.len hs.set.1 cn
    refine ⟨m, rules, rows, _, ns2, rfl, hs2, fun ts2 tb2 tm2 tl2 => ?_⟩
    exact ⟨mm - 1, by have := hn2.len; omega, done ++ [[(i : Int), c, z]], _, ns2, ts2, by rw [List.map_append] <;> rfl, hr.snoc ls ad, hs2, by rw [List.length_append, List.length_singleton]; omega, by have := hn2.len; omega, tb2, tm2⟩
/-! ### run -/
/-! ### the law looks at a run -/
def w_law_is_run : Wc := fun ds k Q _ => ∃ (cs rules rows xs ys : List D) (ns ns' : List Int) (ts : List (List Int)), ds = [.tuple rules, .tuple rows, .tuple xs, .tuple (ns.map PyData.int), .list (ts.map tupI)] ∧ Half cs rules rows ns ∧ midRow cs xs ∧ Run rules rows xs ns ts ys ns' ∧ Ends rules rows ys ns' ∧ Q (.bool true) k
theorem m_law_is_run : Wc.Mono w_law_is_run := fun ds k Q Q' x x' h1 _ ⟨cs, rules, rows, xs, ys, ns, ns', ts, e, p1, p2, p3, p4, q⟩ => ⟨cs, rules, rows, xs, ys, ns, ns', ts, e, p1, p2, p3, p4, h1 _ _ q⟩
theorem d_law_is_run (T : Txt K mg A) (d_law_steps : Def P w K mg base "_law_steps" 3 ["_law_rules", "_law_master", "_law_row_here", "_law_settled"] w_law_steps) (d_law_behind : Def P w K mg base "_law_behind" 1 ["_law_row_here", "_law_settled", "_law_step"] w_law_behind) (F : FunAt K mg "_law_is_run" s_law_is_run ["_law_rules", "_law_master", "_law_row_here", "_law_settled", "_law_value_here"]) : Def P w K mg base "_law_is_run" 4 ["_law_rules", "_law_master", "_law_row_here", "_law_settled", "_law_value_here"] w_law_is_run := by
  refine defD F sc_law_is_run (fun ds k Q x ⟨cs, rules, rows, xs, ys, ns, ns', ts, e, _⟩ => by rw [e]; rfl) fun f cdv Ar outer s H E p G hg hr => ⟨_, (dss_cons (ds_if (dt_not (dt_val (de_isi (T := "list") (de_var (pv 4)) T.z_isinstance T.z_list (by decide +kernel))))
    (dss_one (ds_ret de_bl))
    dss_nil)
    (dss_cons (ds_for (passes_of rfl) rfl (di_seq (de_var (pv 4))) (dg_nm (i := 5) sc_law_is_run.nd)
    (dss_cons (ds_set (i := 6) (de_fn d_law_steps m_law_steps hg hr (takes_of rfl rfl rfl rfl) (da_cons (de_var (pv 0)) (da_cons (de_var (pv 1)) (da_cons (de_var (pv 2)) (da_cons (de_var (pv 3)) da_nil))))) sc_law_is_run.nd)
    (dss_cons (ds_if (dt_cmp (op_notInA (hr65 hr)) notInD.mono fitsNotIn (de_bi reprD.mono fitsRepr (call_reprD hg hr.units) (da_cons (de_var (pv 5)) da_nil) T.z_repr) (de_lc (own := [("_law_one_here", 7)]) rfl sc_law_is_run.nd (di_seq (de_var (pv 6))) (blkOk_by (N := ["_law_rules", "_law_master", "_law_row_here", "_law_settled", "_law_value_here", "_law_step", "_law_some", "_law_one_here"]) (sc := defScope s_law_is_run) (by decide +kernel)) (fun _ _ _ _ _ _ _ => (dgc_nm (i := 7) sc_law_is_run.nd (by decide))) (fun _ _ _ _ _ _ _ => dts_nil) (fun _ _ _ _ _ _ _ => (de_bi reprD.mono fitsRepr (call_reprD hg hr.units) (da_cons (de_var (pv 7)) da_nil) T.z_repr))))
    (dss_one (ds_ret de_bl))
    dss_nil)
    (dss_one (ds_asg (de_fn d_law_behind m_law_behind hg hr (takes_of rfl rfl rfl rfl) (da_cons (de_var (pv 2)) (da_cons (de_var (pv 3)) (da_cons (de_var (pv 5)) da_nil)))) (dg_tp rfl (dgs_cons (i := 2) sc_law_is_run.nd (dgs_cons (i := 3) sc_law_is_run.nd dgs_nil))))))))
    (dss_one (ds_ret (de_cmp (op_eqA hr.units) eqD.mono fitsEq (de_fn d_law_steps m_law_steps hg hr (takes_of rfl rfl rfl rfl) (da_cons (de_var (pv 0)) (da_cons (de_var (pv 1)) (da_cons (de_var (pv 2)) (da_cons (de_var (pv 3)) da_nil))))) (de_lst da_nil)))))), ?_⟩
  rintro ds n Q x ⟨cs, rules, rows, xs, ys, ns, ns', ts, rfl, h, hx, r, en, q⟩
  simp only [wRet, wSet, wSeq, wNext, wDrop, wIfS, wTest, wAnd, wOr, wNot, wIf, wBin, wVar, wC, wAndV, wOrV, wNotV, wIsN, wNotN, wNeg, wChain, wNil, wCons, wTup, wLst, wBi, wCall, wIsi, wSl, wSo, wNo, wSeqI, wFor, gNm, gTp, puts, wAsg, wPar, wMul, wmD, wmO, putsI, wAug, wTryIs, wRng1, wRng2, wEnum, wEnumT, wZip, wLc, wYes, wLend, wRel, wOwn, wApp, wIns, wSetIx, wLstF, wListF, wRepF, wAddF, wSlS, wParO, wRevT, wSortedSet, wSortedSetL, wSortedSetT, wKeys, weI, wExt, allD, wMt, wRaise, wSeqO, wCallF, plainO, wCallA, wIdx0, wAnF, wSetA, wUnA, wSeqA, plainA, wFld, wFldO, wMake, wLRg, Ans.data, Ans.own.injEq, Ans.tup.injEq, Ans.dat.injEq, wTry, wTryM, wHs, wIsC, enOf, put, putUn, defEnds, lendE, lend, wipeE, hide, lenD, intD, listD, tupleD, reprD, wPen0, wPen1, wPen2, wPenS1, wPenS2, penAt, List.map_cons, List.map_nil, List.length_cons, List.length_nil, List.nil_append, List.cons_append, Nat.reduceAdd, Nat.reduceSub, Nat.reduceLeDiff, Nat.zero_add, List.replicate_zero, List.replicate_succ, List.getElem?_cons_zero, List.getElem?_cons_succ, List.set_cons_zero, List.set_cons_succ, Option.some.injEq, Slot.dat.injEq, Slot.own.injEq, PyData.bool.injEq, PyData.int.injEq, PyData.tuple.injEq, PyData.list.injEq, exists_eq_left', exists_eq_left, and_true, true_and, if_true, if_false, Bool.false_eq_true, reduceCtorEq, List.mapIdx_cons, List.mapIdx_nil]
  refine ⟨true, (by decide +kernel : kitB "list" "list" = some true), (fun kv z => nomatch z), ?_⟩
  simp only [Bool.not_true, if_false, Bool.false_eq_true]
  refine ⟨_, rfl, ?_⟩
  refine wLoop.ind (fun dt e => ∃ (xs : List D) (ns : List Int) (us : List (List Int)) (u5 u6 u7 : Slot), e = ⟨[.dat (.tuple rules), .dat (.tuple rows), .dat (.tuple xs), .dat (.tuple (ns.map PyData.int)), .dat (.list (ts.map tupI)), u5, u6, u7], n⟩ ∧ dt = us.map tupI ∧ Half cs rules rows ns ∧ midRow cs xs ∧ Run rules rows xs ns us ys ns') ?_ ?_ ⟨xs, ns, ts, _, _, _, rfl, rfl, h, hx, r⟩
  · rintro e ⟨xs, ns, us, u5, u6, u7, rfl, ed, h, hx, r⟩
    cases us with
    | cons t us => cases ed
    | nil =>
      cases r
      refine ⟨_, rfl, _, rfl, _, rfl, _, rfl, ?_⟩
      refine ⟨_, rules, rows, ys, ns', rfl, h.steps hx.ints, case_short h, case_few h, fun vs vn vm vp => ?_⟩
      have e0 : vs = [] := by
        cases vs with
        | nil => rfl
        | cons v vs => exact absurd ((vm v).mp List.mem_cons_self) (en v)
      subst e0
      exact ⟨.inr ⟨good_of (by decide +kernel), good_of (by decide +kernel)⟩, q⟩
  · rintro d dt e ih ⟨xs, ns, us, u5, u6, u7, rfl, ed, h, hx, r⟩
    cases us with
    | nil => cases ed
    | cons t us =>
      rw [List.map_cons] at ed
      injection ed with e1 e2
      subst e1 e2
      cases r with
      | cons ls ad r =>
        rename_i ns1 i c z
        simp only [wRet, wSet, wSeq, wNext, wDrop, wIfS, wTest, wAnd, wOr, wNot, wIf, wBin, wVar, wC, wAndV, wOrV, wNotV, wIsN, wNotN, wNeg, wChain, wNil, wCons, wTup, wLst, wBi, wCall, wIsi, wSl, wSo, wNo, wSeqI, wFor, gNm, gTp, puts, wAsg, wPar, wMul, wmD, wmO, putsI, wAug, wTryIs, wRng1, wRng2, wEnum, wEnumT, wZip, wLc, wYes, wLend, wRel, wOwn, wApp, wIns, wSetIx, wLstF, wListF, wRepF, wAddF, wSlS, wParO, wRevT, wSortedSet, wSortedSetL, wSortedSetT, wKeys, weI, wExt, allD, wMt, wRaise, wSeqO, wCallF, plainO, wCallA, wIdx0, wAnF, wSetA, wUnA, wSeqA, plainA, wFld, wFldO, wMake, wLRg, Ans.data, Ans.own.injEq, Ans.tup.injEq, Ans.dat.injEq, wTry, wTryM, wHs, wIsC, enOf, put, putUn, defEnds, lendE, lend, wipeE, hide, lenD, intD, listD, tupleD, reprD, wPen0, wPen1, wPen2, wPenS1, wPenS2, penAt, List.map_cons, List.map_nil, List.length_cons, List.length_nil, List.nil_append, List.cons_append, Nat.reduceAdd, Nat.reduceSub, Nat.reduceLeDiff, Nat.zero_add, List.replicate_zero, List.replicate_succ, List.getElem?_cons_zero, List.getElem?_cons_succ, List.set_cons_zero, List.set_cons_succ, Option.some.injEq, Slot.dat.injEq, Slot.own.injEq, PyData.bool.injEq, PyData.int.injEq, PyData.tuple.injEq, PyData.list.injEq, exists_eq_left', exists_eq_left, and_true, true_and, if_true, if_false, Bool.false_eq_true, reduceCtorEq, List.mapIdx_cons, List.mapIdx_nil]
        refine ⟨_, rules, rows, xs, ns, rfl, h.steps hx.ints, case_short h, case_few h, fun vs vn vm vp => ?_⟩
        have st := ls.1
        have few := case_few h (xs := xs) vs vn fun t ht => (vm t).mp ht
        have gt := step_ok (h.steps hx.ints) st
        refine ⟨gt.good, _, rfl, ?_⟩
        refine lcLoop.fm (fun z => some (.str z.shown)) (fun d hd A B h3 h4 => ?_) (by rw [List.length_nil, List.length_map]; omega) ?_
        · obtain ⟨v, hv, rfl⟩ := List.mem_map.mp hd
          simp only [wRet, wSet, wSeq, wNext, wDrop, wIfS, wTest, wAnd, wOr, wNot, wIf, wBin, wVar, wC, wAndV, wOrV, wNotV, wIsN, wNotN, wNeg, wChain, wNil, wCons, wTup, wLst, wBi, wCall, wIsi, wSl, wSo, wNo, wSeqI, wFor, gNm, gTp, puts, wAsg, wPar, wMul, wmD, wmO, putsI, wAug, wTryIs, wRng1, wRng2, wEnum, wEnumT, wZip, wLc, wYes, wLend, wRel, wOwn, wApp, wIns, wSetIx, wLstF, wListF, wRepF, wAddF, wSlS, wParO, wRevT, wSortedSet, wSortedSetL, wSortedSetT, wKeys, weI, wExt, allD, wMt, wRaise, wSeqO, wCallF, plainO, wCallA, wIdx0, wAnF, wSetA, wUnA, wSeqA, plainA, wFld, wFldO, wMake, wLRg, Ans.data, Ans.own.injEq, Ans.tup.injEq, Ans.dat.injEq, wTry, wTryM, wHs, wIsC, enOf, put, putUn, defEnds, lendE, lend, wipeE, hide, lenD, intD, listD, tupleD, reprD, wPen0, wPen1, wPen2, wPenS1, wPenS2, penAt, List.map_cons, List.map_nil, List.length_cons, List.length_nil, List.nil_append, List.cons_append, Nat.reduceAdd, Nat.reduceSub, Nat.reduceLeDiff, Nat.zero_add, List.replicate_zero, List.replicate_succ, List.getElem?_cons_zero, List.getElem?_cons_succ, List.set_cons_zero, List.set_cons_succ, Option.some.injEq, Slot.dat.injEq, Slot.own.injEq, PyData.bool.injEq, PyData.int.injEq, PyData.tuple.injEq, PyData.list.injEq, exists_eq_left', exists_eq_left, and_true, true_and, if_true, if_false, Bool.false_eq_true, reduceCtorEq, List.mapIdx_cons, List.mapIdx_nil]
          exact ⟨(step_ok (h.steps hx.ints) ((vm v).mp hv)).good, h4 _ rfl⟩
        · rw [List.nil_append, fmap_some]
          have ml : (.str (tupI [i, c, z]).shown : D) ∈ (vs.map tupI).map fun d : D => (.str d.shown : D) := List.mem_map.mpr ⟨_, List.mem_map_of_mem ((vm _).mpr st), rfl⟩
          refine ⟨gt.shown.good, (Ok.list (n := 81) (m := 0) (k := 63) (fun d hd => ?_) (by rw [List.length_map, List.length_map]; omega)).good, _, rfl, _, rfl, ?_⟩
          · obtain ⟨e, he, rfl⟩ :=
                List.mem_map.mp hd
            obtain ⟨v, hv, rfl⟩ := List.mem_map.mp he
            exact (step_ok (h.steps hx.ints) ((vm v).mp hv)).shown
          · rw [if_neg (by rw [inB_str ml]; decide)]
            obtain ⟨j, hj, sj⟩ := st
            obtain ⟨c', z', e, c0, c1, cn, z0, z1, hv⟩ := h.step sj
            cases e
            have hl := (h.steps hx.ints).m4
            refine ⟨xs, ns, cs.length, _, c, z, rfl, hx.1, hl, h.set, c0, c1, cn, fun ns2 hn2 mem2 => ⟨_, rfl, rfl, ?_⟩⟩
            have e2 := ad.uniq ⟨hn2.1, mem2⟩
            subst e2
            exact ih _ ⟨xs.set c.toNat (.int z), ns1, us, _, _, _, rfl, rfl, ⟨h.cols, h.r8, h.rl, h.tab, hn2⟩, hx.put (by omega) z0 z1 hv, r⟩
end
end L2.DL.K46
namespace L2.DL.K46
open PySem PySem.Spec
      PyProof.Rows
/-! ### rules that hold in the master -/
theorem eqv_lnil {xs : List D} : PyData.eqv (.list xs) (.list []) = decide (xs = []) := by
  cases xs <;> simp [PyData.eqv, PyData.eqvAll]
theorem brk_head {rows : List D} {r b : D} (h : b ∈ brkR rows r) : ∃ (i : Nat) (xs : List D), b = .tuple (.int i :: xs) ∧ i < rows.length := by
  unfold brkR at h
  split at h
  · rename_i es c w
    split at h
    · unfold pairsTo at h
      obtain ⟨i, hi, h⟩ := List.mem_flatMap.mp h
      obtain ⟨u, _, h⟩ := List.mem_filterMap.mp h
      split at h
      · cases h; exact ⟨i, _, rfl, List.mem_range.mp hi⟩
      · cases h
    · obtain ⟨i, hi, h⟩ := List.mem_filterMap.mp h
      unfold single at h
      split at h
      · cases h; exact ⟨i, _, rfl, List.mem_range.mp hi⟩
      · cases h
  · cases h
theorem all_head {rs rows : List D} {b : D} (h : b ∈ allTo rs rows rs.length) : ∃ (k i : Nat) (xs : List D), b = .tuple (.int k :: .int i :: xs) ∧ k < rs.length ∧ i < rows.length := by
  unfold allTo at h
  obtain ⟨k, hk, h⟩ := List.mem_flatMap.mp h
  obtain ⟨y, hy, rfl⟩ := List.mem_map.mp h
  obtain ⟨i, xs, rfl, hi⟩ := brk_head hy
  exact ⟨k, i, xs, rfl, List.mem_range.mp hk, hi⟩
theorem brk_good {rows : List D} {r : D} (h : rows.length ≤ 8) : Good (.list (brkR rows r)) := (Ok.list (n := 4) (m := 1) (k := 64) (fun b hb => by
  obtain ⟨xs, rfl, xl, hx⟩ := brkR_in h b hb
  refine (Ok.tuple (n := 1) (m := 0) (k := 2) (fun d hd => ?_) xl).mono (by decide) (by decide)
  obtain ⟨i, rfl, h0, h1⟩ := hx d hd
  exact Ok.int (by omega)) (brkR_len h)).good
theorem cut_out {xs : List D} {i : Nat} (h : i < xs.length) : (cutD xs none (some (i : Int)) ++ cutD xs (some ((i : Int) + 1)) none).length + 1 = xs.length ∧ ∀ d ∈ cutD xs none (some (i : Int)) ++ cutD xs (some ((i : Int) + 1)) none, d ∈ xs := by
  rw [cut_to (by omega), show ((i : Int) + 1) = ((i + 1 : Nat) : Int) from rfl, cut_from (by omega)]
  refine ⟨by rw [List.length_append, List.length_take, List.length_drop]; omega, fun d hd => ?_⟩
  rcases List.mem_append.mp hd with h | h
  · exact List.mem_of_mem_take h
  · exact List.mem_of_mem_drop h
structure KeptOk (cs rules rows : List D) (ns : List Int) : Prop where
  cols : okCols (.tuple cs)
  r8 : rules.length ≤ 8
  rl : ∀ r ∈ rules, okRule cs r
  tab : okTab cs rows
  set : okNs cs.length ns
  ne : 1 ≤ rows.length
  hd : ∀ r ∈ rules, brkR rows r = []
section
variable {P : Program} {w : World} {K : PySem.W.Frag} {mg : Str → Option Value} {base : Heap} {A : Cls}
def w_law_breaks : Wc := fun ds k Q _ => ∃ (cs rs ts : List D), ds = [.tuple rs, .tuple ts] ∧ okRuls cs rs ∧ okTab cs ts ∧ Q (.list (allTo rs ts rs.length)) k
theorem m_law_breaks : Wc.Mono w_law_breaks := fun ds k Q Q' x x' h1 _ ⟨cs, rs, ts, e, p1, p2, q⟩ => ⟨cs, rs, ts, e, p1, p2, h1 _ _ q⟩
theorem d_law_breaks (T : Txt K mg A) (d_law_rule_breaks : Def P w K mg base "_law_rule_breaks" 2 ["_law_rule_here", "_law_table_here"] w_law_rule_breaks) (F : FunAt K mg "_law_breaks" s_law_breaks ["_law_rules", "_law_table_here"]) : Def P w K mg base "_law_breaks" 3 ["_law_rules", "_law_table_here"] w_law_breaks := by
  refine defD F sc_law_breaks (fun ds k Q x ⟨cs, rs, ts, e, _⟩ => by rw [e]; rfl) fun f cdv Ar outer s H E p G hg hr => ⟨_, (dss_cons (ds_own (i := 2) (df_lst da_nil) sc_law_breaks.nd)
    (dss_cons (ds_for (passes_of rfl) rfl (di_rng1 (de_bi lenD.mono fitsLen call_len_seq (da_cons (de_var (pv 0)) da_nil) T.z_len) T.z_range) (dg_nm (i := 3) sc_law_breaks.nd)
    (dss_one (ds_extend (i := 2) (de_lc (own := [("_law_rows", 4)]) rfl sc_law_breaks.nd (di_seq (de_fn d_law_rule_breaks m_law_rule_breaks hg hr (takes_of rfl rfl rfl rfl) (da_cons (de_idx (de_var (pv 0)) (de_var (pv 3))) (da_cons (de_var (pv 1)) da_nil)))) (blkOk_by (N := ["_law_rules", "_law_table_here", "_law_found", "_law_k", "_law_rows"]) (sc := defScope s_law_breaks) (by decide +kernel)) (fun _ _ _ _ _ _ _ => (dgc_nm (i := 4) sc_law_breaks.nd (by decide))) (fun _ _ _ _ _ _ _ => dts_nil) (fun _ _ _ _ _ _ _ => (de_bin op_addA addD.mono fitsAdd (de_tup (da_cons (de_var (pv 3)) da_nil)) (de_var (pv 4))))) (pv 2))))
    (dss_rel (dss_one (ds_ret (de_var (pv 2))))))), ?_⟩
  rintro ds n Q x ⟨cs, rs, ts, rfl, hrs, ht, q⟩
  have hl8 := hrs.1
  simp only [wRet, wSet, wSeq, wNext, wDrop, wIfS, wTest, wAnd, wOr, wNot, wIf, wBin, wVar, wC, wAndV, wOrV, wNotV, wIsN, wNotN, wNeg, wChain, wNil, wCons, wTup, wLst, wBi, wCall, wIsi, wSl, wSo, wNo, wSeqI, wFor, gNm, gTp, puts, wAsg, wPar, wMul, wmD, wmO, putsI, wAug, wTryIs, wRng1, wRng2, wEnum, wEnumT, wZip, wLc, wYes, wLend, wRel, wOwn, wApp, wIns, wSetIx, wLstF, wListF, wRepF, wAddF, wSlS, wParO, wRevT, wSortedSet, wSortedSetL, wSortedSetT, wKeys, weI, wExt, allD, wMt, wRaise, wSeqO, wCallF, plainO, wCallA, wIdx0, wAnF, wSetA, wUnA, wSeqA, plainA, wFld, wFldO, wMake, wLRg, Ans.data, Ans.own.injEq, Ans.tup.injEq, Ans.dat.injEq, wTry, wTryM, wHs, wIsC, enOf, put, putUn, defEnds, lendE, lend, wipeE, hide, lenD, intD, listD, tupleD, reprD, wPen0, wPen1, wPen2, wPenS1, wPenS2, penAt, List.map_cons, List.map_nil, List.length_cons, List.length_nil, List.nil_append, List.cons_append, Nat.reduceAdd, Nat.reduceSub, Nat.reduceLeDiff, Nat.zero_add, List.replicate_zero, List.replicate_succ, List.getElem?_cons_zero, List.getElem?_cons_succ, List.set_cons_zero, List.set_cons_succ, Option.some.injEq, Slot.dat.injEq, Slot.own.injEq, PyData.bool.injEq, PyData.int.injEq, PyData.tuple.injEq, PyData.list.injEq, exists_eq_left', exists_eq_left, and_true, true_and, if_true, if_false, Bool.false_eq_true, reduceCtorEq, List.mapIdx_cons, List.mapIdx_nil]
  refine ⟨by omega,
        by omega, ?_⟩
  rw [Int.toNat_natCast]
  refine wLoop.ind (fun ds e => ∃ (j : Nat) (u3 u4 : Slot), e = ⟨[.dat (.tuple rs), .dat (.tuple ts), .own (allTo rs ts j), u3, u4], n⟩ ∧ j ≤ rs.length ∧ ds = rngD j (rs.length - j)) ?_ ?_ ⟨0, _, _, rfl, Nat.zero_le _, rfl⟩
  · rintro e ⟨j, u3, u4, rfl, hj, hd⟩
    have ej : j = rs.length := by
      have := congrArg List.length hd
      rw [rngD_length, List.length_nil] at this
      omega
    subst ej
    exact ⟨_, rfl, q⟩
  · rintro d ds e ih ⟨j, u3, u4, rfl, hj, hd⟩
    obtain ⟨t, ht'⟩ : ∃ t, rs.length - j = t + 1 := by
      have := congrArg List.length hd
      rw [rngD_length, List.length_cons] at this
      exact ⟨ds.length, this.symm⟩
    rw [ht', rngD_succ] at hd
    injection hd with hd1 hd2
    subst hd1 hd2
    have j1 : (j : Int) < rs.length := by omega
    have hm := getD_mem (Int.natCast_nonneg j) j1
    have at1 := atI_pos (Int.natCast_nonneg j) j1
    rw [Int.toNat_natCast] at hm at1
    have fl := allTo_len (rs := rs) (rows := ts) ht.1 (j := j)
    have bl := brkR_len (rows := ts) (r := rs.getD j .none) ht.1
    have bi := brkR_in (rows := ts) (r := rs.getD j .none) ht.1
    simp only [wRet, wSet, wSeq, wNext, wDrop, wIfS, wTest, wAnd, wOr, wNot, wIf, wBin, wVar, wC, wAndV, wOrV, wNotV, wIsN, wNotN, wNeg, wChain, wNil, wCons, wTup, wLst, wBi, wCall, wIsi, wSl, wSo, wNo, wSeqI, wFor, gNm, gTp, puts, wAsg, wPar, wMul, wmD, wmO, putsI, wAug, wTryIs, wRng1, wRng2, wEnum, wEnumT, wZip, wLc, wYes, wLend, wRel, wOwn, wApp, wIns, wSetIx, wLstF, wListF, wRepF, wAddF, wSlS, wParO, wRevT, wSortedSet, wSortedSetL, wSortedSetT, wKeys, weI, wExt, allD, wMt, wRaise, wSeqO, wCallF, plainO, wCallA, wIdx0, wAnF, wSetA, wUnA, wSeqA, plainA, wFld, wFldO, wMake, wLRg, Ans.data, Ans.own.injEq, Ans.tup.injEq, Ans.dat.injEq, wTry, wTryM, wHs, wIsC, enOf, put, putUn, defEnds, lendE, lend, wipeE, hide, lenD, intD, listD, tupleD, reprD, wPen0, wPen1, wPen2, wPenS1, wPenS2, penAt, List.map_cons, List.map_nil, List.length_cons, List.length_nil, List.nil_append, List.cons_append, Nat.reduceAdd, Nat.reduceSub, Nat.reduceLeDiff, Nat.zero_add, List.replicate_zero, List.replicate_succ, List.getElem?_cons_zero, List.getElem?_cons_succ, List.set_cons_zero, List.set_cons_succ, Option.some.injEq, Slot.dat.injEq, Slot.own.injEq, PyData.bool.injEq, PyData.int.injEq, PyData.tuple.injEq, PyData.list.injEq, exists_eq_left', exists_eq_left, and_true, true_and, if_true, if_false, Bool.false_eq_true, reduceCtorEq, List.mapIdx_cons, List.mapIdx_nil, addD]
    refine ⟨⟨_, rfl⟩, _, at1, cs, ts, _, rfl, hrs.2 _ hm, ht, _, rfl, ?_⟩
    refine lcLoop.fm (fun b => some (tag j b)) (fun e hm A B h3 h4 => ?_) (by rw [List.length_nil]; omega) ?_
    · obtain ⟨xs, rfl, xl, _⟩ := bi e hm
      simp only [wRet, wSet, wSeq, wNext, wDrop, wIfS, wTest, wAnd, wOr, wNot, wIf, wBin, wVar, wC, wAndV, wOrV, wNotV, wIsN, wNotN, wNeg, wChain, wNil, wCons, wTup, wLst, wBi, wCall, wIsi, wSl, wSo, wNo, wSeqI, wFor, gNm, gTp, puts, wAsg, wPar, wMul, wmD, wmO, putsI, wAug, wTryIs, wRng1, wRng2, wEnum, wEnumT, wZip, wLc, wYes, wLend, wRel, wOwn, wApp, wIns, wSetIx, wLstF, wListF, wRepF, wAddF, wSlS, wParO, wRevT, wSortedSet, wSortedSetL, wSortedSetT, wKeys, weI, wExt, allD, wMt, wRaise, wSeqO, wCallF, plainO, wCallA, wIdx0, wAnF, wSetA, wUnA, wSeqA, plainA, wFld, wFldO, wMake, wLRg, Ans.data, Ans.own.injEq, Ans.tup.injEq, Ans.dat.injEq, wTry, wTryM, wHs, wIsC, enOf, put, putUn, defEnds, lendE, lend, wipeE, hide, lenD, intD, listD, tupleD, reprD, wPen0, wPen1, wPen2, wPenS1, wPenS2, penAt, List.map_cons, List.map_nil, List.length_cons, List.length_nil, List.nil_append, List.cons_append, Nat.reduceAdd, Nat.reduceSub, Nat.reduceLeDiff, Nat.zero_add, List.replicate_zero, List.replicate_succ, List.getElem?_cons_zero, List.getElem?_cons_succ, List.set_cons_zero, List.set_cons_succ, Option.some.injEq, Slot.dat.injEq, Slot.own.injEq, PyData.bool.injEq, PyData.int.injEq, PyData.tuple.injEq, PyData.list.injEq, exists_eq_left', exists_eq_left, and_true, true_and, if_true, if_false, Bool.false_eq_true, reduceCtorEq, List.mapIdx_cons, List.mapIdx_nil, addD]
      exact ⟨_, rfl, by rw [sizeLine_eq]; omega, h4 _ rfl⟩
    · rw [List.nil_append, fmap_some]
      refine ⟨_, _, rfl, rfl, by rw [List.length_map]; omega, ih _ ⟨j + 1, _, _, by rw [allTo_succ], by omega, ?_⟩⟩
      rw [show rs.length - (j + 1) = t by omega]
      rfl
def w_law_kept_case : Wc := fun ds k Q _ => ∃ k' : Nat, ds = [penD] ∧ k = k' + 540 ∧ ∀ cs rules rows ns (i : Nat) k'', k' ≤ k'' → KeptOk cs rules rows ns → i < rows.length → Q (.tuple [.tuple cs, .tuple rules, .tuple rows, .int i, .tuple (ns.map PyData.int)]) k''
theorem m_law_kept_case : Wc.Mono w_law_kept_case := fun ds k Q Q' x x' h1 _ ⟨k', e, p1, q⟩ => ⟨k', e, p1, fun a b c d f g l z y => h1 _ _ (q a b c d f g l z y)⟩
theorem d_law_kept_case (T : Txt K mg A) (d_law_case : Def P w K mg base "_law_case" 8 ["_law_pen"] w_law_case) (d_law_breaks : Def P w K mg base "_law_breaks" 3 ["_law_rules", "_law_table_here"] w_law_breaks) (d_law_take : Def P w K mg base "_law_take" 2 ["_law_pen", "_law_many"] w_law_take) (d_law_rule_breaks : Def P w K mg base "_law_rule_breaks" 2 ["_law_rule_here", "_law_table_here"] w_law_rule_breaks) (F : FunAt K mg "_law_kept_case" s_law_kept_case ["_law_pen"]) : Def P w K mg base "_law_kept_case" 9 ["_law_pen"] w_law_kept_case := by
  refine defD F sc_law_kept_case (fun ds k Q x ⟨k', e, _⟩ => by rw [e]; rfl) fun f cdv Ar outer s H E p G hg hr => ⟨_, (dss_cons (ds_asg (de_fn d_law_case m_law_case hg hr (takes_of rfl rfl rfl rfl) (da_cons (de_var (pv 0)) da_nil)) (dg_tp rfl (dgs_cons (i := 1) sc_law_kept_case.nd (dgs_cons (i := 2) sc_law_kept_case.nd (dgs_cons (i := 3) sc_law_kept_case.nd (dgs_cons (i := 4) sc_law_kept_case.nd (dgs_cons (i := 5) sc_law_kept_case.nd dgs_nil)))))))
    (dss_cons (ds_for (passes_of rfl) rfl (di_rng1 de_int T.z_range) (dg_nm (i := 6) sc_law_kept_case.nd)
    (dss_cons (ds_set (i := 7) (de_fn d_law_breaks m_law_breaks hg hr (takes_of rfl rfl rfl rfl) (da_cons (de_var (pv 2)) (da_cons (de_var (pv 3)) da_nil))) sc_law_kept_case.nd)
    (dss_one (ds_if (dt_cmp (op_neA hr.units) neD.mono fitsNe (de_var (pv 7)) (de_lst da_nil))
    (dss_one (ds_if (DW.dt (dw_and (dt_cmp (op_eqA hr.units) eqD.mono fitsEq (de_fn d_law_take m_law_take hg hr (takes_of rfl rfl rfl rfl) (da_cons (de_var (pv 0)) (da_cons de_int da_nil))) de_int) (dw_and1 (dt_cmp op_gt cmpD.mono fitsCmp (de_bi lenD.mono fitsLen call_len_seq (da_cons (de_var (pv 3)) da_nil) T.z_len) de_int))))
    (dss_cons (ds_set (i := 8) (de_idx (de_idx (de_var (pv 7)) de_int) de_int) sc_law_kept_case.nd)
    (dss_one (ds_set (i := 3) (de_bin op_addA addD.mono fitsAdd (de_sl (de_var (pv 3)) do_none (do_some (de_var (pv 8)))) (de_sl (de_var (pv 3)) (do_some (de_bin op_addA addD.mono fitsAdd (de_var (pv 8)) de_int)) do_none)) sc_law_kept_case.nd)))
    (dss_cons (ds_set (i := 8) (de_idx (de_idx (de_var (pv 7)) de_int) de_int) sc_law_kept_case.nd)
    (dss_one (ds_set (i := 2) (de_bin op_addA addD.mono fitsAdd (de_sl (de_var (pv 2)) do_none (do_some (de_var (pv 8)))) (de_sl (de_var (pv 2)) (do_some (de_bin op_addA addD.mono fitsAdd (de_var (pv 8)) de_int)) do_none)) sc_law_kept_case.nd)))))
    dss_nil))))
    (dss_cons (ds_set (i := 2) (de_bt tupleD.mono fitsTuple call_tuple_of (da_cons (de_lc (own := [("_law_rule_here", 9)]) rfl sc_law_kept_case.nd (di_seq (de_var (pv 2))) (blkOk_by (N := ["_law_pen", "_law_columns_here", "_law_rules", "_law_master", "_law_row_here", "_law_settled", "_law_again", "_law_found", "_law_at", "_law_rule_here"]) (sc := defScope s_law_kept_case) (by decide +kernel)) (fun _ _ _ _ _ _ _ => (dgc_nm (i := 9) sc_law_kept_case.nd (by decide))) (fun _ _ _ _ _ _ _ => (dts_one (dt_cmp (op_eqA hr.units) eqD.mono fitsEq (de_fn d_law_rule_breaks m_law_rule_breaks hg hr takes0 (da_cons (de_var (pv 9)) (da_cons (de_var (pv 3)) da_nil))) (de_lst da_nil)))) (fun _ _ _ _ _ _ _ => (de_var (pv 9)))) da_nil) T.z_tuple) sc_law_kept_case.nd)
    (dss_one (ds_ret (de_tup (da_cons (de_var (pv 1)) (da_cons (de_var (pv 2)) (da_cons (de_var (pv 3)) (da_cons (de_fn d_law_take m_law_take hg hr (takes_of rfl rfl rfl rfl) (da_cons (de_var (pv 0)) (da_cons (de_bi lenD.mono fitsLen call_len_seq (da_cons (de_var (pv 3)) da_nil) T.z_len) da_nil))) (da_cons (de_var (pv 5)) da_nil))))))))))), ?_⟩
  rintro ds n Q x ⟨k', rfl, rfl, q⟩
  simp only [wRet, wSet, wSeq, wNext, wDrop, wIfS, wTest, wAnd, wOr, wNot, wIf, wBin, wVar, wC, wAndV, wOrV, wNotV, wIsN, wNotN, wNeg, wChain, wNil, wCons, wTup, wLst, wBi, wCall, wIsi, wSl, wSo, wNo, wSeqI, wFor, gNm, gTp, puts, wAsg, wPar, wMul, wmD, wmO, putsI, wAug, wTryIs, wRng1, wRng2, wEnum, wEnumT, wZip, wLc, wYes, wLend, wRel, wOwn, wApp, wIns, wSetIx, wLstF, wListF, wRepF, wAddF, wSlS, wParO, wRevT, wSortedSet, wSortedSetL, wSortedSetT, wKeys, weI, wExt, allD, wMt, wRaise, wSeqO, wCallF, plainO, wCallA, wIdx0, wAnF, wSetA, wUnA, wSeqA, plainA, wFld, wFldO, wMake, wLRg, Ans.data, Ans.own.injEq, Ans.tup.injEq, Ans.dat.injEq, wTry, wTryM, wHs, wIsC, enOf, put, putUn, defEnds, lendE, lend, wipeE, hide, lenD, intD, listD, tupleD, reprD, wPen0, wPen1, wPen2, wPenS1, wPenS2, penAt, List.map_cons, List.map_nil, List.length_cons, List.length_nil, List.nil_append, List.cons_append, Nat.reduceAdd, Nat.reduceSub, Nat.reduceLeDiff, Nat.zero_add, List.replicate_zero, List.replicate_succ, List.getElem?_cons_zero, List.getElem?_cons_succ, List.set_cons_zero, List.set_cons_succ, Option.some.injEq, Slot.dat.injEq, Slot.own.injEq, PyData.bool.injEq, PyData.int.injEq, PyData.tuple.injEq, PyData.list.injEq, exists_eq_left', exists_eq_left, and_true, true_and, if_true, if_false, Bool.false_eq_true, reduceCtorEq, List.mapIdx_cons, List.mapIdx_nil, addD]
  refine ⟨k' + 20, rfl, by omega, fun cs rules rows xs ns k1 l1 hc => ⟨_, rfl, rfl, ?_⟩⟩
  simp only [wRet, wSet, wSeq, wNext, wDrop, wIfS, wTest, wAnd, wOr, wNot, wIf, wBin, wVar, wC, wAndV, wOrV, wNotV, wIsN, wNotN, wNeg, wChain, wNil, wCons, wTup, wLst, wBi, wCall, wIsi, wSl, wSo, wNo, wSeqI, wFor, gNm, gTp, puts, wAsg, wPar, wMul, wmD, wmO, putsI, wAug, wTryIs, wRng1, wRng2, wEnum, wEnumT, wZip, wLc, wYes, wLend, wRel, wOwn, wApp, wIns, wSetIx, wLstF, wListF, wRepF, wAddF, wSlS, wParO, wRevT, wSortedSet, wSortedSetL, wSortedSetT, wKeys, weI, wExt, allD, wMt, wRaise, wSeqO, wCallF, plainO, wCallA, wIdx0, wAnF, wSetA, wUnA, wSeqA, plainA, wFld, wFldO, wMake, wLRg, Ans.data, Ans.own.injEq, Ans.tup.injEq, Ans.dat.injEq, wTry, wTryM, wHs, wIsC, enOf, put, putUn, defEnds, lendE, lend, wipeE, hide, lenD, intD, listD, tupleD, reprD, wPen0, wPen1, wPen2, wPenS1, wPenS2, penAt, List.map_cons, List.map_nil, List.length_cons, List.length_nil, List.nil_append, List.cons_append, Nat.reduceAdd, Nat.reduceSub, Nat.reduceLeDiff, Nat.zero_add, List.replicate_zero, List.replicate_succ, List.getElem?_cons_zero, List.getElem?_cons_succ, List.set_cons_zero, List.set_cons_succ, Option.some.injEq, Slot.dat.injEq, Slot.own.injEq, PyData.bool.injEq, PyData.int.injEq, PyData.tuple.injEq, PyData.list.injEq, exists_eq_left', exists_eq_left, and_true, true_and, if_true, if_false, Bool.false_eq_true, reduceCtorEq, List.mapIdx_cons, List.mapIdx_nil]
  refine ⟨by decide, by decide, ?_⟩
  refine wLoop.ind (fun ds e => ∃ (rules rows : List D) (u6 u7 u8 u9 : Slot) (k3 : Nat), e = ⟨[.dat penD, .dat (.tuple cs), .dat (.tuple rules), .dat (.tuple rows), .dat (.tuple xs), .dat (.tuple (ns.map PyData.int)), u6, u7, u8, u9], k3⟩ ∧ rules.length ≤ 8 ∧ (∀ r ∈ rules, okRule cs r) ∧ okTab cs rows ∧ 1 ≤ rows.length ∧ k' + 1 + ds.length ≤ k3) ?_ ?_ ⟨rules, rows, _, _, _, _, k1, rfl, hc.r8, hc.rl, hc.tab, hc.ne, by rw [rngD_length]; show k' + 1 + 4 ≤ k1; omega⟩
  · rintro e ⟨rules, rows, u6, u7, u8, u9, k3, rfl, h8, hr, ht, h1, hk⟩
    rw [List.length_nil] at hk
    simp (decide := true) only [wRet, wSet, wSeq, wNext, wDrop, wIfS, wTest, wAnd, wOr, wNot, wIf, wBin, wVar, wC, wAndV, wOrV, wNotV, wIsN, wNotN, wNeg, wChain, wNil, wCons, wTup, wLst, wBi, wCall, wIsi, wSl, wSo, wNo, wSeqI, wFor, gNm, gTp, puts, wAsg, wPar, wMul, wmD, wmO, putsI, wAug, wTryIs, wRng1, wRng2, wEnum, wEnumT, wZip, wLc, wYes, wLend, wRel, wOwn, wApp, wIns, wSetIx, wLstF, wListF, wRepF, wAddF, wSlS, wParO, wRevT, wSortedSet, wSortedSetL, wSortedSetT, wKeys, weI, wExt, allD, wMt, wRaise, wSeqO, wCallF, plainO, wCallA, wIdx0, wAnF, wSetA, wUnA, wSeqA, plainA, wFld, wFldO, wMake, wLRg, Ans.data, Ans.own.injEq, Ans.tup.injEq, Ans.dat.injEq, wTry, wTryM, wHs, wIsC, enOf, put, putUn, defEnds, lendE, lend, wipeE, hide, lenD, intD, listD, tupleD, reprD, wPen0, wPen1, wPen2, wPenS1, wPenS2, penAt, List.map_cons, List.map_nil, List.length_cons, List.length_nil, List.nil_append, List.cons_append, Nat.reduceAdd, Nat.reduceSub, Nat.reduceLeDiff, Nat.zero_add, List.replicate_zero, List.replicate_succ, List.getElem?_cons_zero, List.getElem?_cons_succ, List.set_cons_zero, List.set_cons_succ, Option.some.injEq, Slot.dat.injEq, Slot.own.injEq, PyData.bool.injEq, PyData.int.injEq, PyData.tuple.injEq, PyData.list.injEq, exists_eq_left', exists_eq_left, and_true, true_and, if_true, if_false, Bool.false_eq_true, reduceCtorEq, List.mapIdx_cons, List.mapIdx_nil]
    refine ⟨_, rfl, ?_⟩
    refine lcLoop.fm (fun r => if brkR rows r = [] then some r else none) (fun r hm A B h3 h4 => ?_) (by rw [List.length_nil]; omega) ?_
    · simp (decide := true) only [wRet, wSet, wSeq, wNext, wDrop, wIfS, wTest, wAnd, wOr, wNot, wIf, wBin, wVar, wC, wAndV, wOrV, wNotV, wIsN, wNotN, wNeg, wChain, wNil, wCons, wTup, wLst, wBi, wCall, wIsi, wSl, wSo, wNo, wSeqI, wFor, gNm, gTp, puts, wAsg, wPar, wMul, wmD, wmO, putsI, wAug, wTryIs, wRng1, wRng2, wEnum, wEnumT, wZip, wLc, wYes, wLend, wRel, wOwn, wApp, wIns, wSetIx, wLstF, wListF, wRepF, wAddF, wSlS, wParO, wRevT, wSortedSet, wSortedSetL, wSortedSetT, wKeys, weI, wExt, allD, wMt, wRaise, wSeqO, wCallF, plainO, wCallA, wIdx0, wAnF, wSetA, wUnA, wSeqA, plainA, wFld, wFldO, wMake, wLRg, Ans.data, Ans.own.injEq, Ans.tup.injEq, Ans.dat.injEq, wTry, wTryM, wHs, wIsC, enOf, put, putUn, defEnds, lendE, lend, wipeE, hide, lenD, intD, listD, tupleD, reprD, wPen0, wPen1, wPen2, wPenS1, wPenS2, penAt, List.map_cons, List.map_nil, List.length_cons, List.length_nil, List.nil_append, List.cons_append, Nat.reduceAdd, Nat.reduceSub, Nat.reduceLeDiff, Nat.zero_add, List.replicate_zero, List.replicate_succ, List.getElem?_cons_zero, List.getElem?_cons_succ, List.set_cons_zero, List.set_cons_succ, Option.some.injEq, Slot.dat.injEq, Slot.own.injEq, PyData.bool.injEq, PyData.int.injEq, PyData.tuple.injEq, PyData.list.injEq, exists_eq_left', exists_eq_left, and_true, true_and, if_true, if_false, Bool.false_eq_true, reduceCtorEq, List.mapIdx_cons, List.mapIdx_nil]
      refine ⟨cs, rows, r, rfl, hr r hm, ht, .inr ⟨brk_good ht.1, good_of (by decide +kernel)⟩, _, rfl, ?_⟩
      rw [eqv_lnil]
      by_cases hb : brkR rows r = []
      · rw [if_pos (decide_eq_true hb)]
        exact h4 _ (if_pos hb)
      · rw [if_neg (by simpa using hb)]
        exact h3 (if_neg hb)
    · rw [List.nil_append]
      have fm : ∀ r ∈ rules.filterMap (fun r => if brkR rows r = [] then some r else none), r ∈ rules ∧ brkR rows r = [] := fun r hm => by
        obtain ⟨y, hy, h⟩ := List.mem_filterMap.mp hm
        split at h
        · rename_i hb; cases h; exact ⟨hy, hb⟩
        · cases h
      have fl : (rules.filterMap (fun r => if brkR rows r = [] then some r else none)).length ≤ rules.length := List.length_filterMap_le _ _
      obtain ⟨k3, rfl⟩ : ∃ k0, k3 = k0 + 1 := ⟨k3 - 1, by omega⟩
      exact ⟨rows.length, k3, rfl, rfl, by omega, small9 (by have := ht.1; omega), fun r r0 r1 k4 l4 => by
        obtain ⟨i, rfl⟩ : ∃ i : Nat, r = i := ⟨r.toNat, by omega⟩
        exact q cs _ rows ns i k4 (by omega) ⟨hc.cols, by omega, fun r hm => hr r (fm r hm).1, ht, hc.set, h1, fun r hm => (fm r hm).2⟩ (by omega)⟩
  · rintro d ds e ih ⟨rules, rows, u6, u7, u8, u9, k3, rfl, h8, hr, ht, h1, hk⟩
    rw [List.length_cons] at hk
    obtain ⟨k3, rfl⟩ : ∃ k0, k3 = k0 + 1 := ⟨k3 - 1, by omega⟩
    simp only [wRet, wSet, wSeq, wNext, wDrop, wIfS, wTest, wAnd, wOr, wNot, wIf, wBin, wVar, wC, wAndV, wOrV, wNotV, wIsN, wNotN, wNeg, wChain, wNil, wCons, wTup, wLst, wBi, wCall, wIsi, wSl, wSo, wNo, wSeqI, wFor, gNm, gTp, puts, wAsg, wPar, wMul, wmD, wmO, putsI, wAug, wTryIs, wRng1, wRng2, wEnum, wEnumT, wZip, wLc, wYes, wLend, wRel, wOwn, wApp, wIns, wSetIx, wLstF, wListF, wRepF, wAddF, wSlS, wParO, wRevT, wSortedSet, wSortedSetL, wSortedSetT, wKeys, weI, wExt, allD, wMt, wRaise, wSeqO, wCallF, plainO, wCallA, wIdx0, wAnF, wSetA, wUnA, wSeqA, plainA, wFld, wFldO, wMake, wLRg, Ans.data, Ans.own.injEq, Ans.tup.injEq, Ans.dat.injEq, wTry, wTryM, wHs, wIsC, enOf, put, putUn, defEnds, lendE, lend, wipeE, hide, lenD, intD, listD, tupleD, reprD, wPen0, wPen1, wPen2, wPenS1, wPenS2, penAt, List.map_cons, List.map_nil, List.length_cons, List.length_nil, List.nil_append, List.cons_append, Nat.reduceAdd, Nat.reduceSub, Nat.reduceLeDiff, Nat.zero_add, List.replicate_zero, List.replicate_succ, List.getElem?_cons_zero, List.getElem?_cons_succ, List.set_cons_zero, List.set_cons_succ, Option.some.injEq, Slot.dat.injEq, Slot.own.injEq, PyData.bool.injEq, PyData.int.injEq, PyData.tuple.injEq, PyData.list.injEq, exists_eq_left', exists_eq_left, and_true, true_and, if_true, if_false, Bool.false_eq_true, reduceCtorEq, List.mapIdx_cons, List.mapIdx_nil]
    refine ⟨cs, rules, rows, rfl, ⟨h8, hr⟩, ht, .inr ⟨allTo_good ht.1 h8, good_of (by decide +kernel)⟩, _, rfl, ?_⟩
    rw [eqv_lnil]
    have step : ∀ (e' : En), (∃ (rules rows : List D) (u6 u7 u8 u9 : Slot) (k3 : Nat), e' = ⟨[.dat penD, .dat (.tuple cs), .dat (.tuple rules), .dat (.tuple rows), .dat (.tuple xs), .dat (.tuple (ns.map PyData.int)), u6, u7, u8, u9], k3⟩ ∧ rules.length ≤ 8 ∧ (∀ r ∈ rules, okRule cs r) ∧ okTab cs rows ∧ 1 ≤ rows.length ∧ k' + 1 + ds.length ≤ k3) → _ := ih
    by_cases hf : allTo rules rows rules.length = []
    · rw [if_neg (by simp [hf])]
      exact step _ ⟨_, _, _, _, _, _, _, rfl, h8, hr, ht, h1, by omega⟩
    · rw [if_pos (by simp [hf])]
      obtain ⟨b, bs, eb⟩ : ∃ b bs, allTo rules rows rules.length = b :: bs := by
        cases h : allTo rules rows rules.length with
        | nil => exact absurd h hf
        | cons b bs => exact ⟨b, bs, rfl⟩
      obtain ⟨kk, i, ys, rfl, hk1, hi1⟩ := all_head (b := b) (by rw [eb]; exact List.mem_cons_self)
      rw [eb]
      obtain ⟨lr, sr⟩ := cut_out hi1
      obtain ⟨lk, sk⟩ := cut_out hk1
      have a0 : atI (PyData.tuple (.int kk :: .int i :: ys) :: bs) (0 : Int) = some (.tuple (.int kk :: .int i :: ys)) := by simp [atI, ixN]
      have a1 : atI (PyData.int kk :: .int i :: ys) (1 : Int) = some (.int i) := (atI_pos (by decide) (by rw [List.length_cons, List.length_cons]; omega)).trans rfl
      have a2 : atI (PyData.int kk :: .int i :: ys) (0 : Int) = some (.int kk) := (atI_pos (by decide) (by rw [List.length_cons, List.length_cons]; omega)).trans rfl
      refine ⟨2, k3, rfl, rfl, by decide, small9 (by decide), fun r r0 r1 k4 l4 => ⟨.inl rfl, _, rfl, ?_⟩⟩
      have other : ∀ u6 u7 u9, wLoop _ _ _ _ (⟨[.dat penD, .dat (.tuple cs), .dat (.tuple (cutD rules none (some (kk : Int)) ++ cutD rules (some ((kk : Int) + 1)) none)), .dat (.tuple rows), .dat (.tuple xs), .dat (.tuple (ns.map PyData.int)), u6, u7, .dat (.int kk), u9], k4⟩ : En) := fun u6 u7 u9 => ih _ ⟨_, rows, _, _, _, _, _, rfl, by omega, fun r hm => hr r (sk r hm), ht, h1, by omega⟩
      have cl : ∀ {zs : List D} {lo hi : Option Int}, (cutD zs lo hi).length ≤ zs.length := fun {zs lo hi} => by
        unfold cutD
        rw [List.length_take,
              List.length_drop]
        omega
      have c1 := cl (zs := rows) (lo := none) (hi := some (i : Int))
      have c2 := cl (zs := rows) (lo := some ((i : Int) + 1)) (hi := none)
      have c3 := cl (zs := rules) (lo := none) (hi := some (kk : Int))
      have c4 := cl (zs := rules) (lo := some ((kk : Int) + 1)) (hi := none)
      have t8 := ht.1
      rw [eqv_ints]
      by_cases hr0 : r = 0
      · rw [if_pos (decide_eq_true hr0)]
        refine ⟨_, rfl, ?_⟩
        by_cases h2 : 1 < rows.length
        · rw [if_pos (decide_eq_true (by omega))]
          refine ⟨_, a0, _, a1, _, rfl, _, rfl, ?_⟩
          exact (⟨by rw [sizeLine_eq]; omega, ih _ ⟨rules, _, _, _, _, _, k4, rfl, h8, hr, ⟨by omega, fun d hd => ht.2 d (sr d hd)⟩, by omega, by omega⟩⟩ : (cutD rows none (some (i : Int))).length + (cutD rows (some ((i : Int) + 1)) none).length ≤ sizeLine ∧ _)
        · rw [if_neg (by simp; omega)]
          refine ⟨_, a0, _, a2, _, rfl, _, rfl, ?_⟩
          exact (⟨by rw [sizeLine_eq]; omega, other _ _ _⟩ : (cutD rules none (some (kk : Int))).length + (cutD rules (some ((kk : Int) + 1)) none).length ≤ sizeLine ∧ _)
      · rw [if_neg (by simpa using hr0)]
        refine ⟨_, a0, _, a2, _, rfl, _, rfl, ?_⟩
        exact (⟨by rw [sizeLine_eq]; omega, other _ _ _⟩ : (cutD rules none (some (kk : Int))).length + (cutD rules (some ((kk : Int) + 1)) none).length ≤ sizeLine ∧ _)
end
end L2.DL.K46
namespace L2.DL.K46
open PySem PySem.Spec
      PyProof.Rows
/-! ### from a row of a master in which the rules hold nothing changes -/
theorem like_sym {es xs ys : List D} {m : Nat} (he : entsOk es m) (hx : xs.length = m) (hy : ys.length = m) (ix : ∀ x ∈ xs, ∃ i : Int, x = .int i ∧ i.natAbs < 2 ^ 120) (iy : ∀ y ∈ ys, ∃ i : Int, y = .int i ∧ i.natAbs < 2 ^ 120) (hl : likeB es xs ys = true) : likeB es ys xs = true := by
  unfold likeB at hl ⊢
  rw [List.all_eq_true] at hl ⊢
  intro e h
  have hl := hl e h
  obtain ⟨i, b, rfl, h0, h1, _⟩ := he e h
  obtain ⟨a, ea, _⟩ := ix _ (getD_mem (xs := xs) h0 (by rw [hx]; exact h1))
  obtain ⟨c, ec, _⟩ := iy _ (getD_mem (xs := ys) h0 (by rw [hy]; exact h1))
  simp only at hl ⊢
  rw [ea, ec, eqv_ints, decide_eq_true_eq] at hl
  rw [ea, ec, eqv_ints, decide_eq_true_eq]
  exact hl.symm
theorem atI_in {xs : List D} {i : Int} {d : D} (h : atI xs i = some d) : d ∈ xs := by
  unfold atI at h
  cases hj : ixN xs.length i with
  | none => rw [hj] at h; cases h
  | some j => rw [hj] at h; exact List.mem_of_getElem? h
theorem row_at {rows xs : List D} (h : PyData.tuple xs ∈ rows) : ∃ a, a < rows.length ∧ rowI rows a = xs := by
  obtain ⟨a, ha⟩ := List.mem_iff_getElem?.mp h
  refine ⟨a, (List.getElem?_eq_some_iff.mp ha).1, ?_⟩
  unfold rowI
  rw [List.getD_eq_getElem?_getD, ha]
  rfl
theorem pairs_nil {es : List D} {c : Int} {rows : List D} (h : pairsTo es c rows rows.length = []) {i j : Nat} (hij : i < j) (hj : j < rows.length) : pairB es c rows i j = false := by
  unfold pairsTo at h
  have h1 := List.flatMap_eq_nil_iff.mp h i (List.mem_range.mpr (by omega))
  unfold pairsOf at h1
  have h2 := List.filterMap_eq_nil_iff.mp h1 (j - (i + 1)) (List.mem_range.mpr (by omega))
  rw [show i + 1 + (j - (i + 1)) = j by omega] at h2
  cases hb : pairB es c rows i j with
  | false => rfl
  | true => rw [if_pos hb] at h2; cases h2
theorem settles_same {cs rows xs : List D} {es : List D} {c z : Int} {v : D} (ht : okTab cs rows) (hx : PyData.tuple xs ∈ rows) (ho : okRule cs (.tuple [.tuple es, .int c, v])) (hb : brkR rows (.tuple [.tuple es, .int c, v]) = []) (s : Settles es c v rows xs z) : xs.getD c.toNat .none = .int z := by
  obtain ⟨es', c', w', ep, he, c0, c1, _⟩ := ho.parts
  injection ep with ep
  injection ep with e1 e2
  injection e2 with e2 e3
  injection e1 with e1
  injection e2 with e2
  subst e1 e2
  have intR : ∀ {ys : List D}, PyData.tuple ys ∈ rows → ys.length = cs.length ∧ ∀ y ∈ ys, ∃ i : Int, y = .int i ∧ i.natAbs < 2 ^ 120 := fun {ys} hy => by
    obtain ⟨xs', ex, h1, h2⟩ := ht.int _ hy
    injection ex with ex
    subst ex
    exact ⟨h1, h2⟩
  obtain ⟨lx, ix⟩ := intR hx
  obtain ⟨a, ea, _⟩ := ix _ (getD_mem (xs := xs) c0 (by rw [lx]; exact c1))
  obtain ⟨p, hp, rp⟩ := row_at hx
  rw [brkR_eq] at hb
  rcases s with ⟨rfl, hh⟩ | ⟨rfl, ys, hy, hh, hl, ez⟩
  · rw [if_neg (by simp [isN])] at hb
    have h1 := List.filterMap_eq_nil_iff.mp hb p (List.mem_range.mpr hp)
    unfold single at h1
    rw [show itm (rows.getD p .none) = xs from rp, hh, ea, eqv_ints] at h1
    rw [ea]
    by_cases e : a = z
    · rw [e]
    · simp [e] at h1
  · rw [if_pos (show isN .none = true from rfl)] at hb
    obtain ⟨ly, iy⟩ := intR hy
    obtain ⟨q, hq, rq⟩ := row_at hy
    have key : ∀ {i j : Nat} {us ws : List D}, i < j → j < rows.length → rowI rows i = us → rowI rows j = ws → hasB es us = true → likeB es us ws = true → PyData.eqv (us.getD c.toNat .none) (ws.getD c.toNat .none) = true := fun {i j us ws} hij hj ei ej h1 h2 => by
      have h3 := pairs_nil hb hij hj
      unfold pairB at h3
      rw [ei, ej, h1, h2] at h3
      simpa using h3
    rcases Nat.lt_trichotomy p q with lt | e | gt
    · have h4 := key lt hq rp rq hh hl
      rw [ea, ez, eqv_ints, decide_eq_true_eq] at h4
      rw [ea, h4]
    · rw [← rp, e, rq, ez]
    · have h4 := key gt hp rq rp (by rw [like_has he lx ly ix iy hl]; exact hh) (like_sym he lx ly ix iy hl)
      rw [ea, ez, eqv_ints, decide_eq_true_eq] at h4
      rw [ea, h4]
/-- rules, a master in which they hold, one of its rows, settled columns -/
structure Kept (cs rules rows xs : List D) (ns : List Int) : Prop where
  half : Half cs rules rows ns
  hd : ∀ r ∈ rules, brkR rows r = []
  mem : PyData.tuple xs ∈ rows
/-- a run ends without some column -/
def Stk (m : Nat) (rules rows xs : List D) (ns : List Int) : Prop := ∃ ms, okNs m ms ∧ (∀ y ∈ ns, y ∈ ms) ∧ Ends rules rows xs ms ∧ ms.length < m
section
variable {cs rules rows xs : List D} {ns : List Int}
theorem Kept.mid (h : Kept cs rules rows xs ns) : midRow cs xs := by
  obtain ⟨xs', ex, hr⟩ := h.half.tab.2 _ h.mem
  injection ex with ex
  subst ex
  exact hr.mid
theorem Kept.steps (h : Kept cs rules rows xs ns) : StepsIn cs.length rules rows xs ns := h.half.steps h.mid.ints
theorem Kept.val (h : Kept cs rules rows xs ns) {i : Nat} {c z : Int} (s : StepAt rules rows xs ns i [(i : Int), c, z]) : xs.set c.toNat (.int z) = xs := by
  obtain ⟨es, c', v, z', hr, et, _, _, st⟩ := s
  injection et with _ et
  injection et with e1 et
  injection et with e2 _
  subst e1 e2
  have hm := List.mem_of_getElem? hr
  have hv := settles_same h.half.tab h.mem (h.half.rl _ hm) (h.hd _ hm) st
  apply List.ext_getElem?
  intro j
  by_cases hj : c.toNat = j
  · subst hj
    by_cases hl : c.toNat < xs.length
    · rw [List.getElem?_set_self hl]
      rw [List.getD_eq_getElem?_getD, List.getElem?_eq_getElem hl] at hv
      rw [List.getElem?_eq_getElem hl]
      exact congrArg some hv.symm
    · rw [List.getElem?_eq_none (by simpa using hl), List.getElem?_eq_none (by omega)]
  · rw [List.getElem?_set_ne hj]
theorem step_more {i : Nat} {c z : Int} {ms : List Int} (s : StepAt rules rows xs ns i [(i : Int), c, z]) (hs : ∀ y ∈ ns, y ∈ ms) (hc : c ∉ ms) : StepAt rules rows xs ms i [(i : Int), c, z] := by
  obtain ⟨es, c', v, z', hr, et, _, ha, st⟩ := s
  injection et with _ et
  injection et with e1 et
  injection et with e2 _
  subst e1 e2
  refine ⟨es, c, v, z, hr, rfl, hc, ?_, st⟩
  unfold allIn at ha ⊢
  rw [List.all_eq_true] at ha ⊢
  intro e he
  have := ha e he
  split at this
  · simp only [decide_eq_true_eq] at this ⊢
    exact hs _ this
  · cases this
theorem okNs.sub {m : Nat} {ns ms : List Int} (h : okNs m ns) (h' : okNs m ms) (hs : ∀ y ∈ ns, y ∈ ms) : ns.length ≤ ms.length :=
  in_len ns ms (h.1.imp fun {a b} lt => by omega) hs
theorem Stk.step (h : Kept cs rules rows xs ns) {i : Nat} {c z : Int} {ns1 : List Int} (s : StepAt rules rows xs ns i [(i : Int), c, z]) (hi : i < rules.length) (ad : NsAdd ns c ns1) : Stk cs.length rules rows xs ns ↔ Stk cs.length rules rows xs ns1 := by
  constructor
  · rintro ⟨ms, ok, sub, en, lt⟩
    refine ⟨ms, ok, fun y hy => ?_, en, lt⟩
    rcases (ad.mem y).mp hy with h1 | rfl
    · exact sub y h1
    · refine Classical.byContradiction fun hc => ?_
      exact en _ ⟨i, hi, step_more s sub hc⟩
  · rintro ⟨ms, ok, sub, en, lt⟩
    exact ⟨ms, ok, fun y hy => sub y ((ad.mem y).mpr (.inl hy)), en, lt⟩
theorem Stk.ends (h : Kept cs rules rows xs ns) (en : Ends rules rows xs ns) : Stk cs.length rules rows xs ns ↔ ns.length < cs.length := by
  constructor
  · rintro ⟨ms, ok, sub, _, lt⟩
    have := h.half.set.sub ok sub
    omega
  · exact fun lt => ⟨ns, h.half.set, fun _ hy => hy, en, lt⟩
theorem Kept.next (h : Kept cs rules rows xs ns) {ns1 : List Int} (ok : okNs cs.length ns1) : Kept cs rules rows xs ns1 := ⟨⟨h.half.cols, h.half.r8, h.half.rl, h.half.tab, ok⟩, h.hd, h.mem⟩
theorem Kept.run (h : Kept cs rules rows xs ns) {ts : List (List Int)} {ys : List D} {ns' : List Int} (r : Run rules rows xs ns ts ys ns') : ys = xs ∧ (okNs cs.length ns') ∧ (Stk cs.length rules rows xs ns ↔ Stk cs.length rules rows xs ns') := by
  generalize e0 : xs = zs at r
  induction r with
  | nil => exact ⟨rfl, h.half.set, e0 ▸ Iff.rfl⟩
  | cons ls ad r ih =>
    rename_i xs' ys ns ns1 ns2 i c z us
    subst e0
    obtain ⟨j, hj, sj⟩ := ls.1
    obtain ⟨c', z', e, c0, c1, cn, z0, z1, hv⟩ := h.half.step sj
    injection e with e1 e2
    injection e2 with e2 e3
    injection e3 with e3 _
    subst e1 e2 e3
    have ev := h.val sj
    have ok1 : okNs cs.length ns1 := ⟨ad.asc, fun n hn => ((ad.mem n).mp hn).elim (h.half.set.2 n) fun e => by rw [e]; exact ⟨c0, c1⟩⟩
    obtain ⟨e4, ok2, iff2⟩ := ih (h.next ok1) ev.symm
    rw [ev] at iff2
    exact ⟨e4.trans ev, ok2, (Stk.step h sj hj ad).trans iff2⟩
end
section
variable {P : Program} {w : World} {K : PySem.W.Frag} {mg : Str → Option Value} {base : Heap} {A : Cls}
theorem all_nil {rules rows : List D} (h : ∀ r ∈ rules, brkR rows r = []) : allTo rules rows rules.length = [] := by
  unfold allTo
  refine List.flatMap_eq_nil_iff.mpr fun k hk => ?_
  rw [h _ (by
    rw [List.getD_eq_getElem?_getD, List.getElem?_eq_getElem (List.mem_range.mp hk)]
    exact List.getElem_mem _)]
  rfl
def w_check_master_row : Wc := fun ds k Q _ => ∃ (cs rules rows : List D) (ns : List Int) (i : Nat), ds = [.tuple cs, .tuple rules, .tuple rows, .int i] ∧ KeptOk cs rules rows ns ∧ i < rows.length ∧ Q .none k
theorem m_check_master_row : Wc.Mono w_check_master_row := fun ds k Q Q' x x' h1 _ ⟨cs, rules, rows, ns, i, e, p1, p2, q⟩ => ⟨cs, rules, rows, ns, i, e, p1, p2, h1 _ _ q⟩
theorem KeptOk.half {cs rules rows : List D} {ns : List Int} (h : KeptOk cs rules rows ns) : Half cs rules rows ns := ⟨h.cols, h.r8, h.rl, h.tab, h.set⟩
theorem KeptOk.at {cs rules rows : List D} {ns : List Int} (h : KeptOk cs rules rows ns) {i : Nat} (hi : i < rows.length) : ∃ xs, atI rows (i : Int) = some (.tuple xs) ∧ Kept cs rules rows xs ns := by
  obtain ⟨h1, _, _⟩ := rowI_at h.tab.int hi
  exact ⟨_, h1, h.half, h.hd, atI_in h1⟩
theorem d_check_master_row (T : Txt K mg A) (d_check_columns : Def P w K mg base "check_columns" 4 ["columns"] (w_check_columns A)) (d_check_rules : Def P w K mg base "check_rules" 7 ["columns", "rules"] (w_check_rules A)) (d_check_table : Def P w K mg base "check_table" 5 ["columns", "table"] (w_check_table A)) (d_is_number : Def P w K mg base "is_number" 2 ["value", "limit"] w_is_number) (F : FunAt K mg "check_master_row" s_check_master_row ["columns", "rules", "master", "number"]) : Def P w K mg base "check_master_row" 8 ["columns", "rules", "master", "number"] w_check_master_row := by
  refine defD F sc_check_master_row (fun ds k Q x ⟨cs, rules, rows, ns, i, e, _⟩ => by rw [e]; rfl) fun f cdv Ar outer s H E p G hg hr => ⟨_, (dss_cons (ds_drop (de_fn d_check_columns m_check_columns hg hr (takes_of rfl rfl rfl rfl) (da_cons (de_var (pv 0)) da_nil)))
    (dss_cons (ds_drop (de_fn d_check_rules m_check_rules hg hr (takes_of rfl rfl rfl rfl) (da_cons (de_var (pv 0)) (da_cons (de_var (pv 1)) da_nil))))
    (dss_cons (ds_drop (de_fn d_check_table m_check_table hg hr (takes_of rfl rfl rfl rfl) (da_cons (de_var (pv 0)) (da_cons (de_var (pv 2)) da_nil))))
    (dss_one (ds_if (dt_not (dt_val (de_fn d_is_number m_is_number hg hr (takes_of rfl rfl rfl rfl) (da_cons (de_var (pv 3)) (da_cons (de_bi lenD.mono fitsLen call_len_seq (da_cons (de_var (pv 2)) da_nil) T.z_len) da_nil)))))
    (dss_one (ds_raise (C := A.InvalidNumber) rfl (takes_of rfl rfl rfl rfl) PySem.F.excBase_ValueError T.x_InvalidNumber T.g_InvalidNumber T.k_InvalidNumber (raises_own T.s_InvalidNumber T.t_InvalidNumber)))
    dss_nil))))), ?_⟩
  rintro ds n Q x ⟨cs, rules, rows, ns, i, rfl, h, hi, q⟩
  obtain ⟨xs, _, kp⟩ := h.at hi
  have hx := kp.mid
  have c4 : cs.length ≤ 4 := kp.steps.m4
  have hf : FixOk cs rules rows xs ns := h.half.fix hx.b (hx.good c4) (cols_ish h.cols.ok.good h.cols.b)
  have no : ∀ {b : Bool} {R : Prop}, b = true → b = false → R := fun h1 h2 => by rw [h1] at h2; cases h2
  have t8 := h.tab.1
  have fi : fine (PyData.int i) = true := by
    simp only [fine, decide_eq_true_eq]
    omega
  simp only [wRet, wSet, wSeq, wNext, wDrop, wIfS, wTest, wAnd, wOr, wNot, wIf, wBin, wVar, wC, wAndV, wOrV, wNotV, wIsN, wNotN, wNeg, wChain, wNil, wCons, wTup, wLst, wBi, wCall, wIsi, wSl, wSo, wNo, wSeqI, wFor, gNm, gTp, puts, wAsg, wPar, wMul, wmD, wmO, putsI, wAug, wTryIs, wRng1, wRng2, wEnum, wEnumT, wZip, wLc, wYes, wLend, wRel, wOwn, wApp, wIns, wSetIx, wLstF, wListF, wRepF, wAddF, wSlS, wParO, wRevT, wSortedSet, wSortedSetL, wSortedSetT, wKeys, weI, wExt, allD, wMt, wRaise, wSeqO, wCallF, plainO, wCallA, wIdx0, wAnF, wSetA, wUnA, wSeqA, plainA, wFld, wFldO, wMake, wLRg, Ans.data, Ans.own.injEq, Ans.tup.injEq, Ans.dat.injEq, wTry, wTryM, wHs, wIsC, enOf, put, putUn, defEnds, lendE, lend, wipeE, hide, lenD, intD, listD, tupleD, reprD, wPen0, wPen1, wPen2, wPenS1, wPenS2, penAt, List.map_cons, List.map_nil, List.length_cons, List.length_nil, List.nil_append, List.cons_append, Nat.reduceAdd, Nat.reduceSub, Nat.reduceLeDiff, Nat.zero_add, List.replicate_zero, List.replicate_succ, List.getElem?_cons_zero, List.getElem?_cons_succ, List.set_cons_zero, List.set_cons_succ, Option.some.injEq, Slot.dat.injEq, Slot.own.injEq, PyData.bool.injEq, PyData.int.injEq, PyData.tuple.injEq, PyData.list.injEq, exists_eq_left', exists_eq_left, and_true, true_and, if_true, if_false, Bool.false_eq_true, reduceCtorEq, List.mapIdx_cons, List.mapIdx_nil]
  refine ⟨_, rfl, hf.f3, fun _ => ⟨cs, _, rfl, ⟨hf.f2, hf.f5⟩, fun _ => ⟨cs, _, rfl, ⟨hf.f2, hf.f7⟩, fun _ => ⟨_, _, rfl, ⟨fi, _, rfl⟩, ?_⟩, fun z => no hf.f6 z⟩, fun z => no hf.f4 z⟩, fun z => no hf.f1 z⟩
  have nb : numB (.int i) (.int rows.length) = true := by simp [numB]; omega
  show ∃ b, PyData.bool (numB (.int i) (.int rows.length)) = .bool b ∧ _
  rw [nb]
  exact ⟨true, rfl, q⟩
def w_check_unbroken : Wc := fun ds k Q _ => ∃ (cs rules rows : List D) (ns : List Int), ds = [.tuple rules, .tuple rows] ∧ KeptOk cs rules rows ns ∧ Q .none k
theorem m_check_unbroken : Wc.Mono w_check_unbroken := fun ds k Q Q' x x' h1 _ ⟨cs, rules, rows, ns, e, p1, q⟩ => ⟨cs, rules, rows, ns, e, p1, h1 _ _ q⟩
theorem d_check_unbroken (T : Txt K mg A) (o_list_breaks : DefO P w K mg base "list_breaks" 5 ["rules", "table"] x_list_breaks) (F : FunAt K mg "check_unbroken" s_check_unbroken ["rules", "master"]) : Def P w K mg base "check_unbroken" 6 ["rules", "master"] w_check_unbroken := by
  have d_list_breaks := o_list_breaks.plain n_list_breaks
  have m_list_breaks : Wc.Mono (plainO x_list_breaks) := plainO.mono n_list_breaks
  refine defD F sc_check_unbroken (fun ds k Q x ⟨cs, rules, rows, ns, e, _⟩ => by rw [e]; rfl) fun f cdv Ar outer s H E p G hg hr => ⟨_, (dss_cons (ds_set (i := 2) (de_fn d_list_breaks m_list_breaks hg hr (takes_of rfl rfl rfl rfl) (da_cons (de_var (pv 0)) (da_cons (de_var (pv 1)) da_nil))) sc_check_unbroken.nd)
    (dss_one (ds_if (dt_cmp op_gt cmpD.mono fitsCmp (de_bi lenD.mono fitsLen call_len_seq (da_cons (de_var (pv 2)) da_nil) T.z_len) de_int)
    dss_never
    dss_nil))), ?_⟩
  rintro ds n Q x ⟨cs, rules, rows, ns, rfl, h, q⟩
  simp only [wRet, wSet, wSeq, wNext, wDrop, wIfS, wTest, wAnd, wOr, wNot, wIf, wBin, wVar, wC, wAndV, wOrV, wNotV, wIsN, wNotN, wNeg, wChain, wNil, wCons, wTup, wLst, wBi, wCall, wIsi, wSl, wSo, wNo, wSeqI, wFor, gNm, gTp, puts, wAsg, wPar, wMul, wmD, wmO, putsI, wAug, wTryIs, wRng1, wRng2, wEnum, wEnumT, wZip, wLc, wYes, wLend, wRel, wOwn, wApp, wIns, wSetIx, wLstF, wListF, wRepF, wAddF, wSlS, wParO, wRevT, wSortedSet, wSortedSetL, wSortedSetT, wKeys, weI, wExt, allD, wMt, wRaise, wSeqO, wCallF, plainO, wCallA, wIdx0, wAnF, wSetA, wUnA, wSeqA, plainA, wFld, wFldO, wMake, wLRg, Ans.data, Ans.own.injEq, Ans.tup.injEq, Ans.dat.injEq, wTry, wTryM, wHs, wIsC, enOf, put, putUn, defEnds, lendE, lend, wipeE, hide, lenD, intD, listD, tupleD, reprD, wPen0, wPen1, wPen2, wPenS1, wPenS2, penAt, List.map_cons, List.map_nil, List.length_cons, List.length_nil, List.nil_append, List.cons_append, Nat.reduceAdd, Nat.reduceSub, Nat.reduceLeDiff, Nat.zero_add, List.replicate_zero, List.replicate_succ, List.getElem?_cons_zero, List.getElem?_cons_succ, List.set_cons_zero, List.set_cons_succ, Option.some.injEq, Slot.dat.injEq, Slot.own.injEq, PyData.bool.injEq, PyData.int.injEq, PyData.tuple.injEq, PyData.list.injEq, exists_eq_left', exists_eq_left, and_true, true_and, if_true, if_false, Bool.false_eq_true, reduceCtorEq, List.mapIdx_cons, List.mapIdx_nil]
  refine ⟨cs, rules, rows, rfl, ⟨h.r8, h.rl⟩, h.tab, ?_⟩
  rw [all_nil h.hd]
  simp only [wRet, wSet, wSeq, wNext, wDrop, wIfS, wTest, wAnd, wOr, wNot, wIf, wBin, wVar, wC, wAndV, wOrV, wNotV, wIsN, wNotN, wNeg, wChain, wNil, wCons, wTup, wLst, wBi, wCall, wIsi, wSl, wSo, wNo, wSeqI, wFor, gNm, gTp, puts, wAsg, wPar, wMul, wmD, wmO, putsI, wAug, wTryIs, wRng1, wRng2, wEnum, wEnumT, wZip, wLc, wYes, wLend, wRel, wOwn, wApp, wIns, wSetIx, wLstF, wListF, wRepF, wAddF, wSlS, wParO, wRevT, wSortedSet, wSortedSetL, wSortedSetT, wKeys, weI, wExt, allD, wMt, wRaise, wSeqO, wCallF, plainO, wCallA, wIdx0, wAnF, wSetA, wUnA, wSeqA, plainA, wFld, wFldO, wMake, wLRg, Ans.data, Ans.own.injEq, Ans.tup.injEq, Ans.dat.injEq, wTry, wTryM, wHs, wIsC, enOf, put, putUn, defEnds, lendE, lend, wipeE, hide, lenD, intD, listD, tupleD, reprD, wPen0, wPen1, wPen2, wPenS1, wPenS2, penAt, List.map_cons, List.map_nil, List.length_cons, List.length_nil, List.nil_append, List.cons_append, Nat.reduceAdd, Nat.reduceSub, Nat.reduceLeDiff, Nat.zero_add, List.replicate_zero, List.replicate_succ, List.getElem?_cons_zero, List.getElem?_cons_succ, List.set_cons_zero, List.set_cons_succ, Option.some.injEq, Slot.dat.injEq, Slot.own.injEq, PyData.bool.injEq, PyData.int.injEq, PyData.tuple.injEq, PyData.list.injEq, exists_eq_left', exists_eq_left, and_true, true_and, if_true, if_false, Bool.false_eq_true, reduceCtorEq, List.mapIdx_cons, List.mapIdx_nil, cmpD]
  exact q
def w_stop : Wa := fun ds k Q _ => ∃ (cs rules rows xs : List D) (ns : List Int) (i : Nat), ds = [.tuple cs, .tuple rules, .tuple rows, .int i, .tuple (ns.map PyData.int)] ∧ KeptOk cs rules rows ns ∧ i < rows.length ∧ atI rows (i : Int) = some (.tuple xs) ∧
  ∀ (ts : List (List Int)) (ns' : List Int), Run rules rows xs ns ts xs ns' → Ends rules rows xs ns' → okNs cs.length ns' → ts.length + ns.length = ns'.length → Q (if ns'.length = cs.length then .dat .none else .own (ts.map tupI)) k
theorem n_stop : Wa.Mono w_stop := fun ds k Q Q' x x' h1 _ ⟨cs, rules, rows, xs, ns, i, e, p1, p2, p3, q⟩ => ⟨cs, rules, rows, xs, ns, i, e, p1, p2, p3, fun ts ns' a b c d => h1 _ _ (q ts ns' a b c d)⟩
theorem a_stop (T : Txt K mg A) (d_check_master_row : Def P w K mg base "check_master_row" 8 ["columns", "rules", "master", "number"] w_check_master_row) (d_check_settled : Def P w K mg base "check_settled" 4 ["columns", "settled"] w_check_settled) (d_check_unbroken : Def P w K mg base "check_unbroken" 6 ["rules", "master"] w_check_unbroken) (a_finish : DefA P w K mg base "finish" 5 ["rules", "master", "row", "settled"] w_finish) (F : FunAt K mg "stop" s_stop ["columns", "rules", "master", "number", "settled"]) : DefA P w K mg base "stop" 9 ["columns", "rules", "master", "number", "settled"] w_stop := by
  refine defA F sc_stop (fun ds k Q x ⟨cs, rules, rows, xs, ns, i, e, _⟩ => by rw [e]; rfl) fun f cdv Ar outer s H E p G hg hr => ⟨_, (dsa_cons (ds_drop (de_fn d_check_master_row m_check_master_row hg hr (takes_of rfl rfl rfl rfl) (da_cons (de_var (pv 0)) (da_cons (de_var (pv 1)) (da_cons (de_var (pv 2)) (da_cons (de_var (pv 3)) da_nil))))))
    (dsa_cons (ds_drop (de_fn d_check_settled m_check_settled hg hr (takes_of rfl rfl rfl rfl) (da_cons (de_var (pv 0)) (da_cons (de_var (pv 4)) da_nil))))
    (dsa_cons (ds_drop (de_fn d_check_unbroken m_check_unbroken hg hr (takes_of rfl rfl rfl rfl) (da_cons (de_var (pv 1)) (da_cons (de_var (pv 2)) da_nil))))
    (dsa_cons (ds_unA rfl (dan_fn a_finish n_finish hg hr (takes_of rfl rfl rfl rfl) (da_cons (de_var (pv 1)) (da_cons (de_var (pv 2)) (da_cons (de_idx (de_var (pv 2)) (de_var (pv 3))) (da_cons (de_var (pv 4)) da_nil))))) (dgs_cons (i := 5) sc_stop.nd (dgs_cons (i := 6) sc_stop.nd (dgs_cons (i := 7) sc_stop.nd dgs_nil))))
    (dsa_cons (ds_if (dt_cmp (op_eqA hr.units) eqD.mono fitsEq (de_bi lenD.mono fitsLen call_len_seq (da_cons (de_var (pv 7)) da_nil) T.z_len) (de_bi lenD.mono fitsLen call_len_seq (da_cons (de_var (pv 0)) da_nil) T.z_len))
    (dss_one (ds_ret de_non))
    dss_nil)
    (dsa_own (pv 5))))))), ?_⟩
  rintro ds n Q x ⟨cs, rules, rows, xs, ns, i, rfl, h, hi, hx, q⟩
  have kp : Kept cs rules rows xs ns := ⟨h.half, h.hd, atI_in hx⟩
  have hs := kp.steps
  simp only [wRet, wSet, wSeq, wNext, wDrop, wIfS, wTest, wAnd, wOr, wNot, wIf, wBin, wVar, wC, wAndV, wOrV, wNotV, wIsN, wNotN, wNeg, wChain, wNil, wCons, wTup, wLst, wBi, wCall, wIsi, wSl, wSo, wNo, wSeqI, wFor, gNm, gTp, puts, wAsg, wPar, wMul, wmD, wmO, putsI, wAug, wTryIs, wRng1, wRng2, wEnum, wEnumT, wZip, wLc, wYes, wLend, wRel, wOwn, wApp, wIns, wSetIx, wLstF, wListF, wRepF, wAddF, wSlS, wParO, wRevT, wSortedSet, wSortedSetL, wSortedSetT, wKeys, weI, wExt, allD, wMt, wRaise, wSeqO, wCallF, plainO, wCallA, wIdx0, wAnF, wSetA, wUnA, wSeqA, plainA, wFld, wFldO, wMake, wLRg, Ans.data, Ans.own.injEq, Ans.tup.injEq, Ans.dat.injEq, wTry, wTryM, wHs, wIsC, enOf, put, putUn, defEnds, lendE, lend, wipeE, hide, lenD, intD, listD, tupleD, reprD, wPen0, wPen1, wPen2, wPenS1, wPenS2, penAt, List.map_cons, List.map_nil, List.length_cons, List.length_nil, List.nil_append, List.cons_append, Nat.reduceAdd, Nat.reduceSub, Nat.reduceLeDiff, Nat.zero_add, List.replicate_zero, List.replicate_succ, List.getElem?_cons_zero, List.getElem?_cons_succ, List.set_cons_zero, List.set_cons_succ, Option.some.injEq, Slot.dat.injEq, Slot.own.injEq, PyData.bool.injEq, PyData.int.injEq, PyData.tuple.injEq, PyData.list.injEq, exists_eq_left', exists_eq_left, and_true, true_and, if_true, if_false, Bool.false_eq_true, reduceCtorEq, List.mapIdx_cons, List.mapIdx_nil]
  refine ⟨cs, rules, rows, ns, i, rfl, h, hi, cs, ns, rfl, hs.m4, h.set, cs, rules, rows, ns, rfl, h, _, hx, cs.length, rules, rows, xs, ns, rfl, hs, fun ts ys ns' r en hs' hl => ?_⟩
  obtain ⟨rfl, ok, _⟩ := kp.run r
  have z := q ts ns' r en ok hl
  refine ⟨5, [6, 7], rfl, rfl, ?_⟩
  simp only [wRet, wSet, wSeq, wNext, wDrop, wIfS, wTest, wAnd, wOr, wNot, wIf, wBin, wVar, wC, wAndV, wOrV, wNotV, wIsN, wNotN, wNeg, wChain, wNil, wCons, wTup, wLst, wBi, wCall, wIsi, wSl, wSo, wNo, wSeqI, wFor, gNm, gTp, puts, wAsg, wPar, wMul, wmD, wmO, putsI, wAug, wTryIs, wRng1, wRng2, wEnum, wEnumT, wZip, wLc, wYes, wLend, wRel, wOwn, wApp, wIns, wSetIx, wLstF, wListF, wRepF, wAddF, wSlS, wParO, wRevT, wSortedSet, wSortedSetL, wSortedSetT, wKeys, weI, wExt, allD, wMt, wRaise, wSeqO, wCallF, plainO, wCallA, wIdx0, wAnF, wSetA, wUnA, wSeqA, plainA, wFld, wFldO, wMake, wLRg, Ans.data, Ans.own.injEq, Ans.tup.injEq, Ans.dat.injEq, wTry, wTryM, wHs, wIsC, enOf, put, putUn, defEnds, lendE, lend, wipeE, hide, lenD, intD, listD, tupleD, reprD, wPen0, wPen1, wPen2, wPenS1, wPenS2, penAt, List.map_cons, List.map_nil, List.length_cons, List.length_nil, List.nil_append, List.cons_append, Nat.reduceAdd, Nat.reduceSub, Nat.reduceLeDiff, Nat.zero_add, List.replicate_zero, List.replicate_succ, List.getElem?_cons_zero, List.getElem?_cons_succ, List.set_cons_zero, List.set_cons_succ, Option.some.injEq, Slot.dat.injEq, Slot.own.injEq, PyData.bool.injEq, PyData.int.injEq, PyData.tuple.injEq, PyData.list.injEq, exists_eq_left', exists_eq_left, and_true, true_and, if_true, if_false, Bool.false_eq_true, reduceCtorEq, List.mapIdx_cons, List.mapIdx_nil, List.length_map]
  refine ⟨.inl rfl, _, rfl, ?_⟩
  rw [eqv_ints]
  by_cases e : ns'.length = cs.length
  · rw [if_pos e] at z
    rw [if_pos (decide_eq_true (by omega))]
    exact z
  · rw [if_neg e] at z
    rw [if_neg (by simp; omega)]
    exact z
end
end L2.DL.K46
-- simp: enOfS, defEndsM, wAppM, wMVar, wLendT, wCallM, Slot.bor.injEq
namespace L2.DL.K46
open PySem PySem.Spec
      PyProof.Rows
/-! ### the law goes through all runs, and keeps what it has seen -/
/-- the text of a row and of what is settled -/
def txt (xs : List D) (ns : List Int) : D := .str (PyData.tuple [.tuple xs, .tuple (ns.map PyData.int)]).shown
theorem plain_ints : ∀ {ns : List Int}, (∀ n ∈ ns, 0 ≤ n) → plains (ns.map PyData.int) = true
  | [], _ => rfl
  | n :: ns, h => by
    rw [List.map_cons]
    unfold plains
    rw [plain_ints fun m hm => h m (List.mem_cons_of_mem _ hm)]
    have := h n List.mem_cons_self
    simp [plain, this]
theorem plains_of {xs : List D} (h : ∀ x ∈ xs, ∃ i : Int, x = .int i ∧ 0 ≤ i) : plains xs = true := by
  induction xs with
  | nil => rfl
  | cons x xs ih =>
    obtain ⟨i, rfl, h0⟩ := h x List.mem_cons_self
    unfold plains
    rw [ih fun y hy => h y (List.mem_cons_of_mem _ hy)]
    simp [plain, h0]
theorem txt_inj {m : Nat} {xs : List D} {ns ms : List Int} (hx : intRow m xs) (hn : okNs m ns) (hm : okNs m ms) (h : txt xs ns = txt xs ms) : ns = ms := by
  have p : ∀ ks : List Int, okNs m ks → plain (PyData.tuple [.tuple xs, .tuple (ks.map PyData.int)]) = true := fun ks hk => by
    have h1 := plains_of (xs := xs) fun x hx' => let ⟨i, e, i0, _⟩ := hx.2 x hx'; ⟨i, e, i0⟩
    have h2 := plain_ints (ns := ks) fun n hn => (hk.2 n hn).1
    simp only [plain, plains, h1, h2, Bool.and_self]
  injection h with h
  have e := shown_inj (p ns hn) (p ms hm) h
  injection e with e
  injection e with _ e
  injection e with e _
  injection e with e
  exact ints_inj e
/-- which of 0, 1, 2, 3 are settled -/
def code (ns : List Int) : Bool × Bool × Bool × Bool := (decide (0 ∈ ns), decide (1 ∈ ns), decide (2 ∈ ns), decide (3 ∈ ns))
theorem code_inj {m : Nat} {ns ms : List Int} (m4 : m ≤ 4) (h : okNs m ns) (h' : okNs m ms) (e : code ns = code ms) : ns = ms := by
  refine asc_uniq h.1 h'.1 fun y => ?_
  unfold code at e
  simp only [Prod.mk.injEq, decide_eq_decide] at e
  obtain ⟨e0, e1, e2, e3⟩ := e
  constructor <;> intro hy
  · have := h.2 y hy
    have : y = 0 ∨ y = 1 ∨ y = 2 ∨ y = 3 := by omega
    rcases this with rfl | rfl | rfl | rfl
    · exact e0.mp hy
    · exact e1.mp hy
    · exact e2.mp hy
    · exact e3.mp hy
  · have := h'.2 y hy
    have : y = 0 ∨ y = 1 ∨ y = 2 ∨ y = 3 := by omega
    rcases this with rfl | rfl | rfl | rfl
    · exact e0.mpr hy
    · exact e1.mpr hy
    · exact e2.mpr hy
    · exact e3.mpr hy
def all16 : List (Bool × Bool × Bool × Bool) := [false, true].flatMap fun a => [false, true].flatMap fun b => [false, true].flatMap fun c => [false, true].map fun d => (a, b, c, d)
theorem in_all16 : ∀ a b c d : Bool, (a, b, c, d) ∈ all16 := by decide
theorem few16 {m : Nat} {L : List (List Int)} (m4 : m ≤ 4) (h : ∀ ns ∈ L, okNs m ns) (nd : L.Nodup) : L.length ≤ 16 := by
  have h1 : (L.map code).Nodup := by
    induction L with
    | nil => exact List.nodup_nil
    | cons x L ih =>
      rw [List.map_cons,
            List.nodup_cons]
      have nd' := List.nodup_cons.mp nd
      refine ⟨fun hm => ?_, ih (fun ns hn => h ns (List.mem_cons_of_mem _ hn)) nd'.2⟩
      obtain ⟨y, hy, e⟩ := List.mem_map.mp hm
      have := code_inj m4 (h y (List.mem_cons_of_mem _ hy)) (h x List.mem_cons_self) e
      rw [this] at hy
      exact nd'.1 hy
  have h2 := in_len (L.map code) all16 h1 fun c _ => in_all16 _ _ _ _
  rw [List.length_map] at h2
  exact h2
/-- what the law keeps: texts of rows and of what is settled, each once -/
structure Seen (m : Nat) (L : List (List Int)) : Prop where
  ok : ∀ ns ∈ L, okNs m ns
  nd : L.Nodup
theorem txt_ok {m : Nat} {xs : List D} {ns : List Int} (m4 : m ≤ 4) (hx : intRow m xs) (hn : okNs m ns) : Ok 11 2 (.tuple [.tuple xs, .tuple (ns.map PyData.int)]) := by
  refine Ok.tuple (n := 5) (m := 1) (k := 2) (fun d hd => ?_) (Nat.le_refl 2)
  simp only [List.mem_cons, List.not_mem_nil, or_false] at hd
  rcases hd with rfl | rfl
  · refine Ok.tuple (n := 1) (m := 0) (k := 4) (fun d hd => ?_) (by rw [hx.1]; exact m4)
    obtain ⟨z, rfl, z0, z1⟩ := hx.2 d hd
    exact Ok.int (by omega)
  · refine Ok.tuple (n := 1) (m := 0) (k := 4) (fun d hd => ?_) (by rw [List.length_map]; exact Nat.le_trans hn.len m4)
    obtain ⟨z, hz, rfl⟩ := List.mem_map.mp hd
    have := hn.2 z hz
    exact Ok.int (by omega)
theorem seen_good {m : Nat} {xs : List D} {L : List (List Int)} (m4 : m ≤ 4) (hx : intRow m xs) (h : Seen m L) : Good (.list (L.map (txt xs))) :=
  (Ok.list (n := 221) (m := 0) (k := 16) (fun d hd => by
    obtain ⟨ns, hn, rfl⟩ := List.mem_map.mp hd
    exact (txt_ok m4 hx (h.ok ns hn)).shown) (by rw [List.length_map]; exact few16 m4 h.ok h.nd)).good
theorem inB_txt {m : Nat} {xs : List D} {ns : List Int} {L : List (List Int)} (hx : intRow m xs) (hn : okNs m ns) (hL : ∀ ms ∈ L, okNs m ms) : inB (txt xs ns) (L.map (txt xs)) = decide (ns ∈ L) := by
  unfold inB
  rw [List.any_map]
  have e : ∀ ms ∈ L, ((fun z => PyData.eqv z (txt xs ns)) ∘ txt xs) ms = decide (ms = ns) := fun ms hm => by
    show PyData.eqv (txt xs ms) (txt xs ns) = _
    by_cases h : ms = ns
    · rw [h]
      unfold txt
      simp [PyData.eqv]
    · have n1 : ¬ txt xs ms = txt xs ns := fun z => h (txt_inj hx (hL ms hm) hn z)
      have n2 : PyData.eqv (txt xs ms) (txt xs ns) = false := by
        unfold txt at n1 ⊢
        simp only [PyData.eqv, beq_eq_false_iff_ne]
        exact fun z => n1 (by rw [z])
      rw [n2]
      simp [h]
  have e2 : L.any ((fun z => PyData.eqv z (txt xs ns)) ∘ txt xs) = L.any fun ms => decide (ms = ns) := by
    clear hn
    induction L with
    | nil => rfl
    | cons m L ih => rw [List.any_cons, List.any_cons, e m List.mem_cons_self, ih (fun ms h => hL ms (List.mem_cons_of_mem _ h)) fun ms h => e ms (List.mem_cons_of_mem _ h)]
  rw [e2, Bool.eq_iff_iff]
  simp
open Classical in
/-- the law's answer -/
noncomputable def stkB (m : Nat) (rules rows xs : List D) (ns : List Int) : Bool := decide (Stk m rules rows xs ns)
section
variable {P : Program} {w : World} {K : PySem.W.Frag} {mg : Str → Option Value} {base : Heap} {A : Cls}
def w_law_stops (N : Nat) : Wm := fun ss k Q => ∃ (cs rules rows xs : List D) (ns : List Int) (a : Addr) (L : List (List Int)), ss = [.dat (.tuple rules), .dat (.tuple rows), .dat (.tuple xs), .dat (.tuple (ns.map PyData.int)), .bor a (L.map (txt xs))] ∧
  Kept cs rules rows xs ns ∧ cs.length < ns.length + N ∧ Seen cs.length L ∧ (Stk cs.length rules rows xs ns → ∀ ms ∈ L, ms.length < ns.length) ∧
  ∀ (e' : En) (L' : List (List Int)), e'.k = k → e'.s[4]? = some (.bor a (L'.map (txt xs))) → Seen cs.length L' → Q (.bool (stkB cs.length rules rows xs ns)) e'
theorem m_law_stops (N : Nat) : Wm.Mono (w_law_stops N) := fun ss k Q Q' h1 ⟨cs, rules, rows, xs, ns, a, L, e, p1, p2, p3, p4, q⟩ => ⟨cs, rules, rows, xs, ns, a, L, e, p1, p2, p3, p4, fun e' L' a b c => h1 _ _ (q e' L' a b c)⟩
theorem d_law_stops (T : Txt K mg A) (d_law_steps : Def P w K mg base "_law_steps" 3 ["_law_rules", "_law_master", "_law_row_here", "_law_settled"] w_law_steps) (d_law_behind : Def P w K mg base "_law_behind" 1 ["_law_row_here", "_law_settled", "_law_step"] w_law_behind) (F : FunAt K mg "_law_stops" s_law_stops ["_law_rules", "_law_master", "_law_row_here", "_law_settled", "_law_known"]) : ∀ N : Nat, DefM P w K mg base "_law_stops" (N + 5) ["_law_rules", "_law_master", "_law_row_here", "_law_settled", "_law_known"] (w_law_stops N)
  | 0 => by
    refine defM F sc_law_stops (fun ss k Q ⟨cs, rules, rows, xs, ns, a, L, e, _⟩ => by rw [e]; rfl) fun f cdv Ar outer s H E p G H₀ hg hr => ⟨_, dss_never, ?_⟩
    rintro ss n Q ⟨cs, rules, rows, xs, ns, a, L, rfl, kp, lt, _⟩
    have := kp.half.set.len
    omega
  | N + 1 => by
    have d_law_stops := d_law_stops T d_law_steps d_law_behind F N
    have m_law_stops := m_law_stops N
    refine defM F sc_law_stops (fun ss k Q ⟨cs, rules, rows, xs, ns, a, L, e, _⟩ => by rw [e]; rfl) fun f cdv Ar outer s H E p G H₀ hg hr => ⟨_, (dss_cons (ds_if (dt_lend fun _ _ => (dt_cmp (op_inA (hr65 hr)) inD.mono fitsIn (de_bi reprD.mono fitsRepr (call_reprD hg hr.units) (da_cons (de_tup (da_cons (de_var (pv 2)) (da_cons (de_var (pv 3)) da_nil))) da_nil) T.z_repr) (de_var (pv 4))))
    (dss_one (ds_ret de_bl))
    dss_nil)
    (dss_cons (ds_appendM (i := 4) (de_bi reprD.mono fitsRepr (call_reprD hg hr.units) (da_cons (de_tup (da_cons (de_var (pv 2)) (da_cons (de_var (pv 3)) da_nil))) da_nil) T.z_repr) (pv 4))
    (dss_cons (ds_set (i := 5) (de_fn (hj := by omega) d_law_steps m_law_steps hg hr (takes_of rfl rfl rfl rfl) (da_cons (de_var (pv 0)) (da_cons (de_var (pv 1)) (da_cons (de_var (pv 2)) (da_cons (de_var (pv 3)) da_nil))))) sc_law_stops.nd)
    (dss_cons (ds_if (dt_cmp (op_eqA hr.units) eqD.mono fitsEq (de_var (pv 5)) (de_lst da_nil))
    (dss_one (ds_ret (de_cmp op_lt cmpD.mono fitsCmp (de_bi lenD.mono fitsLen call_len_seq (da_cons (de_var (pv 3)) da_nil) T.z_len) (de_bi lenD.mono fitsLen call_len_seq (da_cons (de_var (pv 2)) da_nil) T.z_len))))
    dss_nil)
    (dss_cons (ds_for (passes_of rfl) rfl (di_seq (de_var (pv 5))) (dg_nm (i := 6) sc_law_stops.nd)
    (dss_cons (ds_set (i := 7) (de_fn (hj := by omega) d_law_behind m_law_behind hg hr (takes_of rfl rfl rfl rfl) (da_cons (de_var (pv 2)) (da_cons (de_var (pv 3)) (da_cons (de_var (pv 6)) da_nil)))) sc_law_stops.nd)
    (dss_one (ds_if (dt_val (de_fnM (hj := by omega) (L := [(4, 4)]) d_law_stops m_law_stops hg hr (takes_of rfl rfl rfl rfl) (da_cons (de_var (pv 0)) (da_cons (de_var (pv 1)) (da_cons (de_idx (de_var (pv 7)) de_int) (da_cons (de_idx (de_var (pv 7)) de_int) (da_cons (de_mvar (pv 4)) da_nil)))))))
    (dss_one (ds_ret de_bl))
    dss_nil))))
    (dss_one (ds_ret de_bl))))))), ?_⟩
    rintro ss n Q ⟨cs, rules, rows, xs, ns, a, L, rfl, kp, lt, sn, hL, q⟩
    simp only [wRet, wSet, wSeq, wNext, wDrop, wIfS, wTest, wAnd, wOr, wNot, wIf, wBin, wVar, wC, wAndV, wOrV, wNotV, wIsN, wNotN, wNeg, wChain, wNil, wCons, wTup, wLst, wBi, wCall, wIsi, wSl, wSo, wNo, wSeqI, wFor, gNm, gTp, puts, wAsg, wPar, wMul, wmD, wmO, putsI, wAug, wTryIs, wRng1, wRng2, wEnum, wEnumT, wZip, wLc, wYes, wLend, wRel, wOwn, wApp, wIns, wSetIx, wLstF, wListF, wRepF, wAddF, wSlS, wParO, wRevT, wSortedSet, wSortedSetL, wSortedSetT, wKeys, weI, wExt, allD, wMt, wRaise, wSeqO, wCallF, plainO, wCallA, wIdx0, wAnF, wSetA, wUnA, wSeqA, plainA, wFld, wFldO, wMake, wLRg, Ans.data, Ans.own.injEq, Ans.tup.injEq, Ans.dat.injEq, wTry, wTryM, wHs, wIsC, enOf, put, putUn, defEnds, lendE, lend, wipeE, hide, lenD, intD, listD, tupleD, reprD, wPen0, wPen1, wPen2, wPenS1, wPenS2, penAt, List.map_cons, List.map_nil, List.length_cons, List.length_nil, List.nil_append, List.cons_append, Nat.reduceAdd, Nat.reduceSub, Nat.reduceLeDiff, Nat.zero_add, List.replicate_zero, List.replicate_succ, List.getElem?_cons_zero, List.getElem?_cons_succ, List.set_cons_zero, List.set_cons_succ, Option.some.injEq, Slot.dat.injEq, Slot.own.injEq, PyData.bool.injEq, PyData.int.injEq, PyData.tuple.injEq, PyData.list.injEq, exists_eq_left', exists_eq_left, and_true, true_and, if_true, if_false, Bool.false_eq_true, reduceCtorEq, List.mapIdx_cons, List.mapIdx_nil, enOfS, defEndsM, wAppM, wMVar, wLendT, wCallM, Slot.bor.injEq]
    have ix := kp.mid.ints
    have m4 : cs.length ≤ 4 := kp.steps.m4
    have ok0 := txt_ok m4 ix kp.half.set
    refine ⟨ok0.good, ok0.shown.good, seen_good m4 ix sn, _, rfl, _, rfl, ?_⟩
    rw [show inB (.str (PyData.tuple [.tuple xs, .tuple (ns.map PyData.int)]).shown) (L.map (txt xs)) = decide (ns ∈ L) from inB_txt ix kp.half.set sn.ok]
    have no : ∀ {b : Bool}, (b = true ↔ Stk cs.length rules rows xs ns) → stkB cs.length rules rows xs ns = b := fun {b} h => by
      unfold stkB
      cases b with
      | true => simp [h.mp rfl]
      | false =>
        have : ¬ Stk cs.length rules rows xs ns := fun st => nomatch h.mpr st
        simp [this]
    by_cases hm : ns ∈ L
    · rw [if_pos (decide_eq_true hm)]
      have e0 := no (b := false) ⟨fun z => (nomatch z), fun st => by have := hL st ns hm; omega⟩
      rw [e0] at q
      exact q _ L rfl rfl sn
    · rw [if_neg (by simpa using hm)]
      have few := case_few kp.half (xs := xs)
      have sn1 : Seen cs.length (L ++ [ns]) := ⟨fun ms h => (List.mem_append.mp h).elim (sn.ok ms) fun h => by rw [List.mem_singleton.mp h]; exact kp.half.set, List.nodup_append.mpr ⟨sn.nd, List.nodup_cons.mpr ⟨List.not_mem_nil, List.nodup_nil⟩, fun x h1 y h2 e => hm (by rw [← List.mem_singleton.mp h2, ← e]; exact h1)⟩⟩
      have e1 : L.map (txt xs) ++ [PyData.str (PyData.tuple [.tuple xs, .tuple (ns.map PyData.int)]).shown] = (L ++ [ns]).map (txt xs) := by rw [List.map_append]; rfl
      refine ⟨⟨_, _, rfl, rfl⟩, ok0.good, _, _, ⟨rfl, rfl⟩, by rw [List.length_map]; exact Nat.lt_of_le_of_lt (few16 m4 sn.ok sn.nd) (by decide), cs.length, rules, rows, xs, ns, rfl, kp.steps, case_short kp.half, few, fun us un um up => ?_⟩
      have ul := few us un fun t ht => (um t).mp ht
      rw [e1]
      refine ⟨.inr ⟨steps_good kp.steps um (by omega), good_of (by decide +kernel)⟩, _, rfl, ?_⟩
      rw [eqv_lnil]
      cases us with
      | nil =>
        rw [if_pos (by simp)]
        have en : Ends rules rows xs ns := fun t st => nomatch (um t).mpr st
        have e2 := no (b := decide (ns.length < cs.length)) (by rw [decide_eq_true_eq, Stk.ends kp en])
        rw [e2] at q
        have z := q ⟨[.dat (.tuple rules), .dat (.tuple rows), .dat (.tuple xs), .dat (.tuple (ns.map PyData.int)), .bor a ((L ++ [ns]).map (txt xs)), .dat (.list []), .un, .un], n⟩ (L ++ [ns]) rfl rfl sn1
        simp only [cmpD, List.length_map, kp.mid.1, Int.ofNat_lt]
        exact z
      | cons u us =>
        rw [if_neg (by simp)]
        refine ⟨_, rfl, ?_⟩
        refine wLoop.ind (fun dt e => ∃ (vs : List (List Int)) (L2 : List (List Int)) (u5 u6 u7 : Slot), e = ⟨[.dat (.tuple rules), .dat (.tuple rows), .dat (.tuple xs), .dat (.tuple (ns.map PyData.int)), .bor a (L2.map (txt xs)), u5, u6, u7], n⟩ ∧ dt = vs.map tupI ∧ (∀ v ∈ vs, Steps rules rows xs ns v) ∧ Seen cs.length L2 ∧ (Stk cs.length rules rows xs ns → L2 = L ++ [ns] ∧ vs ≠ [])) ?_ ?_
          ⟨u :: us, L ++ [ns], _, _, _, rfl, rfl, fun v hv => (um v).mp hv, sn1, fun _ => ⟨rfl, fun z => nomatch z⟩⟩
        · rintro e ⟨vs, L2, u5, u6, u7, rfl, ed, hv, sn2, hs⟩
          have e0 : vs = [] := by
            cases vs with
            | nil => rfl
            | cons v vs => cases ed
          have e2 := no (b := false) ⟨fun z => (nomatch z), fun st => absurd e0 (hs st).2⟩
          rw [e2] at q
          exact q _ L2 rfl rfl sn2
        · rintro d dt e ih ⟨vs, L2, u5, u6, u7, rfl, ed, hv, sn2, hs⟩
          cases vs with
          | nil => cases ed
          | cons v vs =>
            rw [List.map_cons] at ed
            injection ed with ed1 ed2
            subst ed1 ed2
            obtain ⟨j, hj, sj⟩ := hv v List.mem_cons_self
            obtain ⟨c, z, rfl, c0, c1, cn, z0, z1, hv'⟩ := kp.half.step sj
            simp only [wRet, wSet, wSeq, wNext, wDrop, wIfS, wTest, wAnd, wOr, wNot, wIf, wBin, wVar, wC, wAndV, wOrV, wNotV, wIsN, wNotN, wNeg, wChain, wNil, wCons, wTup, wLst, wBi, wCall, wIsi, wSl, wSo, wNo, wSeqI, wFor, gNm, gTp, puts, wAsg, wPar, wMul, wmD, wmO, putsI, wAug, wTryIs, wRng1, wRng2, wEnum, wEnumT, wZip, wLc, wYes, wLend, wRel, wOwn, wApp, wIns, wSetIx, wLstF, wListF, wRepF, wAddF, wSlS, wParO, wRevT, wSortedSet, wSortedSetL, wSortedSetT, wKeys, weI, wExt, allD, wMt, wRaise, wSeqO, wCallF, plainO, wCallA, wIdx0, wAnF, wSetA, wUnA, wSeqA, plainA, wFld, wFldO, wMake, wLRg, Ans.data, Ans.own.injEq, Ans.tup.injEq, Ans.dat.injEq, wTry, wTryM, wHs, wIsC, enOf, put, putUn, defEnds, lendE, lend, wipeE, hide, lenD, intD, listD, tupleD, reprD, wPen0, wPen1, wPen2, wPenS1, wPenS2, penAt, List.map_cons, List.map_nil, List.length_cons, List.length_nil, List.nil_append, List.cons_append, Nat.reduceAdd, Nat.reduceSub, Nat.reduceLeDiff, Nat.zero_add, List.replicate_zero, List.replicate_succ, List.getElem?_cons_zero, List.getElem?_cons_succ, List.set_cons_zero, List.set_cons_succ, Option.some.injEq, Slot.dat.injEq, Slot.own.injEq, PyData.bool.injEq, PyData.int.injEq, PyData.tuple.injEq, PyData.list.injEq, exists_eq_left', exists_eq_left, and_true, true_and, if_true, if_false, Bool.false_eq_true, reduceCtorEq, List.mapIdx_cons, List.mapIdx_nil, enOfS, defEndsM, wAppM, wMVar, wLendT, wCallM, Slot.bor.injEq]
            refine ⟨xs, ns, cs.length, _, c, z, rfl, kp.mid.1, m4, kp.half.set, c0, c1, cn, fun ns1 ok1 mem1 => ?_⟩
            rw [kp.val sj]
            have ad : NsAdd ns c ns1 := ⟨ok1.1, mem1⟩
            have l1 := ad.len kp.half.set.1 cn
            have st1 := Stk.step kp sj hj ad
            simp only [wRet, wSet, wSeq, wNext, wDrop, wIfS, wTest, wAnd, wOr, wNot, wIf, wBin, wVar, wC, wAndV, wOrV, wNotV, wIsN, wNotN, wNeg, wChain, wNil, wCons, wTup, wLst, wBi, wCall, wIsi, wSl, wSo, wNo, wSeqI, wFor, gNm, gTp, puts, wAsg, wPar, wMul, wmD, wmO, putsI, wAug, wTryIs, wRng1, wRng2, wEnum, wEnumT, wZip, wLc, wYes, wLend, wRel, wOwn, wApp, wIns, wSetIx, wLstF, wListF, wRepF, wAddF, wSlS, wParO, wRevT, wSortedSet, wSortedSetL, wSortedSetT, wKeys, weI, wExt, allD, wMt, wRaise, wSeqO, wCallF, plainO, wCallA, wIdx0, wAnF, wSetA, wUnA, wSeqA, plainA, wFld, wFldO, wMake, wLRg, Ans.data, Ans.own.injEq, Ans.tup.injEq, Ans.dat.injEq, wTry, wTryM, wHs, wIsC, enOf, put, putUn, defEnds, lendE, lend, wipeE, hide, lenD, intD, listD, tupleD, reprD, wPen0, wPen1, wPen2, wPenS1, wPenS2, penAt, List.map_cons, List.map_nil, List.length_cons, List.length_nil, List.nil_append, List.cons_append, Nat.reduceAdd, Nat.reduceSub, Nat.reduceLeDiff, Nat.zero_add, List.replicate_zero, List.replicate_succ, List.getElem?_cons_zero, List.getElem?_cons_succ, List.set_cons_zero, List.set_cons_succ, Option.some.injEq, Slot.dat.injEq, Slot.own.injEq, PyData.bool.injEq, PyData.int.injEq, PyData.tuple.injEq, PyData.list.injEq, exists_eq_left', exists_eq_left, and_true, true_and, if_true, if_false, Bool.false_eq_true, reduceCtorEq, List.mapIdx_cons, List.mapIdx_nil, enOfS, defEndsM, wAppM, wMVar, wLendT, wCallM, Slot.bor.injEq]
            refine ⟨_, rfl, _, rfl, _, a, rfl, rfl, _, fit_last (ds := [_, _, _, _]) rfl, cs, rules, rows, xs, ns1, a, L2, rfl, kp.next ok1, by omega, sn2, fun st ms hm => ?_, fun e' L' hk h4 sn' => ⟨fun j i hji => ?_, ?_⟩⟩
            · rw [(hs (st1.mpr st)).1] at hm
              rcases List.mem_append.mp
                    hm with hm | hm
              · have := hL (st1.mpr st) ms hm
                omega
              · rw [List.mem_singleton.mp
                    hm]
                omega
            · cases List.mem_singleton.mp hji
              exact ⟨_, _, rfl, rfl, fun z => (nomatch z), h4, rfl⟩
            · have eb : backS e'.s [(4, 4)] [Slot.dat (.tuple rules), .dat (.tuple rows), .dat (.tuple xs), .dat (.tuple (ns.map PyData.int)), .bor a (L2.map (txt xs)), u5, .dat (tupI [(j : Int), c, z]), .dat (.tuple [.tuple xs, .tuple (ns1.map PyData.int)])] =
                  [Slot.dat (.tuple rules), .dat (.tuple rows), .dat (.tuple xs), .dat (.tuple (ns.map PyData.int)), .bor a (L'.map (txt xs)), u5, .dat (tupI [(j : Int), c, z]), .dat (.tuple [.tuple xs, .tuple (ns1.map PyData.int)])] := by
                unfold backS backS
                rw [List.getD_eq_getElem?_getD, h4]
                rfl
              rw [eb, hk]
              refine ⟨_, rfl, ?_⟩
              by_cases st : Stk cs.length rules rows xs ns1
              · have e3 : stkB cs.length rules rows xs ns1 = true := by unfold stkB; simp [st]
                have e2 := no (b := true) ⟨fun _ => st1.mpr st, fun _ => rfl⟩
                rw [if_pos e3]
                rw [e2] at q
                exact q _ L' rfl rfl sn'
              · have e3 : ¬ stkB cs.length rules rows xs ns1 = true := by unfold stkB; simp [st]
                rw [if_neg e3]
                exact ih _ ⟨vs, L', _, _, _, rfl, rfl, fun v hv' => hv v (List.mem_cons_of_mem _ hv'), sn', fun st' => absurd (st1.mp st') st⟩
end
end L2.DL.K46
namespace L2.DL.K46
open PySem PySem.Spec
      PyProof.Rows
section
variable {P : Program} {w : World} {K : PySem.W.Frag} {mg : Str → Option Value} {base : Heap} {A : Cls}
def w_law_is_stop : Wc := fun ds k Q _ => ∃ (cs rules rows xs ys : List D) (ns ns' : List Int) (ts : List (List Int)), ds = [.tuple rules, .tuple rows, .tuple xs, .tuple (ns.map PyData.int), .list (ts.map tupI)] ∧ Half cs rules rows ns ∧ midRow cs xs ∧ Run rules rows xs ns ts ys ns' ∧ Ends rules rows ys ns' ∧ Q (.bool (decide (ns.length + ts.length < xs.length))) k
theorem m_law_is_stop : Wc.Mono w_law_is_stop := fun ds k Q Q' x x' h1 _ ⟨cs, rules, rows, xs, ys, ns, ns', ts, e, p1, p2, p3, p4, q⟩ => ⟨cs, rules, rows, xs, ys, ns, ns', ts, e, p1, p2, p3, p4, h1 _ _ q⟩
theorem d_law_is_stop (T : Txt K mg A) (d_law_is_run : Def P w K mg base "_law_is_run" 4 ["_law_rules", "_law_master", "_law_row_here", "_law_settled", "_law_value_here"] w_law_is_run) (F : FunAt K mg "_law_is_stop" s_law_is_stop ["_law_rules", "_law_master", "_law_row_here", "_law_settled", "_law_value_here"]) : Def P w K mg base "_law_is_stop" 5 ["_law_rules", "_law_master", "_law_row_here", "_law_settled", "_law_value_here"] w_law_is_stop := by
  refine defD F sc_law_is_stop (fun ds k Q x ⟨cs, rules, rows, xs, ys, ns, ns', ts, e, _⟩ => by rw [e]; rfl) fun f cdv Ar outer s H E p G hg hr => ⟨_, (dss_cons (ds_if (dt_not (dt_val (de_fn d_law_is_run m_law_is_run hg hr (takes_of rfl rfl rfl rfl) (da_cons (de_var (pv 0)) (da_cons (de_var (pv 1)) (da_cons (de_var (pv 2)) (da_cons (de_var (pv 3)) (da_cons (de_var (pv 4)) da_nil))))))))
    (dss_one (ds_ret de_bl))
    dss_nil)
    (dss_one (ds_ret (de_cmp op_lt cmpD.mono fitsCmp (de_bin op_addA addD.mono fitsAdd (de_bi lenD.mono fitsLen call_len_seq (da_cons (de_var (pv 3)) da_nil) T.z_len) (de_bi lenD.mono fitsLen call_len_seq (da_cons (de_var (pv 4)) da_nil) T.z_len)) (de_bi lenD.mono fitsLen call_len_seq (da_cons (de_var (pv 2)) da_nil) T.z_len))))), ?_⟩
  rintro ds n Q x ⟨cs, rules, rows, xs, ys, ns, ns', ts, rfl, h1, h2, h3, h4, q⟩
  simp only [wRet, wSet, wSeq, wNext, wDrop, wIfS, wTest, wAnd, wOr, wNot, wIf, wBin, wVar, wC, wAndV, wOrV, wNotV, wIsN, wNotN, wNeg, wChain, wNil, wCons, wTup, wLst, wBi, wCall, wIsi, wSl, wSo, wNo, wSeqI, wFor, gNm, gTp, puts, wAsg, wPar, wMul, wmD, wmO, putsI, wAug, wTryIs, wRng1, wRng2, wEnum, wEnumT, wZip, wLc, wYes, wLend, wRel, wOwn, wApp, wIns, wSetIx, wLstF, wListF, wRepF, wAddF, wSlS, wParO, wRevT, wSortedSet, wSortedSetL, wSortedSetT, wKeys, weI, wExt, allD, wMt, wRaise, wSeqO, wCallF, plainO, wCallA, wIdx0, wAnF, wSetA, wUnA, wSeqA, plainA, wFld, wFldO, wMake, wLRg, Ans.data, Ans.own.injEq, Ans.tup.injEq, Ans.dat.injEq, wTry, wTryM, wHs, wIsC, enOf, put, putUn, defEnds, lendE, lend, wipeE, hide, lenD, intD, listD, tupleD, reprD, wPen0, wPen1, wPen2, wPenS1, wPenS2, penAt, List.map_cons, List.map_nil, List.length_cons, List.length_nil, List.nil_append, List.cons_append, Nat.reduceAdd, Nat.reduceSub, Nat.reduceLeDiff, Nat.zero_add, List.replicate_zero, List.replicate_succ, List.getElem?_cons_zero, List.getElem?_cons_succ, List.set_cons_zero, List.set_cons_succ, Option.some.injEq, Slot.dat.injEq, Slot.own.injEq, PyData.bool.injEq, PyData.int.injEq, PyData.tuple.injEq, PyData.list.injEq, exists_eq_left', exists_eq_left, and_true, true_and, if_true, if_false, Bool.false_eq_true, reduceCtorEq, List.mapIdx_cons, List.mapIdx_nil]
  refine ⟨cs, rules, rows, xs, ys, ns, ns', ts, rfl, h1, h2, h3, h4, true, rfl, ?_⟩
  rw [if_neg (by decide)]
  simp only [addD, cmpD, List.length_map]
  have e : decide ((ns.length : Int) + (ts.length : Int) < (xs.length : Int)) = decide (ns.length + ts.length < xs.length) := by
    by_cases h : ns.length + ts.length < xs.length
    · rw [decide_eq_true h, decide_eq_true (by omega)]
    · rw [decide_eq_false h, decide_eq_false (by omega)]
  rw [e]
  exact q
end
end L2.DL.K46
namespace L2.DL.K46
open PySem PySem.Spec
      PyProof.Rows
/-! ### the pen is made -/
theorem s12 (n d : Nat) : HT.sIx n d (some 12) = min 12 n := HT.sIx_nat n d 12
theorem cut12 (ns : List Int) : ∃ xs : List Int, cutD (ns.map PyData.int) none (some 12) = xs.map PyData.int ∧ xs.length ≤ 12 ∧ (12 ≤ ns.length → xs.length = 12) := by
  refine ⟨ns.take (HT.sIx (ns.map PyData.int).length (ns.map PyData.int).length (some 12)), ?_, ?_, ?_⟩
  · unfold cutD
    rw [show HT.sIx (ns.map PyData.int).length 0 none = 0 from rfl, List.drop_zero, Nat.sub_zero, List.map_take]
  · rw [List.length_take, s12]
    omega
  · intro h
    rw [List.length_take, s12, List.length_map]
    omega
theorem cut63 (ns : List Int) : ∃ xs : List Int, cutD (ns.map PyData.int) (some 12) (some 63) = xs.map PyData.int ∧ (xs ≠ [] → 12 ≤ ns.length) := by
  refine ⟨(ns.drop (HT.sIx (ns.map PyData.int).length 0 (some 12))).take (HT.sIx (ns.map PyData.int).length (ns.map PyData.int).length (some 63) - HT.sIx (ns.map PyData.int).length 0 (some 12)), ?_, fun h => ?_⟩
  · unfold cutD
    rw [List.map_take,
          List.map_drop]
  · have : (ns.drop (HT.sIx (ns.map PyData.int).length 0 (some 12))) ≠ [] := fun z => h (by rw [z]; simp)
    rw [s12, List.length_map, ne_eq, List.drop_eq_nil_iff] at this
    omega
def spOpen (K : PySem.W.Frag) : Sp := fun vs H Q _ => ∃ (a : Addr) (ns : List Int), vs = [.ref a] ∧ SqL K H a (ns.map V.int) ∧ ∀ q G' H', Wd K (some q) 500000 G' H' → Q (.ref q) H'
section
variable {P : Program} {w : World} {K : PySem.W.Frag} {mg : Str → Option Value} {base : Heap} {A : Cls}
theorem ok_law_open (T : Txt K mg A) (F : FunAt K mg "_law_open" s_law_open ["_law_script"]) : ∃ f fd, FnG P w K mg base 1 f fd ["_law_script"] (spOpen K) ∧ mg "_law_open" = some (.ref f) ∧ PySem.W.keepIn K (.ref f) = true ∧ Binds K fd ["_law_script"] [] := by
  obtain ⟨f, fd, h1, h2, h3⟩ := F
  refine ⟨f, fd, ?_, h2, h1.kp, h3⟩
  refine fnG_of h1 sc_law_open (fun vs H Q E ⟨a, ns, e, _⟩ => by rw [e]; rfl) fun cdv Ar outer s H vs Q E hg hr h => ?_
  obtain ⟨a, ns, rfl, hS, q⟩ := h
  refine ⟨_, pss_cons (DS.run (F := ⟨none, H, H, fun _ _ _ _ => False⟩) (ds_own (i := 1) (df_list (de_slS (de_var (pv 0)) do_none (do_some de_int)) T.z_list) sc_law_open.nd)) (pss_cons (DS.run (F := ⟨none, H, H, fun _ _ _ _ => False⟩) (ds_for (passes_of rfl) rfl (di_enum (de_slS (de_var (pv 0)) (do_some de_int) (do_some de_int)) T.z_enumerate) (dg_tp rfl (dgs_cons (i := 2) sc_law_open.nd (dgs_cons (i := 3) sc_law_open.nd dgs_nil)))
    (dss_one (ds_setix (i := 1) (de_bin op_mod modD.mono fitsMod (de_bt intD.mono fitsInt call_int1 (da_cons (de_var (pv 2)) da_nil) T.z_int) de_int) (de_lend fun _ _ => (de_bin op_addA addD.mono fitsAdd (de_idx (de_var (pv 1)) (de_bin op_mod modD.mono fitsMod (de_bt intD.mono fitsInt call_int1 (da_cons (de_var (pv 2)) da_nil) T.z_int) de_int)) (de_var (pv 3)))) (pv 1))))) (pss_one (ps_ret (DF.run (F := ⟨none, H, H, fun _ _ _ _ => False⟩) (df_lst (da_cons (de_var (pv 1)) (da_cons de_int (da_cons de_int da_nil)))))))), ?_⟩
  refine ⟨_, H, Rl.start (k := 0) ⟨Same.refl H, fun _ z => nomatch z⟩ (.cons (.scr hS rfl) .nil), ?_⟩
  simp only [wRet, wSet, wSeq, wNext, wDrop, wIfS, wTest, wAnd, wOr, wNot, wIf, wBin, wVar, wC, wAndV, wOrV, wNotV, wIsN, wNotN, wNeg, wChain, wNil, wCons, wTup, wLst, wBi, wCall, wIsi, wSl, wSo, wNo, wSeqI, wFor, gNm, gTp, puts, wAsg, wPar, wMul, wmD, wmO, putsI, wAug, wTryIs, wRng1, wRng2, wEnum, wEnumT, wZip, wLc, wYes, wLend, wRel, wOwn, wApp, wIns, wSetIx, wLstF, wListF, wRepF, wAddF, wSlS, wParO, wRevT, wSortedSet, wSortedSetL, wSortedSetT, wKeys, weI, wExt, allD, wMt, wRaise, wSeqO, wCallF, plainO, wCallA, wIdx0, wAnF, wSetA, wUnA, wSeqA, plainA, wFld, wFldO, wMake, wLRg, Ans.data, Ans.own.injEq, Ans.tup.injEq, Ans.dat.injEq, wTry, wTryM, wHs, wIsC, enOf, put, putUn, defEnds, lendE, lend, wipeE, hide, lenD, intD, listD, tupleD, reprD, wPen0, wPen1, wPen2, wPenS1, wPenS2, penAt, List.map_cons, List.map_nil, List.length_cons, List.length_nil, List.nil_append, List.cons_append, Nat.reduceAdd, Nat.reduceSub, Nat.reduceLeDiff, Nat.zero_add, List.replicate_zero, List.replicate_succ, List.getElem?_cons_zero, List.getElem?_cons_succ, List.set_cons_zero, List.set_cons_succ, Option.some.injEq, Slot.dat.injEq, Slot.own.injEq, PyData.bool.injEq, PyData.int.injEq, PyData.tuple.injEq, PyData.list.injEq, exists_eq_left', exists_eq_left, and_true, true_and, if_true, if_false, Bool.false_eq_true, reduceCtorEq, List.mapIdx_cons, List.mapIdx_nil, endsOf]
  obtain ⟨xs, e1, l1, l2⟩ := cut12 ns
  obtain ⟨ys, e2, l3⟩ := cut63 ns
  refine ⟨ns, rfl, _, rfl, ?_⟩
  rw [e1]
  intro σ1 G1 H1 s1 r1
  refine ⟨_, G1, r1, ?_⟩
  simp only [wRet, wSet, wSeq, wNext, wDrop, wIfS, wTest, wAnd, wOr, wNot, wIf, wBin, wVar, wC, wAndV, wOrV, wNotV, wIsN, wNotN, wNeg, wChain, wNil, wCons, wTup, wLst, wBi, wCall, wIsi, wSl, wSo, wNo, wSeqI, wFor, gNm, gTp, puts, wAsg, wPar, wMul, wmD, wmO, putsI, wAug, wTryIs, wRng1, wRng2, wEnum, wEnumT, wZip, wLc, wYes, wLend, wRel, wOwn, wApp, wIns, wSetIx, wLstF, wListF, wRepF, wAddF, wSlS, wParO, wRevT, wSortedSet, wSortedSetL, wSortedSetT, wKeys, weI, wExt, allD, wMt, wRaise, wSeqO, wCallF, plainO, wCallA, wIdx0, wAnF, wSetA, wUnA, wSeqA, plainA, wFld, wFldO, wMake, wLRg, Ans.data, Ans.own.injEq, Ans.tup.injEq, Ans.dat.injEq, wTry, wTryM, wHs, wIsC, enOf, put, putUn, defEnds, lendE, lend, wipeE, hide, lenD, intD, listD, tupleD, reprD, wPen0, wPen1, wPen2, wPenS1, wPenS2, penAt, List.map_cons, List.map_nil, List.length_cons, List.length_nil, List.nil_append, List.cons_append, Nat.reduceAdd, Nat.reduceSub, Nat.reduceLeDiff, Nat.zero_add, List.replicate_zero, List.replicate_succ, List.getElem?_cons_zero, List.getElem?_cons_succ, List.set_cons_zero, List.set_cons_succ, Option.some.injEq, Slot.dat.injEq, Slot.own.injEq, PyData.bool.injEq, PyData.int.injEq, PyData.tuple.injEq, PyData.list.injEq, exists_eq_left', exists_eq_left, and_true, true_and, if_true, if_false, Bool.false_eq_true, reduceCtorEq, List.mapIdx_cons, List.mapIdx_nil, endsOf]
  refine ⟨ns, rfl, ?_⟩
  rw [e2]
  have hp : ∀ d ∈ pairs (rngD 0 (ys.map PyData.int).length) (ys.map PyData.int), ∃ i j : Int, d = .tuple [.int i, .int j] := fun d hd => by
    obtain ⟨i, hi⟩ := List.mem_iff_getElem?.mp hd
    obtain ⟨c, v, h1, h2, h3⟩ := pairs_at hi
    obtain ⟨_, rfl⟩ := rngD_at h1
    obtain ⟨j, _, rfl⟩ := List.mem_map.mp (List.mem_of_getElem? h2)
    exact ⟨_, j, h3⟩
  refine wLoop.ind (fun ds e => ∃ (xs : List Int) (u v : Slot), e = ⟨[.dat (scrD ns), .own (xs.map PyData.int), u, v], 0⟩ ∧ xs.length ≤ 12 ∧ (ds ≠ [] → xs.length = 12) ∧ ∀ d ∈ ds, ∃ i j : Int, d = .tuple [.int i, .int j]) ?_ ?_
    ⟨xs, .un, .un, rfl, l1, fun h => l2 (l3 fun z => h (by rw [z]; rfl)), hp⟩
  · rintro e ⟨zs, u, v, rfl, h1, _, _⟩
    intro σ2 G2 H2 s2 r2
    obtain ⟨G3, s3, r3⟩ := Rl.lent (F := ⟨none, H, H, fun _ _ _ _ => False⟩) r2
    refine ⟨_, G3, r3, ?_⟩
    simp only [wRet, wSet, wSeq, wNext, wDrop, wIfS, wTest, wAnd, wOr, wNot, wIf, wBin, wVar, wC, wAndV, wOrV, wNotV, wIsN, wNotN, wNeg, wChain, wNil, wCons, wTup, wLst, wBi, wCall, wIsi, wSl, wSo, wNo, wSeqI, wFor, gNm, gTp, puts, wAsg, wPar, wMul, wmD, wmO, putsI, wAug, wTryIs, wRng1, wRng2, wEnum, wEnumT, wZip, wLc, wYes, wLend, wRel, wOwn, wApp, wIns, wSetIx, wLstF, wListF, wRepF, wAddF, wSlS, wParO, wRevT, wSortedSet, wSortedSetL, wSortedSetT, wKeys, weI, wExt, allD, wMt, wRaise, wSeqO, wCallF, plainO, wCallA, wIdx0, wAnF, wSetA, wUnA, wSeqA, plainA, wFld, wFldO, wMake, wLRg, Ans.data, Ans.own.injEq, Ans.tup.injEq, Ans.dat.injEq, wTry, wTryM, wHs, wIsC, enOf, put, putUn, defEnds, lendE, lend, wipeE, hide, lenD, intD, listD, tupleD, reprD, wPen0, wPen1, wPen2, wPenS1, wPenS2, penAt, List.map_cons, List.map_nil, List.length_cons, List.length_nil, List.nil_append, List.cons_append, Nat.reduceAdd, Nat.reduceSub, Nat.reduceLeDiff, Nat.zero_add, List.replicate_zero, List.replicate_succ, List.getElem?_cons_zero, List.getElem?_cons_succ, List.set_cons_zero, List.set_cons_succ, Option.some.injEq, Slot.dat.injEq, Slot.own.injEq, PyData.bool.injEq, PyData.int.injEq, PyData.tuple.injEq, PyData.list.injEq, exists_eq_left', exists_eq_left, and_true, true_and, if_true, if_false, Bool.false_eq_true, reduceCtorEq, List.mapIdx_cons, List.mapIdx_nil]
    intro b vs G4 H4 s4 r4 hb ra
    cases ra with
    | cons ra1 ra =>
      cases ra with
      | cons ra2 ra =>
        cases ra with
        | cons ra3 ra =>
          cases ra
          obtain ⟨c, cs, rfl, hc, hcs⟩ := ra1.lst_inv
          cases ra2.int_inv
          cases ra3.int_inv
          have ec := hcs.ofInts
          subst ec
          have gb : G4 b = none := r4.same.free hb
          refine q b G4 _ ⟨fun d o z => by rw [upd_ne (ne_of_none z gb)]; exact r4.same _ _ z, fun d ed => ?_⟩
          cases ed
          exact ⟨gb, c, zs, 0, 0, upd_same, hc, h1, by decide, by decide⟩
  · rintro d ds e ih ⟨zs, u, v, rfl, h1, h2, h3⟩
    obtain ⟨i, j, rfl⟩ := h3 d List.mem_cons_self
    have h4 := h2 (by simp)
    simp only [wRet, wSet, wSeq, wNext, wDrop, wIfS, wTest, wAnd, wOr, wNot, wIf, wBin, wVar, wC, wAndV, wOrV, wNotV, wIsN, wNotN, wNeg, wChain, wNil, wCons, wTup, wLst, wBi, wCall, wIsi, wSl, wSo, wNo, wSeqI, wFor, gNm, gTp, puts, wAsg, wPar, wMul, wmD, wmO, putsI, wAug, wTryIs, wRng1, wRng2, wEnum, wEnumT, wZip, wLc, wYes, wLend, wRel, wOwn, wApp, wIns, wSetIx, wLstF, wListF, wRepF, wAddF, wSlS, wParO, wRevT, wSortedSet, wSortedSetL, wSortedSetT, wKeys, weI, wExt, allD, wMt, wRaise, wSeqO, wCallF, plainO, wCallA, wIdx0, wAnF, wSetA, wUnA, wSeqA, plainA, wFld, wFldO, wMake, wLRg, Ans.data, Ans.own.injEq, Ans.tup.injEq, Ans.dat.injEq, wTry, wTryM, wHs, wIsC, enOf, put, putUn, defEnds, lendE, lend, wipeE, hide, lenD, intD, listD, tupleD, reprD, wPen0, wPen1, wPen2, wPenS1, wPenS2, penAt, List.map_cons, List.map_nil, List.length_cons, List.length_nil, List.nil_append, List.cons_append, Nat.reduceAdd, Nat.reduceSub, Nat.reduceLeDiff, Nat.zero_add, List.replicate_zero, List.replicate_succ, List.getElem?_cons_zero, List.getElem?_cons_succ, List.set_cons_zero, List.set_cons_succ, Option.some.injEq, Slot.dat.injEq, Slot.own.injEq, PyData.bool.injEq, PyData.int.injEq, PyData.tuple.injEq, PyData.list.injEq, exists_eq_left', exists_eq_left, and_true, true_and, if_true, if_false, Bool.false_eq_true, reduceCtorEq, List.mapIdx_cons, List.mapIdx_nil, modD, addD]
    have i0 : 0 ≤ i % 12 := Int.emod_nonneg _ (by decide)
    have i1 : i % 12 < (zs.map PyData.int).length := by
      have := Int.emod_lt_of_pos i (show (0 : Int) < 12 by decide)
      rw [List.length_map, h4]
      exact this
    have mm := getD_mem i0 i1
    obtain ⟨v, _, hv⟩ := List.mem_map.mp mm
    refine ⟨by decide, .int v, by rw [atI_pos i0 i1, hv], rfl, ⟨_, rfl⟩, by decide, _, _, (i % 12).toNat, rfl, rfl, ixN_pos i0 i1, ih _ ⟨zs.set (i % 12).toNat (v + j), _, _, by rw [List.map_set], by simpa using h1, fun _ => by simpa using h4, fun d hd => h3 d (List.mem_cons_of_mem _ hd)⟩⟩
end
end L2.DL.K46
-- simp: wCallMF, wLastF, wConsF, wLendT
namespace L2.DL.K46
open PySem PySem.Spec
      PyProof.Rows
/-! ### the law -/
theorem rngD_int : ∀ {n : Nat} {i : Int} {d : D}, d ∈ rngD i n → ∃ j : Int, d = .int j
  | 0, _, _, h => by cases h
  | n + 1, i, d, h => by
    rw [rngD_succ] at h
    rcases List.mem_cons.mp h with h | h
    · exact ⟨_, h⟩
    · exact rngD_int h
theorem Run.ok {cs rules rows xs ys : List D} {ns ns' : List Int} {ts : List (List Int)} (r : Run rules rows xs ns ts ys ns') (h : Half cs rules rows ns) (hx : midRow cs xs) : ∀ t ∈ ts, Ok 4 1 (tupI t) := by
  induction r with
  | nil => exact fun t ht => (nomatch ht)
  | cons ls ad r ih =>
    rename_i xs ys ns ns1 ns2 i c z us
    intro t ht
    rcases List.mem_cons.mp ht with e0 | hm
    · rw [e0]
      exact step_ok (h.steps hx.ints) ls.1
    · obtain ⟨j, hj, sj⟩ := ls.1
      obtain ⟨c', z', e, c0, c1, cn, z0, z1, hv⟩ := h.step sj
      cases e
      exact ih ⟨h.cols, h.r8, h.rl, h.tab, ad.asc, fun n hn => ((ad.mem n).mp hn).elim (h.set.2 n) fun e => by rw [e]; exact ⟨c0, c1⟩⟩ (hx.put (by omega) z0 z1 hv) t hm
theorem rng_ints : ∀ {n : Nat} {a : Int}, ∃ ns : List Int, rngD a n = ns.map PyData.int ∧ ns.Pairwise (· < ·) ∧ (∀ y ∈ ns, a ≤ y ∧ y < a + n) ∧ ns.length = n
  | 0, a => ⟨[], rfl, .nil, fun y h => (nomatch h), rfl⟩
  | n + 1, a => by
    obtain ⟨ns, h1, h2, h3, h4⟩ := rng_ints (n := n) (a := a + 1)
    refine ⟨a :: ns, by rw [rngD_succ, h1]; rfl, List.pairwise_cons.mpr ⟨fun y hy => by have := h3 y hy; omega, h2⟩, fun y hy => ?_, by rw [List.length_cons, h4]⟩
    rcases List.mem_cons.mp
          hy with rfl | hy
    · omega
    · have := h3 y hy
      omega
section
variable {P : Program} {w : World} {K : PySem.W.Frag} {mg : Str → Option Value} {base : Heap} {A : Cls}
theorem ok_law (T : Txt K mg A) (L : ∃ f fd, FnG P w K mg base 1 f fd ["_law_script"] (spOpen K) ∧ mg "_law_open" = some (.ref f) ∧ PySem.W.keepIn K (.ref f) = true ∧ Binds K fd ["_law_script"] [])
    (d_law_anew : Def P w K mg base "_law_anew" 1 ["_law_pen"] w_law_anew) (d_law_kept_case : Def P w K mg base "_law_kept_case" 9 ["_law_pen"] w_law_kept_case) (d_law_is_stop : Def P w K mg base "_law_is_stop" 5 ["_law_rules", "_law_master", "_law_row_here", "_law_settled", "_law_value_here"] w_law_is_stop)
    (a_stop : DefA P w K mg base "stop" 9 ["columns", "rules", "master", "number", "settled"] w_stop) (d_law_stops : DefM P w K mg base "_law_stops" 25 ["_law_rules", "_law_master", "_law_row_here", "_law_settled", "_law_known"] (w_law_stops 20))
    {f : Addr} {fd : FuncData} (F : Fun K "law" "law" s_law f fd) : FnG P w K mg base 26 f fd ["_law_script"] (spTrue K) := by
  have d_stop := a_stop.plain n_stop
  have m_stop : Wc.Mono (plainA w_stop) := plainA.mono n_stop
  have m_law_stops := m_law_stops 20
  refine fnG_of F sc_law (fun vs H Q E ⟨a, ns, e, _⟩ => by rw [e]; rfl) fun cdv Ar outer s H vs Q E hg hr h => ?_
  obtain ⟨a, ns, rfl, hS, hl, q⟩ := h
  obtain ⟨fo, fdo, o1, o2, o3, o4⟩ := L
  refine ⟨_, pss_cons (ps_set (i := 1) sc_law.nd rfl (by first | exact .inl rfl | exact .inr rfl) (pe_callG (W := fun cls d _ H' => E cls d H') o1 hg (hr.mono (by decide)) rfl o2 o3 o4 (takes_of rfl rfl rfl rfl) (pa_cons (pv 0) pa_nil rfl) (by decide) rfl rfl) rfl (by first | exact .inl rfl | exact .inr rfl))
    (pss_law (W := fun cls d _ H' => E cls d H') fun q0 G0 H0 => (dss_cons (ds_for (passes_of rfl) rfl (di_rng1 de_int T.z_range) (dg_nm (i := 2) sc_law.nd)
    (dss_cons (ds_asg (de_fn d_law_kept_case m_law_kept_case hg hr (takes_of rfl rfl rfl rfl) (da_cons (de_fn d_law_anew m_law_anew hg hr (takes_of rfl rfl rfl rfl) (da_cons (de_var (pv 1)) da_nil)) da_nil)) (dg_tp rfl (dgs_cons (i := 3) sc_law.nd (dgs_cons (i := 4) sc_law.nd (dgs_cons (i := 5) sc_law.nd (dgs_cons (i := 6) sc_law.nd (dgs_cons (i := 7) sc_law.nd dgs_nil)))))))
    (dss_cons (ds_for (passes_of rfl) rfl (di_seq (de_sl (de_lst (da_cons de_int (da_cons (de_bin op_sub subD.mono fitsSub (de_bi lenD.mono fitsLen call_len_seq (da_cons (de_var (pv 5)) da_nil) T.z_len) de_int) (da_cons (de_var (pv 6)) da_nil)))) do_none (do_some (de_bi lenD.mono fitsLen call_len_seq (da_cons (de_var (pv 5)) da_nil) T.z_len)))) (dg_nm (i := 6) sc_law.nd)
    (dss_cons (ds_setA (i := 8) (dan_fn a_stop n_stop hg hr (takes_of rfl rfl rfl rfl) (da_cons (de_var (pv 3)) (da_cons (de_var (pv 4)) (da_cons (de_var (pv 5)) (da_cons (de_var (pv 6)) (da_cons (de_var (pv 7)) da_nil)))))) sc_law.nd)
    (dss_cons (ds_set (i := 9) (de_lend fun _ _ => (de_bi reprD.mono fitsRepr (call_reprD hg hr.units) (da_cons (de_var (pv 8)) da_nil) T.z_repr)) sc_law.nd)
    (dss_cons (ds_if (dt_val (de_fnMF d_law_stops m_law_stops hg hr (takes_of rfl rfl rfl rfl) (daf_cons (de_var (pv 4)) (daf_cons (de_var (pv 5)) (daf_cons (de_idx (de_var (pv 5)) (de_var (pv 6))) (daf_cons (de_var (pv 7)) (daf_last (df_lst da_nil))))))))
    (dss_one (ds_if (dt_not (dt_val (de_lend fun _ _ => (de_fn d_law_is_stop m_law_is_stop hg hr takes0 (da_cons (de_var (pv 4)) (da_cons (de_var (pv 5)) (da_cons (de_idx (de_var (pv 5)) (de_var (pv 6))) (da_cons (de_var (pv 7)) (da_cons (de_var (pv 8)) da_nil)))))))))
    (dss_one (ds_ret de_bl))
    dss_nil))
    (dss_one (ds_if (dt_lend fun _ _ => (dt_notN (de_var (pv 8))))
    (dss_one (ds_ret de_bl))
    dss_nil)))
    (dss_cons (ds_if (dt_lend fun _ _ => (dt_notN (de_var (pv 8))))
    (dss_one (ds_append (i := 8) de_int (pv 8)))
    dss_nil)
    (dss_rel (dss_one (ds_if (dt_cmp (op_neA hr.units) neD.mono fitsNe (de_bi reprD.mono fitsRepr (call_reprD hg hr.units) (da_cons (de_fn d_stop m_stop hg hr (takes_of rfl rfl rfl rfl) (da_cons (de_var (pv 3)) (da_cons (de_var (pv 4)) (da_cons (de_var (pv 5)) (da_cons (de_var (pv 6)) (da_cons (de_var (pv 7)) da_nil)))))) da_nil) T.z_repr) (de_var (pv 9)))
    (dss_one (ds_ret de_bl))
    dss_nil))))))))
    (dss_cons (ds_set (i := 10) (de_bt tupleD.mono fitsTuple call_tuple_of (da_cons (de_lc (own := [("_law_k", 11)]) rfl sc_law.nd (di_rng1 (de_bi lenD.mono fitsLen call_len_seq (da_cons (de_var (pv 3)) da_nil) T.z_len) T.z_range) (blkOk_by (N := ["_law_script", "_law_pen", "_law_turn", "_law_columns_here", "_law_rules", "_law_master", "_law_number", "_law_settled", "_law_told", "_law_kept", "_law_whole", "_law_k"]) (sc := defScope s_law) (by decide +kernel)) (fun _ _ _ _ _ _ _ => (dgc_nm (i := 11) sc_law.nd (by decide))) (fun _ _ _ _ _ _ _ => dts_nil) (fun _ _ _ _ _ _ _ => (de_var (pv 11)))) da_nil) T.z_tuple) sc_law.nd)
    (dss_one (ds_if (dt_notN (de_fn d_stop m_stop hg hr (takes_of rfl rfl rfl rfl) (da_cons (de_var (pv 3)) (da_cons (de_var (pv 4)) (da_cons (de_var (pv 5)) (da_cons de_int (da_cons (de_var (pv 10)) da_nil)))))))
    (dss_one (ds_ret de_bl))
    dss_nil))))))
    (dss_one (ds_ret de_bl)))), ?_⟩
  refine ⟨.ref a, rfl, a, ns, rfl, hS, fun q0 G0 H0 wd => ⟨q0, G0, H0, _, rl_pen (n := 10) wd rfl rfl, fun H1 => q H1, ?_⟩⟩
  simp only [wRet, wSet, wSeq, wNext, wDrop, wIfS, wTest, wAnd, wOr, wNot, wIf, wBin, wVar, wC, wAndV, wOrV, wNotV, wIsN, wNotN, wNeg, wChain, wNil, wCons, wTup, wLst, wBi, wCall, wIsi, wSl, wSo, wNo, wSeqI, wFor, gNm, gTp, puts, wAsg, wPar, wMul, wmD, wmO, putsI, wAug, wTryIs, wRng1, wRng2, wEnum, wEnumT, wZip, wLc, wYes, wLend, wRel, wOwn, wApp, wIns, wSetIx, wLstF, wListF, wRepF, wAddF, wSlS, wParO, wRevT, wSortedSet, wSortedSetL, wSortedSetT, wKeys, weI, wExt, allD, wMt, wRaise, wSeqO, wCallF, plainO, wCallA, wIdx0, wAnF, wSetA, wUnA, wSeqA, plainA, wFld, wFldO, wMake, wLRg, Ans.data, Ans.own.injEq, Ans.tup.injEq, Ans.dat.injEq, wTry, wTryM, wHs, wIsC, enOf, put, putUn, defEnds, lendE, lend, wipeE, hide, lenD, intD, listD, tupleD, reprD, wPen0, wPen1, wPen2, wPenS1, wPenS2, penAt, List.map_cons, List.map_nil, List.length_cons, List.length_nil, List.nil_append, List.cons_append, Nat.reduceAdd, Nat.reduceSub, Nat.reduceLeDiff, Nat.zero_add, List.replicate_zero, List.replicate_succ, List.getElem?_cons_zero, List.getElem?_cons_succ, List.set_cons_zero, List.set_cons_succ, Option.some.injEq, Slot.dat.injEq, Slot.own.injEq, PyData.bool.injEq, PyData.int.injEq, PyData.tuple.injEq, PyData.list.injEq, exists_eq_left', exists_eq_left, and_true, true_and, if_true, if_false, Bool.false_eq_true, reduceCtorEq, List.mapIdx_cons, List.mapIdx_nil, wCallMF, wLastF, wConsF, wLendT]
  refine ⟨by decide, by decide, ?_⟩
  refine wLoop.ind (fun ds e => ∃ (u2 u3 u4 u5 u6 u7 u8 u9 u10 u11 : Slot) (k : Nat), e = ⟨[.un, .dat penD, u2, u3, u4, u5, u6, u7, u8, u9, u10, u11], k⟩ ∧ (∀ d ∈ ds, ∃ i : Int, d = .int i) ∧ 600 * ds.length ≤ k) ?_ ?_
    ⟨_, _, _, _, _, _, _, _, _, _, 500000, rfl, fun d hd => rngD_int hd, by rw [rngD_length]; decide⟩
  · rintro e ⟨u2, u3, u4, u5, u6, u7, u8, u9, u10, u11, k, rfl, _, hk⟩
    exact trivial
  · rintro d ds e ih ⟨u2, u3, u4, u5, u6, u7, u8, u9, u10, u11, k, rfl, hi, hk⟩
    obtain ⟨i, rfl⟩ := hi d List.mem_cons_self
    rw [List.length_cons] at hk
    obtain ⟨k, rfl⟩ : ∃ k', k = k' + 600 := ⟨k - 600, by omega⟩
    simp only [wRet, wSet, wSeq, wNext, wDrop, wIfS, wTest, wAnd, wOr, wNot, wIf, wBin, wVar, wC, wAndV, wOrV, wNotV, wIsN, wNotN, wNeg, wChain, wNil, wCons, wTup, wLst, wBi, wCall, wIsi, wSl, wSo, wNo, wSeqI, wFor, gNm, gTp, puts, wAsg, wPar, wMul, wmD, wmO, putsI, wAug, wTryIs, wRng1, wRng2, wEnum, wEnumT, wZip, wLc, wYes, wLend, wRel, wOwn, wApp, wIns, wSetIx, wLstF, wListF, wRepF, wAddF, wSlS, wParO, wRevT, wSortedSet, wSortedSetL, wSortedSetT, wKeys, weI, wExt, allD, wMt, wRaise, wSeqO, wCallF, plainO, wCallA, wIdx0, wAnF, wSetA, wUnA, wSeqA, plainA, wFld, wFldO, wMake, wLRg, Ans.data, Ans.own.injEq, Ans.tup.injEq, Ans.dat.injEq, wTry, wTryM, wHs, wIsC, enOf, put, putUn, defEnds, lendE, lend, wipeE, hide, lenD, intD, listD, tupleD, reprD, wPen0, wPen1, wPen2, wPenS1, wPenS2, penAt, List.map_cons, List.map_nil, List.length_cons, List.length_nil, List.nil_append, List.cons_append, Nat.reduceAdd, Nat.reduceSub, Nat.reduceLeDiff, Nat.zero_add, List.replicate_zero, List.replicate_succ, List.getElem?_cons_zero, List.getElem?_cons_succ, List.set_cons_zero, List.set_cons_succ, Option.some.injEq, Slot.dat.injEq, Slot.own.injEq, PyData.bool.injEq, PyData.int.injEq, PyData.tuple.injEq, PyData.list.injEq, exists_eq_left', exists_eq_left, and_true, true_and, if_true, if_false, Bool.false_eq_true, reduceCtorEq, List.mapIdx_cons, List.mapIdx_nil, wCallMF, wLastF, wConsF, wLendT]
    refine ⟨rfl, k + 60, rfl, rfl, fun cs rules rows ns i0 k1 l1 hcase hi0 => ⟨_, rfl, rfl, ?_⟩⟩
    simp only [wRet, wSet, wSeq, wNext, wDrop, wIfS, wTest, wAnd, wOr, wNot, wIf, wBin, wVar, wC, wAndV, wOrV, wNotV, wIsN, wNotN, wNeg, wChain, wNil, wCons, wTup, wLst, wBi, wCall, wIsi, wSl, wSo, wNo, wSeqI, wFor, gNm, gTp, puts, wAsg, wPar, wMul, wmD, wmO, putsI, wAug, wTryIs, wRng1, wRng2, wEnum, wEnumT, wZip, wLc, wYes, wLend, wRel, wOwn, wApp, wIns, wSetIx, wLstF, wListF, wRepF, wAddF, wSlS, wParO, wRevT, wSortedSet, wSortedSetL, wSortedSetT, wKeys, weI, wExt, allD, wMt, wRaise, wSeqO, wCallF, plainO, wCallA, wIdx0, wAnF, wSetA, wUnA, wSeqA, plainA, wFld, wFldO, wMake, wLRg, Ans.data, Ans.own.injEq, Ans.tup.injEq, Ans.dat.injEq, wTry, wTryM, wHs, wIsC, enOf, put, putUn, defEnds, lendE, lend, wipeE, hide, lenD, intD, listD, tupleD, reprD, wPen0, wPen1, wPen2, wPenS1, wPenS2, penAt, List.map_cons, List.map_nil, List.length_cons, List.length_nil, List.nil_append, List.cons_append, Nat.reduceAdd, Nat.reduceSub, Nat.reduceLeDiff, Nat.zero_add, List.replicate_zero, List.replicate_succ, List.getElem?_cons_zero, List.getElem?_cons_succ, List.set_cons_zero, List.set_cons_succ, Option.some.injEq, Slot.dat.injEq, Slot.own.injEq, PyData.bool.injEq, PyData.int.injEq, PyData.tuple.injEq, PyData.list.injEq, exists_eq_left', exists_eq_left, and_true, true_and, if_true, if_false, Bool.false_eq_true, reduceCtorEq, List.mapIdx_cons, List.mapIdx_nil, wCallMF, wLastF, wConsF, wLendT]
    have ish : colsish (.tuple cs) := cols_ish hcase.cols.ok.good hcase.cols.b
    have half := hcase.half
    obtain ⟨xs0, _, kp0⟩ := hcase.at hi0
    have m4 : cs.length ≤ 4 := kp0.steps.m4
    have t8 := hcase.tab.1
    refine ⟨_, rfl, ?_⟩
    refine wLoop.ind (fun ds e => ∃ (u2 u6 u8 u9 u10 u11 : Slot) (k : Nat), e = ⟨[.un, .dat penD, u2, .dat (.tuple cs), .dat (.tuple rules), .dat (.tuple rows), u6, .dat (.tuple (ns.map PyData.int)), u8, u9, u10, u11], k1⟩ ∧ (∀ d ∈ ds, ∃ i : Nat, d = .int i ∧ i < rows.length)) ?_ ?_ ⟨_, _, _, _, _, _, k1, rfl, fun d hd => ?_⟩
    · rintro e ⟨u2, u6, u8, u9, u10, u11, k2, rfl, _⟩
      simp only [wRet, wSet, wSeq, wNext, wDrop, wIfS, wTest, wAnd, wOr, wNot, wIf, wBin, wVar, wC, wAndV, wOrV, wNotV, wIsN, wNotN, wNeg, wChain, wNil, wCons, wTup, wLst, wBi, wCall, wIsi, wSl, wSo, wNo, wSeqI, wFor, gNm, gTp, puts, wAsg, wPar, wMul, wmD, wmO, putsI, wAug, wTryIs, wRng1, wRng2, wEnum, wEnumT, wZip, wLc, wYes, wLend, wRel, wOwn, wApp, wIns, wSetIx, wLstF, wListF, wRepF, wAddF, wSlS, wParO, wRevT, wSortedSet, wSortedSetL, wSortedSetT, wKeys, weI, wExt, allD, wMt, wRaise, wSeqO, wCallF, plainO, wCallA, wIdx0, wAnF, wSetA, wUnA, wSeqA, plainA, wFld, wFldO, wMake, wLRg, Ans.data, Ans.own.injEq, Ans.tup.injEq, Ans.dat.injEq, wTry, wTryM, wHs, wIsC, enOf, put, putUn, defEnds, lendE, lend, wipeE, hide, lenD, intD, listD, tupleD, reprD, wPen0, wPen1, wPen2, wPenS1, wPenS2, penAt, List.map_cons, List.map_nil, List.length_cons, List.length_nil, List.nil_append, List.cons_append, Nat.reduceAdd, Nat.reduceSub, Nat.reduceLeDiff, Nat.zero_add, List.replicate_zero, List.replicate_succ, List.getElem?_cons_zero, List.getElem?_cons_succ, List.set_cons_zero, List.set_cons_succ, Option.some.injEq, Slot.dat.injEq, Slot.own.injEq, PyData.bool.injEq, PyData.int.injEq, PyData.tuple.injEq, PyData.list.injEq, exists_eq_left', exists_eq_left, and_true, true_and, if_true, if_false, Bool.false_eq_true, reduceCtorEq, List.mapIdx_cons, List.mapIdx_nil, wCallMF, wLastF, wConsF, wLendT]
      obtain ⟨ms, em, pm, bm, lm⟩ := rng_ints (n := cs.length) (a := 0)
      refine ⟨by omega,
            by omega, ?_⟩
      rw [Int.toNat_natCast]
      refine lcLoop.fm (fun d => some d) (fun d hd A B h3 h4 => ?_) (by rw [List.length_nil, rngD_length]; omega) ?_
      · simp only [wRet, wSet, wSeq, wNext, wDrop, wIfS, wTest, wAnd, wOr, wNot, wIf, wBin, wVar, wC, wAndV, wOrV, wNotV, wIsN, wNotN, wNeg, wChain, wNil, wCons, wTup, wLst, wBi, wCall, wIsi, wSl, wSo, wNo, wSeqI, wFor, gNm, gTp, puts, wAsg, wPar, wMul, wmD, wmO, putsI, wAug, wTryIs, wRng1, wRng2, wEnum, wEnumT, wZip, wLc, wYes, wLend, wRel, wOwn, wApp, wIns, wSetIx, wLstF, wListF, wRepF, wAddF, wSlS, wParO, wRevT, wSortedSet, wSortedSetL, wSortedSetT, wKeys, weI, wExt, allD, wMt, wRaise, wSeqO, wCallF, plainO, wCallA, wIdx0, wAnF, wSetA, wUnA, wSeqA, plainA, wFld, wFldO, wMake, wLRg, Ans.data, Ans.own.injEq, Ans.tup.injEq, Ans.dat.injEq, wTry, wTryM, wHs, wIsC, enOf, put, putUn, defEnds, lendE, lend, wipeE, hide, lenD, intD, listD, tupleD, reprD, wPen0, wPen1, wPen2, wPenS1, wPenS2, penAt, List.map_cons, List.map_nil, List.length_cons, List.length_nil, List.nil_append, List.cons_append, Nat.reduceAdd, Nat.reduceSub, Nat.reduceLeDiff, Nat.zero_add, List.replicate_zero, List.replicate_succ, List.getElem?_cons_zero, List.getElem?_cons_succ, List.set_cons_zero, List.set_cons_succ, Option.some.injEq, Slot.dat.injEq, Slot.own.injEq, PyData.bool.injEq, PyData.int.injEq, PyData.tuple.injEq, PyData.list.injEq, exists_eq_left', exists_eq_left, and_true, true_and, if_true, if_false, Bool.false_eq_true, reduceCtorEq, List.mapIdx_cons, List.mapIdx_nil, wCallMF, wLastF, wConsF, wLendT]
        exact h4 _ rfl
      · rw [List.nil_append, List.filterMap_some, em]
        have okm : okNs cs.length ms := ⟨pm, fun y hy => by have := bm y hy; omega⟩
        obtain ⟨xs, hx, kp⟩ := hcase.at (i := 0) (by have := hcase.ne; omega)
        refine ⟨cs, rules, rows, xs, ms, 0, rfl, ⟨hcase.cols, hcase.r8, hcase.rl, hcase.tab, okm, hcase.ne, hcase.hd⟩, by have := hcase.ne; omega, hx, fun ts ns' r en ok' lt => ?_⟩
        have := ok'.len
        rw [if_pos (by omega)]
        simp only [wRet, wSet, wSeq, wNext, wDrop, wIfS, wTest, wAnd, wOr, wNot, wIf, wBin, wVar, wC, wAndV, wOrV, wNotV, wIsN, wNotN, wNeg, wChain, wNil, wCons, wTup, wLst, wBi, wCall, wIsi, wSl, wSo, wNo, wSeqI, wFor, gNm, gTp, puts, wAsg, wPar, wMul, wmD, wmO, putsI, wAug, wTryIs, wRng1, wRng2, wEnum, wEnumT, wZip, wLc, wYes, wLend, wRel, wOwn, wApp, wIns, wSetIx, wLstF, wListF, wRepF, wAddF, wSlS, wParO, wRevT, wSortedSet, wSortedSetL, wSortedSetT, wKeys, weI, wExt, allD, wMt, wRaise, wSeqO, wCallF, plainO, wCallA, wIdx0, wAnF, wSetA, wUnA, wSeqA, plainA, wFld, wFldO, wMake, wLRg, Ans.data, Ans.own.injEq, Ans.tup.injEq, Ans.dat.injEq, wTry, wTryM, wHs, wIsC, enOf, put, putUn, defEnds, lendE, lend, wipeE, hide, lenD, intD, listD, tupleD, reprD, wPen0, wPen1, wPen2, wPenS1, wPenS2, penAt, List.map_cons, List.map_nil, List.length_cons, List.length_nil, List.nil_append, List.cons_append, Nat.reduceAdd, Nat.reduceSub, Nat.reduceLeDiff, Nat.zero_add, List.replicate_zero, List.replicate_succ, List.getElem?_cons_zero, List.getElem?_cons_succ, List.set_cons_zero, List.set_cons_succ, Option.some.injEq, Slot.dat.injEq, Slot.own.injEq, PyData.bool.injEq, PyData.int.injEq, PyData.tuple.injEq, PyData.list.injEq, exists_eq_left', exists_eq_left, and_true, true_and, if_true, if_false, Bool.false_eq_true, reduceCtorEq, List.mapIdx_cons, List.mapIdx_nil, wCallMF, wLastF, wConsF, wLendT]
        rw [if_neg (by decide)]
        exact ih _ ⟨_, _, _, _, _, _, _, _, _, _, k1, rfl, fun d hd => hi d (List.mem_cons_of_mem _ hd), by omega⟩
    · rintro d ds e ih2 ⟨u2, u6, u8, u9, u10, u11, k2, rfl, hi2⟩
      obtain ⟨j, rfl, hj⟩ := hi2 d List.mem_cons_self
      obtain ⟨xs, hx, kp⟩ := hcase.at hj
      have next : ∀ u2 u8 u9 u10 u11, wLoop _ _ _ _ (⟨[.un, .dat penD, u2, .dat (.tuple cs), .dat (.tuple rules), .dat (.tuple rows), .dat (.int j), .dat (.tuple (ns.map PyData.int)), u8, u9, u10, u11], k1⟩ : En) := fun u2 u8 u9 u10 u11 => ih2 _ ⟨_, _, _, _, _, _, k1, rfl, fun d hd => hi2 d (List.mem_cons_of_mem _ hd)⟩
      simp only [wRet, wSet, wSeq, wNext, wDrop, wIfS, wTest, wAnd, wOr, wNot, wIf, wBin, wVar, wC, wAndV, wOrV, wNotV, wIsN, wNotN, wNeg, wChain, wNil, wCons, wTup, wLst, wBi, wCall, wIsi, wSl, wSo, wNo, wSeqI, wFor, gNm, gTp, puts, wAsg, wPar, wMul, wmD, wmO, putsI, wAug, wTryIs, wRng1, wRng2, wEnum, wEnumT, wZip, wLc, wYes, wLend, wRel, wOwn, wApp, wIns, wSetIx, wLstF, wListF, wRepF, wAddF, wSlS, wParO, wRevT, wSortedSet, wSortedSetL, wSortedSetT, wKeys, weI, wExt, allD, wMt, wRaise, wSeqO, wCallF, plainO, wCallA, wIdx0, wAnF, wSetA, wUnA, wSeqA, plainA, wFld, wFldO, wMake, wLRg, Ans.data, Ans.own.injEq, Ans.tup.injEq, Ans.dat.injEq, wTry, wTryM, wHs, wIsC, enOf, put, putUn, defEnds, lendE, lend, wipeE, hide, lenD, intD, listD, tupleD, reprD, wPen0, wPen1, wPen2, wPenS1, wPenS2, penAt, List.map_cons, List.map_nil, List.length_cons, List.length_nil, List.nil_append, List.cons_append, Nat.reduceAdd, Nat.reduceSub, Nat.reduceLeDiff, Nat.zero_add, List.replicate_zero, List.replicate_succ, List.getElem?_cons_zero, List.getElem?_cons_succ, List.set_cons_zero, List.set_cons_succ, Option.some.injEq, Slot.dat.injEq, Slot.own.injEq, PyData.bool.injEq, PyData.int.injEq, PyData.tuple.injEq, PyData.list.injEq, exists_eq_left', exists_eq_left, and_true, true_and, if_true, if_false, Bool.false_eq_true, reduceCtorEq, List.mapIdx_cons, List.mapIdx_nil, wCallMF, wLastF, wConsF, wLendT]
      refine ⟨cs, rules, rows, xs, ns, j, rfl, hcase, hj, hx, fun ts ns' r en ok' lt => ?_⟩
      obtain ⟨_, _, st⟩ := kp.run r
      have hst : Stk cs.length rules rows xs ns ↔ ns'.length < cs.length := st.trans (Stk.ends (kp.next ok') en)
      by_cases full : ns'.length = cs.length
      · rw [if_pos full]
        have e0 : stkB cs.length rules rows xs ns = false := by
          unfold stkB
          have : ¬ Stk cs.length rules rows xs ns := fun z => by have := hst.mp z; omega
          simp [this]
        simp only [wRet, wSet, wSeq, wNext, wDrop, wIfS, wTest, wAnd, wOr, wNot, wIf, wBin, wVar, wC, wAndV, wOrV, wNotV, wIsN, wNotN, wNeg, wChain, wNil, wCons, wTup, wLst, wBi, wCall, wIsi, wSl, wSo, wNo, wSeqI, wFor, gNm, gTp, puts, wAsg, wPar, wMul, wmD, wmO, putsI, wAug, wTryIs, wRng1, wRng2, wEnum, wEnumT, wZip, wLc, wYes, wLend, wRel, wOwn, wApp, wIns, wSetIx, wLstF, wListF, wRepF, wAddF, wSlS, wParO, wRevT, wSortedSet, wSortedSetL, wSortedSetT, wKeys, weI, wExt, allD, wMt, wRaise, wSeqO, wCallF, plainO, wCallA, wIdx0, wAnF, wSetA, wUnA, wSeqA, plainA, wFld, wFldO, wMake, wLRg, Ans.data, Ans.own.injEq, Ans.tup.injEq, Ans.dat.injEq, wTry, wTryM, wHs, wIsC, enOf, put, putUn, defEnds, lendE, lend, wipeE, hide, lenD, intD, listD, tupleD, reprD, wPen0, wPen1, wPen2, wPenS1, wPenS2, penAt, List.map_cons, List.map_nil, List.length_cons, List.length_nil, List.nil_append, List.cons_append, Nat.reduceAdd, Nat.reduceSub, Nat.reduceLeDiff, Nat.zero_add, List.replicate_zero, List.replicate_succ, List.getElem?_cons_zero, List.getElem?_cons_succ, List.set_cons_zero, List.set_cons_succ, Option.some.injEq, Slot.dat.injEq, Slot.own.injEq, PyData.bool.injEq, PyData.int.injEq, PyData.tuple.injEq, PyData.list.injEq, exists_eq_left', exists_eq_left, and_true, true_and, if_true, if_false, Bool.false_eq_true, reduceCtorEq, List.mapIdx_cons, List.mapIdx_nil, wCallMF, wLastF, wConsF, wLendT]
        refine ⟨good_of (by decide +kernel), rfl, _, hx, fun a => ⟨cs, rules, rows, xs, ns, a, [], rfl, kp, by omega, ⟨fun _ h => (nomatch h), List.nodup_nil⟩, fun _ _ h => (nomatch h), fun e' L' hk h4 sn => ⟨_, rfl, ?_⟩⟩⟩
        rw [e0, if_neg (by decide), if_neg (by decide), if_neg (by decide), hk]
        refine ⟨cs, rules, rows, xs, ns, j, rfl, hcase, hj, hx, fun ts2 ns2 r2 en2 ok2 lt2 => ?_⟩
        obtain ⟨rfl, _, rfl⟩ := r.uniq en r2 en2
        rw [if_pos full]
        simp only [wRet, wSet, wSeq, wNext, wDrop, wIfS, wTest, wAnd, wOr, wNot, wIf, wBin, wVar, wC, wAndV, wOrV, wNotV, wIsN, wNotN, wNeg, wChain, wNil, wCons, wTup, wLst, wBi, wCall, wIsi, wSl, wSo, wNo, wSeqI, wFor, gNm, gTp, puts, wAsg, wPar, wMul, wmD, wmO, putsI, wAug, wTryIs, wRng1, wRng2, wEnum, wEnumT, wZip, wLc, wYes, wLend, wRel, wOwn, wApp, wIns, wSetIx, wLstF, wListF, wRepF, wAddF, wSlS, wParO, wRevT, wSortedSet, wSortedSetL, wSortedSetT, wKeys, weI, wExt, allD, wMt, wRaise, wSeqO, wCallF, plainO, wCallA, wIdx0, wAnF, wSetA, wUnA, wSeqA, plainA, wFld, wFldO, wMake, wLRg, Ans.data, Ans.own.injEq, Ans.tup.injEq, Ans.dat.injEq, wTry, wTryM, wHs, wIsC, enOf, put, putUn, defEnds, lendE, lend, wipeE, hide, lenD, intD, listD, tupleD, reprD, wPen0, wPen1, wPen2, wPenS1, wPenS2, penAt, List.map_cons, List.map_nil, List.length_cons, List.length_nil, List.nil_append, List.cons_append, Nat.reduceAdd, Nat.reduceSub, Nat.reduceLeDiff, Nat.zero_add, List.replicate_zero, List.replicate_succ, List.getElem?_cons_zero, List.getElem?_cons_succ, List.set_cons_zero, List.set_cons_succ, Option.some.injEq, Slot.dat.injEq, Slot.own.injEq, PyData.bool.injEq, PyData.int.injEq, PyData.tuple.injEq, PyData.list.injEq, exists_eq_left', exists_eq_left, and_true, true_and, if_true, if_false, Bool.false_eq_true, reduceCtorEq, List.mapIdx_cons, List.mapIdx_nil, wCallMF, wLastF, wConsF, wLendT]
        refine ⟨good_of (by decide +kernel), .inr ⟨good_of (by decide +kernel), good_of (by decide +kernel)⟩, _, rfl, ?_⟩
        rw [if_neg (by rw [eqv_str]; decide)]
        exact next _ _ _ _ _
      · rw [if_neg full]
        have e0 : stkB cs.length rules rows xs ns = true := by
          unfold stkB
          have : Stk cs.length rules rows xs ns := hst.mpr (by have := ok'.len; omega)
          simp [this]
        have okl : Ok (4 * 4 + 1) 2 (.list (ts.map tupI)) := Ok.list (n := 4) (m := 1) (k := 4) (fun d hd => by
          obtain ⟨t, ht, rfl⟩ := List.mem_map.mp hd
          exact r.ok half kp.mid t ht) (by rw [List.length_map]; have := ok'.len; omega)
        simp only [wRet, wSet, wSeq, wNext, wDrop, wIfS, wTest, wAnd, wOr, wNot, wIf, wBin, wVar, wC, wAndV, wOrV, wNotV, wIsN, wNotN, wNeg, wChain, wNil, wCons, wTup, wLst, wBi, wCall, wIsi, wSl, wSo, wNo, wSeqI, wFor, gNm, gTp, puts, wAsg, wPar, wMul, wmD, wmO, putsI, wAug, wTryIs, wRng1, wRng2, wEnum, wEnumT, wZip, wLc, wYes, wLend, wRel, wOwn, wApp, wIns, wSetIx, wLstF, wListF, wRepF, wAddF, wSlS, wParO, wRevT, wSortedSet, wSortedSetL, wSortedSetT, wKeys, weI, wExt, allD, wMt, wRaise, wSeqO, wCallF, plainO, wCallA, wIdx0, wAnF, wSetA, wUnA, wSeqA, plainA, wFld, wFldO, wMake, wLRg, Ans.data, Ans.own.injEq, Ans.tup.injEq, Ans.dat.injEq, wTry, wTryM, wHs, wIsC, enOf, put, putUn, defEnds, lendE, lend, wipeE, hide, lenD, intD, listD, tupleD, reprD, wPen0, wPen1, wPen2, wPenS1, wPenS2, penAt, List.map_cons, List.map_nil, List.length_cons, List.length_nil, List.nil_append, List.cons_append, Nat.reduceAdd, Nat.reduceSub, Nat.reduceLeDiff, Nat.zero_add, List.replicate_zero, List.replicate_succ, List.getElem?_cons_zero, List.getElem?_cons_succ, List.set_cons_zero, List.set_cons_succ, Option.some.injEq, Slot.dat.injEq, Slot.own.injEq, PyData.bool.injEq, PyData.int.injEq, PyData.tuple.injEq, PyData.list.injEq, exists_eq_left', exists_eq_left, and_true, true_and, if_true, if_false, Bool.false_eq_true, reduceCtorEq, List.mapIdx_cons, List.mapIdx_nil, wCallMF, wLastF, wConsF, wLendT]
        refine ⟨okl.good, rfl, _, hx, fun a => ⟨cs, rules, rows, xs, ns, a, [], rfl, kp, by omega, ⟨fun _ h => (nomatch h), List.nodup_nil⟩, fun _ _ h => (nomatch h), fun e' L' hk h4 sn => ⟨_, rfl, ?_⟩⟩⟩
        rw [e0, if_pos rfl, hk]
        refine ⟨_, hx, cs, rules, rows, xs, xs, ns, ns', ts, rfl, half, kp.mid, r, en, rfl, _, rfl, ?_⟩
        rw [decide_eq_true (show ns.length + ts.length < xs.length by rw [kp.mid.1]; have := ok'.len; omega), if_neg (by decide)]
        rw [if_pos (by rfl)]
        refine ⟨⟨_, rfl⟩, by rw [List.length_map]; have := ok'.len; omega, cs, rules, rows, xs, ns, j, rfl, hcase, hj, hx, fun ts2 ns2 r2 en2 ok2 lt2 => ?_⟩
        obtain ⟨rfl, _, rfl⟩ := r.uniq en r2 en2
        rw [if_neg full]
        simp only [wRet, wSet, wSeq, wNext, wDrop, wIfS, wTest, wAnd, wOr, wNot, wIf, wBin, wVar, wC, wAndV, wOrV, wNotV, wIsN, wNotN, wNeg, wChain, wNil, wCons, wTup, wLst, wBi, wCall, wIsi, wSl, wSo, wNo, wSeqI, wFor, gNm, gTp, puts, wAsg, wPar, wMul, wmD, wmO, putsI, wAug, wTryIs, wRng1, wRng2, wEnum, wEnumT, wZip, wLc, wYes, wLend, wRel, wOwn, wApp, wIns, wSetIx, wLstF, wListF, wRepF, wAddF, wSlS, wParO, wRevT, wSortedSet, wSortedSetL, wSortedSetT, wKeys, weI, wExt, allD, wMt, wRaise, wSeqO, wCallF, plainO, wCallA, wIdx0, wAnF, wSetA, wUnA, wSeqA, plainA, wFld, wFldO, wMake, wLRg, Ans.data, Ans.own.injEq, Ans.tup.injEq, Ans.dat.injEq, wTry, wTryM, wHs, wIsC, enOf, put, putUn, defEnds, lendE, lend, wipeE, hide, lenD, intD, listD, tupleD, reprD, wPen0, wPen1, wPen2, wPenS1, wPenS2, penAt, List.map_cons, List.map_nil, List.length_cons, List.length_nil, List.nil_append, List.cons_append, Nat.reduceAdd, Nat.reduceSub, Nat.reduceLeDiff, Nat.zero_add, List.replicate_zero, List.replicate_succ, List.getElem?_cons_zero, List.getElem?_cons_succ, List.set_cons_zero, List.set_cons_succ, Option.some.injEq, Slot.dat.injEq, Slot.own.injEq, PyData.bool.injEq, PyData.int.injEq, PyData.tuple.injEq, PyData.list.injEq, exists_eq_left', exists_eq_left, and_true, true_and, if_true, if_false, Bool.false_eq_true, reduceCtorEq, List.mapIdx_cons, List.mapIdx_nil, wCallMF, wLastF, wConsF, wLendT]
        refine ⟨okl.good, .inr ⟨okl.shown.good, okl.shown.good⟩, _, rfl, ?_⟩
        rw [if_neg (by rw [eqv_str]; decide)]
        exact next _ _ _ _ _
    · rcases List.mem_cons.mp (cut_mem hd) with rfl | h
      · exact ⟨0, rfl, by have := hcase.ne; omega⟩
      · rcases List.mem_cons.mp
            h with rfl | h
        · exact ⟨rows.length - 1, by congr 1; have := hcase.ne; omega, by have := hcase.ne; omega⟩
        · rw [List.mem_singleton.mp h]
          exact ⟨i0, rfl, hi0⟩
end
end L2.DL.K46
namespace L2.DL.K46
open PySem PySem.Spec
      PyProof.Rows
theorem all_mk {l : PySem.W.OpenLaw} {w : World} {K : PySem.W.Frag} {h : Heap} {mg : Str → Option Value} {fa : Addr} (X : K.In h) (G : h.Ns mainGlobals mg) (hfa : mg "law" = some (.ref fa))
    {od0 an0 : Option Addr} {sl0 : Array (Option Value)} {oc0 kV0 dc0 pm0 cd0 ct0 : Value} {f0 : Addr}
    {od1 an1 : Option Addr} {sl1 : Array (Option Value)} {oc1 kV1 dc1 pm1 cd1 ct1 : Value} {f1 : Addr}
    {od2 an2 : Option Addr} {sl2 : Array (Option Value)} {oc2 kV2 dc2 pm2 cd2 ct2 : Value} {f2 : Addr}
    {od3 an3 : Option Addr} {sl3 : Array (Option Value)} {oc3 kV3 dc3 pm3 cd3 ct3 : Value} {f3 : Addr}
    {od4 an4 : Option Addr} {sl4 : Array (Option Value)} {oc4 kV4 dc4 pm4 cd4 ct4 : Value} {f4 : Addr}
    {od5 an5 : Option Addr} {sl5 : Array (Option Value)} {oc5 kV5 dc5 pm5 cd5 ct5 : Value} {f5 : Addr}
    {od6 an6 : Option Addr} {sl6 : Array (Option Value)} {oc6 kV6 dc6 pm6 cd6 ct6 : Value} {f6 : Addr}
    {od7 an7 : Option Addr} {sl7 : Array (Option Value)} {oc7 kV7 dc7 pm7 cd7 ct7 : Value} {f7 : Addr}
    {od8 an8 : Option Addr} {sl8 : Array (Option Value)} {oc8 kV8 dc8 pm8 cd8 ct8 : Value} {f8 : Addr}
    {od9 an9 : Option Addr} {sl9 : Array (Option Value)} {oc9 kV9 dc9 pm9 cd9 ct9 : Value} {f9 : Addr}
    {od10 an10 : Option Addr} {sl10 : Array (Option Value)} {oc10 kV10 dc10 pm10 cd10 ct10 : Value} {f10 : Addr}
    {od11 an11 : Option Addr} {sl11 : Array (Option Value)} {oc11 kV11 dc11 pm11 cd11 ct11 : Value} {f11 : Addr}
    {od12 an12 : Option Addr} {sl12 : Array (Option Value)} {oc12 kV12 dc12 pm12 cd12 ct12 : Value} {f12 : Addr}
    {od13 an13 : Option Addr} {sl13 : Array (Option Value)} {oc13 kV13 dc13 pm13 cd13 ct13 : Value} {f13 : Addr}
    {od14 an14 : Option Addr} {sl14 : Array (Option Value)} {oc14 kV14 dc14 pm14 cd14 ct14 : Value} {f14 : Addr}
    {od15 an15 : Option Addr} {sl15 : Array (Option Value)} {oc15 kV15 dc15 pm15 cd15 ct15 : Value} {f15 : Addr}
    {od16 an16 : Option Addr} {sl16 : Array (Option Value)} {oc16 kV16 dc16 pm16 cd16 ct16 : Value} {f16 : Addr}
    {od17 an17 : Option Addr} {sl17 : Array (Option Value)} {oc17 kV17 dc17 pm17 cd17 ct17 : Value} {f17 : Addr}
    {od18 an18 : Option Addr} {sl18 : Array (Option Value)} {oc18 kV18 dc18 pm18 cd18 ct18 : Value} {f18 : Addr}
    {od19 an19 : Option Addr} {sl19 : Array (Option Value)} {oc19 kV19 dc19 pm19 cd19 ct19 : Value} {f19 : Addr}
    {od20 an20 : Option Addr} {sl20 : Array (Option Value)} {oc20 kV20 dc20 pm20 cd20 ct20 : Value} {f20 : Addr}
    {od21 an21 : Option Addr} {sl21 : Array (Option Value)} {oc21 kV21 dc21 pm21 cd21 ct21 : Value} {f21 : Addr}
    {od22 an22 : Option Addr} {sl22 : Array (Option Value)} {oc22 kV22 dc22 pm22 cd22 ct22 : Value} {f22 : Addr}
    {od23 an23 : Option Addr} {sl23 : Array (Option Value)} {oc23 kV23 dc23 pm23 cd23 ct23 : Value} {f23 : Addr}
    {od24 an24 : Option Addr} {sl24 : Array (Option Value)} {oc24 kV24 dc24 pm24 cd24 ct24 : Value} {f24 : Addr}
    {od25 an25 : Option Addr} {sl25 : Array (Option Value)} {oc25 kV25 dc25 pm25 cd25 ct25 : Value} {f25 : Addr}
    {od26 an26 : Option Addr} {sl26 : Array (Option Value)} {oc26 kV26 dc26 pm26 cd26 ct26 : Value} {f26 : Addr}
    {od27 an27 : Option Addr} {sl27 : Array (Option Value)} {oc27 kV27 dc27 pm27 cd27 ct27 : Value} {f27 : Addr}
    {od28 an28 : Option Addr} {sl28 : Array (Option Value)} {oc28 kV28 dc28 pm28 cd28 ct28 : Value} {f28 : Addr}
    {od29 an29 : Option Addr} {sl29 : Array (Option Value)} {oc29 kV29 dc29 pm29 cd29 ct29 : Value} {f29 : Addr}
    {od30 an30 : Option Addr} {sl30 : Array (Option Value)} {oc30 kV30 dc30 pm30 cd30 ct30 : Value} {f30 : Addr}
    {od31 an31 : Option Addr} {sl31 : Array (Option Value)} {oc31 kV31 dc31 pm31 cd31 ct31 : Value} {f31 : Addr}
    {od32 an32 : Option Addr} {sl32 : Array (Option Value)} {oc32 kV32 dc32 pm32 cd32 ct32 : Value} {f32 : Addr}
    {od33 an33 : Option Addr} {sl33 : Array (Option Value)} {oc33 kV33 dc33 pm33 cd33 ct33 : Value} {f33 : Addr}
    {od34 an34 : Option Addr} {sl34 : Array (Option Value)} {oc34 kV34 dc34 pm34 cd34 ct34 : Value} {f34 : Addr}
    {od35 an35 : Option Addr} {sl35 : Array (Option Value)} {oc35 kV35 dc35 pm35 cd35 ct35 : Value} {f35 : Addr}
    {od36 an36 : Option Addr} {sl36 : Array (Option Value)} {oc36 kV36 dc36 pm36 cd36 ct36 : Value} {f36 : Addr}
    {od37 an37 : Option Addr} {sl37 : Array (Option Value)} {oc37 kV37 dc37 pm37 cd37 ct37 : Value} {f37 : Addr}
    {od38 an38 : Option Addr} {sl38 : Array (Option Value)} {oc38 kV38 dc38 pm38 cd38 ct38 : Value} {f38 : Addr}
    {od39 an39 : Option Addr} {sl39 : Array (Option Value)} {oc39 kV39 dc39 pm39 cd39 ct39 : Value} {f39 : Addr}
    {od40 an40 : Option Addr} {sl40 : Array (Option Value)} {oc40 kV40 dc40 pm40 cd40 ct40 : Value} {f40 : Addr}
    {od41 an41 : Option Addr} {sl41 : Array (Option Value)} {oc41 kV41 dc41 pm41 cd41 ct41 : Value} {f41 : Addr}
    {od42 an42 : Option Addr} {sl42 : Array (Option Value)} {oc42 kV42 dc42 pm42 cd42 ct42 : Value} {f42 : Addr}
    {od43 an43 : Option Addr} {sl43 : Array (Option Value)} {oc43 kV43 dc43 pm43 cd43 ct43 : Value} {f43 : Addr}
    {od44 an44 : Option Addr} {sl44 : Array (Option Value)} {oc44 kV44 dc44 pm44 cd44 ct44 : Value} {f44 : Addr}
    {od45 an45 : Option Addr} {sl45 : Array (Option Value)} {oc45 kV45 dc45 pm45 cd45 ct45 : Value} {f45 : Addr}
    {od46 an46 : Option Addr} {sl46 : Array (Option Value)} {oc46 kV46 dc46 pm46 cd46 ct46 : Value} {f46 : Addr}
    {od47 an47 : Option Addr} {sl47 : Array (Option Value)} {oc47 kV47 dc47 pm47 cd47 ct47 : Value} {f47 : Addr}
    {od48 an48 : Option Addr} {sl48 : Array (Option Value)} {oc48 kV48 dc48 pm48 cd48 ct48 : Value} {f48 : Addr}
    {od49 an49 : Option Addr} {sl49 : Array (Option Value)} {oc49 kV49 dc49 pm49 cd49 ct49 : Value} {f49 : Addr}
    {od50 an50 : Option Addr} {sl50 : Array (Option Value)} {oc50 kV50 dc50 pm50 cd50 ct50 : Value} {f50 : Addr}
    {od51 an51 : Option Addr} {sl51 : Array (Option Value)} {oc51 kV51 dc51 pm51 cd51 ct51 : Value} {f51 : Addr}
    {od52 an52 : Option Addr} {sl52 : Array (Option Value)} {oc52 kV52 dc52 pm52 cd52 ct52 : Value} {f52 : Addr}
    {od53 an53 : Option Addr} {sl53 : Array (Option Value)} {oc53 kV53 dc53 pm53 cd53 ct53 : Value} {f53 : Addr}
    {od54 an54 : Option Addr} {sl54 : Array (Option Value)} {oc54 kV54 dc54 pm54 cd54 ct54 : Value} {f54 : Addr}
    {t_MOST_CLOSED : Tok}
    {t_MOST_COLUMNS : Tok}
    {t_MOST_ROWS : Tok}
    {t_MOST_RULES : Tok}
    {t_MOST_VALUES : Tok}
    {A_InvalidColumns A_InvalidNumber A_InvalidRules A_InvalidSettled A_InvalidTable : Addr}
    (a0 : PySem.W.nsIn K mainGlobals "_law_open" = some (some (.ref f0)))
    (l0 : K.lookup f0 = some ⟨oc0, od0, .func (PySem.W.fnOf "_law_open" "_law_open" (defArgs s_law_open) (defBody s_law_open) (defScope s_law_open) .none kV0 dc0 pm0 an0 cd0 ct0), sl0⟩)
    (c0 : PySem.W.codeIn K cd0 "_law_open" = true)
    (k0 : PySem.W.keepIn K (.ref f0) = true)
    (a1 : PySem.W.nsIn K mainGlobals "_law_spread" = some (some (.ref f1)))
    (l1 : K.lookup f1 = some ⟨oc1, od1, .func (PySem.W.fnOf "_law_spread" "_law_spread" (defArgs s_law_spread) (defBody s_law_spread) (defScope s_law_spread) .none kV1 dc1 pm1 an1 cd1 ct1), sl1⟩)
    (c1 : PySem.W.codeIn K cd1 "_law_spread" = true)
    (k1 : PySem.W.keepIn K (.ref f1) = true)
    (a2 : PySem.W.nsIn K mainGlobals "_law_take" = some (some (.ref f2)))
    (l2 : K.lookup f2 = some ⟨oc2, od2, .func (PySem.W.fnOf "_law_take" "_law_take" (defArgs s_law_take) (defBody s_law_take) (defScope s_law_take) .none kV2 dc2 pm2 an2 cd2 ct2), sl2⟩)
    (c2 : PySem.W.codeIn K cd2 "_law_take" = true)
    (k2 : PySem.W.keepIn K (.ref f2) = true)
    (a3 : PySem.W.nsIn K mainGlobals "_law_columns" = some (some (.ref f3)))
    (l3 : K.lookup f3 = some ⟨oc3, od3, .func (PySem.W.fnOf "_law_columns" "_law_columns" (defArgs s_law_columns) (defBody s_law_columns) (defScope s_law_columns) .none kV3 dc3 pm3 an3 cd3 ct3), sl3⟩)
    (c3 : PySem.W.codeIn K cd3 "_law_columns" = true)
    (k3 : PySem.W.keepIn K (.ref f3) = true)
    (a4 : PySem.W.nsIn K mainGlobals "_law_one" = some (some (.ref f4)))
    (l4 : K.lookup f4 = some ⟨oc4, od4, .func (PySem.W.fnOf "_law_one" "_law_one" (defArgs s_law_one) (defBody s_law_one) (defScope s_law_one) .none kV4 dc4 pm4 an4 cd4 ct4), sl4⟩)
    (c4 : PySem.W.codeIn K cd4 "_law_one" = true)
    (k4 : PySem.W.keepIn K (.ref f4) = true)
    (a5 : PySem.W.nsIn K mainGlobals "_law_value" = some (some (.ref f5)))
    (l5 : K.lookup f5 = some ⟨oc5, od5, .func (PySem.W.fnOf "_law_value" "_law_value" (defArgs s_law_value) (defBody s_law_value) (defScope s_law_value) .none kV5 dc5 pm5 an5 cd5 ct5), sl5⟩)
    (c5 : PySem.W.codeIn K cd5 "_law_value" = true)
    (k5 : PySem.W.keepIn K (.ref f5) = true)
    (a6 : PySem.W.nsIn K mainGlobals "_law_row" = some (some (.ref f6)))
    (l6 : K.lookup f6 = some ⟨oc6, od6, .func (PySem.W.fnOf "_law_row" "_law_row" (defArgs s_law_row) (defBody s_law_row) (defScope s_law_row) .none kV6 dc6 pm6 an6 cd6 ct6), sl6⟩)
    (c6 : PySem.W.codeIn K cd6 "_law_row" = true)
    (k6 : PySem.W.keepIn K (.ref f6) = true)
    (a7 : PySem.W.nsIn K mainGlobals "_law_table" = some (some (.ref f7)))
    (l7 : K.lookup f7 = some ⟨oc7, od7, .func (PySem.W.fnOf "_law_table" "_law_table" (defArgs s_law_table) (defBody s_law_table) (defScope s_law_table) .none kV7 dc7 pm7 an7 cd7 ct7), sl7⟩)
    (c7 : PySem.W.codeIn K cd7 "_law_table" = true)
    (k7 : PySem.W.keepIn K (.ref f7) = true)
    (a8 : PySem.W.nsIn K mainGlobals "_law_rule" = some (some (.ref f8)))
    (l8 : K.lookup f8 = some ⟨oc8, od8, .func (PySem.W.fnOf "_law_rule" "_law_rule" (defArgs s_law_rule) (defBody s_law_rule) (defScope s_law_rule) .none kV8 dc8 pm8 an8 cd8 ct8), sl8⟩)
    (c8 : PySem.W.codeIn K cd8 "_law_rule" = true)
    (k8 : PySem.W.keepIn K (.ref f8) = true)
    (a9 : PySem.W.nsIn K mainGlobals "_law_case" = some (some (.ref f9)))
    (l9 : K.lookup f9 = some ⟨oc9, od9, .func (PySem.W.fnOf "_law_case" "_law_case" (defArgs s_law_case) (defBody s_law_case) (defScope s_law_case) .none kV9 dc9 pm9 an9 cd9 ct9), sl9⟩)
    (c9 : PySem.W.codeIn K cd9 "_law_case" = true)
    (k9 : PySem.W.keepIn K (.ref f9) = true)
    (a10 : PySem.W.nsIn K mainGlobals "_law_matches" = some (some (.ref f10)))
    (l10 : K.lookup f10 = some ⟨oc10, od10, .func (PySem.W.fnOf "_law_matches" "_law_matches" (defArgs s_law_matches) (defBody s_law_matches) (defScope s_law_matches) .none kV10 dc10 pm10 an10 cd10 ct10), sl10⟩)
    (c10 : PySem.W.codeIn K cd10 "_law_matches" = true)
    (k10 : PySem.W.keepIn K (.ref f10) = true)
    (a11 : PySem.W.nsIn K mainGlobals "_law_rule_breaks" = some (some (.ref f11)))
    (l11 : K.lookup f11 = some ⟨oc11, od11, .func (PySem.W.fnOf "_law_rule_breaks" "_law_rule_breaks" (defArgs s_law_rule_breaks) (defBody s_law_rule_breaks) (defScope s_law_rule_breaks) .none kV11 dc11 pm11 an11 cd11 ct11), sl11⟩)
    (c11 : PySem.W.codeIn K cd11 "_law_rule_breaks" = true)
    (k11 : PySem.W.keepIn K (.ref f11) = true)
    (a12 : PySem.W.nsIn K mainGlobals "_law_breaks" = some (some (.ref f12)))
    (l12 : K.lookup f12 = some ⟨oc12, od12, .func (PySem.W.fnOf "_law_breaks" "_law_breaks" (defArgs s_law_breaks) (defBody s_law_breaks) (defScope s_law_breaks) .none kV12 dc12 pm12 an12 cd12 ct12), sl12⟩)
    (c12 : PySem.W.codeIn K cd12 "_law_breaks" = true)
    (k12 : PySem.W.keepIn K (.ref f12) = true)
    (a13 : PySem.W.nsIn K mainGlobals "_law_kept_case" = some (some (.ref f13)))
    (l13 : K.lookup f13 = some ⟨oc13, od13, .func (PySem.W.fnOf "_law_kept_case" "_law_kept_case" (defArgs s_law_kept_case) (defBody s_law_kept_case) (defScope s_law_kept_case) .none kV13 dc13 pm13 an13 cd13 ct13), sl13⟩)
    (c13 : PySem.W.codeIn K cd13 "_law_kept_case" = true)
    (k13 : PySem.W.keepIn K (.ref f13) = true)
    (a14 : PySem.W.nsIn K mainGlobals "_law_anew" = some (some (.ref f14)))
    (l14 : K.lookup f14 = some ⟨oc14, od14, .func (PySem.W.fnOf "_law_anew" "_law_anew" (defArgs s_law_anew) (defBody s_law_anew) (defScope s_law_anew) .none kV14 dc14 pm14 an14 cd14 ct14), sl14⟩)
    (c14 : PySem.W.codeIn K cd14 "_law_anew" = true)
    (k14 : PySem.W.keepIn K (.ref f14) = true)
    (a15 : PySem.W.nsIn K mainGlobals "is_integer" = some (some (.ref f15)))
    (l15 : K.lookup f15 = some ⟨oc15, od15, .func (PySem.W.fnOf "is_integer" "is_integer" (defArgs s_is_integer) (defBody s_is_integer) (defScope s_is_integer) .none kV15 dc15 pm15 an15 cd15 ct15), sl15⟩)
    (c15 : PySem.W.codeIn K cd15 "is_integer" = true)
    (k15 : PySem.W.keepIn K (.ref f15) = true)
    (a16 : PySem.W.nsIn K mainGlobals "is_closed" = some (some (.ref f16)))
    (l16 : K.lookup f16 = some ⟨oc16, od16, .func (PySem.W.fnOf "is_closed" "is_closed" (defArgs s_is_closed) (defBody s_is_closed) (defScope s_is_closed) .none kV16 dc16 pm16 an16 cd16 ct16), sl16⟩)
    (c16 : PySem.W.codeIn K cd16 "is_closed" = true)
    (k16 : PySem.W.keepIn K (.ref f16) = true)
    (a17 : PySem.W.nsIn K mainGlobals "is_columns" = some (some (.ref f17)))
    (l17 : K.lookup f17 = some ⟨oc17, od17, .func (PySem.W.fnOf "is_columns" "is_columns" (defArgs s_is_columns) (defBody s_is_columns) (defScope s_is_columns) .none kV17 dc17 pm17 an17 cd17 ct17), sl17⟩)
    (c17 : PySem.W.codeIn K cd17 "is_columns" = true)
    (k17 : PySem.W.keepIn K (.ref f17) = true)
    (a18 : PySem.W.nsIn K mainGlobals "check_columns" = some (some (.ref f18)))
    (l18 : K.lookup f18 = some ⟨oc18, od18, .func (PySem.W.fnOf "check_columns" "check_columns" (defArgs s_check_columns) (defBody s_check_columns) (defScope s_check_columns) .none kV18 dc18 pm18 an18 cd18 ct18), sl18⟩)
    (c18 : PySem.W.codeIn K cd18 "check_columns" = true)
    (k18 : PySem.W.keepIn K (.ref f18) = true)
    (a19 : PySem.W.nsIn K mainGlobals "is_value_of" = some (some (.ref f19)))
    (l19 : K.lookup f19 = some ⟨oc19, od19, .func (PySem.W.fnOf "is_value_of" "is_value_of" (defArgs s_is_value_of) (defBody s_is_value_of) (defScope s_is_value_of) .none kV19 dc19 pm19 an19 cd19 ct19), sl19⟩)
    (c19 : PySem.W.codeIn K cd19 "is_value_of" = true)
    (k19 : PySem.W.keepIn K (.ref f19) = true)
    (a20 : PySem.W.nsIn K mainGlobals "is_number" = some (some (.ref f20)))
    (l20 : K.lookup f20 = some ⟨oc20, od20, .func (PySem.W.fnOf "is_number" "is_number" (defArgs s_is_number) (defBody s_is_number) (defScope s_is_number) .none kV20 dc20 pm20 an20 cd20 ct20), sl20⟩)
    (c20 : PySem.W.codeIn K cd20 "is_number" = true)
    (k20 : PySem.W.keepIn K (.ref f20) = true)
    (a21 : PySem.W.nsIn K mainGlobals "entry_is_right" = some (some (.ref f21)))
    (l21 : K.lookup f21 = some ⟨oc21, od21, .func (PySem.W.fnOf "entry_is_right" "entry_is_right" (defArgs s_entry_is_right) (defBody s_entry_is_right) (defScope s_entry_is_right) .none kV21 dc21 pm21 an21 cd21 ct21), sl21⟩)
    (c21 : PySem.W.codeIn K cd21 "entry_is_right" = true)
    (k21 : PySem.W.keepIn K (.ref f21) = true)
    (a22 : PySem.W.nsIn K mainGlobals "given_is_right" = some (some (.ref f22)))
    (l22 : K.lookup f22 = some ⟨oc22, od22, .func (PySem.W.fnOf "given_is_right" "given_is_right" (defArgs s_given_is_right) (defBody s_given_is_right) (defScope s_given_is_right) .none kV22 dc22 pm22 an22 cd22 ct22), sl22⟩)
    (c22 : PySem.W.codeIn K cd22 "given_is_right" = true)
    (k22 : PySem.W.keepIn K (.ref f22) = true)
    (a23 : PySem.W.nsIn K mainGlobals "rule_is_right" = some (some (.ref f23)))
    (l23 : K.lookup f23 = some ⟨oc23, od23, .func (PySem.W.fnOf "rule_is_right" "rule_is_right" (defArgs s_rule_is_right) (defBody s_rule_is_right) (defScope s_rule_is_right) .none kV23 dc23 pm23 an23 cd23 ct23), sl23⟩)
    (c23 : PySem.W.codeIn K cd23 "rule_is_right" = true)
    (k23 : PySem.W.keepIn K (.ref f23) = true)
    (a24 : PySem.W.nsIn K mainGlobals "rules_are_right" = some (some (.ref f24)))
    (l24 : K.lookup f24 = some ⟨oc24, od24, .func (PySem.W.fnOf "rules_are_right" "rules_are_right" (defArgs s_rules_are_right) (defBody s_rules_are_right) (defScope s_rules_are_right) .none kV24 dc24 pm24 an24 cd24 ct24), sl24⟩)
    (c24 : PySem.W.codeIn K cd24 "rules_are_right" = true)
    (k24 : PySem.W.keepIn K (.ref f24) = true)
    (a25 : PySem.W.nsIn K mainGlobals "check_rules" = some (some (.ref f25)))
    (l25 : K.lookup f25 = some ⟨oc25, od25, .func (PySem.W.fnOf "check_rules" "check_rules" (defArgs s_check_rules) (defBody s_check_rules) (defScope s_check_rules) .none kV25 dc25 pm25 an25 cd25 ct25), sl25⟩)
    (c25 : PySem.W.codeIn K cd25 "check_rules" = true)
    (k25 : PySem.W.keepIn K (.ref f25) = true)
    (a26 : PySem.W.nsIn K mainGlobals "row_is_right" = some (some (.ref f26)))
    (l26 : K.lookup f26 = some ⟨oc26, od26, .func (PySem.W.fnOf "row_is_right" "row_is_right" (defArgs s_row_is_right) (defBody s_row_is_right) (defScope s_row_is_right) .none kV26 dc26 pm26 an26 cd26 ct26), sl26⟩)
    (c26 : PySem.W.codeIn K cd26 "row_is_right" = true)
    (k26 : PySem.W.keepIn K (.ref f26) = true)
    (a27 : PySem.W.nsIn K mainGlobals "table_is_right" = some (some (.ref f27)))
    (l27 : K.lookup f27 = some ⟨oc27, od27, .func (PySem.W.fnOf "table_is_right" "table_is_right" (defArgs s_table_is_right) (defBody s_table_is_right) (defScope s_table_is_right) .none kV27 dc27 pm27 an27 cd27 ct27), sl27⟩)
    (c27 : PySem.W.codeIn K cd27 "table_is_right" = true)
    (k27 : PySem.W.keepIn K (.ref f27) = true)
    (a28 : PySem.W.nsIn K mainGlobals "check_table" = some (some (.ref f28)))
    (l28 : K.lookup f28 = some ⟨oc28, od28, .func (PySem.W.fnOf "check_table" "check_table" (defArgs s_check_table) (defBody s_check_table) (defScope s_check_table) .none kV28 dc28 pm28 an28 cd28 ct28), sl28⟩)
    (c28 : PySem.W.codeIn K cd28 "check_table" = true)
    (k28 : PySem.W.keepIn K (.ref f28) = true)
    (a29 : PySem.W.nsIn K mainGlobals "check_master_row" = some (some (.ref f29)))
    (l29 : K.lookup f29 = some ⟨oc29, od29, .func (PySem.W.fnOf "check_master_row" "check_master_row" (defArgs s_check_master_row) (defBody s_check_master_row) (defScope s_check_master_row) .none kV29 dc29 pm29 an29 cd29 ct29), sl29⟩)
    (c29 : PySem.W.codeIn K cd29 "check_master_row" = true)
    (k29 : PySem.W.keepIn K (.ref f29) = true)
    (a30 : PySem.W.nsIn K mainGlobals "is_ascending" = some (some (.ref f30)))
    (l30 : K.lookup f30 = some ⟨oc30, od30, .func (PySem.W.fnOf "is_ascending" "is_ascending" (defArgs s_is_ascending) (defBody s_is_ascending) (defScope s_is_ascending) .none kV30 dc30 pm30 an30 cd30 ct30), sl30⟩)
    (c30 : PySem.W.codeIn K cd30 "is_ascending" = true)
    (k30 : PySem.W.keepIn K (.ref f30) = true)
    (a31 : PySem.W.nsIn K mainGlobals "is_column_set" = some (some (.ref f31)))
    (l31 : K.lookup f31 = some ⟨oc31, od31, .func (PySem.W.fnOf "is_column_set" "is_column_set" (defArgs s_is_column_set) (defBody s_is_column_set) (defScope s_is_column_set) .none kV31 dc31 pm31 an31 cd31 ct31), sl31⟩)
    (c31 : PySem.W.codeIn K cd31 "is_column_set" = true)
    (k31 : PySem.W.keepIn K (.ref f31) = true)
    (a32 : PySem.W.nsIn K mainGlobals "check_settled" = some (some (.ref f32)))
    (l32 : K.lookup f32 = some ⟨oc32, od32, .func (PySem.W.fnOf "check_settled" "check_settled" (defArgs s_check_settled) (defBody s_check_settled) (defScope s_check_settled) .none kV32 dc32 pm32 an32 cd32 ct32), sl32⟩)
    (c32 : PySem.W.codeIn K cd32 "check_settled" = true)
    (k32 : PySem.W.keepIn K (.ref f32) = true)
    (a33 : PySem.W.nsIn K mainGlobals "is_value_rule" = some (some (.ref f33)))
    (l33 : K.lookup f33 = some ⟨oc33, od33, .func (PySem.W.fnOf "is_value_rule" "is_value_rule" (defArgs s_is_value_rule) (defBody s_is_value_rule) (defScope s_is_value_rule) .none kV33 dc33 pm33 an33 cd33 ct33), sl33⟩)
    (c33 : PySem.W.codeIn K cd33 "is_value_rule" = true)
    (k33 : PySem.W.keepIn K (.ref f33) = true)
    (a34 : PySem.W.nsIn K mainGlobals "has_given" = some (some (.ref f34)))
    (l34 : K.lookup f34 = some ⟨oc34, od34, .func (PySem.W.fnOf "has_given" "has_given" (defArgs s_has_given) (defBody s_has_given) (defScope s_has_given) .none kV34 dc34 pm34 an34 cd34 ct34), sl34⟩)
    (c34 : PySem.W.codeIn K cd34 "has_given" = true)
    (k34 : PySem.W.keepIn K (.ref f34) = true)
    (a35 : PySem.W.nsIn K mainGlobals "are_alike" = some (some (.ref f35)))
    (l35 : K.lookup f35 = some ⟨oc35, od35, .func (PySem.W.fnOf "are_alike" "are_alike" (defArgs s_are_alike) (defBody s_are_alike) (defScope s_are_alike) .none kV35 dc35 pm35 an35 cd35 ct35), sl35⟩)
    (c35 : PySem.W.codeIn K cd35 "are_alike" = true)
    (k35 : PySem.W.keepIn K (.ref f35) = true)
    (a36 : PySem.W.nsIn K mainGlobals "broken_pairs" = some (some (.ref f36)))
    (l36 : K.lookup f36 = some ⟨oc36, od36, .func (PySem.W.fnOf "broken_pairs" "broken_pairs" (defArgs s_broken_pairs) (defBody s_broken_pairs) (defScope s_broken_pairs) .none kV36 dc36 pm36 an36 cd36 ct36), sl36⟩)
    (c36 : PySem.W.codeIn K cd36 "broken_pairs" = true)
    (k36 : PySem.W.keepIn K (.ref f36) = true)
    (a37 : PySem.W.nsIn K mainGlobals "broken_singles" = some (some (.ref f37)))
    (l37 : K.lookup f37 = some ⟨oc37, od37, .func (PySem.W.fnOf "broken_singles" "broken_singles" (defArgs s_broken_singles) (defBody s_broken_singles) (defScope s_broken_singles) .none kV37 dc37 pm37 an37 cd37 ct37), sl37⟩)
    (c37 : PySem.W.codeIn K cd37 "broken_singles" = true)
    (k37 : PySem.W.keepIn K (.ref f37) = true)
    (a38 : PySem.W.nsIn K mainGlobals "broken_rows" = some (some (.ref f38)))
    (l38 : K.lookup f38 = some ⟨oc38, od38, .func (PySem.W.fnOf "broken_rows" "broken_rows" (defArgs s_broken_rows) (defBody s_broken_rows) (defScope s_broken_rows) .none kV38 dc38 pm38 an38 cd38 ct38), sl38⟩)
    (c38 : PySem.W.codeIn K cd38 "broken_rows" = true)
    (k38 : PySem.W.keepIn K (.ref f38) = true)
    (a39 : PySem.W.nsIn K mainGlobals "list_breaks" = some (some (.ref f39)))
    (l39 : K.lookup f39 = some ⟨oc39, od39, .func (PySem.W.fnOf "list_breaks" "list_breaks" (defArgs s_list_breaks) (defBody s_list_breaks) (defScope s_list_breaks) .none kV39 dc39 pm39 an39 cd39 ct39), sl39⟩)
    (c39 : PySem.W.codeIn K cd39 "list_breaks" = true)
    (k39 : PySem.W.keepIn K (.ref f39) = true)
    (a40 : PySem.W.nsIn K mainGlobals "check_unbroken" = some (some (.ref f40)))
    (l40 : K.lookup f40 = some ⟨oc40, od40, .func (PySem.W.fnOf "check_unbroken" "check_unbroken" (defArgs s_check_unbroken) (defBody s_check_unbroken) (defScope s_check_unbroken) .none kV40 dc40 pm40 an40 cd40 ct40), sl40⟩)
    (c40 : PySem.W.codeIn K cd40 "check_unbroken" = true)
    (k40 : PySem.W.keepIn K (.ref f40) = true)
    (a41 : PySem.W.nsIn K mainGlobals "has_all_of" = some (some (.ref f41)))
    (l41 : K.lookup f41 = some ⟨oc41, od41, .func (PySem.W.fnOf "has_all_of" "has_all_of" (defArgs s_has_all_of) (defBody s_has_all_of) (defScope s_has_all_of) .none kV41 dc41 pm41 an41 cd41 ct41), sl41⟩)
    (c41 : PySem.W.codeIn K cd41 "has_all_of" = true)
    (k41 : PySem.W.keepIn K (.ref f41) = true)
    (a42 : PySem.W.nsIn K mainGlobals "settling_values" = some (some (.ref f42)))
    (l42 : K.lookup f42 = some ⟨oc42, od42, .func (PySem.W.fnOf "settling_values" "settling_values" (defArgs s_settling_values) (defBody s_settling_values) (defScope s_settling_values) .none kV42 dc42 pm42 an42 cd42 ct42), sl42⟩)
    (c42 : PySem.W.codeIn K cd42 "settling_values" = true)
    (k42 : PySem.W.keepIn K (.ref f42) = true)
    (a43 : PySem.W.nsIn K mainGlobals "possible_steps" = some (some (.ref f43)))
    (l43 : K.lookup f43 = some ⟨oc43, od43, .func (PySem.W.fnOf "possible_steps" "possible_steps" (defArgs s_possible_steps) (defBody s_possible_steps) (defScope s_possible_steps) .none kV43 dc43 pm43 an43 cd43 ct43), sl43⟩)
    (c43 : PySem.W.codeIn K cd43 "possible_steps" = true)
    (k43 : PySem.W.keepIn K (.ref f43) = true)
    (a44 : PySem.W.nsIn K mainGlobals "with_item" = some (some (.ref f44)))
    (l44 : K.lookup f44 = some ⟨oc44, od44, .func (PySem.W.fnOf "with_item" "with_item" (defArgs s_with_item) (defBody s_with_item) (defScope s_with_item) .none kV44 dc44 pm44 an44 cd44 ct44), sl44⟩)
    (c44 : PySem.W.codeIn K cd44 "with_item" = true)
    (k44 : PySem.W.keepIn K (.ref f44) = true)
    (a45 : PySem.W.nsIn K mainGlobals "after_step" = some (some (.ref f45)))
    (l45 : K.lookup f45 = some ⟨oc45, od45, .func (PySem.W.fnOf "after_step" "after_step" (defArgs s_after_step) (defBody s_after_step) (defScope s_after_step) .none kV45 dc45 pm45 an45 cd45 ct45), sl45⟩)
    (c45 : PySem.W.codeIn K cd45 "after_step" = true)
    (k45 : PySem.W.keepIn K (.ref f45) = true)
    (a46 : PySem.W.nsIn K mainGlobals "finish" = some (some (.ref f46)))
    (l46 : K.lookup f46 = some ⟨oc46, od46, .func (PySem.W.fnOf "finish" "finish" (defArgs s_finish) (defBody s_finish) (defScope s_finish) .none kV46 dc46 pm46 an46 cd46 ct46), sl46⟩)
    (c46 : PySem.W.codeIn K cd46 "finish" = true)
    (k46 : PySem.W.keepIn K (.ref f46) = true)
    (a47 : PySem.W.nsIn K mainGlobals "stop" = some (some (.ref f47)))
    (l47 : K.lookup f47 = some ⟨oc47, od47, .func (PySem.W.fnOf "stop" "stop" (defArgs s_stop) (defBody s_stop) (defScope s_stop) .none kV47 dc47 pm47 an47 cd47 ct47), sl47⟩)
    (c47 : PySem.W.codeIn K cd47 "stop" = true)
    (k47 : PySem.W.keepIn K (.ref f47) = true)
    (a48 : PySem.W.nsIn K mainGlobals "_law_values" = some (some (.ref f48)))
    (l48 : K.lookup f48 = some ⟨oc48, od48, .func (PySem.W.fnOf "_law_values" "_law_values" (defArgs s_law_values) (defBody s_law_values) (defScope s_law_values) .none kV48 dc48 pm48 an48 cd48 ct48), sl48⟩)
    (c48 : PySem.W.codeIn K cd48 "_law_values" = true)
    (k48 : PySem.W.keepIn K (.ref f48) = true)
    (a49 : PySem.W.nsIn K mainGlobals "_law_steps" = some (some (.ref f49)))
    (l49 : K.lookup f49 = some ⟨oc49, od49, .func (PySem.W.fnOf "_law_steps" "_law_steps" (defArgs s_law_steps) (defBody s_law_steps) (defScope s_law_steps) .none kV49 dc49 pm49 an49 cd49 ct49), sl49⟩)
    (c49 : PySem.W.codeIn K cd49 "_law_steps" = true)
    (k49 : PySem.W.keepIn K (.ref f49) = true)
    (a50 : PySem.W.nsIn K mainGlobals "_law_behind" = some (some (.ref f50)))
    (l50 : K.lookup f50 = some ⟨oc50, od50, .func (PySem.W.fnOf "_law_behind" "_law_behind" (defArgs s_law_behind) (defBody s_law_behind) (defScope s_law_behind) .none kV50 dc50 pm50 an50 cd50 ct50), sl50⟩)
    (c50 : PySem.W.codeIn K cd50 "_law_behind" = true)
    (k50 : PySem.W.keepIn K (.ref f50) = true)
    (a51 : PySem.W.nsIn K mainGlobals "_law_stops" = some (some (.ref f51)))
    (l51 : K.lookup f51 = some ⟨oc51, od51, .func (PySem.W.fnOf "_law_stops" "_law_stops" (defArgs s_law_stops) (defBody s_law_stops) (defScope s_law_stops) .none kV51 dc51 pm51 an51 cd51 ct51), sl51⟩)
    (c51 : PySem.W.codeIn K cd51 "_law_stops" = true)
    (k51 : PySem.W.keepIn K (.ref f51) = true)
    (a52 : PySem.W.nsIn K mainGlobals "_law_is_run" = some (some (.ref f52)))
    (l52 : K.lookup f52 = some ⟨oc52, od52, .func (PySem.W.fnOf "_law_is_run" "_law_is_run" (defArgs s_law_is_run) (defBody s_law_is_run) (defScope s_law_is_run) .none kV52 dc52 pm52 an52 cd52 ct52), sl52⟩)
    (c52 : PySem.W.codeIn K cd52 "_law_is_run" = true)
    (k52 : PySem.W.keepIn K (.ref f52) = true)
    (a53 : PySem.W.nsIn K mainGlobals "_law_is_stop" = some (some (.ref f53)))
    (l53 : K.lookup f53 = some ⟨oc53, od53, .func (PySem.W.fnOf "_law_is_stop" "_law_is_stop" (defArgs s_law_is_stop) (defBody s_law_is_stop) (defScope s_law_is_stop) .none kV53 dc53 pm53 an53 cd53 ct53), sl53⟩)
    (c53 : PySem.W.codeIn K cd53 "_law_is_stop" = true)
    (k53 : PySem.W.keepIn K (.ref f53) = true)
    (a54 : PySem.W.nsIn K mainGlobals "law" = some (some (.ref f54)))
    (l54 : K.lookup f54 = some ⟨oc54, od54, .func (PySem.W.fnOf "law" "law" (defArgs s_law) (defBody s_law) (defScope s_law) .none kV54 dc54 pm54 an54 cd54 ct54), sl54⟩)
    (c54 : PySem.W.codeIn K cd54 "law" = true)
    (k54 : PySem.W.keepIn K (.ref f54) = true)
    (z_all : PySem.W.nsIn K mainGlobals "all" = some none)
    (z_bool : PySem.W.nsIn K mainGlobals "bool" = some none)
    (z_enumerate : PySem.W.nsIn K mainGlobals "enumerate" = some none)
    (z_int : PySem.W.nsIn K mainGlobals "int" = some none)
    (z_isinstance : PySem.W.nsIn K mainGlobals "isinstance" = some none)
    (z_len : PySem.W.nsIn K mainGlobals "len" = some none)
    (z_list : PySem.W.nsIn K mainGlobals "list" = some none)
    (z_range : PySem.W.nsIn K mainGlobals "range" = some none)
    (z_repr : PySem.W.nsIn K mainGlobals "repr" = some none)
    (z_set : PySem.W.nsIn K mainGlobals "set" = some none)
    (z_sorted : PySem.W.nsIn K mainGlobals "sorted" = some none)
    (z_tuple : PySem.W.nsIn K mainGlobals "tuple" = some none)
    (z_zip : PySem.W.nsIn K mainGlobals "zip" = some none)
    (m_MOST_CLOSED : PySem.W.nsIn K mainGlobals "MOST_CLOSED" = some (some (.int 2 t_MOST_CLOSED)))
    (m_MOST_COLUMNS : PySem.W.nsIn K mainGlobals "MOST_COLUMNS" = some (some (.int 4 t_MOST_COLUMNS)))
    (m_MOST_ROWS : PySem.W.nsIn K mainGlobals "MOST_ROWS" = some (some (.int 8 t_MOST_ROWS)))
    (m_MOST_RULES : PySem.W.nsIn K mainGlobals "MOST_RULES" = some (some (.int 8 t_MOST_RULES)))
    (m_MOST_VALUES : PySem.W.nsIn K mainGlobals "MOST_VALUES" = some (some (.int 3 t_MOST_VALUES)))
    (g_InvalidColumns : PySem.W.nsIn K mainGlobals "InvalidColumns" = some (some (.ref A_InvalidColumns)))
    (h_InvalidColumns : PySem.W.hasDictIn K A_InvalidColumns = true)
    (y_InvalidColumns : PySem.W.typeIn K (.ref A_InvalidColumns) = some (.type "type"))
    (g_InvalidNumber : PySem.W.nsIn K mainGlobals "InvalidNumber" = some (some (.ref A_InvalidNumber)))
    (h_InvalidNumber : PySem.W.hasDictIn K A_InvalidNumber = true)
    (y_InvalidNumber : PySem.W.typeIn K (.ref A_InvalidNumber) = some (.type "type"))
    (g_InvalidRules : PySem.W.nsIn K mainGlobals "InvalidRules" = some (some (.ref A_InvalidRules)))
    (h_InvalidRules : PySem.W.hasDictIn K A_InvalidRules = true)
    (y_InvalidRules : PySem.W.typeIn K (.ref A_InvalidRules) = some (.type "type"))
    (g_InvalidSettled : PySem.W.nsIn K mainGlobals "InvalidSettled" = some (some (.ref A_InvalidSettled)))
    (h_InvalidSettled : PySem.W.hasDictIn K A_InvalidSettled = true)
    (y_InvalidSettled : PySem.W.typeIn K (.ref A_InvalidSettled) = some (.type "type"))
    (g_InvalidTable : PySem.W.nsIn K mainGlobals "InvalidTable" = some (some (.ref A_InvalidTable)))
    (h_InvalidTable : PySem.W.hasDictIn K A_InvalidTable = true)
    (y_InvalidTable : PySem.W.typeIn K (.ref A_InvalidTable) = some (.type "type"))
    (e_get : PySem.W.specialIn K (.builtin "object.__class__") "__get__" = some (some (.builtin "getset_descriptor.__get__")))
    (e_tk : PySem.W.takesIn K (.builtin "object.__class__") = some true)
    (k_InvalidColumns : PySem.W.keepIn K (.ref A_InvalidColumns) = true)
    (x_InvalidColumns : PySem.W.excIn K A_InvalidColumns [.type "ValueError", .type "Exception", .type "BaseException", .type "object"] "ValueError.__new__" = true)
    (s_InvalidColumns : PySem.W.subIn K (.ref A_InvalidColumns) (.type "BaseException") = some true)
    (q_InvalidColumns : PySem.W.findIn K (.ref A_InvalidColumns) "__getattribute__" = some (some (.builtin "BaseException.__getattribute__")))
    (r_InvalidColumns : PySem.W.findIn K (.ref A_InvalidColumns) "__getattr__" = some none)
    (p_InvalidColumns : PySem.W.findIn K (.ref A_InvalidColumns) "__class__" = some (some (.builtin "object.__class__")))
    (o_InvalidColumns : PySem.W.mroIn K A_InvalidColumns (.type "object") = some true)
    (u_InvalidColumns_InvalidColumns : PySem.W.subIn K (.ref A_InvalidColumns) (.ref A_InvalidColumns) = some true)
    (k_InvalidNumber : PySem.W.keepIn K (.ref A_InvalidNumber) = true)
    (x_InvalidNumber : PySem.W.excIn K A_InvalidNumber [.type "ValueError", .type "Exception", .type "BaseException", .type "object"] "ValueError.__new__" = true)
    (s_InvalidNumber : PySem.W.subIn K (.ref A_InvalidNumber) (.type "BaseException") = some true)
    (q_InvalidNumber : PySem.W.findIn K (.ref A_InvalidNumber) "__getattribute__" = some (some (.builtin "BaseException.__getattribute__")))
    (r_InvalidNumber : PySem.W.findIn K (.ref A_InvalidNumber) "__getattr__" = some none)
    (p_InvalidNumber : PySem.W.findIn K (.ref A_InvalidNumber) "__class__" = some (some (.builtin "object.__class__")))
    (o_InvalidNumber : PySem.W.mroIn K A_InvalidNumber (.type "object") = some true)
    (u_InvalidNumber_InvalidNumber : PySem.W.subIn K (.ref A_InvalidNumber) (.ref A_InvalidNumber) = some true)
    (k_InvalidRules : PySem.W.keepIn K (.ref A_InvalidRules) = true)
    (x_InvalidRules : PySem.W.excIn K A_InvalidRules [.type "ValueError", .type "Exception", .type "BaseException", .type "object"] "ValueError.__new__" = true)
    (s_InvalidRules : PySem.W.subIn K (.ref A_InvalidRules) (.type "BaseException") = some true)
    (q_InvalidRules : PySem.W.findIn K (.ref A_InvalidRules) "__getattribute__" = some (some (.builtin "BaseException.__getattribute__")))
    (r_InvalidRules : PySem.W.findIn K (.ref A_InvalidRules) "__getattr__" = some none)
    (p_InvalidRules : PySem.W.findIn K (.ref A_InvalidRules) "__class__" = some (some (.builtin "object.__class__")))
    (o_InvalidRules : PySem.W.mroIn K A_InvalidRules (.type "object") = some true)
    (u_InvalidRules_InvalidRules : PySem.W.subIn K (.ref A_InvalidRules) (.ref A_InvalidRules) = some true)
    (k_InvalidSettled : PySem.W.keepIn K (.ref A_InvalidSettled) = true)
    (x_InvalidSettled : PySem.W.excIn K A_InvalidSettled [.type "ValueError", .type "Exception", .type "BaseException", .type "object"] "ValueError.__new__" = true)
    (s_InvalidSettled : PySem.W.subIn K (.ref A_InvalidSettled) (.type "BaseException") = some true)
    (q_InvalidSettled : PySem.W.findIn K (.ref A_InvalidSettled) "__getattribute__" = some (some (.builtin "BaseException.__getattribute__")))
    (r_InvalidSettled : PySem.W.findIn K (.ref A_InvalidSettled) "__getattr__" = some none)
    (p_InvalidSettled : PySem.W.findIn K (.ref A_InvalidSettled) "__class__" = some (some (.builtin "object.__class__")))
    (o_InvalidSettled : PySem.W.mroIn K A_InvalidSettled (.type "object") = some true)
    (u_InvalidSettled_InvalidSettled : PySem.W.subIn K (.ref A_InvalidSettled) (.ref A_InvalidSettled) = some true)
    (k_InvalidTable : PySem.W.keepIn K (.ref A_InvalidTable) = true)
    (x_InvalidTable : PySem.W.excIn K A_InvalidTable [.type "ValueError", .type "Exception", .type "BaseException", .type "object"] "ValueError.__new__" = true)
    (s_InvalidTable : PySem.W.subIn K (.ref A_InvalidTable) (.type "BaseException") = some true)
    (q_InvalidTable : PySem.W.findIn K (.ref A_InvalidTable) "__getattribute__" = some (some (.builtin "BaseException.__getattribute__")))
    (r_InvalidTable : PySem.W.findIn K (.ref A_InvalidTable) "__getattr__" = some none)
    (p_InvalidTable : PySem.W.findIn K (.ref A_InvalidTable) "__class__" = some (some (.builtin "object.__class__")))
    (o_InvalidTable : PySem.W.mroIn K A_InvalidTable (.type "object") = some true)
    (u_InvalidTable_InvalidTable : PySem.W.subIn K (.ref A_InvalidTable) (.ref A_InvalidTable) = some true) :
    ∃ fd : FuncData, (∀ (s : Shared) (v : Value), BindsTo s fd ⟨[v], []⟩ [("_law_script", v)]) ∧ ∀ base : Heap, K.In base → base.Ns mainGlobals mg → FnG l.prog w K mg base 26 fa fd ["_law_script"] (spTrue K) := by
  have e := hfa.symm.trans (PySem.W.mg_of X G a54)
  cases e
  let A : Cls := ⟨A_InvalidColumns, A_InvalidNumber, A_InvalidRules, A_InvalidSettled, A_InvalidTable⟩
  have T : Txt K mg A := {
    z_all := PySem.W.mg_none_of X G z_all,
    z_bool := PySem.W.mg_none_of X G z_bool,
    z_enumerate := PySem.W.mg_none_of X G z_enumerate,
    z_int := PySem.W.mg_none_of X G z_int,
    z_isinstance := PySem.W.mg_none_of X G z_isinstance,
    z_len := PySem.W.mg_none_of X G z_len,
    z_list := PySem.W.mg_none_of X G z_list,
    z_range := PySem.W.mg_none_of X G z_range,
    z_repr := PySem.W.mg_none_of X G z_repr,
    z_set := PySem.W.mg_none_of X G z_set,
    z_sorted := PySem.W.mg_none_of X G z_sorted,
    z_tuple := PySem.W.mg_none_of X G z_tuple,
    z_zip := PySem.W.mg_none_of X G z_zip,
    c_MOST_CLOSED := ⟨t_MOST_CLOSED, PySem.W.mg_of X G m_MOST_CLOSED⟩,
    c_MOST_COLUMNS := ⟨t_MOST_COLUMNS, PySem.W.mg_of X G m_MOST_COLUMNS⟩,
    c_MOST_ROWS := ⟨t_MOST_ROWS, PySem.W.mg_of X G m_MOST_ROWS⟩,
    c_MOST_RULES := ⟨t_MOST_RULES, PySem.W.mg_of X G m_MOST_RULES⟩,
    c_MOST_VALUES := ⟨t_MOST_VALUES, PySem.W.mg_of X G m_MOST_VALUES⟩,
    g_InvalidColumns := PySem.W.mg_of X G g_InvalidColumns,
    g_InvalidNumber := PySem.W.mg_of X G g_InvalidNumber,
    g_InvalidRules := PySem.W.mg_of X G g_InvalidRules,
    g_InvalidSettled := PySem.W.mg_of X G g_InvalidSettled,
    g_InvalidTable := PySem.W.mg_of X G g_InvalidTable,
    k_InvalidColumns := k_InvalidColumns,
    x_InvalidColumns := x_InvalidColumns,
    s_InvalidColumns := s_InvalidColumns,
    t_InvalidColumns := y_InvalidColumns,
    e_InvalidColumns := ⟨q_InvalidColumns, r_InvalidColumns, s_InvalidColumns, h_InvalidColumns, p_InvalidColumns, e_get, e_tk, o_InvalidColumns⟩,
    k_InvalidNumber := k_InvalidNumber,
    x_InvalidNumber := x_InvalidNumber,
    s_InvalidNumber := s_InvalidNumber,
    t_InvalidNumber := y_InvalidNumber,
    e_InvalidNumber := ⟨q_InvalidNumber, r_InvalidNumber, s_InvalidNumber, h_InvalidNumber, p_InvalidNumber, e_get, e_tk, o_InvalidNumber⟩,
    k_InvalidRules := k_InvalidRules,
    x_InvalidRules := x_InvalidRules,
    s_InvalidRules := s_InvalidRules,
    t_InvalidRules := y_InvalidRules,
    e_InvalidRules := ⟨q_InvalidRules, r_InvalidRules, s_InvalidRules, h_InvalidRules, p_InvalidRules, e_get, e_tk, o_InvalidRules⟩,
    k_InvalidSettled := k_InvalidSettled,
    x_InvalidSettled := x_InvalidSettled,
    s_InvalidSettled := s_InvalidSettled,
    t_InvalidSettled := y_InvalidSettled,
    e_InvalidSettled := ⟨q_InvalidSettled, r_InvalidSettled, s_InvalidSettled, h_InvalidSettled, p_InvalidSettled, e_get, e_tk, o_InvalidSettled⟩,
    k_InvalidTable := k_InvalidTable,
    x_InvalidTable := x_InvalidTable,
    s_InvalidTable := s_InvalidTable,
    t_InvalidTable := y_InvalidTable,
    e_InvalidTable := ⟨q_InvalidTable, r_InvalidTable, s_InvalidTable, h_InvalidTable, p_InvalidTable, e_get, e_tk, o_InvalidTable⟩ }
  have G0 := fun_mk (st := s_law_open) l0 c0 k0
  have F_law_open : FunAt K mg "_law_open" s_law_open ["_law_script"] := ⟨_, _, G0, PySem.W.mg_of X G a0, G0.binds (ps := ["_law_script"]) fun _ _ _ _ _ _ us hl => match us, hl with | [_], _ => rfl⟩
  have G1 := fun_mk (st := s_law_spread) l1 c1 k1
  have F_law_spread : FunAt K mg "_law_spread" s_law_spread ["_law_cell", "_law_at"] := ⟨_, _, G1, PySem.W.mg_of X G a1, G1.binds (ps := ["_law_cell", "_law_at"]) fun _ _ _ _ _ _ us hl => match us, hl with | [_, _], _ => rfl⟩
  have G2 := fun_mk (st := s_law_take) l2 c2 k2
  have F_law_take : FunAt K mg "_law_take" s_law_take ["_law_pen", "_law_many"] := ⟨_, _, G2, PySem.W.mg_of X G a2, G2.binds (ps := ["_law_pen", "_law_many"]) fun _ _ _ _ _ _ us hl => match us, hl with | [_, _], _ => rfl⟩
  have G3 := fun_mk (st := s_law_columns) l3 c3 k3
  have F_law_columns : FunAt K mg "_law_columns" s_law_columns ["_law_pen", "_law_most"] := ⟨_, _, G3, PySem.W.mg_of X G a3, G3.binds (ps := ["_law_pen", "_law_most"]) fun _ _ _ _ _ _ us hl => match us, hl with | [_, _], _ => rfl⟩
  have G4 := fun_mk (st := s_law_one) l4 c4 k4
  have F_law_one : FunAt K mg "_law_one" s_law_one ["_law_pen", "_law_some"] := ⟨_, _, G4, PySem.W.mg_of X G a4, G4.binds (ps := ["_law_pen", "_law_some"]) fun _ _ _ _ _ _ us hl => match us, hl with | [_, _], _ => rfl⟩
  have G5 := fun_mk (st := s_law_value) l5 c5 k5
  have F_law_value : FunAt K mg "_law_value" s_law_value ["_law_pen", "_law_column"] := ⟨_, _, G5, PySem.W.mg_of X G a5, G5.binds (ps := ["_law_pen", "_law_column"]) fun _ _ _ _ _ _ us hl => match us, hl with | [_, _], _ => rfl⟩
  have G6 := fun_mk (st := s_law_row) l6 c6 k6
  have F_law_row : FunAt K mg "_law_row" s_law_row ["_law_pen", "_law_columns_here"] := ⟨_, _, G6, PySem.W.mg_of X G a6, G6.binds (ps := ["_law_pen", "_law_columns_here"]) fun _ _ _ _ _ _ us hl => match us, hl with | [_, _], _ => rfl⟩
  have G7 := fun_mk (st := s_law_table) l7 c7 k7
  have F_law_table : FunAt K mg "_law_table" s_law_table ["_law_pen", "_law_columns_here", "_law_many"] := ⟨_, _, G7, PySem.W.mg_of X G a7, G7.binds (ps := ["_law_pen", "_law_columns_here", "_law_many"]) fun _ _ _ _ _ _ us hl => match us, hl with | [_, _, _], _ => rfl⟩
  have G8 := fun_mk (st := s_law_rule) l8 c8 k8
  have F_law_rule : FunAt K mg "_law_rule" s_law_rule ["_law_pen", "_law_columns_here"] := ⟨_, _, G8, PySem.W.mg_of X G a8, G8.binds (ps := ["_law_pen", "_law_columns_here"]) fun _ _ _ _ _ _ us hl => match us, hl with | [_, _], _ => rfl⟩
  have G9 := fun_mk (st := s_law_case) l9 c9 k9
  have F_law_case : FunAt K mg "_law_case" s_law_case ["_law_pen"] := ⟨_, _, G9, PySem.W.mg_of X G a9, G9.binds (ps := ["_law_pen"]) fun _ _ _ _ _ _ us hl => match us, hl with | [_], _ => rfl⟩
  have G10 := fun_mk (st := s_law_matches) l10 c10 k10
  have F_law_matches : FunAt K mg "_law_matches" s_law_matches ["_law_given", "_law_row_here"] := ⟨_, _, G10, PySem.W.mg_of X G a10, G10.binds (ps := ["_law_given", "_law_row_here"]) fun _ _ _ _ _ _ us hl => match us, hl with | [_, _], _ => rfl⟩
  have G11 := fun_mk (st := s_law_rule_breaks) l11 c11 k11
  have F_law_rule_breaks : FunAt K mg "_law_rule_breaks" s_law_rule_breaks ["_law_rule_here", "_law_table_here"] := ⟨_, _, G11, PySem.W.mg_of X G a11, G11.binds (ps := ["_law_rule_here", "_law_table_here"]) fun _ _ _ _ _ _ us hl => match us, hl with | [_, _], _ => rfl⟩
  have G12 := fun_mk (st := s_law_breaks) l12 c12 k12
  have F_law_breaks : FunAt K mg "_law_breaks" s_law_breaks ["_law_rules", "_law_table_here"] := ⟨_, _, G12, PySem.W.mg_of X G a12, G12.binds (ps := ["_law_rules", "_law_table_here"]) fun _ _ _ _ _ _ us hl => match us, hl with | [_, _], _ => rfl⟩
  have G13 := fun_mk (st := s_law_kept_case) l13 c13 k13
  have F_law_kept_case : FunAt K mg "_law_kept_case" s_law_kept_case ["_law_pen"] := ⟨_, _, G13, PySem.W.mg_of X G a13, G13.binds (ps := ["_law_pen"]) fun _ _ _ _ _ _ us hl => match us, hl with | [_], _ => rfl⟩
  have G14 := fun_mk (st := s_law_anew) l14 c14 k14
  have F_law_anew : FunAt K mg "_law_anew" s_law_anew ["_law_pen"] := ⟨_, _, G14, PySem.W.mg_of X G a14, G14.binds (ps := ["_law_pen"]) fun _ _ _ _ _ _ us hl => match us, hl with | [_], _ => rfl⟩
  have G15 := fun_mk (st := s_is_integer) l15 c15 k15
  have F_is_integer : FunAt K mg "is_integer" s_is_integer ["value"] := ⟨_, _, G15, PySem.W.mg_of X G a15, G15.binds (ps := ["value"]) fun _ _ _ _ _ _ us hl => match us, hl with | [_], _ => rfl⟩
  have G16 := fun_mk (st := s_is_closed) l16 c16 k16
  have F_is_closed : FunAt K mg "is_closed" s_is_closed ["value"] := ⟨_, _, G16, PySem.W.mg_of X G a16, G16.binds (ps := ["value"]) fun _ _ _ _ _ _ us hl => match us, hl with | [_], _ => rfl⟩
  have G17 := fun_mk (st := s_is_columns) l17 c17 k17
  have F_is_columns : FunAt K mg "is_columns" s_is_columns ["value"] := ⟨_, _, G17, PySem.W.mg_of X G a17, G17.binds (ps := ["value"]) fun _ _ _ _ _ _ us hl => match us, hl with | [_], _ => rfl⟩
  have G18 := fun_mk (st := s_check_columns) l18 c18 k18
  have F_check_columns : FunAt K mg "check_columns" s_check_columns ["columns"] := ⟨_, _, G18, PySem.W.mg_of X G a18, G18.binds (ps := ["columns"]) fun _ _ _ _ _ _ us hl => match us, hl with | [_], _ => rfl⟩
  have G19 := fun_mk (st := s_is_value_of) l19 c19 k19
  have F_is_value_of : FunAt K mg "is_value_of" s_is_value_of ["column", "value"] := ⟨_, _, G19, PySem.W.mg_of X G a19, G19.binds (ps := ["column", "value"]) fun _ _ _ _ _ _ us hl => match us, hl with | [_, _], _ => rfl⟩
  have G20 := fun_mk (st := s_is_number) l20 c20 k20
  have F_is_number : FunAt K mg "is_number" s_is_number ["value", "limit"] := ⟨_, _, G20, PySem.W.mg_of X G a20, G20.binds (ps := ["value", "limit"]) fun _ _ _ _ _ _ us hl => match us, hl with | [_, _], _ => rfl⟩
  have G21 := fun_mk (st := s_entry_is_right) l21 c21 k21
  have F_entry_is_right : FunAt K mg "entry_is_right" s_entry_is_right ["columns", "value"] := ⟨_, _, G21, PySem.W.mg_of X G a21, G21.binds (ps := ["columns", "value"]) fun _ _ _ _ _ _ us hl => match us, hl with | [_, _], _ => rfl⟩
  have G22 := fun_mk (st := s_given_is_right) l22 c22 k22
  have F_given_is_right : FunAt K mg "given_is_right" s_given_is_right ["columns", "value"] := ⟨_, _, G22, PySem.W.mg_of X G a22, G22.binds (ps := ["columns", "value"]) fun _ _ _ _ _ _ us hl => match us, hl with | [_, _], _ => rfl⟩
  have G23 := fun_mk (st := s_rule_is_right) l23 c23 k23
  have F_rule_is_right : FunAt K mg "rule_is_right" s_rule_is_right ["columns", "value"] := ⟨_, _, G23, PySem.W.mg_of X G a23, G23.binds (ps := ["columns", "value"]) fun _ _ _ _ _ _ us hl => match us, hl with | [_, _], _ => rfl⟩
  have G24 := fun_mk (st := s_rules_are_right) l24 c24 k24
  have F_rules_are_right : FunAt K mg "rules_are_right" s_rules_are_right ["columns", "value"] := ⟨_, _, G24, PySem.W.mg_of X G a24, G24.binds (ps := ["columns", "value"]) fun _ _ _ _ _ _ us hl => match us, hl with | [_, _], _ => rfl⟩
  have G25 := fun_mk (st := s_check_rules) l25 c25 k25
  have F_check_rules : FunAt K mg "check_rules" s_check_rules ["columns", "rules"] := ⟨_, _, G25, PySem.W.mg_of X G a25, G25.binds (ps := ["columns", "rules"]) fun _ _ _ _ _ _ us hl => match us, hl with | [_, _], _ => rfl⟩
  have G26 := fun_mk (st := s_row_is_right) l26 c26 k26
  have F_row_is_right : FunAt K mg "row_is_right" s_row_is_right ["columns", "value"] := ⟨_, _, G26, PySem.W.mg_of X G a26, G26.binds (ps := ["columns", "value"]) fun _ _ _ _ _ _ us hl => match us, hl with | [_, _], _ => rfl⟩
  have G27 := fun_mk (st := s_table_is_right) l27 c27 k27
  have F_table_is_right : FunAt K mg "table_is_right" s_table_is_right ["columns", "value"] := ⟨_, _, G27, PySem.W.mg_of X G a27, G27.binds (ps := ["columns", "value"]) fun _ _ _ _ _ _ us hl => match us, hl with | [_, _], _ => rfl⟩
  have G28 := fun_mk (st := s_check_table) l28 c28 k28
  have F_check_table : FunAt K mg "check_table" s_check_table ["columns", "table"] := ⟨_, _, G28, PySem.W.mg_of X G a28, G28.binds (ps := ["columns", "table"]) fun _ _ _ _ _ _ us hl => match us, hl with | [_, _], _ => rfl⟩
  have G29 := fun_mk (st := s_check_master_row) l29 c29 k29
  have F_check_master_row : FunAt K mg "check_master_row" s_check_master_row ["columns", "rules", "master", "number"] := ⟨_, _, G29, PySem.W.mg_of X G a29, G29.binds (ps := ["columns", "rules", "master", "number"]) fun _ _ _ _ _ _ us hl => match us, hl with | [_, _, _, _], _ => rfl⟩
  have G30 := fun_mk (st := s_is_ascending) l30 c30 k30
  have F_is_ascending : FunAt K mg "is_ascending" s_is_ascending ["values"] := ⟨_, _, G30, PySem.W.mg_of X G a30, G30.binds (ps := ["values"]) fun _ _ _ _ _ _ us hl => match us, hl with | [_], _ => rfl⟩
  have G31 := fun_mk (st := s_is_column_set) l31 c31 k31
  have F_is_column_set : FunAt K mg "is_column_set" s_is_column_set ["columns", "value"] := ⟨_, _, G31, PySem.W.mg_of X G a31, G31.binds (ps := ["columns", "value"]) fun _ _ _ _ _ _ us hl => match us, hl with | [_, _], _ => rfl⟩
  have G32 := fun_mk (st := s_check_settled) l32 c32 k32
  have F_check_settled : FunAt K mg "check_settled" s_check_settled ["columns", "settled"] := ⟨_, _, G32, PySem.W.mg_of X G a32, G32.binds (ps := ["columns", "settled"]) fun _ _ _ _ _ _ us hl => match us, hl with | [_, _], _ => rfl⟩
  have G33 := fun_mk (st := s_is_value_rule) l33 c33 k33
  have F_is_value_rule : FunAt K mg "is_value_rule" s_is_value_rule ["rule"] := ⟨_, _, G33, PySem.W.mg_of X G a33, G33.binds (ps := ["rule"]) fun _ _ _ _ _ _ us hl => match us, hl with | [_], _ => rfl⟩
  have G34 := fun_mk (st := s_has_given) l34 c34 k34
  have F_has_given : FunAt K mg "has_given" s_has_given ["given", "row"] := ⟨_, _, G34, PySem.W.mg_of X G a34, G34.binds (ps := ["given", "row"]) fun _ _ _ _ _ _ us hl => match us, hl with | [_, _], _ => rfl⟩
  have G35 := fun_mk (st := s_are_alike) l35 c35 k35
  have F_are_alike : FunAt K mg "are_alike" s_are_alike ["given", "one", "other"] := ⟨_, _, G35, PySem.W.mg_of X G a35, G35.binds (ps := ["given", "one", "other"]) fun _ _ _ _ _ _ us hl => match us, hl with | [_, _, _], _ => rfl⟩
  have G36 := fun_mk (st := s_broken_pairs) l36 c36 k36
  have F_broken_pairs : FunAt K mg "broken_pairs" s_broken_pairs ["rule", "table"] := ⟨_, _, G36, PySem.W.mg_of X G a36, G36.binds (ps := ["rule", "table"]) fun _ _ _ _ _ _ us hl => match us, hl with | [_, _], _ => rfl⟩
  have G37 := fun_mk (st := s_broken_singles) l37 c37 k37
  have F_broken_singles : FunAt K mg "broken_singles" s_broken_singles ["rule", "table"] := ⟨_, _, G37, PySem.W.mg_of X G a37, G37.binds (ps := ["rule", "table"]) fun _ _ _ _ _ _ us hl => match us, hl with | [_, _], _ => rfl⟩
  have G38 := fun_mk (st := s_broken_rows) l38 c38 k38
  have F_broken_rows : FunAt K mg "broken_rows" s_broken_rows ["rule", "table"] := ⟨_, _, G38, PySem.W.mg_of X G a38, G38.binds (ps := ["rule", "table"]) fun _ _ _ _ _ _ us hl => match us, hl with | [_, _], _ => rfl⟩
  have G39 := fun_mk (st := s_list_breaks) l39 c39 k39
  have F_list_breaks : FunAt K mg "list_breaks" s_list_breaks ["rules", "table"] := ⟨_, _, G39, PySem.W.mg_of X G a39, G39.binds (ps := ["rules", "table"]) fun _ _ _ _ _ _ us hl => match us, hl with | [_, _], _ => rfl⟩
  have G40 := fun_mk (st := s_check_unbroken) l40 c40 k40
  have F_check_unbroken : FunAt K mg "check_unbroken" s_check_unbroken ["rules", "master"] := ⟨_, _, G40, PySem.W.mg_of X G a40, G40.binds (ps := ["rules", "master"]) fun _ _ _ _ _ _ us hl => match us, hl with | [_, _], _ => rfl⟩
  have G41 := fun_mk (st := s_has_all_of) l41 c41 k41
  have F_has_all_of : FunAt K mg "has_all_of" s_has_all_of ["settled", "given"] := ⟨_, _, G41, PySem.W.mg_of X G a41, G41.binds (ps := ["settled", "given"]) fun _ _ _ _ _ _ us hl => match us, hl with | [_, _], _ => rfl⟩
  have G42 := fun_mk (st := s_settling_values) l42 c42 k42
  have F_settling_values : FunAt K mg "settling_values" s_settling_values ["rule", "master", "row"] := ⟨_, _, G42, PySem.W.mg_of X G a42, G42.binds (ps := ["rule", "master", "row"]) fun _ _ _ _ _ _ us hl => match us, hl with | [_, _, _], _ => rfl⟩
  have G43 := fun_mk (st := s_possible_steps) l43 c43 k43
  have F_possible_steps : FunAt K mg "possible_steps" s_possible_steps ["rules", "master", "row", "settled"] := ⟨_, _, G43, PySem.W.mg_of X G a43, G43.binds (ps := ["rules", "master", "row", "settled"]) fun _ _ _ _ _ _ us hl => match us, hl with | [_, _, _, _], _ => rfl⟩
  have G44 := fun_mk (st := s_with_item) l44 c44 k44
  have F_with_item : FunAt K mg "with_item" s_with_item ["items", "place", "item"] := ⟨_, _, G44, PySem.W.mg_of X G a44, G44.binds (ps := ["items", "place", "item"]) fun _ _ _ _ _ _ us hl => match us, hl with | [_, _, _], _ => rfl⟩
  have G45 := fun_mk (st := s_after_step) l45 c45 k45
  have F_after_step : FunAt K mg "after_step" s_after_step ["row", "settled", "step"] := ⟨_, _, G45, PySem.W.mg_of X G a45, G45.binds (ps := ["row", "settled", "step"]) fun _ _ _ _ _ _ us hl => match us, hl with | [_, _, _], _ => rfl⟩
  have G46 := fun_mk (st := s_finish) l46 c46 k46
  have F_finish : FunAt K mg "finish" s_finish ["rules", "master", "row", "settled"] := ⟨_, _, G46, PySem.W.mg_of X G a46, G46.binds (ps := ["rules", "master", "row", "settled"]) fun _ _ _ _ _ _ us hl => match us, hl with | [_, _, _, _], _ => rfl⟩
  have G47 := fun_mk (st := s_stop) l47 c47 k47
  have F_stop : FunAt K mg "stop" s_stop ["columns", "rules", "master", "number", "settled"] := ⟨_, _, G47, PySem.W.mg_of X G a47, G47.binds (ps := ["columns", "rules", "master", "number", "settled"]) fun _ _ _ _ _ _ us hl => match us, hl with | [_, _, _, _, _], _ => rfl⟩
  have G48 := fun_mk (st := s_law_values) l48 c48 k48
  have F_law_values : FunAt K mg "_law_values" s_law_values ["_law_rule_here", "_law_master", "_law_row_here"] := ⟨_, _, G48, PySem.W.mg_of X G a48, G48.binds (ps := ["_law_rule_here", "_law_master", "_law_row_here"]) fun _ _ _ _ _ _ us hl => match us, hl with | [_, _, _], _ => rfl⟩
  have G49 := fun_mk (st := s_law_steps) l49 c49 k49
  have F_law_steps : FunAt K mg "_law_steps" s_law_steps ["_law_rules", "_law_master", "_law_row_here", "_law_settled"] := ⟨_, _, G49, PySem.W.mg_of X G a49, G49.binds (ps := ["_law_rules", "_law_master", "_law_row_here", "_law_settled"]) fun _ _ _ _ _ _ us hl => match us, hl with | [_, _, _, _], _ => rfl⟩
  have G50 := fun_mk (st := s_law_behind) l50 c50 k50
  have F_law_behind : FunAt K mg "_law_behind" s_law_behind ["_law_row_here", "_law_settled", "_law_step"] := ⟨_, _, G50, PySem.W.mg_of X G a50, G50.binds (ps := ["_law_row_here", "_law_settled", "_law_step"]) fun _ _ _ _ _ _ us hl => match us, hl with | [_, _, _], _ => rfl⟩
  have G51 := fun_mk (st := s_law_stops) l51 c51 k51
  have F_law_stops : FunAt K mg "_law_stops" s_law_stops ["_law_rules", "_law_master", "_law_row_here", "_law_settled", "_law_known"] := ⟨_, _, G51, PySem.W.mg_of X G a51, G51.binds (ps := ["_law_rules", "_law_master", "_law_row_here", "_law_settled", "_law_known"]) fun _ _ _ _ _ _ us hl => match us, hl with | [_, _, _, _, _], _ => rfl⟩
  have G52 := fun_mk (st := s_law_is_run) l52 c52 k52
  have F_law_is_run : FunAt K mg "_law_is_run" s_law_is_run ["_law_rules", "_law_master", "_law_row_here", "_law_settled", "_law_value_here"] := ⟨_, _, G52, PySem.W.mg_of X G a52, G52.binds (ps := ["_law_rules", "_law_master", "_law_row_here", "_law_settled", "_law_value_here"]) fun _ _ _ _ _ _ us hl => match us, hl with | [_, _, _, _, _], _ => rfl⟩
  have G53 := fun_mk (st := s_law_is_stop) l53 c53 k53
  have F_law_is_stop : FunAt K mg "_law_is_stop" s_law_is_stop ["_law_rules", "_law_master", "_law_row_here", "_law_settled", "_law_value_here"] := ⟨_, _, G53, PySem.W.mg_of X G a53, G53.binds (ps := ["_law_rules", "_law_master", "_law_row_here", "_law_settled", "_law_value_here"]) fun _ _ _ _ _ _ us hl => match us, hl with | [_, _, _, _, _], _ => rfl⟩
  refine ⟨PySem.W.fnOf "law" "law" (defArgs s_law) (defBody s_law) (defScope s_law) .none kV54 dc54 pm54 an54 cd54 ct54, fun s v => .of_eq rfl, fun base _ _ => ?_⟩
  have L_open := L2.DL.K46.ok_law_open (P := l.prog) (w := w) (base := base) T F_law_open
  have d_law_spread := L2.DL.K46.d_law_spread (P := l.prog) (w := w) (base := base) T F_law_spread
  have d_law_take := L2.DL.K46.d_law_take (P := l.prog) (w := w) (base := base) T d_law_spread F_law_take
  have d_law_columns := L2.DL.K46.d_law_columns (P := l.prog) (w := w) (base := base) T d_law_take F_law_columns
  have d_law_one := L2.DL.K46.d_law_one (P := l.prog) (w := w) (base := base) T d_law_take F_law_one
  have d_law_value := L2.DL.K46.d_law_value (P := l.prog) (w := w) (base := base) T d_law_one F_law_value
  have d_law_row := L2.DL.K46.d_law_row (P := l.prog) (w := w) (base := base) T d_law_value F_law_row
  have d_law_table := L2.DL.K46.d_law_table (P := l.prog) (w := w) (base := base) T d_law_take d_law_one d_law_row F_law_table
  have d_law_rule := L2.DL.K46.d_law_rule (P := l.prog) (w := w) (base := base) T d_law_take d_law_one d_law_value F_law_rule
  have d_law_case := L2.DL.K46.d_law_case (P := l.prog) (w := w) (base := base) T d_law_columns d_law_take d_law_rule d_law_table d_law_one d_law_row F_law_case
  have d_law_matches := L2.DL.K46.d_law_matches (P := l.prog) (w := w) (base := base) T F_law_matches
  have d_law_rule_breaks := L2.DL.K46.d_law_rule_breaks (P := l.prog) (w := w) (base := base) T d_law_matches F_law_rule_breaks
  have d_law_breaks := L2.DL.K46.d_law_breaks (P := l.prog) (w := w) (base := base) T d_law_rule_breaks F_law_breaks
  have d_law_kept_case := L2.DL.K46.d_law_kept_case (P := l.prog) (w := w) (base := base) T d_law_case d_law_breaks d_law_take d_law_rule_breaks F_law_kept_case
  have d_law_anew := L2.DL.K46.d_law_anew (P := l.prog) (w := w) (base := base) T F_law_anew
  have d_is_integer := L2.DL.K46.d_is_integer (P := l.prog) (w := w) (base := base) T F_is_integer
  have d_is_closed := L2.DL.K46.d_is_closed (P := l.prog) (w := w) (base := base) T d_is_integer F_is_closed
  have d_is_columns := L2.DL.K46.d_is_columns (P := l.prog) (w := w) (base := base) T d_is_closed F_is_columns
  have d_check_columns := L2.DL.K46.d_check_columns (P := l.prog) (w := w) (base := base) T d_is_columns F_check_columns
  have d_is_value_of := L2.DL.K46.d_is_value_of (P := l.prog) (w := w) (base := base) d_is_integer F_is_value_of
  have d_is_number := L2.DL.K46.d_is_number (P := l.prog) (w := w) (base := base) d_is_integer F_is_number
  have d_entry_is_right := L2.DL.K46.d_entry_is_right (P := l.prog) (w := w) (base := base) T d_is_number d_is_value_of F_entry_is_right
  have d_given_is_right := L2.DL.K46.d_given_is_right (P := l.prog) (w := w) (base := base) T d_entry_is_right F_given_is_right
  have d_rule_is_right := L2.DL.K46.d_rule_is_right (P := l.prog) (w := w) (base := base) T d_is_number d_is_value_of d_given_is_right F_rule_is_right
  have d_rules_are_right := L2.DL.K46.d_rules_are_right (P := l.prog) (w := w) (base := base) T d_rule_is_right F_rules_are_right
  have d_check_rules := L2.DL.K46.d_check_rules (P := l.prog) (w := w) (base := base) T d_rules_are_right F_check_rules
  have d_row_is_right := L2.DL.K46.d_row_is_right (P := l.prog) (w := w) (base := base) T d_is_value_of F_row_is_right
  have d_table_is_right := L2.DL.K46.d_table_is_right (P := l.prog) (w := w) (base := base) T d_row_is_right F_table_is_right
  have d_check_table := L2.DL.K46.d_check_table (P := l.prog) (w := w) (base := base) T d_table_is_right F_check_table
  have d_check_master_row := L2.DL.K46.d_check_master_row (P := l.prog) (w := w) (base := base) T d_check_columns d_check_rules d_check_table d_is_number F_check_master_row
  have d_is_ascending := L2.DL.K46.d_is_ascending (P := l.prog) (w := w) (base := base) T F_is_ascending
  have d_is_column_set := L2.DL.K46.d_is_column_set (P := l.prog) (w := w) (base := base) T d_is_number d_is_ascending F_is_column_set
  have d_check_settled := L2.DL.K46.d_check_settled (P := l.prog) (w := w) (base := base) T d_is_column_set F_check_settled
  have d_is_value_rule := L2.DL.K46.d_is_value_rule (P := l.prog) (w := w) (base := base) T F_is_value_rule
  have d_has_given := L2.DL.K46.d_has_given (P := l.prog) (w := w) (base := base) T F_has_given
  have d_are_alike := L2.DL.K46.d_are_alike (P := l.prog) (w := w) (base := base) T d_has_given F_are_alike
  have d_broken_pairs := L2.DL.K46.d_broken_pairs (P := l.prog) (w := w) (base := base) T d_are_alike F_broken_pairs
  have d_broken_singles := L2.DL.K46.d_broken_singles (P := l.prog) (w := w) (base := base) T d_has_given F_broken_singles
  have d_broken_rows := L2.DL.K46.d_broken_rows (P := l.prog) (w := w) (base := base) T d_is_value_rule d_broken_singles d_broken_pairs F_broken_rows
  have o_list_breaks := L2.DL.K46.o_list_breaks (P := l.prog) (w := w) (base := base) T d_broken_rows F_list_breaks
  have d_check_unbroken := L2.DL.K46.d_check_unbroken (P := l.prog) (w := w) (base := base) T o_list_breaks F_check_unbroken
  have d_has_all_of := L2.DL.K46.d_has_all_of (P := l.prog) (w := w) (base := base) T F_has_all_of
  have d_settling_values := L2.DL.K46.d_settling_values (P := l.prog) (w := w) (base := base) T d_is_value_rule d_has_given d_are_alike F_settling_values
  have o_possible_steps := L2.DL.K46.o_possible_steps (P := l.prog) (w := w) (base := base) T d_has_all_of d_settling_values F_possible_steps
  have d_with_item := L2.DL.K46.d_with_item (P := l.prog) (w := w) (base := base) T F_with_item
  have d_after_step := L2.DL.K46.d_after_step (P := l.prog) (w := w) (base := base) T d_with_item F_after_step
  have a_finish := L2.DL.K46.a_finish (P := l.prog) (w := w) (base := base) T o_possible_steps d_after_step F_finish
  have a_stop := L2.DL.K46.a_stop (P := l.prog) (w := w) (base := base) T d_check_master_row d_check_settled d_check_unbroken a_finish F_stop
  have d_law_values := L2.DL.K46.d_law_values (P := l.prog) (w := w) (base := base) T d_law_matches F_law_values
  have d_law_steps := L2.DL.K46.d_law_steps (P := l.prog) (w := w) (base := base) T d_law_matches d_law_values F_law_steps
  have d_law_behind := L2.DL.K46.d_law_behind (P := l.prog) (w := w) (base := base) T F_law_behind
  have d_law_stops := L2.DL.K46.d_law_stops (P := l.prog) (w := w) (base := base) T d_law_steps d_law_behind F_law_stops 20
  have d_law_is_run := L2.DL.K46.d_law_is_run (P := l.prog) (w := w) (base := base) T d_law_steps d_law_behind F_law_is_run
  have d_law_is_stop := L2.DL.K46.d_law_is_stop (P := l.prog) (w := w) (base := base) T d_law_is_run F_law_is_stop
  exact ok_law T L_open d_law_anew d_law_kept_case d_law_is_stop a_stop d_law_stops (fun_mk (st := s_law) l54 c54 k54)
end L2.DL.K46
open PySem PySem.W
      PyProof.Rows in
set_option
      maxRecDepth 100000 in
set_option maxHeartbeats 0 in
theorem PySem.Challenge.cw_whererules_k46_stops_holds : PySem.Challenge.rw_whererules_k46_stops.Holds := by
  w_on; o_law; k_head; (case hw =>
        w_witness2)
  k_fill
  refine L2.DL.walk_G (l := PySem.Challenge.rw_whererules_k46_stops) (k := 26) (x := "_law_script") rfl rfl ⟨rfl, by decide, by decide⟩ (fun w h Y => PySem.W.kIn_of Y) ?F
  case F =>
    intro w mg fa h KX G hmg
    refine' L2.DL.K46.all_mk KX G hmg ?a0 ?l0 ?c0 ?k0 ?a1 ?l1 ?c1 ?k1 ?a2 ?l2 ?c2 ?k2 ?a3 ?l3 ?c3 ?k3 ?a4 ?l4 ?c4 ?k4 ?a5 ?l5 ?c5 ?k5 ?a6 ?l6 ?c6 ?k6 ?a7 ?l7 ?c7 ?k7 ?a8 ?l8 ?c8 ?k8 ?a9 ?l9 ?c9 ?k9 ?a10 ?l10 ?c10 ?k10 ?a11 ?l11 ?c11 ?k11 ?a12 ?l12 ?c12 ?k12 ?a13 ?l13 ?c13 ?k13 ?a14 ?l14 ?c14 ?k14 ?a15 ?l15 ?c15 ?k15 ?a16 ?l16 ?c16 ?k16 ?a17 ?l17 ?c17 ?k17 ?a18 ?l18 ?c18 ?k18 ?a19 ?l19 ?c19 ?k19 ?a20 ?l20 ?c20 ?k20 ?a21 ?l21 ?c21 ?k21 ?a22 ?l22 ?c22 ?k22 ?a23 ?l23 ?c23 ?k23 ?a24 ?l24 ?c24 ?k24 ?a25 ?l25 ?c25 ?k25 ?a26 ?l26 ?c26 ?k26 ?a27 ?l27 ?c27 ?k27 ?a28 ?l28 ?c28 ?k28 ?a29 ?l29 ?c29 ?k29 ?a30 ?l30 ?c30 ?k30 ?a31 ?l31 ?c31 ?k31 ?a32 ?l32 ?c32 ?k32 ?a33 ?l33 ?c33 ?k33 ?a34 ?l34 ?c34 ?k34 ?a35 ?l35 ?c35 ?k35 ?a36 ?l36 ?c36 ?k36 ?a37 ?l37 ?c37 ?k37 ?a38 ?l38 ?c38 ?k38 ?a39 ?l39 ?c39 ?k39 ?a40 ?l40 ?c40 ?k40 ?a41 ?l41 ?c41 ?k41 ?a42 ?l42 ?c42 ?k42 ?a43 ?l43 ?c43 ?k43 ?a44 ?l44 ?c44 ?k44 ?a45 ?l45 ?c45 ?k45 ?a46 ?l46 ?c46 ?k46 ?a47 ?l47 ?c47 ?k47 ?a48 ?l48 ?c48 ?k48 ?a49 ?l49 ?c49 ?k49 ?a50 ?l50 ?c50 ?k50 ?a51 ?l51 ?c51 ?k51 ?a52 ?l52 ?c52 ?k52 ?a53 ?l53 ?c53 ?k53 ?a54 ?l54 ?c54 ?k54 ?z_all ?z_bool ?z_enumerate ?z_int ?z_isinstance ?z_len ?z_list ?z_range ?z_repr ?z_set ?z_sorted ?z_tuple ?z_zip ?m_MOST_CLOSED ?m_MOST_COLUMNS ?m_MOST_ROWS ?m_MOST_RULES ?m_MOST_VALUES ?g_InvalidColumns ?h_InvalidColumns ?y_InvalidColumns ?g_InvalidNumber ?h_InvalidNumber ?y_InvalidNumber ?g_InvalidRules ?h_InvalidRules ?y_InvalidRules ?g_InvalidSettled ?h_InvalidSettled ?y_InvalidSettled ?g_InvalidTable ?h_InvalidTable ?y_InvalidTable ?e_get ?e_tk ?k_InvalidColumns ?x_InvalidColumns ?s_InvalidColumns ?q_InvalidColumns ?r_InvalidColumns ?p_InvalidColumns ?o_InvalidColumns ?u_InvalidColumns_InvalidColumns ?k_InvalidNumber ?x_InvalidNumber ?s_InvalidNumber ?q_InvalidNumber ?r_InvalidNumber ?p_InvalidNumber ?o_InvalidNumber ?u_InvalidNumber_InvalidNumber ?k_InvalidRules ?x_InvalidRules ?s_InvalidRules ?q_InvalidRules ?r_InvalidRules ?p_InvalidRules ?o_InvalidRules ?u_InvalidRules_InvalidRules ?k_InvalidSettled ?x_InvalidSettled ?s_InvalidSettled ?q_InvalidSettled ?r_InvalidSettled ?p_InvalidSettled ?o_InvalidSettled ?u_InvalidSettled_InvalidSettled ?k_InvalidTable ?x_InvalidTable ?s_InvalidTable ?q_InvalidTable ?r_InvalidTable ?p_InvalidTable ?o_InvalidTable ?u_InvalidTable_InvalidTable
    (case a0 => k_is)
    (case l0 => k_is)
    (case c0 => k_is)
    (case k0 => k_is)
    (case a1 => k_is)
    (case l1 => k_is)
    (case c1 => k_is)
    (case k1 => k_is)
    (case a2 => k_is)
    (case l2 => k_is)
    (case c2 => k_is)
    (case k2 => k_is)
    (case a3 => k_is)
    (case l3 => k_is)
    (case c3 => k_is)
    (case k3 => k_is)
    (case a4 => k_is)
    (case l4 => k_is)
    (case c4 => k_is)
    (case k4 => k_is)
    (case a5 => k_is)
    (case l5 => k_is)
    (case c5 => k_is)
    (case k5 => k_is)
    (case a6 => k_is)
    (case l6 => k_is)
    (case c6 => k_is)
    (case k6 => k_is)
    (case a7 => k_is)
    (case l7 => k_is)
    (case c7 => k_is)
    (case k7 => k_is)
    (case a8 => k_is)
    (case l8 => k_is)
    (case c8 => k_is)
    (case k8 => k_is)
    (case a9 => k_is)
    (case l9 => k_is)
    (case c9 => k_is)
    (case k9 => k_is)
    (case a10 => k_is)
    (case l10 => k_is)
    (case c10 => k_is)
    (case k10 => k_is)
    (case a11 => k_is)
    (case l11 => k_is)
    (case c11 => k_is)
    (case k11 => k_is)
    (case a12 => k_is)
    (case l12 => k_is)
    (case c12 => k_is)
    (case k12 => k_is)
    (case a13 => k_is)
    (case l13 => k_is)
    (case c13 => k_is)
    (case k13 => k_is)
    (case a14 => k_is)
    (case l14 => k_is)
    (case c14 => k_is)
    (case k14 => k_is)
    (case a15 => k_is)
    (case l15 => k_is)
    (case c15 => k_is)
    (case k15 => k_is)
    (case a16 => k_is)
    (case l16 => k_is)
    (case c16 => k_is)
    (case k16 => k_is)
    (case a17 => k_is)
    (case l17 => k_is)
    (case c17 => k_is)
    (case k17 => k_is)
    (case a18 => k_is)
    (case l18 => k_is)
    (case c18 => k_is)
    (case k18 => k_is)
    (case a19 => k_is)
    (case l19 => k_is)
    (case c19 => k_is)
    (case k19 => k_is)
    (case a20 => k_is)
    (case l20 => k_is)
    (case c20 => k_is)
    (case k20 => k_is)
    (case a21 => k_is)
    (case l21 => k_is)
    (case c21 => k_is)
    (case k21 => k_is)
    (case a22 => k_is)
    (case l22 => k_is)
    (case c22 => k_is)
    (case k22 => k_is)
    (case a23 => k_is)
    (case l23 => k_is)
    (case c23 => k_is)
    (case k23 => k_is)
    (case a24 => k_is)
    (case l24 => k_is)
    (case c24 => k_is)
    (case k24 => k_is)
    (case a25 => k_is)
    (case l25 => k_is)
    (case c25 => k_is)
    (case k25 => k_is)
    (case a26 => k_is)
    (case l26 => k_is)
    (case c26 => k_is)
    (case k26 => k_is)
    (case a27 => k_is)
    (case l27 => k_is)
    (case c27 => k_is)
    (case k27 => k_is)
    (case a28 => k_is)
    (case l28 => k_is)
    (case c28 => k_is)
    (case k28 => k_is)
    (case a29 => k_is)
    (case l29 => k_is)
    (case c29 => k_is)
    (case k29 => k_is)
    (case a30 => k_is)
    (case l30 => k_is)
    (case c30 => k_is)
    (case k30 => k_is)
    (case a31 => k_is)
    (case l31 => k_is)
    (case c31 => k_is)
    (case k31 => k_is)
    (case a32 => k_is)
    (case l32 => k_is)
    (case c32 => k_is)
    (case k32 => k_is)
    (case a33 => k_is)
    (case l33 => k_is)
    (case c33 => k_is)
    (case k33 => k_is)
    (case a34 => k_is)
    (case l34 => k_is)
    (case c34 => k_is)
    (case k34 => k_is)
    (case a35 => k_is)
    (case l35 => k_is)
    (case c35 => k_is)
    (case k35 => k_is)
    (case a36 => k_is)
    (case l36 => k_is)
    (case c36 => k_is)
    (case k36 => k_is)
    (case a37 => k_is)
    (case l37 => k_is)
    (case c37 => k_is)
    (case k37 => k_is)
    (case a38 => k_is)
    (case l38 => k_is)
    (case c38 => k_is)
    (case k38 => k_is)
    (case a39 => k_is)
    (case l39 => k_is)
    (case c39 => k_is)
    (case k39 => k_is)
    (case a40 => k_is)
    (case l40 => k_is)
    (case c40 => k_is)
    (case k40 => k_is)
    (case a41 => k_is)
    (case l41 => k_is)
    (case c41 => k_is)
    (case k41 => k_is)
    (case a42 => k_is)
    (case l42 => k_is)
    (case c42 => k_is)
    (case k42 => k_is)
    (case a43 => k_is)
    (case l43 => k_is)
    (case c43 => k_is)
    (case k43 => k_is)
    (case a44 => k_is)
    (case l44 => k_is)
    (case c44 => k_is)
    (case k44 => k_is)
    (case a45 => k_is)
    (case l45 => k_is)
    (case c45 => k_is)
    (case k45 => k_is)
    (case a46 => k_is)
    (case l46 => k_is)
    (case c46 => k_is)
    (case k46 => k_is)
    (case a47 => k_is)
    (case l47 => k_is)
    (case c47 => k_is)
    (case k47 => k_is)
    (case a48 => k_is)
    (case l48 => k_is)
    (case c48 => k_is)
    (case k48 => k_is)
    (case a49 => k_is)
    (case l49 => k_is)
    (case c49 => k_is)
    (case k49 => k_is)
    (case a50 => k_is)
    (case l50 => k_is)
    (case c50 => k_is)
    (case k50 => k_is)
    (case a51 => k_is)
    (case l51 => k_is)
    (case c51 => k_is)
    (case k51 => k_is)
    (case a52 => k_is)
    (case l52 => k_is)
    (case c52 => k_is)
    (case k52 => k_is)
    (case a53 => k_is)
    (case l53 => k_is)
    (case c53 => k_is)
    (case k53 => k_is)
    (case a54 => k_is)
    (case l54 => k_is)
    (case c54 => k_is)
    (case k54 => k_is)
    (case z_all => k_is)
    (case z_bool => k_is)
    (case z_enumerate => k_is)
    (case z_int => k_is)
    (case z_isinstance => k_is)
    (case z_len => k_is)
    (case z_list => k_is)
    (case z_range => k_is)
    (case z_repr => k_is)
    (case z_set => k_is)
    (case z_sorted => k_is)
    (case z_tuple => k_is)
    (case z_zip => k_is)
    (case m_MOST_CLOSED => k_is)
    (case m_MOST_COLUMNS => k_is)
    (case m_MOST_ROWS => k_is)
    (case m_MOST_RULES => k_is)
    (case m_MOST_VALUES => k_is)
    (case g_InvalidColumns => k_is)
    (case h_InvalidColumns => k_is)
    (case y_InvalidColumns => k_is)
    (case g_InvalidNumber => k_is)
    (case h_InvalidNumber => k_is)
    (case y_InvalidNumber => k_is)
    (case g_InvalidRules => k_is)
    (case h_InvalidRules => k_is)
    (case y_InvalidRules => k_is)
    (case g_InvalidSettled => k_is)
    (case h_InvalidSettled => k_is)
    (case y_InvalidSettled => k_is)
    (case g_InvalidTable => k_is)
    (case h_InvalidTable => k_is)
    (case y_InvalidTable => k_is)
    (case e_get => k_is)
    (case e_tk => k_is)
    (case k_InvalidColumns => k_is)
    (case x_InvalidColumns => k_exc)
    (case s_InvalidColumns => k_is)
    (case q_InvalidColumns => k_is)
    (case r_InvalidColumns => k_is)
    (case p_InvalidColumns => k_is)
    (case o_InvalidColumns => k_is)
    (case u_InvalidColumns_InvalidColumns => first | rfl | k_is)
    (case k_InvalidNumber => k_is)
    (case x_InvalidNumber => k_exc)
    (case s_InvalidNumber => k_is)
    (case q_InvalidNumber => k_is)
    (case r_InvalidNumber => k_is)
    (case p_InvalidNumber => k_is)
    (case o_InvalidNumber => k_is)
    (case u_InvalidNumber_InvalidNumber => first | rfl | k_is)
    (case k_InvalidRules => k_is)
    (case x_InvalidRules => k_exc)
    (case s_InvalidRules => k_is)
    (case q_InvalidRules => k_is)
    (case r_InvalidRules => k_is)
    (case p_InvalidRules => k_is)
    (case o_InvalidRules => k_is)
    (case u_InvalidRules_InvalidRules => first | rfl | k_is)
    (case k_InvalidSettled => k_is)
    (case x_InvalidSettled => k_exc)
    (case s_InvalidSettled => k_is)
    (case q_InvalidSettled => k_is)
    (case r_InvalidSettled => k_is)
    (case p_InvalidSettled => k_is)
    (case o_InvalidSettled => k_is)
    (case u_InvalidSettled_InvalidSettled => first | rfl | k_is)
    (case k_InvalidTable => k_is)
    (case x_InvalidTable => k_exc)
    (case s_InvalidTable => k_is)
    (case q_InvalidTable => k_is)
    (case r_InvalidTable => k_is)
    (case p_InvalidTable => k_is)
    (case o_InvalidTable => k_is)
    (case u_InvalidTable_InvalidTable => first | rfl | k_is)
#print axioms PySem.Challenge.cw_whererules_k46_stops_holds
