import PyProof.Rows.All
import Wide.All
import OpenK.AllK
import Wide.FinOn
import HandS.ForMost
import HandS.IsInst
import HandS.Evl
import HandS.Codes
import HandS.TupMul
import HandS.TupAny
import HandS.Style
import HandS.Conv
import HandS.Replace
import PySem.Challenge.RW_foldedways_k16_forms_of_families
set_option Elab.async false
set_option linter.all false
set_option maxRecDepth 100000
set_option maxHeartbeats 4000000
namespace DL
open PySem PySem.Spec PyProof.Rows L2

inductive D where
  | non | bl (b : Bool) | int (i : Int) | str (s : List Nat) | ty (n : String) | stm
  | tup (ds : List D) | lst (ds : List D) | dK (kvs : List (Key × V)) | dT (kvs : List (List Key × V))

mutual
inductive Is (st : Addr) (M : List Addr) (H : Hp) : V → D → Prop
  | non : Is st M H .non .non
  | bl (b : Bool) : Is st M H (.bl b) (.bl b)
  | int (i : Int) : Is st M H (.int i) (.int i)
  | str (s : List Nat) : Is st M H (.str ⟨s.toArray⟩) (.str s)
  | ty (n : String) : Is st M H (.ty n) (.ty n)
  | stm : Is st M H (.ref st) .stm
  | tup {p : Addr} {vs : List V} {ds : List D} (h : H p = some (.tup vs)) (hs : Iss st M H vs ds) : Is st M H (.ref p) (.tup ds)
  | lst {p : Addr} {vs : List V} {ds : List D} (hm : p ∉ M) (h : H p = some (.lst vs)) (hs : Iss st M H vs ds) : Is st M H (.ref p) (.lst ds)
  | dK {p : Addr} {kvs : List (Key × V)} (hm : p ∉ M) (h : H p = some (.dK kvs)) (hf : ∀ kv ∈ kvs, flatV kv.2 = true) : Is st M H (.ref p) (.dK kvs)
  | dT {p : Addr} {kvs : List (List Key × V)} (hm : p ∉ M) (h : H p = some (.dT kvs)) (hf : ∀ kv ∈ kvs, flatV kv.2 = true) : Is st M H (.ref p) (.dT kvs)
inductive Iss (st : Addr) (M : List Addr) (H : Hp) : List V → List D → Prop
  | nil : Iss st M H [] []
  | cons {v : V} {d : D} {vs : List V} {ds : List D} (h : Is st M H v d) (hs : Iss st M H vs ds) : Iss st M H (v :: vs) (d :: ds)
end

/-- all but the stream stands as it did, the stream may have moved on -/
def Fx (st : Addr) (H H' : Hp) : Prop := (∀ b o, b ≠ st → H b = some o → H' b = some o) ∧
  ∀ (a : Addr) (c k : Int), 0 ≤ c → 0 ≤ k → H st = some (.lst [.ref a, .int c, .int k]) → ∃ c' k' : Int, 0 ≤ c' ∧ 0 ≤ k' ∧ H' st = some (.lst [.ref a, .int c', .int k'])
theorem Fx.refl (st : Addr) (H : Hp) : Fx st H H := ⟨fun _ _ _ h => h, fun _ c k h1 h2 h => ⟨c, k, h1, h2, h⟩⟩
theorem Fx.trans {st : Addr} {H H1 H2 : Hp} (a : Fx st H H1) (b : Fx st H1 H2) : Fx st H H2 := ⟨fun x o n h => b.1 x o n (a.1 x o n h), fun x c k h1 h2 h => by
  obtain ⟨c', k', g1, g2, g⟩ := a.2 x c k h1 h2 h
  exact b.2 x c' k' g1 g2 g⟩
theorem Fx.new {st : Addr} {H : Hp} {p : Addr} {o : HO} (h : H p = none) : Fx st H (upd H p o) := by
  refine ⟨fun a u _ e => ?_, fun a c k h1 h2 e => ⟨c, k, h1, h2, ?_⟩⟩
  · rw [upd_ne (ne_of_none e h)]
    exact e
  · rw [upd_ne (ne_of_none e h)]
    exact e
/-- the stream: a list of the script's list and two ints -/
def Stm (st : Addr) (M : List Addr) (H : Hp) : Prop := ∃ (a : Addr) (ns : List Int) (c k : Int), a ∉ M ∧ a ≠ st ∧ H st = some (.lst [.ref a, .int c, .int k]) ∧ H a = some (.lst (ns.map V.int)) ∧ 0 ≤ c ∧ 0 ≤ k

mutual
theorem Is.mono {st : Addr} {M M' : List Addr} {H H' : Hp} (hM : ∀ b ∈ M', b ∈ M) (hS : st ∈ M) (e : Fx st H H') (ht : ∀ vs, H st ≠ some (.tup vs)) : ∀ {v : V} {d : D}, Is st M H v d → Is st M' H' v d
  | _, _, .non => .non
  | _, _, .bl b => .bl b
  | _, _, .int i => .int i
  | _, _, .str s => .str s
  | _, _, .ty n => .ty n
  | _, _, .stm => .stm
  | _, _, .tup h hs => .tup (e.1 _ _ (fun z => ht _ (z ▸ h)) h) (Iss.mono hM hS e ht hs)
  | _, _, .lst hm h hs => .lst (fun z => hm (hM _ z)) (e.1 _ _ (fun z => hm (z ▸ hS)) h) (Iss.mono hM hS e ht hs)
  | _, _, .dK hm h hf => .dK (fun z => hm (hM _ z)) (e.1 _ _ (fun z => hm (z ▸ hS)) h) hf
  | _, _, .dT hm h hf => .dT (fun z => hm (hM _ z)) (e.1 _ _ (fun z => hm (z ▸ hS)) h) hf
theorem Iss.mono {st : Addr} {M M' : List Addr} {H H' : Hp} (hM : ∀ b ∈ M', b ∈ M) (hS : st ∈ M) (e : Fx st H H') (ht : ∀ vs, H st ≠ some (.tup vs)) : ∀ {vs : List V} {ds : List D}, Iss st M H vs ds → Iss st M' H' vs ds
  | _, _, .nil => .nil
  | _, _, .cons h hs => .cons (Is.mono hM hS e ht h) (Iss.mono hM hS e ht hs)
end
mutual
/-- one address outside M changes: data that do not reach it stay; and M may take in a new address -/
theorem Is.upd {st : Addr} {M : List Addr} {H : Hp} {p : Addr} {o : HO} (hp : p ∈ M) (ht : ∀ vs, H p ≠ some (.tup vs)) : ∀ {v : V} {d : D}, Is st M H v d → Is st M (upd H p o) v d
  | _, _, .non => .non
  | _, _, .bl b => .bl b
  | _, _, .int i => .int i
  | _, _, .str s => .str s
  | _, _, .ty n => .ty n
  | _, _, .stm => .stm
  | _, _, .tup h hs => .tup (by rw [upd_ne (fun z => ht _ (by rw [← z]; exact h))]; exact h) (Iss.upd hp ht hs)
  | _, _, .lst hm h hs => .lst hm (by rw [upd_ne (fun z => hm (by rw [z]; exact hp))]; exact h) (Iss.upd hp ht hs)
  | _, _, .dK hm h hf => .dK hm (by rw [upd_ne (fun z => hm (by rw [z]; exact hp))]; exact h) hf
  | _, _, .dT hm h hf => .dT hm (by rw [upd_ne (fun z => hm (by rw [z]; exact hp))]; exact h) hf
theorem Iss.upd {st : Addr} {M : List Addr} {H : Hp} {p : Addr} {o : HO} (hp : p ∈ M) (ht : ∀ vs, H p ≠ some (.tup vs)) : ∀ {vs : List V} {ds : List D}, Iss st M H vs ds → Iss st M (upd H p o) vs ds
  | _, _, .nil => .nil
  | _, _, .cons h hs => .cons (Is.upd hp ht h) (Iss.upd hp ht hs)
end
mutual
/-- a new address is taken into M -/
theorem Is.more {st : Addr} {M : List Addr} {H : Hp} {p : Addr} (hp : H p = none) : ∀ {v : V} {d : D}, Is st M H v d → Is st (p :: M) H v d
  | _, _, .non => .non
  | _, _, .bl b => .bl b
  | _, _, .int i => .int i
  | _, _, .str s => .str s
  | _, _, .ty n => .ty n
  | _, _, .stm => .stm
  | _, _, .tup h hs => .tup h (Iss.more hp hs)
  | _, _, .lst hm h hs => .lst (fun z => (List.mem_cons.mp z).elim (ne_of_none h hp) hm) h (Iss.more hp hs)
  | _, _, .dK hm h hf => .dK (fun z => (List.mem_cons.mp z).elim (ne_of_none h hp) hm) h hf
  | _, _, .dT hm h hf => .dT (fun z => (List.mem_cons.mp z).elim (ne_of_none h hp) hm) h hf
theorem Iss.more {st : Addr} {M : List Addr} {H : Hp} {p : Addr} (hp : H p = none) : ∀ {vs : List V} {ds : List D}, Iss st M H vs ds → Iss st (p :: M) H vs ds
  | _, _, .nil => .nil
  | _, _, .cons h hs => .cons (Is.more hp h) (Iss.more hp hs)
end
theorem Iss.length {st : Addr} {M : List Addr} {H : Hp} : ∀ {vs : List V} {ds : List D}, Iss st M H vs ds → vs.length = ds.length
  | _, _, .nil => rfl
  | _, _, .cons _ hs => by rw [List.length_cons, List.length_cons, Iss.length hs]
theorem Iss.get {st : Addr} {M : List Addr} {H : Hp} : ∀ {vs : List V} {ds : List D} {i : Nat} {d : D}, Iss st M H vs ds → ds[i]? = some d → ∃ v, vs[i]? = some v ∧ Is st M H v d
  | _, _, _, _, .nil, e => by simp at e
  | _, _, 0, _, .cons h _, e => by simp at e; subst e; exact ⟨_, rfl, h⟩
  | _, _, i + 1, d, .cons _ hs, e => by
    obtain ⟨v, h1, h2⟩ := Iss.get (i := i) (d := d) hs (by simpa using e)
    exact ⟨v, by simpa using h1, h2⟩
theorem Iss.getV {st : Addr} {M : List Addr} {H : Hp} : ∀ {vs : List V} {ds : List D} {i : Nat} {v : V}, Iss st M H vs ds → vs[i]? = some v → ∃ d, ds[i]? = some d ∧ Is st M H v d
  | _, _, _, _, .nil, e => by simp at e
  | _, _, 0, _, .cons h _, e => by simp at e; subst e; exact ⟨_, rfl, h⟩
  | _, _, i + 1, d, .cons _ hs, e => by
    obtain ⟨v, h1, h2⟩ := Iss.getV (i := i) (v := d) hs (by simpa using e)
    exact ⟨v, by simpa using h1, h2⟩
theorem Iss.append {st : Addr} {M : List Addr} {H : Hp} : ∀ {vs ws : List V} {ds es : List D}, Iss st M H vs ds → Iss st M H ws es → Iss st M H (vs ++ ws) (ds ++ es)
  | _, _, _, _, .nil, s => s
  | _, _, _, _, .cons h t, s => .cons h (Iss.append t s)
theorem Iss.take {st : Addr} {M : List Addr} {H : Hp} : ∀ {vs : List V} {ds : List D} (n : Nat), Iss st M H vs ds → Iss st M H (vs.take n) (ds.take n)
  | _, _, 0, _ => .nil
  | _, _, _ + 1, .nil => .nil
  | _, _, n + 1, .cons h t => .cons h (Iss.take n t)
theorem Iss.drop {st : Addr} {M : List Addr} {H : Hp} : ∀ {vs : List V} {ds : List D} (n : Nat), Iss st M H vs ds → Iss st M H (vs.drop n) (ds.drop n)
  | _, _, 0, h => h
  | _, _, _ + 1, .nil => .nil
  | _, _, n + 1, .cons _ t => Iss.drop n t
theorem Iss.set {st : Addr} {M : List Addr} {H : Hp} {v : V} {d : D} (h : Is st M H v d) : ∀ {vs : List V} {ds : List D} (n : Nat), Iss st M H vs ds → Iss st M H (vs.set n v) (ds.set n d)
  | _, _, _, .nil => .nil
  | _, _, 0, .cons _ t => .cons h t
  | _, _, n + 1, .cons q t => .cons q (Iss.set h n t)

/-- what is known of a slot -/
inductive Ow where
  | lst (ds : List D) | dK (kvs : List (Key × V)) | dT (kvs : List (List Key × V))
inductive Sl where
  | any | dat (d : D) | own (o : Ow)
abbrev Nv := List Sl
inductive OwOk (st : Addr) (M : List Addr) (H : Hp) : HO → Ow → Prop
  | lst {vs : List V} {ds : List D} (h : Iss st M H vs ds) : OwOk st M H (.lst vs) (.lst ds)
  | dK {kvs : List (Key × V)} (hf : ∀ kv ∈ kvs, flatV kv.2 = true) : OwOk st M H (.dK kvs) (.dK kvs)
  | dT {kvs : List (List Key × V)} (hf : ∀ kv ∈ kvs, flatV kv.2 = true) : OwOk st M H (.dT kvs) (.dT kvs)
theorem OwOk.notup {st : Addr} {M : List Addr} {H : Hp} {h : HO} {o : Ow} (k : OwOk st M H h o) : ∀ vs, h ≠ .tup vs := by
  cases k <;> (intro vs z; cases z)
theorem OwOk.mut {st : Addr} {M : List Addr} {H : Hp} {h : HO} {o : Ow} (k : OwOk st M H h o) : Mut (some h) := by
  cases k <;> trivial

/-- what stays through a def's run: the stream, what may not be reached ahead, the heap at the entry, data that are kept in mind -/
structure Bs where
  st : Addr
  M0 : List Addr
  H0 : Hp
  hid : List (V × D)
structure Sr (B : Bs) (M : List Addr) (σ : L2.St) (H : Hp) (env : Nv) : Prop where
  stm : Stm B.st M H
  stM : B.st ∈ M
  keep : Fx B.st B.H0 H
  sub : ∀ b ∈ B.M0, b ∈ M
  fresh : ∀ b ∈ M, b ∈ B.M0 ∨ B.H0 b = none
  trk : ∀ b ∈ M, ∃ o, H b = some o
  st0 : B.st ∈ B.M0
  trk0 : ∀ b ∈ B.M0, ∃ o, B.H0 b = some o
  len : σ.length = env.length
  dat : ∀ (i : Nat) d, env[i]? = some (.dat d) → ∃ v, σ[i]? = some (some v) ∧ Is B.st M H v d
  own : ∀ (i : Nat) o, env[i]? = some (.own o) → ∃ p h, σ[i]? = some (some (.ref p)) ∧ p ∈ M ∧ p ∉ B.M0 ∧ H p = some h ∧ OwOk B.st M H h o
  inj : ∀ (i j : Nat) p o u, env[i]? = some (.own o) → env[j]? = some (.own u) → σ[i]? = some (some (.ref p)) → σ[j]? = some (some (.ref p)) → i = j
  hid : ∀ x ∈ B.hid, Is B.st M H x.1 x.2

section
variable {st : Addr} {B : Bs} {M : List Addr} {H H' : Hp} {σ : L2.St} {env : Nv}
theorem Stm.notup (h : Stm st M H) : ∀ vs, H st ≠ some (.tup vs) := fun vs z => by
  obtain ⟨a, ns, c, k, _, _, e, _⟩ := h
  rw [e] at z
  cases z
theorem Stm.fx {M' : List Addr} (h : Stm st M H) (e : Fx st H H') (hM : ∀ b ∈ M', b ∈ M) : Stm st M' H' := by
  obtain ⟨a, ns, c, k, h1, h2, h3, h4, h5, h6⟩ := h
  obtain ⟨c', k', g1, g2, g3⟩ := e.2 a c k h5 h6 h3
  exact ⟨a, ns, c', k', fun z => h1 (hM _ z), h2, g3, e.1 _ _ h2 h4, g1, g2⟩
theorem Sr.nt (S : Sr B M σ H env) : ∀ vs, H B.st ≠ some (.tup vs) := S.stm.notup
theorem Sr.is (S : Sr B M σ H env) (e : Fx B.st H H') {v : V} {d : D} (h : Is B.st M H v d) : Is B.st M H' v d := h.mono (fun _ z => z) S.stM e S.nt
theorem Sr.iss (S : Sr B M σ H env) (e : Fx B.st H H') {v : List V} {d : List D} (h : Iss B.st M H v d) : Iss B.st M H' v d := h.mono (fun _ z => z) S.stM e S.nt
theorem Sr.newM (S : Sr B M σ H env) {p : Addr} (hp : H p = none) : p ∉ M := fun z => by
  obtain ⟨o, e⟩ := S.trk p z
  rw [hp] at e
  cases e
theorem Sr.new0 (S : Sr B M σ H env) {p : Addr} (hp : H p = none) : B.H0 p = none := by
  cases e : B.H0 p with
  | none => rfl
  | some o =>
    have hs : p ≠ B.st := fun z => S.newM hp (z ▸ S.stM)
    rw [S.keep.1 p o hs e] at hp
    cases hp
theorem OwOk.fx (hS : st ∈ M) (e : Fx st H H') (ht : ∀ vs, H st ≠ some (.tup vs)) {h : HO} {o : Ow} (k : OwOk st M H h o) : OwOk st M H' h o := by
  cases k with
  | lst h => exact .lst (h.mono (fun _ z => z) hS e ht)
  | dK hf => exact .dK hf
  | dT hf => exact .dT hf
/-- the heap grows, the stream may move -/
theorem Sr.fx (S : Sr B M σ H env) (e : Fx B.st H H') : Sr B M σ H' env where
  stm := S.stm.fx e fun _ z => z
  stM := S.stM
  keep := S.keep.trans e
  sub := S.sub
  fresh := S.fresh
  trk := fun b hb => by
    by_cases z : b = B.st
    · obtain ⟨a, ns, c, k, _, _, h3, _⟩ := S.stm.fx (M' := M) e fun _ z => z
      exact ⟨_, z ▸ h3⟩
    · obtain ⟨o, q⟩ := S.trk b hb
      exact ⟨o, e.1 b o z q⟩
  st0 := S.st0
  trk0 := S.trk0
  len := S.len
  dat := fun i d h => by
    obtain ⟨v, h1, h2⟩ := S.dat i d h
    exact ⟨v, h1, S.is e h2⟩
  own := fun i o h => by
    obtain ⟨p, u, h1, h2, h3, h4, h5⟩ := S.own i o h
    exact ⟨p, u, h1, h2, h3, e.1 p u (fun z => h3 (z ▸ S.st0)) h4, h5.fx S.stM e S.nt⟩
  inj := S.inj
  hid := fun x hx => S.is e (S.hid x hx)
/-- a new object -/
theorem Sr.new (S : Sr B M σ H env) {p : Addr} {o : HO} (hp : H p = none) : Sr B M σ (upd H p o) env := S.fx (Fx.new hp)
end

/-! ### judgements over data -/
def De (te : TE) (env : Nv) (post : D → Prop) : Prop := ∀ B M σ H, Sr B M σ H env → ∀ Q : VK,
  (∀ v H' d, post d → Sr B M σ H' env → Fx B.st H H' → Is B.st M H' v d → Q v H') → te σ H Q
def Dt (tt : TT) (env : Nv) (post : Bool → Prop) : Prop := ∀ B M σ H, Sr B M σ H env → ∀ Q : Bool → Hp → Prop,
  (∀ b H', post b → Sr B M σ H' env → Fx B.st H H' → Q b H') → tt σ H Q
def Da (ta : TA) (env : Nv) (post : List D → Prop) : Prop := ∀ B M σ H, Sr B M σ H env → ∀ Q : List V → Hp → Prop,
  (∀ vs H' ds, post ds → Sr B M σ H' env → Fx B.st H H' → Iss B.st M H' vs ds → Q vs H') → ta σ H Q
def Do (to : TO) (env : Nv) (post : Option Int → Prop) : Prop := ∀ B M σ H, Sr B M σ H env → ∀ Q : Option Int → Hp → Prop,
  (∀ o H', post o → Sr B M σ H' env → Fx B.st H H' → Q o H') → to σ H Q
def Ds (ts : TS) (env : Nv) (nx : Nv → Prop) (rt : D → Prop) (bk ct : Nv → Prop) : Prop := ∀ B M σ H, Sr B M σ H env → ∀ D : Ends,
  (∀ M' σ' H' env', nx env' → Sr B M' σ' H' env' → D.nx σ' H') →
  (∀ v H' d, rt d → Fx B.st B.H0 H' → Is B.st B.M0 H' v d → D.rt v H') →
  (∀ M' σ' H' env', bk env' → Sr B M' σ' H' env' → D.bk σ' H') →
  (∀ M' σ' H' env', ct env' → Sr B M' σ' H' env' → D.ct σ' H') → ts D σ H

section
variable {env : Nv} {post : D → Prop} {ta tb tc te : TE} {t u : TT} {tas : TA} {r r' : R2}
theorem de_mono {post' : D → Prop} (h : De te env post) (k : ∀ d, post d → post' d) : De te env post' := fun B M σ H S Q q =>
  h B M σ H S Q fun v H' d p => q v H' d (k d p)
theorem de_var {i : Nat} {d : D} (h : env[i]? = some (.dat d)) (k : post d) : De (tVar i) env post := fun B M σ H S Q q => by
  obtain ⟨v, h1, h2⟩ := S.dat i d h
  exact ⟨v, h1, q v H d k S (Fx.refl _ _) h2⟩
theorem de_int {i : Int} (k : post (.int i)) : De (tC (.int i)) env post := fun B M σ H S Q q => q _ H _ k S (Fx.refl _ _) (.int i)
theorem de_bl {i : Bool} (k : post (.bl i)) : De (tC (.bl i)) env post := fun B M σ H S Q q => q _ H _ k S (Fx.refl _ _) (.bl i)
theorem is_strS (st : Addr) (M : List Addr) (H : Hp) (x : Str) : Is st M H (.str x) (.str x.cps.toList) := by
  have h := Is.str (st := st) (M := M) (H := H) x.cps.toList
  rw [Array.toArray_toList] at h
  exact h
theorem de_str {i : Str} (k : post (.str i.cps.toList)) : De (tC (.str i)) env post := fun B M σ H S Q q => q _ H _ k S (Fx.refl _ _) (is_strS _ _ _ i)
theorem de_ty {i : String} (k : post (.ty i)) : De (tC (.ty i)) env post := fun B M σ H S Q q => q _ H _ k S (Fx.refl _ _) (.ty i)
theorem de_strL {i : Str} {l : List Nat} (e : i.cps.toList = l) (k : post (.str l)) : De (tC (.str i)) env post := de_str (e ▸ k)
theorem de_non (k : post .non) : De (tC .non) env post := fun B M σ H S Q q => q _ H _ k S (Fx.refl _ _) .non
/-- an operation on values, over data -/
def Dop (r : R2) (x y : D) (post : D → Prop) : Prop := ∀ (st : Addr) (M : List Addr) (H : Hp) (v w : V), Stm st M H → st ∈ M → (∀ b ∈ M, ∃ o, H b = some o) → Is st M H v x → Is st M H w y → ∀ Q : VK,
  (∀ z H' d, post d → Fx st H H' → Is st M H' z d → Q z H') → r v w H Q
theorem de_op (h : De ta env fun x => De tb env fun y => Dop r x y post) : De (tOp r ta tb) env post := fun B M σ H S Q q =>
  h B M σ H S _ fun v H1 x hx S1 e1 i1 => hx B M σ H1 S1 _ fun w H2 y hy S2 e2 i2 =>
    hy B.st M H2 v w S2.stm S2.stM S2.trk (S1.is e2 i1) i2 Q fun z H3 d hd e3 i3 => q z H3 d hd (S2.fx e3) ((e1.trans e2).trans e3) i3
def Dun (r : V → Hp → VK → Prop) (x : D) (post : D → Prop) : Prop := ∀ (st : Addr) (M : List Addr) (H : Hp) (v : V), Stm st M H → st ∈ M → (∀ b ∈ M, ∃ o, H b = some o) → Is st M H v x → ∀ Q : VK,
  (∀ z H' d, post d → Fx st H H' → Is st M H' z d → Q z H') → r v H Q
theorem de_un {r : V → Hp → VK → Prop} (h : De ta env fun x => Dun r x post) : De (tUn r ta) env post := fun B M σ H S Q q =>
  h B M σ H S _ fun v H2 y hy S2 e2 i2 =>
    hy B.st M H2 v S2.stm S2.stM S2.trk i2 Q fun z H3 d hd e3 i3 => q z H3 d hd (S2.fx e3) (e2.trans e3) i3
def Dcl (r : List V → Hp → VK → Prop) (xs : List D) (post : D → Prop) : Prop := ∀ (st : Addr) (M : List Addr) (H : Hp) (vs : List V), Stm st M H → st ∈ M → (∀ b ∈ M, ∃ o, H b = some o) → Iss st M H vs xs → ∀ Q : VK,
  (∀ z H' d, post d → Fx st H H' → Is st M H' z d → Q z H') → r vs H Q
theorem de_cb {r : List V → Hp → VK → Prop} (h : Da tas env fun xs => Dcl r xs post) : De (tCB r tas) env post := fun B M σ H S Q q =>
  h B M σ H S _ fun v H2 y hy S2 e2 i2 =>
    hy B.st M H2 v S2.stm S2.stM S2.trk i2 Q fun z H3 d hd e3 i3 => q z H3 d hd (S2.fx e3) (e2.trans e3) i3
theorem da_nil {post : List D → Prop} (k : post []) : Da tNil env post := fun B M σ H S Q q => q [] H [] k S (Fx.refl _ _) .nil
theorem da_cons {post : List D → Prop} (h : De ta env fun x => Da tas env fun xs => post (x :: xs)) : Da (tCons ta tas) env post := fun B M σ H S Q q =>
  h B M σ H S _ fun v H1 x hx S1 e1 i1 => hx B M σ H1 S1 _ fun vs H2 xs hy S2 e2 i2 => q _ H2 _ hy S2 (e1.trans e2) (.cons (S1.is e2 i1) i2)
/-- a def's promise over data: its arguments told by an a, where it is asked, what may come -/
structure FS where
  α : Type
  arg : α → List D
  pre : α → Prop
  rel : α → D → Prop
def PF (F : FS) : Sp := fun vs H Q _ => ∃ (a : F.α) (st : Addr) (M : List Addr), Stm st M H ∧ st ∈ M ∧ (∀ b ∈ M, ∃ o, H b = some o) ∧ Iss st M H vs (F.arg a) ∧ F.pre a ∧
  ∀ r H' d, F.rel a d → Fx st H H' → Is st M H' r d → Q r H'
theorem de_call {F : FS} {E : XK} (h : Da tas env fun xs => ∃ a : F.α, xs = F.arg a ∧ F.pre a ∧ ∀ d, F.rel a d → post d) : De (tCall (PF F) [] E tas) env post := fun B M σ H S Q q =>
  h B M σ H S _ fun vs H2 xs ⟨a, ea, hy1, hy2⟩ S2 e2 i2 => ⟨a, B.st, M, S2.stm, S2.stM, S2.trk, by rw [List.append_nil, ← ea]; exact i2, hy1, fun r H' d hd e3 i3 => q r H' d (hy2 d hd) (S2.fx e3) (e2.trans e3) i3⟩
theorem de_tup (h : Da tas env fun xs => xs.length ≤ 1000000 ∧ post (.tup xs)) : De (tTup tas) env post := fun B M σ H S Q q =>
  h B M σ H S _ fun vs H2 xs hy S2 e2 i2 => ⟨Nat.le_trans (by rw [i2.length]; exact hy.1) (by decide), fun p hp => q _ _ _ hy.2 (S2.new hp) (e2.trans (Fx.new hp)) (.tup upd_same (S2.iss (Fx.new hp) i2))⟩
theorem de_lst (h : Da tas env fun xs => xs.length ≤ 1000000 ∧ post (.lst xs)) : De (tLst tas) env post := fun B M σ H S Q q =>
  h B M σ H S _ fun vs H2 xs hy S2 e2 i2 => ⟨Nat.le_trans (by rw [i2.length]; exact hy.1) (by decide), fun p hp => q _ _ _ hy.2 (S2.new hp) (e2.trans (Fx.new hp)) (.lst (S2.newM hp) upd_same (S2.iss (Fx.new hp) i2))⟩
theorem is_bl {st : Addr} {M : List Addr} {H : Hp} {v : V} {b : Bool} (h : Is st M H v (.bl b)) : v = .bl b := by cases h; rfl
theorem is_int {st : Addr} {M : List Addr} {H : Hp} {v : V} {b : Int} (h : Is st M H v (.int b)) : v = .int b := by cases h; rfl
theorem is_str {st : Addr} {M : List Addr} {H : Hp} {v : V} {b : List Nat} (h : Is st M H v (.str b)) : v = .str ⟨b.toArray⟩ := by cases h; rfl
theorem is_non {st : Addr} {M : List Addr} {H : Hp} {v : V} (h : Is st M H v .non) : v = .non := by cases h; rfl
theorem is_tup {st : Addr} {M : List Addr} {H : Hp} {v : V} {ds : List D} (h : Is st M H v (.tup ds)) : ∃ p vs, v = .ref p ∧ H p = some (.tup vs) ∧ Iss st M H vs ds := by cases h with | tup h hs => exact ⟨_, _, rfl, h, hs⟩
theorem is_lst {st : Addr} {M : List Addr} {H : Hp} {v : V} {ds : List D} (h : Is st M H v (.lst ds)) : ∃ p vs, v = .ref p ∧ p ∉ M ∧ H p = some (.lst vs) ∧ Iss st M H vs ds := by cases h with | lst hm h hs => exact ⟨_, _, rfl, hm, h, hs⟩
/-! tests -/
theorem dt_test {postb : Bool → Prop} (h : De te env fun x => ∃ b, x = .bl b ∧ postb b) : Dt (tTest te) env postb := fun B M σ H S Q q =>
  h B M σ H S _ fun v H1 x ⟨b, e, hb⟩ S1 e1 i1 => by
    subst e
    exact ⟨b, is_bl i1, q b H1 hb S1 e1⟩
theorem dt_B {postb : Bool → Prop} (h : De te env fun x => ∃ b, x = .bl b ∧ postb b) : Dt (tB te) env postb := fun B M σ H S Q q =>
  h B M σ H S _ fun v H1 x ⟨b, e, hb⟩ S1 e1 i1 => by
    subst e
    exact ⟨b, is_bl i1, q b H1 hb S1 e1⟩
theorem dt_and {postb : Bool → Prop} (h : Dt t env fun b => if b = true then Dt u env postb else postb false) : Dt (tAnd t u) env postb := fun B M σ H S Q q =>
  h B M σ H S _ fun b H1 hb S1 e1 => by
    cases b with
    | true => exact hb B M σ H1 S1 Q fun b2 H2 h2 S2 e2 => q b2 H2 h2 S2 (e1.trans e2)
    | false => exact q false H1 hb S1 e1
theorem dt_or {postb : Bool → Prop} (h : Dt t env fun b => if b = true then postb true else Dt u env postb) : Dt (tOr t u) env postb := fun B M σ H S Q q =>
  h B M σ H S _ fun b H1 hb S1 e1 => by
    cases b with
    | false => exact hb B M σ H1 S1 Q fun b2 H2 h2 S2 e2 => q b2 H2 h2 S2 (e1.trans e2)
    | true => exact q true H1 hb S1 e1
theorem dt_not {postb : Bool → Prop} (h : Dt t env fun b => postb (!b)) : Dt (tNot t) env postb := fun B M σ H S Q q =>
  h B M σ H S _ fun b H1 hb S1 e1 => q _ H1 hb S1 e1
theorem de_andV (h : De ta env fun x => ∃ b, x = .bl b ∧ if b = true then De tb env post else post (.bl false)) : De (tAndV ta tb) env post := fun B M σ H S Q q =>
  h B M σ H S _ fun v H1 x ⟨b, e, hb⟩ S1 e1 i1 => by
    subst e
    refine ⟨b, is_bl i1, ?_⟩
    cases b with
    | true => exact hb B M σ H1 S1 Q fun v2 H2 d h2 S2 e2 => q v2 H2 d h2 S2 (e1.trans e2)
    | false => exact q _ H1 _ hb S1 e1 (.bl false)
theorem de_orV (h : De ta env fun x => ∃ b, x = .bl b ∧ if b = true then post (.bl true) else De tb env post) : De (tOrV ta tb) env post := fun B M σ H S Q q =>
  h B M σ H S _ fun v H1 x ⟨b, e, hb⟩ S1 e1 i1 => by
    subst e
    refine ⟨b, is_bl i1, ?_⟩
    cases b with
    | false => exact hb B M σ H1 S1 Q fun v2 H2 d h2 S2 e2 => q v2 H2 d h2 S2 (e1.trans e2)
    | true => exact q _ H1 _ hb S1 e1 (.bl true)
theorem de_notV (h : De ta env fun x => ∃ b, x = .bl b ∧ post (.bl (!b))) : De (tNotV ta) env post := fun B M σ H S Q q =>
  h B M σ H S _ fun v H1 x ⟨b, e, hb⟩ S1 e1 i1 => by
    subst e
    exact ⟨b, is_bl i1, q _ H1 _ hb S1 e1 (.bl (!b))⟩
theorem de_if (h : Dt t env fun b => if b = true then De ta env post else De tb env post) : De (tIf t ta tb) env post := fun B M σ H S Q q =>
  h B M σ H S _ fun b H1 hb S1 e1 => by
    cases b with
    | true => exact hb B M σ H1 S1 Q fun v2 H2 d h2 S2 e2 => q v2 H2 d h2 S2 (e1.trans e2)
    | false => exact hb B M σ H1 S1 Q fun v2 H2 d h2 S2 e2 => q v2 H2 d h2 S2 (e1.trans e2)
theorem de_chain (h : De ta env fun x => De tb env fun y => Dop r x y fun z => ∃ b, z = .bl b ∧ if b = true then De tc env (fun w => Dop r' y w post) else post (.bl false)) : De (tChain r r' ta tb tc) env post := by
  intro B M σ H S Q q
  refine h B M σ H S _ fun v H1 x hx S1 e1 i1 => hx B M σ H1 S1 _ fun w H2 y hy S2 e2 i2 => ?_
  refine hy B.st M H2 v w S2.stm S2.stM S2.trk (S1.is e2 i1) i2 _ fun z H3 d hd e3 i3 => ?_
  obtain ⟨b, eb, hb⟩ := hd
  subst eb
  have S3 := S2.fx e3
  refine ⟨b, is_bl i3, ?_⟩
  cases b with
  | true =>
    refine hb B M σ H3 S3 _ fun w2 H4 y2 hy2 S4 e4 i4 => ?_
    refine hy2 B.st M H4 w w2 S4.stm S4.stM S4.trk (S3.is e4 (S2.is e3 i2)) i4 Q fun z5 H5 d5 hd5 e5 i5 => ?_
    exact q z5 H5 d5 hd5 (S4.fx e5) ((((e1.trans e2).trans e3).trans e4).trans e5) i5
  | false => exact q _ H3 _ hb S3 ((e1.trans e2).trans e3) (.bl false)
/-- truth -/
def tTruD (K : PySem.W.Frag) (te : TE) : TT := fun σ H Q => te σ H fun x H' => ∃ k, TruV K x H' k ∧ Q k H'
def dTru : D → Option Bool
  | .non => some false
  | .bl b => some b
  | .int i => some (i != 0)
  | .str s => some (!s.isEmpty)
  | .lst ds => some (!ds.isEmpty)
  | .tup ds => some (!ds.isEmpty)
  | _ => none
end
end DL

namespace DL
open PySem PySem.Spec PyProof.Rows L2

section
variable {B : Bs} {M M' : List Addr} {H H' : Hp} {σ : L2.St} {env env' : Nv} {nx : Nv → Prop} {rt : D → Prop} {bk ct : Nv → Prop} {t u : TS} {c : TT} {te ta tb : TE} {tas : TA} {post : D → Prop} {K : PySem.W.Frag}
theorem ds_seq (h : Ds t env (fun e => Ds u e nx rt bk ct) rt bk ct) : Ds (tSeq t u) env nx rt bk ct := fun B M σ H S E q1 q2 q3 q4 =>
  h B M σ H S _ (fun M' σ' H' e' he S' => he B M' σ' H' S' E q1 q2 q3 q4) q2 q3 q4
theorem ds_mid (Mid : Nv → Prop) (h : Ds t env Mid rt bk ct) (k : ∀ e, Mid e → nx e) : Ds t env nx rt bk ct := fun B M σ H S E q1 q2 q3 q4 =>
  h B M σ H S E (fun M' σ' H' e' he S' => q1 M' σ' H' e' (k e' he) S') q2 q3 q4
theorem ds_cut (h : Ds t env (fun e => Ds u e nx rt bk ct) rt bk ct) : Ds (Evl.tCut t u) env nx rt bk ct := fun B M σ H S E q1 q2 q3 q4 =>
  ⟨fun σ' H' => u E σ' H', h B M σ H S _ (fun M' σ' H' e' he S' => he B M' σ' H' S' E q1 q2 q3 q4) q2 q3 q4, fun _ _ z => z⟩
theorem ds_next (h : nx env) : Ds tNext env nx rt bk ct := fun B M σ H S E q1 q2 q3 q4 => q1 M σ H env h S
theorem ds_brk (h : bk env) : Ds tBreak env nx rt bk ct := fun B M σ H S E q1 q2 q3 q4 => q3 M σ H env h S
theorem ds_cont (h : ct env) : Ds tCont env nx rt bk ct := fun B M σ H S E q1 q2 q3 q4 => q4 M σ H env h S
theorem ds_if (h : Dt c env fun b => if b = true then Ds t env nx rt bk ct else Ds u env nx rt bk ct) : Ds (tIfS c t u) env nx rt bk ct := fun B M σ H S E q1 q2 q3 q4 =>
  h B M σ H S _ fun b H1 hb S1 e1 => by
    cases b with
    | true => exact hb B M σ H1 S1 E q1 q2 q3 q4
    | false => exact hb B M σ H1 S1 E q1 q2 q3 q4
theorem ds_ret (h : De te env rt) : Ds (tRet te) env nx rt bk ct := fun B M σ H S E q1 q2 q3 q4 =>
  h B M σ H S _ fun v H1 d hd S1 e1 i1 => q2 v H1 d hd S1.keep (i1.mono S1.sub S1.stM (Fx.refl _ _) S1.nt)
theorem ds_retN (h : rt .non) : Ds tRetN env nx rt bk ct := fun B M σ H S E q1 q2 q3 q4 => q2 .non H .non h S.keep .non
theorem ds_drop (h : De te env fun _ => nx env) : Ds (tDrop te) env nx rt bk ct := fun B M σ H S E q1 q2 q3 q4 =>
  h B M σ H S _ fun v H1 d hd S1 e1 i1 => q1 M σ H1 env hd S1
theorem Sr.set (S : Sr B M σ H env) {i : Nat} {v : V} {d : D} (h : Is B.st M H v d) : Sr B M (σ.set i (some v)) H (env.set i (.dat d)) where
  stm := S.stm
  stM := S.stM
  keep := S.keep
  sub := S.sub
  fresh := S.fresh
  trk := S.trk
  st0 := S.st0
  trk0 := S.trk0
  len := by rw [List.length_set, List.length_set, S.len]
  dat := fun j e hj => by
    by_cases q : i = j
    · subst q
      have hl : i < env.length := by
        have := (List.getElem?_eq_some_iff.mp hj).1
        rwa [List.length_set] at this
      rw [List.getElem?_set_self hl] at hj
      cases hj
      exact ⟨v, by rw [List.getElem?_set_self (by rw [S.len]; exact hl)], h⟩
    · rw [List.getElem?_set_ne q] at hj
      rw [List.getElem?_set_ne q]
      exact S.dat j e hj
  own := fun j o hj => by
    by_cases q : i = j
    · subst q
      have hl : i < env.length := by
        have := (List.getElem?_eq_some_iff.mp hj).1
        rwa [List.length_set] at this
      rw [List.getElem?_set_self hl] at hj
      cases hj
    · rw [List.getElem?_set_ne q] at hj
      rw [List.getElem?_set_ne q]
      exact S.own j o hj
  inj := fun j k p o u hj hk h1 h2 => by
    have nj : i ≠ j := fun q => by
      subst q
      have hl : i < env.length := by
        have := (List.getElem?_eq_some_iff.mp hj).1
        rwa [List.length_set] at this
      rw [List.getElem?_set_self hl] at hj
      cases hj
    have nk : i ≠ k := fun q => by
      subst q
      have hl : i < env.length := by
        have := (List.getElem?_eq_some_iff.mp hk).1
        rwa [List.length_set] at this
      rw [List.getElem?_set_self hl] at hk
      cases hk
    rw [List.getElem?_set_ne nj] at hj h1
    rw [List.getElem?_set_ne nk] at hk h2
    exact S.inj j k p o u hj hk h1 h2
  hid := S.hid
theorem ds_set {i : Nat} (h : De te env fun d => nx (env.set i (.dat d))) : Ds (tAsg te (gName i)) env nx rt bk ct := fun B M σ H S E q1 q2 q3 q4 =>
  h B M σ H S _ fun v H1 d hd S1 e1 i1 => q1 M _ H1 _ hd (S1.set i1)
/-- name op= e -/
theorem ds_aug {i : Nat} {f : Int → Int → Int} {a : Int} (ha : env[i]? = some (.dat (.int a))) (h : De te env fun d => ∃ b, d = .int b ∧ nx (env.set i (.dat (.int (f a b))))) : Ds (tAug i te (ipI f)) env nx rt bk ct := fun B M σ H S E q1 q2 q3 q4 => by
  obtain ⟨x, h1, h2⟩ := S.dat i _ ha
  cases is_int h2
  refine ⟨.int a, h1, h B M σ H S _ fun v H1 d hd S1 e1 i1 => ?_⟩
  obtain ⟨b, rfl, hd⟩ := hd
  cases is_int i1
  exact ⟨a, b, rfl, rfl, q1 M _ H1 _ hd (S1.set (.int _))⟩

/-! ### lists of one's own -/
def toD : Ow → D
  | .lst ds => .lst ds
  | .dK kvs => .dK kvs
  | .dT kvs => .dT kvs
theorem OwOk.is {st p : Addr} {h : HO} {o : Ow} (k : OwOk st M H h o) (hp : p ∉ M) (e : H p = some h) : Is st M H (.ref p) (toD o) := by
  cases k with
  | lst hs => exact .lst hp e hs
  | dK hf => exact .dK hp e hf
  | dT hf => exact .dT hp e hf
theorem OwOk.mono {st : Addr} (hM : ∀ b ∈ M', b ∈ M) (hS : st ∈ M) (e : Fx st H H') (ht : ∀ vs, H st ≠ some (.tup vs)) {h : HO} {o : Ow} (k : OwOk st M H h o) : OwOk st M' H' h o := by
  cases k with
  | lst h => exact .lst (h.mono hM hS e ht)
  | dK hf => exact .dK hf
  | dT hf => exact .dT hf
/-- a fresh object comes, reached by nothing -/
def DeN (te : TE) (env : Nv) (post : Ow → Prop) : Prop := ∀ B M σ H, Sr B M σ H env → ∀ Q : VK,
  (∀ p H' h o, post o → Sr B (p :: M) σ H' env → Fx B.st H H' → H' p = some h → OwOk B.st (p :: M) H' h o → H p = none → Q (.ref p) H') → te σ H Q
theorem Sr.less (S : Sr B M σ H env) (hs : ∀ b ∈ M', b ∈ M) (h0 : ∀ b ∈ B.M0, b ∈ M') (ho : ∀ (i : Nat) o p, env[i]? = some (.own o) → σ[i]? = some (some (.ref p)) → p ∈ M') : Sr B M' σ H env where
  stm := S.stm.fx (Fx.refl _ _) hs
  stM := h0 _ S.st0
  keep := S.keep
  sub := h0
  fresh := fun b hb => S.fresh b (hs b hb)
  trk := fun b hb => S.trk b (hs b hb)
  st0 := S.st0
  trk0 := S.trk0
  len := S.len
  dat := fun i d h => by
    obtain ⟨v, h1, h2⟩ := S.dat i d h
    exact ⟨v, h1, h2.mono hs S.stM (Fx.refl _ _) S.nt⟩
  own := fun i o h => by
    obtain ⟨p, u, h1, h2, h3, h4, h5⟩ := S.own i o h
    exact ⟨p, u, h1, ho i o p h h1, h3, h4, h5.mono hs S.stM (Fx.refl _ _) S.nt⟩
  inj := S.inj
  hid := fun x hx => (S.hid x hx).mono hs S.stM (Fx.refl _ _) S.nt
theorem de_ofN (h : DeN te env fun o => post (toD o)) : De te env post := fun B M σ H S Q q =>
  h B M σ H S Q fun p H' u o hp S' e hu ko hn => by
    have nM : p ∉ M := S.newM hn
    have sub : ∀ b ∈ M, b ∈ p :: M := fun b hb => List.mem_cons_of_mem _ hb
    exact q _ H' _ hp (S'.less sub S.sub fun i o' p' h1 h2 => by
      obtain ⟨p2, _, g1, g2, _⟩ := S.own i o' h1
      rw [h2] at g1
      cases g1
      exact g2) e ((ko.mono sub S'.stM (Fx.refl _ _) S'.nt).is nM hu)
/-- a slot is given up -/
def Nv.free (env : Nv) (i : Nat) : Nv := env.set i .any
theorem Sr.any (S : Sr B M σ H env) {i : Nat} {v : Option V} : Sr B M (σ.set i v) H (env.set i .any) where
  stm := S.stm
  stM := S.stM
  keep := S.keep
  sub := S.sub
  fresh := S.fresh
  trk := S.trk
  st0 := S.st0
  trk0 := S.trk0
  len := by rw [List.length_set, List.length_set, S.len]
  dat := fun j e hj => by
    by_cases q : i = j
    · subst q
      have hl : i < env.length := by
        have := (List.getElem?_eq_some_iff.mp hj).1
        rwa [List.length_set] at this
      rw [List.getElem?_set_self hl] at hj
      cases hj
    · rw [List.getElem?_set_ne q] at hj
      rw [List.getElem?_set_ne q]
      exact S.dat j e hj
  own := fun j o hj => by
    by_cases q : i = j
    · subst q
      have hl : i < env.length := by
        have := (List.getElem?_eq_some_iff.mp hj).1
        rwa [List.length_set] at this
      rw [List.getElem?_set_self hl] at hj
      cases hj
    · rw [List.getElem?_set_ne q] at hj
      rw [List.getElem?_set_ne q]
      exact S.own j o hj
  inj := fun j k p o u hj hk h1 h2 => by
    have nj : i ≠ j := fun q => by
      subst q
      have hl : i < env.length := by
        have := (List.getElem?_eq_some_iff.mp hj).1
        rwa [List.length_set] at this
      rw [List.getElem?_set_self hl] at hj
      cases hj
    have nk : i ≠ k := fun q => by
      subst q
      have hl : i < env.length := by
        have := (List.getElem?_eq_some_iff.mp hk).1
        rwa [List.length_set] at this
      rw [List.getElem?_set_self hl] at hk
      cases hk
    rw [List.getElem?_set_ne nj] at hj h1
    rw [List.getElem?_set_ne nk] at hk h2
    exact S.inj j k p o u hj hk h1 h2
  hid := S.hid
/-- what is known of slots may be forgotten -/
theorem Sr.weak (S : Sr B M σ H env) (hl : env'.length = env.length) (h : ∀ (i : Nat) s, env'[i]? = some s → s = .any ∨ env[i]? = some s) : Sr B M σ H env' where
  stm := S.stm
  stM := S.stM
  keep := S.keep
  sub := S.sub
  fresh := S.fresh
  trk := S.trk
  st0 := S.st0
  trk0 := S.trk0
  len := S.len.trans hl.symm
  dat := fun j e hj => (h j _ hj).elim (fun z => nomatch z) fun z => S.dat j e z
  own := fun j e hj => (h j _ hj).elim (fun z => nomatch z) fun z => S.own j e z
  inj := fun j k p o u hj hk => S.inj j k p o u ((h j _ hj).elim (fun z => nomatch z) id) ((h k _ hk).elim (fun z => nomatch z) id)
  hid := S.hid
/-- a slot takes a fresh object for its own -/
theorem Sr.setN (S : Sr B (p :: M) σ H env) (S0 : Sr B M σ H' env) {i : Nat} (hn : H' p = none) {h : HO} {o : Ow} (e : H p = some h) (k : OwOk B.st (p :: M) H h o) : Sr B (p :: M) (σ.set i (some (.ref p))) H (env.set i (.own o)) := by
  have A := S.any (i := i) (v := some (.ref p))
  have ne : ∀ (j : Nat) u q, env[j]? = some (.own u) → σ[j]? = some (some (.ref q)) → q ≠ p := fun j u q h1 h2 z => by
    obtain ⟨p2, x, g1, g2, g3, g4, g5⟩ := S0.own j u h1
    rw [h2] at g1
    cases g1
    rw [z, hn] at g4
    cases g4
  have set_at : ∀ {α : Type} {l : List α} {j : Nat} {x y : α}, (l.set i x)[j]? = some y → (j = i ∧ y = x) ∨ (j ≠ i ∧ l[j]? = some y) := fun {α l j x y} hj => by
    by_cases q : i = j
    · subst q
      have hl : i < l.length := by
        have := (List.getElem?_eq_some_iff.mp hj).1
        rwa [List.length_set] at this
      rw [List.getElem?_set_self hl] at hj
      exact .inl ⟨rfl, (Option.some.inj hj).symm⟩
    · rw [List.getElem?_set_ne q] at hj
      exact .inr ⟨fun z => q z.symm, hj⟩
  refine ⟨A.stm, A.stM, A.keep, A.sub, A.fresh, A.trk, A.st0, A.trk0, by rw [List.length_set, List.length_set, S.len], fun j d hj => ?_, fun j u hj => ?_, fun j l q u w hj hk h1 h2 => ?_, A.hid⟩
  · rcases set_at hj with ⟨_, z⟩ | ⟨nj, hj⟩
    · cases z
    · rw [List.getElem?_set_ne (fun z => nj z.symm)]
      exact S.dat j d hj
  · rcases set_at hj with ⟨rfl, z⟩ | ⟨nj, hj'⟩
    · cases z
      have hl : j < env.length := by
        have := (List.getElem?_eq_some_iff.mp hj).1
        rwa [List.length_set] at this
      refine ⟨p, h, by rw [List.getElem?_set_self (by rw [S.len]; exact hl)], List.mem_cons_self, fun z => ?_, e, k⟩
      obtain ⟨x, hx⟩ := S0.trk p (S0.sub p z)
      rw [hn] at hx
      cases hx
    · rw [List.getElem?_set_ne (fun z => nj z.symm)]
      exact S.own j u hj'
  · rcases set_at hj with ⟨rfl, _⟩ | ⟨nj, hj'⟩
    · rcases set_at hk with ⟨rfl, _⟩ | ⟨nk, hk'⟩
      · rfl
      · rw [List.getElem?_set_ne (fun z => nk z.symm)] at h2
        have hl : j < σ.length := by
          have := (List.getElem?_eq_some_iff.mp h1).1
          rwa [List.length_set] at this
        rw [List.getElem?_set_self hl] at h1
        cases h1
        exact absurd rfl (ne l w p hk' h2)
    · rw [List.getElem?_set_ne (fun z => nj z.symm)] at h1
      rcases set_at hk with ⟨rfl, _⟩ | ⟨nk, hk'⟩
      · have hl : l < σ.length := by
          have := (List.getElem?_eq_some_iff.mp h2).1
          rwa [List.length_set] at this
        rw [List.getElem?_set_self hl] at h2
        cases h2
        exact absurd rfl (ne j u p hj' h1)
      · rw [List.getElem?_set_ne (fun z => nk z.symm)] at h2
        exact S.inj j l q u w hj' hk' h1 h2
theorem ds_setN {i : Nat} (h : DeN te env fun o => nx (env.set i (.own o))) : Ds (tAsg te (gName i)) env nx rt bk ct := fun B M σ H S E q1 q2 q3 q4 =>
  h B M σ H S _ fun p H' u o hp S' e hu ko hn => q1 _ _ H' _ hp (S'.setN S hn hu ko)
/-- a new object is laid and taken into M -/
theorem Sr.newIn (S2 : Sr B M σ H env) {p : Addr} (hn : H p = none) (o : HO) : Sr B (p :: M) σ (upd H p o) env := by
  have S3 : Sr B M σ (upd H p o) env := S2.new hn
  have hk : ∀ b ∈ (p :: M), b ∈ B.M0 ∨ B.H0 b = none := fun b hb => (List.mem_cons.mp hb).elim (fun z => .inr (z ▸ S2.new0 hn)) (S2.fresh b)
  have mo : ∀ {v : V} {d : D}, Is B.st M H v d → Is B.st (p :: M) (upd H p o) v d := fun h => (h.more hn).mono (fun _ z => z) (List.mem_cons_of_mem _ S2.stM) (Fx.new hn) S2.nt
  have moo : ∀ {v : List V} {d : List D}, Iss B.st M H v d → Iss B.st (p :: M) (upd H p o) v d := fun h => (h.more hn).mono (fun _ z => z) (List.mem_cons_of_mem _ S2.stM) (Fx.new hn) S2.nt
  have ne : p ≠ B.st := fun z => S2.newM hn (z ▸ S2.stM)
  refine ⟨?_, List.mem_cons_of_mem _ S2.stM, S3.keep, fun b hb => List.mem_cons_of_mem _ (S2.sub b hb), hk, fun b hb => ?_, S2.st0, S2.trk0, S2.len, fun i d hd => ?_, fun i u ho => ?_, S2.inj, fun x hx => mo (S2.hid x hx)⟩
  · obtain ⟨a, ns, c, k, h1, h2, h3, h4, h5⟩ := S3.stm
    refine ⟨a, ns, c, k, fun z => (List.mem_cons.mp z).elim (fun z => ?_) h1, h2, h3, h4, h5⟩
    obtain ⟨a', ns', c', k', g1, g2, g3, g4, g5⟩ := S2.stm
    have h3' : H B.st = some (.lst [.ref a, .int c, .int k]) := by
      rw [← h3, upd_ne (fun z => ne z.symm)]
    rw [h3'] at g3
    have : a = a' := by injection g3 with g3; injection g3 with g3; injection g3 with g3 _; injection g3
    rw [← this, z, hn] at g4
    cases g4
  · by_cases z : b = p
    · subst z
      exact ⟨o, upd_same⟩
    · exact S3.trk b ((List.mem_cons.mp hb).resolve_left z)
  · obtain ⟨v, h1, h2⟩ := S2.dat i d hd
    exact ⟨v, h1, mo h2⟩
  · obtain ⟨p', u', h1, h2, h3, h4, h5⟩ := S2.own i u ho
    refine ⟨p', u', h1, List.mem_cons_of_mem _ h2, h3, by rw [upd_ne (ne_of_none h4 hn)]; exact h4, ?_⟩
    cases h5 with
    | lst h => exact .lst (moo h)
    | dK hf => exact .dK hf
    | dT hf => exact .dT hf
theorem Sr.newIs (S2 : Sr B M σ H env) {p : Addr} (hn : H p = none) (o : HO) {v : List V} {d : List D} (h : Iss B.st M H v d) : Iss B.st (p :: M) (upd H p o) v d :=
  (h.more hn).mono (fun _ z => z) (List.mem_cons_of_mem _ S2.stM) (Fx.new hn) S2.nt
theorem fresh_back {H H' : Hp} {p st : Addr} (e : Fx st H H') (ne : p ≠ st) (h : H' p = none) : H p = none := by
  cases z : H p with
  | none => rfl
  | some o =>
    rw [e.1 p o ne z] at h
    cases h
theorem Sr.nst (S : Sr B M σ H env) {p : Addr} (hn : H p = none) : p ≠ B.st := fun z => S.newM hn (z ▸ S.stM)
theorem den_lst {postN : Ow → Prop} (h : Da tas env fun xs => xs.length ≤ 1000000 ∧ postN (.lst xs)) : DeN (tLst tas) env postN := fun B M σ H S Q q =>
  h B M σ H S _ fun vs H2 xs hy S2 e2 i2 => ⟨Nat.le_trans (by rw [i2.length]; exact hy.1) (by decide), fun p hn =>
    q p _ (.lst vs) (.lst xs) hy.2 (S2.newIn hn _) (e2.trans (Fx.new hn)) upd_same (.lst (S2.newIs hn _ i2)) (fresh_back e2 (S2.nst hn) hn)⟩

/-! ### giving up what is one's own; looking at it -/
theorem Sr.rel (S : Sr B M σ H env) {i : Nat} {o : Ow} (hi : env[i]? = some (.own o)) : ∃ M', (∀ b ∈ M', b ∈ M) ∧ Sr B M' σ H (env.set i (.dat (toD o))) ∧ ∀ b ∈ M, b ∉ M' → σ[i]? = some (some (.ref b)) := by
  obtain ⟨p, u, h1, h2, h3, h4, h5⟩ := S.own i o hi
  have hl : i < env.length := (List.getElem?_eq_some_iff.mp hi).1
  have hM : ∀ b ∈ M.filter (fun b => decide (b ≠ p)), b ∈ M := fun b hb => (List.mem_filter.mp hb).1
  have h0 : ∀ b ∈ B.M0, b ∈ M.filter (fun b => decide (b ≠ p)) := fun b hb => List.mem_filter.mpr ⟨S.sub b hb, decide_eq_true fun z => h3 (z ▸ hb)⟩
  have S1 : Sr B M σ H (env.set i .any) := S.weak (by rw [List.length_set]) fun j s hj => by
    by_cases q : i = j
    · subst q
      rw [List.getElem?_set_self hl] at hj
      exact .inl (Option.some.inj hj).symm
    · rw [List.getElem?_set_ne q] at hj
      exact .inr hj
  have S2 : Sr B (M.filter fun b => decide (b ≠ p)) σ H (env.set i .any) := S1.less hM h0 fun j w q h6 h7 => by
    by_cases z : i = j
    · subst z
      rw [List.getElem?_set_self hl] at h6
      cases h6
    · rw [List.getElem?_set_ne z] at h6
      obtain ⟨p2, u2, g1, g2, g3, g4, g5⟩ := S.own j w h6
      rw [h7] at g1
      cases g1
      exact List.mem_filter.mpr ⟨g2, decide_eq_true fun y => z (S.inj i j p o w hi h6 h1 (y ▸ h7))⟩
  have hp : p ∉ M.filter (fun b => decide (b ≠ p)) := fun z => (of_decide_eq_true (List.mem_filter.mp z).2) rfl
  have S3 := S2.set (i := i) ((h5.mono hM S.stM (Fx.refl _ _) S.nt).is hp h4)
  refine ⟨_, hM, ?_, fun b hb hn => ?_⟩
  · rw [List.set_set] at S3
    have e : σ.set i (some (.ref p)) = σ := by
      apply List.ext_getElem?
      intro j
      by_cases q : i = j
      · subst q
        rw [List.getElem?_set_self (by rw [S.len]; exact hl), h1]
      · rw [List.getElem?_set_ne q]
    rw [e] at S3
    exact S3
  · have : b = p := Decidable.byContradiction fun z => hn (List.mem_filter.mpr ⟨hb, decide_eq_true z⟩)
    rw [this]
    exact h1
theorem ds_rel (i : Nat) {o : Ow} (hi : env[i]? = some (.own o)) (h : Ds t (env.set i (.dat (toD o))) nx rt bk ct) : Ds t env nx rt bk ct := fun B M σ H S E q1 q2 q3 q4 => by
  obtain ⟨M', _, S', _⟩ := S.rel hi
  exact h B M' σ H S' E q1 q2 q3 q4
/-- flat data reach nothing -/
def flatD : D → Prop
  | .non => True
  | .bl _ => True
  | .int _ => True
  | .str _ => True
  | .ty _ => True
  | _ => False
theorem Is.flat {st : Addr} {v : V} {d : D} (h : Is st M H v d) (f : flatD d) : Is st M' H' v d := by
  cases h with
  | non => exact .non
  | bl b => exact .bl b
  | int b => exact .int b
  | str b => exact .str b
  | ty b => exact .ty b
  | _ => exact f.elim
theorem de_look (i : Nat) {o : Ow} (hi : env[i]? = some (.own o)) (h : De te (env.set i (.dat (toD o))) fun d => flatD d ∧ post d) : De te env post := fun B M σ H S Q q => by
  obtain ⟨M', hM, S', _⟩ := S.rel hi
  exact h B M' σ H S' Q fun v H1 d hd S1 e1 i1 => q v H1 d hd.2 (S.fx e1) e1 (i1.flat hd.1)
theorem dt_look (i : Nat) {o : Ow} (hi : env[i]? = some (.own o)) {postb : Bool → Prop} (h : Dt c (env.set i (.dat (toD o))) postb) : Dt c env postb := fun B M σ H S Q q => by
  obtain ⟨M', hM, S', _⟩ := S.rel hi
  exact h B M' σ H S' Q fun b H1 hb S1 e1 => q b H1 hb (S.fx e1) e1
/-- what is one's own changes -/
theorem Sr.mutate (S : Sr B M σ H env) {i : Nat} {o o' : Ow} {p : Addr} {h h' : HO} (hi : env[i]? = some (.own o)) (hσ : σ[i]? = some (some (.ref p))) (hp : H p = some h) (k : OwOk B.st M H h o) (k' : OwOk B.st M H h' o') : Sr B M σ (upd H p h') (env.set i (.own o')) := by
  obtain ⟨p2, u, h1, h2, h3, h4, h5⟩ := S.own i o hi
  rw [hσ] at h1
  cases h1
  rw [hp] at h4
  cases h4
  have hl : i < env.length := (List.getElem?_eq_some_iff.mp hi).1
  have ne : p ≠ B.st := fun z => h3 (z ▸ S.st0)
  have nt : ∀ vs, H p ≠ some (.tup vs) := fun vs z => by
    rw [hp] at z
    exact k.notup vs (Option.some.inj z)
  have mo : ∀ {h : HO} {o : Ow}, OwOk B.st M H h o → OwOk B.st M (upd H p h') h o := fun k => by
    cases k with
    | lst h => exact .lst (h.upd h2 nt)
    | dK hf => exact .dK hf
    | dT hf => exact .dT hf
  refine ⟨?_, S.stM, ⟨fun b u hb e => ?_, fun a c k q1 q2 e => ?_⟩, S.sub, S.fresh, fun b hb => ?_, S.st0, S.trk0, by rw [List.length_set]; exact S.len, fun j d hj => ?_, fun j w hj => ?_, fun j l q w x hj hk g1 g2 => ?_, fun x hx => (S.hid x hx).upd h2 nt⟩
  · obtain ⟨a, ns, c, k, g1, g2, g3, g4, g5⟩ := S.stm
    refine ⟨a, ns, c, k, g1, g2, by rw [upd_ne (fun z => ne z.symm)]; exact g3, by rw [upd_ne (fun z => g1 (by rw [z]; exact h2))]; exact g4, g5⟩
  · have nb : b ≠ p := fun z => by
      rcases S.fresh p h2 with y | y
      · exact h3 y
      · rw [z, y] at e
        cases e
    rw [upd_ne nb]
    exact S.keep.1 b u hb e
  · obtain ⟨c', k', r1, r2, r3⟩ := S.keep.2 a c k q1 q2 e
    exact ⟨c', k', r1, r2, by rw [upd_ne (fun z => ne z.symm)]; exact r3⟩
  · by_cases z : b = p
    · exact ⟨h', by rw [z, upd_same]⟩
    · rw [upd_ne z]
      exact S.trk b hb
  · by_cases q : i = j
    · subst q
      rw [List.getElem?_set_self hl] at hj
      cases hj
    · rw [List.getElem?_set_ne q] at hj
      obtain ⟨v, g1, g2⟩ := S.dat j d hj
      exact ⟨v, g1, g2.upd h2 nt⟩
  · by_cases q : i = j
    · subst q
      rw [List.getElem?_set_self hl] at hj
      cases hj
      exact ⟨p, h', hσ, h2, h3, upd_same, mo k'⟩
    · rw [List.getElem?_set_ne q] at hj
      obtain ⟨p3, u3, g1, g2, g3, g4, g5⟩ := S.own j w hj
      refine ⟨p3, u3, g1, g2, g3, by rw [upd_ne (fun z => q (S.inj i j p o w hi hj hσ (by rw [← z]; exact g1)))]; exact g4, mo g5⟩
  · have back : ∀ {j : Nat} {w : Ow}, (env.set i (.own o'))[j]? = some (.own w) → ∃ w', env[j]? = some (.own w') := fun {j w} hj => by
      by_cases q : i = j
      · subst q
        exact ⟨o, hi⟩
      · rw [List.getElem?_set_ne q] at hj
        exact ⟨w, hj⟩
    obtain ⟨w1, e1⟩ := back hj
    obtain ⟨w2, e2⟩ := back hk
    exact S.inj j l q w1 w2 e1 e2 g1 g2
/-- xs.append(e) -/
theorem ds_append {i : Nat} {ds : List D} (hi : env[i]? = some (.own (.lst ds))) (hz : ds.length < 1000000) (h : De te env fun d => nx (env.set i (.own (.lst (ds ++ [d]))))) : Ds (tDrop (tBM K "list" rAppend (tVar i) (tCons te tNil))) env nx rt bk ct := fun B M σ H S E q1 q2 q3 q4 => by
  obtain ⟨p, u, h1, h2, h3, h4, h5⟩ := S.own i _ hi
  cases h5 with
  | @lst vs _ hs =>
    refine ⟨.ref p, h1, .inl ⟨rfl, vs, .of h4⟩, h B M σ H S _ fun v H1 d hd S1 e1 i1 => ?_⟩
    have h4' : H1 p = some (.lst vs) := e1.1 p _ (fun z => h3 (z ▸ S.st0)) h4
    have hs' : Iss B.st M H1 vs ds := S.iss e1 hs
    exact ⟨p, vs, v, rfl, rfl, h4', Nat.lt_of_lt_of_le (by rw [hs'.length]; exact hz) (by decide), q1 M σ _ _ hd (S1.mutate hi h1 h4' (.lst hs') (.lst (hs'.append (.cons i1 .nil))))⟩
/-- xs.pop(), its answer dropped -/
theorem ds_pop {i : Nat} {ds : List D} {d : D} (hi : env[i]? = some (.own (.lst (ds ++ [d])))) (h : nx (env.set i (.own (.lst ds)))) : Ds (tDrop (tBM0 K "list" rPop (tVar i))) env nx rt bk ct := fun B M σ H S E q1 q2 q3 q4 => by
  obtain ⟨p, u, h1, h2, h3, h4, h5⟩ := S.own i _ hi
  cases h5 with
  | @lst vs _ hs =>
    have hl := hs.length
    rw [List.length_append, List.length_singleton] at hl
    obtain ⟨y, hy, _⟩ := hs.get (i := ds.length) (d := d) (by simp)
    have hd : Iss B.st M H vs.dropLast ds := by
      have := hs.take ds.length
      rw [List.take_left] at this
      have e : vs.dropLast = vs.take ds.length := by rw [List.dropLast_eq_take, hl, Nat.add_sub_cancel]
      rw [e]
      exact this
    refine ⟨.ref p, h1, .inl ⟨rfl, vs, .of h4⟩, p, vs, y, rfl, rfl, h4, by rw [hl, Nat.add_sub_cancel]; exact hy, q1 M σ _ _ h (S.mutate hi h1 h4 (.lst hs) (.lst hd))⟩
/-- xs[j] = e -/
theorem ds_setItem {i : Nat} {ds : List D} (hi : env[i]? = some (.own (.lst ds))) (h : De te env fun d => De tb env fun j => ∃ n : Nat, j = .int n ∧ n < ds.length ∧ nx (env.set i (.own (.lst (ds.set n d))))) : Ds (tAsg te (gSub (tVar i) tb rSetL)) env nx rt bk ct := fun B M σ H S E q1 q2 q3 q4 => by
  refine h B M σ H S _ fun v H1 d hd S1 e1 i1 => ?_
  obtain ⟨p, u, h1, h2, h3, h4, h5⟩ := S1.own i _ hi
  cases h5 with
  | @lst vs _ hs =>
    refine ⟨.ref p, h1, hd B M σ H1 S1 _ fun w H2 j hj S2 e2 i2 => ?_⟩
    obtain ⟨n, rfl, hn, hj⟩ := hj
    cases is_int i2
    have h4' : H2 p = some (.lst vs) := e2.1 p _ (fun z => h3 (z ▸ S.st0)) h4
    have hs' : Iss B.st M H2 vs ds := S1.iss e2 hs
    refine ⟨p, vs, n, n, rfl, rfl, h4', ?_, q1 M σ _ _ hj (S2.mutate hi h1 h4' (.lst hs') (.lst (hs'.set (S1.is e2 i1) n)))⟩
    unfold ixN
    rw [if_pos (Int.natCast_nonneg n), if_pos (by rw [hs'.length]; omega), Int.toNat_natCast]
end
end DL

namespace DL
open PySem PySem.Spec PyProof.Rows L2

section
variable {B : Bs} {M M' : List Addr} {H H' H1 : Hp} {σ : L2.St} {env env' : Nv} {nx : Nv → Prop} {rt : D → Prop} {bk ct : Nv → Prop} {t u : TS} {c : TT} {te ta tb : TE} {tas : TA} {post : D → Prop} {K : PySem.W.Frag}
theorem Sr.hide (S : Sr B M σ H env) {hv : List (V × D)} (h : ∀ x ∈ hv, Is B.st M H x.1 x.2) : Sr { B with hid := hv ++ B.hid } M σ H env :=
  ⟨S.stm, S.stM, S.keep, S.sub, S.fresh, S.trk, S.st0, S.trk0, S.len, S.dat, S.own, S.inj, fun x hx => (List.mem_append.mp hx).elim (h x) (S.hid x)⟩
theorem Sr.show {hv : List (V × D)} (S : Sr { B with hid := hv ++ B.hid } M σ H env) : Sr B M σ H env :=
  ⟨S.stm, S.stM, S.keep, S.sub, S.fresh, S.trk, S.st0, S.trk0, S.len, S.dat, S.own, S.inj, fun x hx => S.hid x (List.mem_append_right _ hx)⟩
theorem Sr.hv {hv : List (V × D)} (S : Sr { B with hid := hv ++ B.hid } M σ H env) : ∀ x ∈ hv, Is B.st M H x.1 x.2 := fun x hx => S.hid x (List.mem_append_left _ hx)

/-! ### what a loop walks -/
structure ItD (J : It) (st : Addr) (hv : List (V × D)) (ds : List D) : Prop where
  run : ∀ M H, Stm st M H → st ∈ M → (∀ x ∈ hv, Is st M H x.1 x.2) → (∀ i, i < ds.length → J.go i H) ∧ (∀ i, ds.length ≤ i → J.stop i H) ∧
    ∀ (i : Nat) d x H', ds[i]? = some d → J.yld i H x H' → (H' = H ∨ ∃ T o, H T = none ∧ H' = upd H T o) ∧ Is st M H' x d
def Di (wi : TI) (env : Nv) (post : List D → Prop) : Prop := ∀ B M σ H, Sr B M σ H env → ∀ R : It → Hp → Prop,
  (∀ J H' hv ds, post ds → Sr B M σ H' env → Fx B.st H H' → (∀ x ∈ hv, Is B.st M H' x.1 x.2) → ItD J B.st hv ds → R J H') → wi σ H R
theorem di_list {post : List D → Prop} (h : De te env fun d => ∃ ds, d = .lst ds ∧ post ds) : Di (iList K te) env post := fun B M σ H S R q =>
  h B M σ H S _ fun v H1 d ⟨ds, e, hp⟩ S1 e1 i1 => by
    subst e
    obtain ⟨p, vs, rfl, hm, hl, hs⟩ := is_lst i1
    refine ⟨p, rfl, ⟨vs, .of hl⟩, q _ H1 [(.ref p, .lst ds)] ds hp S1 e1 (fun x hx => ?_) ⟨fun M2 H2 hst hM hh => ?_⟩⟩
    · rw [List.mem_singleton.mp hx]
      exact i1
    · obtain ⟨p2, vs2, e2, hm2, hl2, hs2⟩ := is_lst (hh _ (List.mem_singleton.mpr rfl))
      cases e2
      refine ⟨fun i hi => ?_, fun i hi => ⟨vs2, .of hl2, by rw [hs2.length]; exact hi⟩, fun i d x H' hd hy => ?_⟩
      · obtain ⟨v, hv, _⟩ := hs2.get (List.getElem?_eq_getElem hi)
        exact ⟨vs2, v, .of hl2, hv⟩
      · obtain ⟨rfl, hy⟩ := hy
        obtain ⟨v, hv, iv⟩ := hs2.get hd
        have := hy vs2 (.of hl2)
        rw [hv] at this
        cases this
        exact ⟨.inl rfl, iv⟩
theorem di_tup {post : List D → Prop} (h : De te env fun d => ∃ ds, d = .tup ds ∧ post ds) : Di (iTup K te) env post := fun B M σ H S R q =>
  h B M σ H S _ fun v H1 d ⟨ds, e, hp⟩ S1 e1 i1 => by
    subst e
    obtain ⟨p, vs, rfl, hl, hs⟩ := is_tup i1
    refine ⟨p, rfl, ⟨vs, .of hl⟩, q _ H1 [(.ref p, .tup ds)] ds hp S1 e1 (fun x hx => ?_) ⟨fun M2 H2 hst hM hh => ?_⟩⟩
    · rw [List.mem_singleton.mp hx]
      exact i1
    · obtain ⟨p2, vs2, e2, hl2, hs2⟩ := is_tup (hh _ (List.mem_singleton.mpr rfl))
      cases e2
      refine ⟨fun i hi => ?_, fun i hi => ⟨vs2, .of hl2, by rw [hs2.length]; exact hi⟩, fun i d x H' hd hy => ?_⟩
      · obtain ⟨v, hv, _⟩ := hs2.get (List.getElem?_eq_getElem hi)
        exact ⟨vs2, v, .of hl2, hv⟩
      · obtain ⟨rfl, hy⟩ := hy
        obtain ⟨v, hv, iv⟩ := hs2.get hd
        have := hy vs2 (.of hl2)
        rw [hv] at this
        cases this
        exact ⟨.inl rfl, iv⟩
abbrev sign (c : Nat) : D := .str [c]
theorem di_str {post : List D → Prop} (h : De te env fun d => ∃ s, d = .str s ∧ post (s.map sign)) : Di (iStr te) env post := fun B M σ H S R q =>
  h B M σ H S _ fun v H1 d ⟨s, e, hp⟩ S1 e1 i1 => by
    subst e
    cases is_str i1
    refine ⟨⟨s.toArray⟩, rfl, q _ H1 [] _ hp S1 e1 (fun x hx => nomatch hx) ⟨fun M2 H2 hst hM hh => ?_⟩⟩
    refine ⟨fun i hi => ?_, fun i hi => ?_, fun i d x H' hd hy => ?_⟩
    · rw [List.length_map] at hi
      show i < s.toArray.size
      rw [List.size_toArray]
      exact hi
    · rw [List.length_map] at hi
      show s.toArray.size ≤ i
      rw [List.size_toArray]
      exact hi
    · obtain ⟨rfl, c, hc, rfl⟩ := hy
      rw [List.getElem?_map] at hd
      have : s[i]? = some c := by
        rw [← hc]
        simp
      rw [this] at hd
      cases hd
      exact ⟨.inl rfl, .str [c]⟩
def rgI (lo : Int) (n : Nat) : List D := (List.range n).map fun i => .int (lo + (i : Nat))
theorem rgI_len (lo : Int) (n : Nat) : (rgI lo n).length = n := by unfold rgI; rw [List.length_map, List.length_range]
theorem rgI_get (lo : Int) (n i : Nat) (h : i < n) : (rgI lo n)[i]? = some (.int (lo + (i : Nat))) := by
  unfold rgI
  rw [List.getElem?_map, List.getElem?_range h]
  rfl
theorem itd_range {st : Addr} (lo : Int) (n : Nat) : ItD (Itr lo n) st [] (rgI lo n) := ⟨fun M2 H2 hst hM hh => by
  rw [rgI_len]
  refine ⟨fun i hi => hi, fun i hi => hi, fun i d x H' hd hy => ?_⟩
  obtain ⟨rfl, rfl⟩ := hy
  have hi : i < n := by
    have := (List.getElem?_eq_some_iff.mp hd).1
    rwa [rgI_len] at this
  rw [rgI_get lo n i hi] at hd
  cases hd
  exact ⟨.inl rfl, .int _⟩⟩
theorem di_range1 {post : List D → Prop} (h : Da tas env fun ds => ∃ n : Int, ds = [.int n] ∧ -1000000 ≤ n ∧ n ≤ 1000000 ∧ post (rgI 0 n.toNat)) : Di (iRng1 tas) env post := fun B M σ H S R q =>
  h B M σ H S _ fun vs H1 d ⟨n, e, h1, h2, hp⟩ S1 e1 i1 => by
    subst e
    cases i1 with
    | cons a b =>
      cases b
      cases is_int a
      exact ⟨n, rfl, by omega, by omega, q _ H1 [] _ hp S1 e1 (fun x hx => nomatch hx) (itd_range 0 _)⟩
theorem di_range2 {post : List D → Prop} (h : Da tas env fun ds => ∃ m n : Int, ds = [.int m, .int n] ∧ -1000000 ≤ m ∧ m ≤ 1000000 ∧ -1000000 ≤ n ∧ n ≤ 1000000 ∧ post (rgI m (n - m).toNat)) : Di (iRng2 tas) env post := fun B M σ H S R q =>
  h B M σ H S _ fun vs H1 d ⟨m, n, e, h1, h2, h3, h4, hp⟩ S1 e1 i1 => by
    subst e
    cases i1 with
    | cons a b =>
      cases b with
      | cons b c =>
        cases c
        cases is_int a
        cases is_int b
        exact ⟨m, n, rfl, ⟨by omega, by omega, by omega, by omega⟩, q _ H1 [] _ hp S1 e1 (fun x hx => nomatch hx) (itd_range m _)⟩

/-! ### targets -/
def Dg (g : TG) (d : D) (env : Nv) (post : Nv → Prop) : Prop := ∀ B M σ H v, Sr B M σ H env → Is B.st M H v d → ∀ Q : L2.St → Hp → Prop, (∀ σ' env', post env' → Sr B M σ' H env' → Q σ' H) → g v σ H Q
def Dgs (g : TGs) (ds : List D) (env : Nv) (post : Nv → Prop) : Prop := ∀ B M σ H vs, Sr B M σ H env → Iss B.st M H vs ds → ∀ Q : L2.St → Hp → Prop, (∀ σ' env', post env' → Sr B M σ' H env' → Q σ' H) → g vs σ H Q
theorem dg_name {i : Nat} {d : D} {post : Nv → Prop} (h : post (env.set i (.dat d))) : Dg (gName i) d env post := fun B M σ H v S iv Q q => q _ _ h (S.set iv)
theorem dgs_nil {post : Nv → Prop} (h : post env) : Dgs gNil [] env post := fun B M σ H v S iv Q q => by
  cases iv
  exact ⟨rfl, q _ _ h S⟩
theorem dgs_cons {g : TG} {gs : TGs} {d : D} {ds : List D} {post : Nv → Prop} (h : Dg g d env fun e => Dgs gs ds e post) : Dgs (gCons g gs) (d :: ds) env post := fun B M σ H v S iv Q q => by
  cases iv with
  | cons a b => exact ⟨_, _, rfl, h B M σ H _ S a _ fun σ' env' h' S' => h' B M σ' H _ S' b Q q⟩
theorem dg_tup {n : Nat} {gs : TGs} {ds : List D} {post : Nv → Prop} (hn : ds.length = n) (h : Dgs gs ds env post) : Dg (gTup K n gs) (.tup ds) env post := fun B M σ H v S iv Q q => by
  obtain ⟨p, vs, rfl, hl, hs⟩ := is_tup iv
  exact ⟨p, vs, rfl, .of hl, by rw [hs.length]; exact hn, h B M σ H vs S hs Q q⟩
/-- a, b = e -/
theorem ds_asg {g : TG} (h : De te env fun d => Dg g d env nx) : Ds (tAsg te g) env nx rt bk ct := fun B M σ H S E q1 q2 q3 q4 =>
  h B M σ H S _ fun v H1 d hd S1 e1 i1 => hd B M σ H1 v S1 i1 _ fun σ' env' h' S' => q1 M σ' H1 env' h' S'

/-! ### loops -/
theorem ds_for {wi : TI} {g : TG} {tb' : TS} (h : Di wi env fun ds => ∃ Iv : Nat → Nv → Prop, Iv 0 env ∧
      (∀ i d env', ds[i]? = some d → Iv i env' → Dg g d env' fun e2 => Ds tb' e2 (Iv (i + 1)) rt nx (Iv (i + 1))) ∧ ∀ env', Iv ds.length env' → nx env') : Ds (tFor wi g tb') env nx rt bk ct := fun B M σ H S E q1 q2 q3 q4 => by
  refine h B M σ H S _ fun J H1 hv ds ⟨Iv, h0, hs, hd⟩ S1 e1 hh T => ?_
  refine ⟨fun i m σ H => m = ds.length - i ∧ i ≤ ds.length ∧ ∃ M' env', Iv i env' ∧ Sr { B with hid := hv ++ B.hid } M' σ H env', ⟨_, rfl, Nat.zero_le _, M, env, h0, S1.hide hh⟩, ?_⟩
  rintro i m σ2 H2 ⟨rfl, hi, M2, env2, hI, S2⟩
  obtain ⟨t1, t2, t3⟩ := T.run M2 H2 S2.stm S2.stM S2.hv
  by_cases hlt : i < ds.length
  · refine .inr ⟨t1 i hlt, fun σ' H' => ∃ M' env', Iv (i + 1) env' ∧ Sr { B with hid := hv ++ B.hid } M' σ' H' env', fun σ' H' ⟨M', env', a, b⟩ => ⟨_, by omega, rfl, hlt, M', env', a, b⟩, fun x H3 hy => ?_⟩
    obtain ⟨hH, ix⟩ := t3 i _ x H3 (List.getElem?_eq_getElem hlt) hy
    have S3 : Sr { B with hid := hv ++ B.hid } M2 σ2 H3 env2 := by
      rcases hH with z | ⟨T, o, hT, z⟩
      · rw [z]; exact S2
      · rw [z]; exact S2.new hT
    refine hs i _ env2 (List.getElem?_eq_getElem hlt) hI _ M2 σ2 H3 x S3 ix _ fun σ4 env4 h4 S4 => ?_
    exact h4 _ M2 σ4 H3 S4 _ (fun M' σ' H' e' he S' => ⟨M', e', he, S'⟩) q2 (fun M' σ' H' e' he S' => q1 M' σ' H' e' he S'.show) (fun M' σ' H' e' he S' => ⟨M', e', he, S'⟩)
  · have e : i = ds.length := by omega
    subst e
    exact .inl ⟨t2 _ (Nat.le_refl _), q1 M2 σ2 H2 env2 (hd env2 hI) S2.show⟩
theorem ds_while {tb' : TS} (Iv : Nat → Nv → Prop) (m0 : Nat) (h0 : Iv m0 env)
    (hs : ∀ m env', Iv m env' → Dt c env' fun b => if b = true then Ds tb' env' (fun e => ∃ m', m' < m ∧ Iv m' e) rt nx (fun e => ∃ m', m' < m ∧ Iv m' e) else nx env') : Ds (tWhile c tb') env nx rt bk ct := fun B M σ H S E q1 q2 q3 q4 => by
  refine ⟨fun m σ H => ∃ M' env', Iv m env' ∧ Sr B M' σ H env', ⟨m0, M, env, h0, S⟩, ?_⟩
  rintro m σ2 H2 ⟨M2, env2, hI, S2⟩
  refine hs m env2 hI B M2 σ2 H2 S2 _ fun b H3 hb S3 e3 => ?_
  cases b with
  | true =>
    refine ⟨fun σ' H' => ∃ m', m' < m ∧ ∃ M' env', Iv m' env' ∧ Sr B M' σ' H' env', fun σ' H' ⟨m', hm, w⟩ => ⟨m', hm, w⟩, ?_⟩
    exact hb B M2 σ2 H3 S3 _ (fun M' σ' H' e' ⟨m', hm, hi⟩ S' => ⟨m', hm, M', e', hi, S'⟩) q2 (fun M' σ' H' e' he S' => q1 M' σ' H' e' he S') (fun M' σ' H' e' ⟨m', hm, hi⟩ S' => ⟨m', hm, M', e', hi, S'⟩)
  | false => exact q1 M2 σ2 H3 env2 hb S3

/-! ### comprehensions -/
theorem Sr.newIn' (S : Sr B M σ H env) {p : Addr} {o : HO} (hn : H p = none) (e : Fx B.st H H') (hp : H' p = some o) : Sr B (p :: M) σ H' env := by
  have S3 : Sr B M σ H' env := S.fx e
  have mo : ∀ {v : V} {d : D}, Is B.st M H v d → Is B.st (p :: M) H' v d := fun h => (h.more hn).mono (fun _ z => z) (List.mem_cons_of_mem _ S.stM) e S.nt
  have moo : ∀ {v : List V} {d : List D}, Iss B.st M H v d → Iss B.st (p :: M) H' v d := fun h => (h.more hn).mono (fun _ z => z) (List.mem_cons_of_mem _ S.stM) e S.nt
  refine ⟨?_, List.mem_cons_of_mem _ S.stM, S3.keep, fun b hb => List.mem_cons_of_mem _ (S.sub b hb), fun b hb => (List.mem_cons.mp hb).elim (fun z => .inr (z ▸ S.new0 hn)) (S.fresh b), fun b hb => ?_, S.st0, S.trk0, S.len, fun i d hd => ?_, fun i u ho => ?_, S.inj, fun x hx => mo (S.hid x hx)⟩
  · obtain ⟨a, ns, c, k, g1, g2, g3, g4, g5, g6⟩ := S.stm
    obtain ⟨c', k', r1, r2, r3⟩ := e.2 a c k g5 g6 g3
    exact ⟨a, ns, c', k', fun z => (List.mem_cons.mp z).elim (ne_of_none g4 hn) g1, g2, r3, e.1 _ _ g2 g4, r1, r2⟩
  · by_cases z : b = p
    · subst z
      exact ⟨o, hp⟩
    · exact S3.trk b ((List.mem_cons.mp hb).resolve_left z)
  · obtain ⟨v, h1, h2⟩ := S.dat i d hd
    exact ⟨v, h1, mo h2⟩
  · obtain ⟨p', u', h1, h2, h3, h4, h5⟩ := S.own i u ho
    refine ⟨p', u', h1, List.mem_cons_of_mem _ h2, h3, e.1 _ _ (fun z => h3 (z ▸ S.st0)) h4, ?_⟩
    cases h5 with
    | lst h => exact .lst (moo h)
    | dK hf => exact .dK hf
    | dT hf => exact .dT hf
theorem Fx.mut {st p : Addr} {o : HO} (e : Fx st H H') (hn : H p = none) (ne : p ≠ st) : Fx st H (upd H' p o) :=
  ⟨fun b u hb h => by rw [upd_ne (ne_of_none h hn)]; exact e.1 b u hb h, fun a c k h1 h2 h => by
    obtain ⟨c', k', r1, r2, r3⟩ := e.2 a c k h1 h2 h
    exact ⟨c', k', r1, r2, by rw [upd_ne (fun z => ne z.symm)]; exact r3⟩⟩
theorem den_lc {wi : TI} {j : Nat} {tt : TT} {postN : Ow → Prop} (h : Di wi env fun ds => ds.length ≤ 1000000 ∧ ∃ Iv : Nat → List D → Prop, Iv 0 [] ∧
      (∀ i d acc, ds[i]? = some d → acc.length ≤ i → Iv i acc → Dt tt ((env.set j .any).set j (.dat d)) fun b => if b = true then De te ((env.set j .any).set j (.dat d)) fun y => Iv (i + 1) (acc ++ [y]) else Iv (i + 1) acc) ∧
      ∀ acc, Iv ds.length acc → postN (.lst acc)) : DeN (tLc wi (gName j) tt te [j]) env postN := fun B M σ H S Q q => by
  refine h B M σ H S _ fun J H1 hv ds ⟨hz, Iv, h0, hs, hd⟩ S1 e1 hh T Dl hn => ?_
  have ne : Dl ≠ B.st := S1.nst hn
  refine ⟨fun i m H' => m = ds.length - i ∧ i ≤ ds.length ∧ ∃ acc accv, acc.length ≤ i ∧ Iv i acc ∧ Fx B.st H1 H' ∧ H' Dl = some (.lst accv) ∧ Iss B.st (Dl :: M) H' accv acc, ⟨_, rfl, Nat.zero_le _, [], [], Nat.le_refl _, h0, Fx.new hn, upd_same, .nil⟩, ?_⟩
  rintro i m H2 ⟨rfl, hi, acc, accv, hal, hI, f2, hD, ha⟩
  have S2 : Sr { B with hid := hv ++ B.hid } (Dl :: M) (σ.set j none) H2 (env.set j .any) := ((S1.hide hh).newIn' (B := { B with hid := hv ++ B.hid }) hn f2 hD).any
  obtain ⟨t1, t2, t3⟩ := T.run _ H2 S2.stm S2.stM S2.hv
  by_cases hlt : i < ds.length
  · refine .inr ⟨t1 i hlt, fun H' => ∃ acc accv, acc.length ≤ i + 1 ∧ Iv (i + 1) acc ∧ Fx B.st H1 H' ∧ H' Dl = some (.lst accv) ∧ Iss B.st (Dl :: M) H' accv acc, fun H' hN => ⟨_, by omega, rfl, hlt, hN⟩, fun x H3 hy => ?_⟩
    obtain ⟨hH, ix⟩ := t3 i _ x H3 (List.getElem?_eq_getElem hlt) hy
    have e3 : Fx B.st H2 H3 := by
      rcases hH with z | ⟨T, o, hT, z⟩
      · rw [z]; exact Fx.refl _ _
      · rw [z]; exact Fx.new hT
    have S3 := (S2.fx e3).set (i := j) ix
    refine ⟨?_, ?_⟩
    · show (((σ.set j none).set j (some x)).set j none) = σ.set j none
      rw [List.set_set, List.set_set]
    · refine hs i _ acc (List.getElem?_eq_getElem hlt) hal hI _ _ _ H3 S3 _ fun b H4 hb S4 e4 => ?_
      have nD : Dl ∉ ({ B with hid := hv ++ B.hid } : Bs).M0 := fun z => by
        obtain ⟨o, ho⟩ := S1.trk Dl (S1.sub Dl z)
        rw [hn] at ho
        cases ho
      have f4 : Fx B.st H1 H4 := (f2.trans e3).trans e4
      have a4 : Iss B.st (Dl :: M) H4 accv acc := S2.iss (e3.trans e4) ha
      have D4 : H4 Dl = some (.lst accv) := e4.1 _ _ ne (e3.1 _ _ ne hD)
      cases b with
      | true =>
        refine hb _ _ _ H4 S4 _ fun y H5 d5 h5 S5 e5 i5 => ?_
        have a5 : Iss B.st (Dl :: M) H5 accv acc := S4.iss e5 a4
        have D5 : H5 Dl = some (.lst accv) := e5.1 _ _ ne D4
        have nt : ∀ vs, H5 Dl ≠ some (.tup vs) := fun vs z => by rw [D5] at z; cases z
        refine ⟨accv, D5, Nat.lt_of_le_of_lt (by rw [a5.length]; exact hal) (Nat.lt_of_lt_of_le (Nat.lt_of_lt_of_le hlt hz) (by decide)), acc ++ [d5], accv ++ [y], by rw [List.length_append, List.length_singleton]; omega, h5, (f4.trans e5).mut hn ne, upd_same, ?_⟩
        exact (a5.append (.cons i5 .nil)).upd List.mem_cons_self nt
      | false => exact ⟨acc, accv, by omega, hb, f4, D4, a4⟩
  · have e : i = ds.length := by omega
    subst e
    refine .inl ⟨t2 _ (Nat.le_refl _), q Dl H2 (.lst accv) (.lst acc) (hd acc hI) (S1.newIn' hn f2 hD) (e1.trans f2) hD (.lst ha) (fresh_back e1 ne hn)⟩
theorem dt_yes {postb : Bool → Prop} (h : postb true) : Dt tYes env postb := fun B M σ H S Q q => q true H h S (Fx.refl _ _)
end

/-! ### a def's promise from its body -/
theorem sr_start {F : FS} {N : List Str} {st : Addr} {M : List Addr} {H : Hp} {vs : List V} {ds : List D} (h1 : Stm st M H) (h2 : st ∈ M) (h3 : ∀ b ∈ M, ∃ o, H b = some o) (hs : Iss st M H vs ds) :
    Sr ⟨st, M, H, []⟩ M (L2.start N vs) H (ds.map Sl.dat ++ List.replicate (N.length - ds.length) Sl.any) := by
  have hl : vs.length = ds.length := hs.length
  have anyat : ∀ (i : Nat) s, (ds.map Sl.dat ++ List.replicate (N.length - ds.length) Sl.any)[i]? = some s → (∃ d, ds[i]? = some d ∧ s = .dat d) ∨ s = .any := fun i s h => by
    by_cases hi : i < (ds.map Sl.dat).length
    · rw [List.getElem?_append_left hi, List.getElem?_map] at h
      cases e : ds[i]? with
      | none => rw [e] at h; cases h
      | some d => rw [e] at h; exact .inl ⟨d, rfl, (Option.some.inj h).symm⟩
    · rw [List.getElem?_append_right (by omega)] at h
      obtain ⟨_, h⟩ := List.getElem?_eq_some_iff.mp h
      rw [List.getElem_replicate] at h
      exact .inr h.symm
  refine ⟨h1, h2, Fx.refl _ _, fun _ z => z, fun _ z => .inl z, h3, h2, h3, ?_, fun i d h => ?_, fun i o h => ?_, fun i j p o u h => ?_, fun x hx => nomatch hx⟩
  · unfold L2.start
    rw [List.length_append, List.length_append, List.length_map, List.length_map, List.length_replicate, List.length_replicate, hl]
  · rcases anyat i _ h with ⟨d', e, z⟩ | z
    · cases z
      obtain ⟨v, hv, iv⟩ := hs.get e
      refine ⟨v, ?_, iv⟩
      have hi : i < (vs.map some).length := by
        rw [List.length_map]
        exact (List.getElem?_eq_some_iff.mp hv).1
      unfold L2.start
      rw [List.getElem?_append_left hi, List.getElem?_map, hv]
      rfl
    · cases z
  · rcases anyat i _ h with ⟨d', e, z⟩ | z <;> cases z
  · rcases anyat i _ h with ⟨d', e, z⟩ | z <;> cases z
/-- a def of the text where the module's name has it -/
structure Df (K : PySem.W.Frag) (mg : Str → Option Value) (x : Str) (st : Stmt) (ps : List Str) : Prop where
  ex : ∃ (f : Addr) (fd : FuncData), Fun K x x st f fd ∧ mg x = some (.ref f) ∧ Binds K fd ps []
/-- its promise, over values -/
theorem df_raw {P : Program} {w : World} {K : PySem.W.Frag} {mg : Str → Option Value} {base : Heap} {x : Str} {st : Stmt} {N ps : List Str} {k : Nat} {sp : Sp} (d : Df K mg x st ps) (S : FnScope N ps (defScope st))
    (len : ∀ vs H Q E, sp vs H Q E → vs.length = ps.length)
    (hbody : ∀ (f : Addr) (cdv : Value) (A : Around) (outer : List PySem.Env) (s : Shared) (H : Hp) (E : XK), Room k (A.deeper (envOfC x (defScope st) s.heap.objs.size f cdv)) →
      ∃ t, PSs (cxOf CX0 P w K mg base N x (defScope st) f cdv A outer s H E).nox (defBody st) t ∧ ∀ vs Q, sp vs H Q E → t { nx := fun _ H' => Q .non H', rt := Q } (L2.start N vs) H) : C8.Cal P w K mg base (k + 1) x sp [] := by
  obtain ⟨f, fd, Fn, hm, hb⟩ := d.ex
  refine ⟨f, fd, ps, [], Fn.ok S len (fun cdv A outer s H vs Q E hr h => ?_), hm, Fn.kp, hb, .nil⟩
  obtain ⟨t, ht, q⟩ := hbody f cdv A outer s H E hr
  exact ⟨t, ht, q vs Q h⟩
/-- .. over data -/
theorem df_cal {P : Program} {w : World} {K : PySem.W.Frag} {mg : Str → Option Value} {base : Heap} {x : Str} {st : Stmt} {N ps : List Str} {k : Nat} {F : FS} (d : Df K mg x st ps) (S : FnScope N ps (defScope st))
    (len : ∀ a, (F.arg a).length = ps.length)
    (hbody : ∀ (f : Addr) (cdv : Value) (A : Around) (outer : List PySem.Env) (s : Shared) (H : Hp) (E : XK), Room k (A.deeper (envOfC x (defScope st) s.heap.objs.size f cdv)) →
      ∃ t, PSs (cxOf CX0 P w K mg base N x (defScope st) f cdv A outer s H E).nox (defBody st) t ∧
        ∀ a, F.pre a → Ds t ((F.arg a).map Sl.dat ++ List.replicate (N.length - (F.arg a).length) Sl.any) (fun _ => F.rel a .non) (F.rel a) (fun _ => False) (fun _ => False)) : C8.Cal P w K mg base (k + 1) x (PF F) [] := by
  refine df_raw d S (fun vs H Q E h => ?_) (fun f cdv A outer s H E hr => ?_)
  · obtain ⟨a, st', M, _, _, _, hs, _⟩ := h
    rw [hs.length]
    exact len a
  · obtain ⟨t, ht, hd⟩ := hbody f cdv A outer s H E hr
    refine ⟨t, ht, fun vs Q h => ?_⟩
    obtain ⟨a, st', M, h1, h2, h3, hs, hp, q⟩ := h
    exact hd a hp _ M _ H (sr_start (F := F) h1 h2 h3 hs) _ (fun M' σ' H' e' he S' => q .non H' .non he S'.keep .non) (fun v H' d hr fx iv => q v H' d hr fx iv) (fun M' σ' H' e' he S' => he) (fun M' σ' H' e' he S' => he)
end DL

namespace DL
open PySem PySem.Spec PyProof.Rows L2

/-! ### names for readings -/
def rAddS : R2 := fun x y H Q => ∃ i j, x = .str i ∧ y = .str j ∧ i.length + j.length ≤ sizeLine ∧ Q (.str (i ++ j)) H
def rInSg : R2 := fun x y H Q => ∃ (c : Nat) (z : Str), x = .str ⟨#[c]⟩ ∧ y = .str z ∧ Q (.bl (decide (c ∈ z.cps.toList))) H
def rNotInSg : R2 := fun x y H Q => ∃ (c : Nat) (z : Str), x = .str ⟨#[c]⟩ ∧ y = .str z ∧ Q (.bl (!decide (c ∈ z.cps.toList))) H
def rIsN : R2 := fun x y H Q => y = .non ∧ Q (.bl (decide (x = .non))) H
def rNotN : R2 := fun x y H Q => y = .non ∧ Q (.bl (!decide (x = .non))) H
def rLen (K : PySem.W.Frag) : List V → Hp → VK → Prop := fun xs H Q => ∃ x n, xs = [x] ∧ LenV K x H n ∧ Q (.int n) H
def rAbs : List V → Hp → VK → Prop := fun xs H Q => ∃ i, xs = [.int i] ∧ Q (.int (if i < 0 then -i else i)) H
def rInt : List V → Hp → VK → Prop := fun xs H Q => (∃ i, xs = [.int i] ∧ Q (.int i) H) ∨ ∃ k, xs = [.bl k] ∧ Q (.int (if k then 1 else 0)) H
def rMax2 : List V → Hp → VK → Prop := fun xs H Q => ∃ i j, xs = [.int i, .int j] ∧ Q (.int (if j > i then j else i)) H
def rMin2 : List V → Hp → VK → Prop := fun xs H Q => ∃ i j, xs = [.int i, .int j] ∧ Q (.int (if j < i then j else i)) H
def rListOf (K : PySem.W.Frag) : List V → Hp → VK → Prop := fun xs H Q => ∃ p ys, xs = [.ref p] ∧ (SqL K H p ys ∨ SqT K H p ys) ∧ ∀ l, H l = none → Q (.ref l) (upd H l (.lst ys))
def rTupOf (K : PySem.W.Frag) : List V → Hp → VK → Prop := fun xs H Q => ∃ p ys, xs = [.ref p] ∧ ((SqL K H p ys ∧ ∀ l, H l = none → Q (.ref l) (upd H l (.tup ys))) ∨ (SqT K H p ys ∧ Q (.ref p) H))
def rJoin (K : PySem.W.Frag) : V → List V → Hp → VK → Prop := fun x xs H Q => ∃ a p, ∃ ys : List Str, x = .str a ∧ xs = [.ref p] ∧ (SqL K H p (ys.map V.str) ∨ SqT K H p (ys.map V.str)) ∧ (ys.map (·.length)).sum + ys.length * a.length ≤ 16777216 ∧ Q (.str (Txt.join a ys)) H
def rSIndex : V → List V → Hp → VK → Prop := fun x xs H Q => ∃ a b i rest, x = .str a ∧ xs = [.str b] ∧ Builtin.Str.occurrences a b 0 a.length 1 = i :: rest ∧ Q (.int (i : Nat)) H
section
variable {X : Cx}
theorem od_add_str : OpR X (binaryOp .Add) rAddS := op_add_str
theorem od_in_sg : OpR X (compareOp .In) rInSg := op_in_sign
theorem od_notin_sg : OpR X (compareOp .NotIn) rNotInSg := op_notIn_sign
theorem od_isN : OpR X (compareOp .Is) rIsN := op_isN
theorem od_notN : OpR X (compareOp .IsNot) rNotN := op_notN
theorem cd_len : CallR X (.builtin "len") (rLen X.K) := call_len
theorem cd_abs : CallR X (.builtin "abs") rAbs := call_abs
theorem cd_int : CallR X (.type "int") rInt := call_int1
theorem cd_max2 (hc : X.calm = true) : CallR X (.builtin "max") rMax2 := call_max2 hc
theorem cd_min2 (hc : X.calm = true) : CallR X (.builtin "min") rMin2 := call_min2 hc
theorem cd_listof : CallR X (.type "list") (rListOf X.K) := call_list_of
theorem cd_tupof : CallR X (.type "tuple") (rTupOf X.K) := call_tuple_of
theorem cd_all (hc : X.calm = true) : CallR X (.builtin "all") (rAll X.K) := cr_all hc
theorem md_join : MtR X "str.join" (rJoin X.K) := mt_join
theorem md_sindex : MtR X "str.index" rSIndex := mt_sindex
theorem ptd {e : Expr} {te : TE} (ha : PE X e te) (he : ∀ whole, isTrue e X.env whole = (do let v ← whole; standAt e.pos; holding [v] (truthy v))) : PT X e (tTruD X.K te) := pt_truth ha he
end

section
variable {env : Nv} {post : D → Prop} {K : PySem.W.Frag} {ta tb te : TE} {tl th : TO} {tas : TA}
/-! ### ints -/
theorem dop_i0 {f : Int → Int → Int} {i j : Int} (h : post (.int (f i j))) : Dop (rI0 fun i j => .int (f i j)) (.int i) (.int j) post := fun st M H v w _ _ _ iv iw Q q => by
  cases is_int iv
  cases is_int iw
  exact ⟨i, j, rfl, rfl, q _ H _ h (Fx.refl _ _) (.int _)⟩
theorem dop_b0 {f : Int → Int → Bool} {i j : Int} (h : post (.bl (f i j))) : Dop (rI0 fun i j => .bl (f i j)) (.int i) (.int j) post := fun st M H v w _ _ _ iv iw Q q => by
  cases is_int iv
  cases is_int iw
  exact ⟨i, j, rfl, rfl, q _ H _ h (Fx.refl _ _) (.bl _)⟩
theorem dop_i {C : Int → Int → Prop} {f : Int → Int → Int} {i j : Int} (hc : C i j) (h : post (.int (f i j))) : Dop (rI C fun i j => .int (f i j)) (.int i) (.int j) post := fun st M H v w _ _ _ iv iw Q q => by
  cases is_int iv
  cases is_int iw
  exact ⟨i, j, rfl, rfl, hc, q _ H _ h (Fx.refl _ _) (.int _)⟩
theorem dun_i {f : Int → Int} {i : Int} (h : post (.int (f i))) : Dun (rU fun i => .int (f i)) (.int i) post := fun st M H v _ _ _ iv Q q => by
  cases is_int iv
  exact ⟨i, rfl, q _ H _ h (Fx.refl _ _) (.int _)⟩
/-! ### == -/
def eqD : D → D → Option Bool
  | .non, .non => some true
  | .int a, .int b => some (decide (a = b))
  | .bl a, .bl b => some (decide (a = b))
  | .str a, .str b => some (decide (a = b))
  | .non, .int _ => some false | .int _, .non => some false | .non, .bl _ => some false | .bl _, .non => some false | .non, .str _ => some false | .str _, .non => some false
  | .int _, .str _ => some false | .str _, .int _ => some false | .bl _, .str _ => some false | .str _, .bl _ => some false
  | _, _ => none
theorem str_inj {a b : List Nat} : V.str ⟨a.toArray⟩ = V.str ⟨b.toArray⟩ ↔ a = b := by
  constructor
  · intro h
    injection h with h
    injection h with h
    simpa using h
  · intro h; rw [h]
theorem eqD_ok {st : Addr} {M : List Addr} {H : Hp} {v w : V} {x y : D} {b : Bool} (iv : Is st M H v x) (iw : Is st M H w y) (h : eqD x y = some b) : scal v w = true ∧ decide (v = w) = b := by
  cases iv <;> cases iw <;> first
    | (cases h; done)
    | (cases h; refine ⟨rfl, decide_eq_decide.mpr ?_⟩; simp [str_inj]; done)
    | (cases h; refine ⟨rfl, ?_⟩; simp; done)
theorem dop_eq {x y : D} {b : Bool} (e : eqD x y = some b) (h : post (.bl b)) : Dop rEq x y post := fun st M H v w _ _ _ iv iw Q q => by
  obtain ⟨h1, h2⟩ := eqD_ok iv iw e
  exact ⟨h1, q _ H _ h (Fx.refl _ _) (by rw [h2]; exact .bl _)⟩
theorem dop_ne {x y : D} {b : Bool} (e : eqD x y = some b) (h : post (.bl (!b))) : Dop rNe x y post := fun st M H v w _ _ _ iv iw Q q => by
  obtain ⟨h1, h2⟩ := eqD_ok iv iw e
  exact ⟨h1, q _ H _ h (Fx.refl _ _) (by rw [h2]; exact .bl _)⟩
theorem dop_eqi {i j : Int} (h : post (.bl (decide (i = j)))) : Dop rEq (.int i) (.int j) post := dop_eq rfl h
theorem dop_eqs {i j : List Nat} (h : post (.bl (decide (i = j)))) : Dop rEq (.str i) (.str j) post := dop_eq rfl h
theorem dop_eqb {i j : Bool} (h : post (.bl (decide (i = j)))) : Dop rEq (.bl i) (.bl j) post := dop_eq rfl h
theorem dop_nei {i j : Int} (h : post (.bl (!decide (i = j)))) : Dop rNe (.int i) (.int j) post := dop_ne rfl h
theorem dop_nes {i j : List Nat} (h : post (.bl (!decide (i = j)))) : Dop rNe (.str i) (.str j) post := dop_ne rfl h
theorem dop_isB {a b : Bool} (h : post (.bl (decide (a = b)))) : Dop rIsB (.bl a) (.bl b) post := fun st M H v w _ _ _ iv iw Q q => by
  cases is_bl iv
  cases is_bl iw
  exact ⟨a, b, rfl, rfl, q _ H _ h (Fx.refl _ _) (.bl _)⟩
theorem dop_notB {a b : Bool} (h : post (.bl (!decide (a = b)))) : Dop rNotB (.bl a) (.bl b) post := fun st M H v w _ _ _ iv iw Q q => by
  cases is_bl iv
  cases is_bl iw
  exact ⟨a, b, rfl, rfl, q _ H _ h (Fx.refl _ _) (.bl _)⟩
def isNon : D → Bool
  | .non => true
  | _ => false
theorem isNon_ok {st : Addr} {M : List Addr} {H : Hp} {v : V} {x : D} (iv : Is st M H v x) : decide (v = .non) = isNon x := by
  cases iv <;> first | rfl | exact decide_eq_false (by intro z; cases z)
theorem dop_isN {x : D} (h : post (.bl (isNon x))) : Dop rIsN x .non post := fun st M H v w _ _ _ iv iw Q q => by
  cases is_non iw
  exact ⟨rfl, q _ H _ h (Fx.refl _ _) (by rw [isNon_ok iv]; exact .bl _)⟩
theorem dop_notN {x : D} (h : post (.bl (!isNon x))) : Dop rNotN x .non post := fun st M H v w _ _ _ iv iw Q q => by
  cases is_non iw
  exact ⟨rfl, q _ H _ h (Fx.refl _ _) (by rw [isNon_ok iv]; exact .bl _)⟩
/-! ### texts -/
theorem len_of (l : List Nat) : (⟨l.toArray⟩ : Str).length = l.length := by
  show l.toArray.size = _
  simp
theorem le_line {n : Nat} (h : n ≤ 1000000) : n ≤ sizeLine := Nat.le_trans h (by decide)
theorem dop_adds {a b : List Nat} (hz : a.length + b.length ≤ 1000000) (h : post (.str (a ++ b))) : Dop rAddS (.str a) (.str b) post := fun st M H v w _ _ _ iv iw Q q => by
  cases is_str iv
  cases is_str iw
  refine ⟨_, _, rfl, rfl, by rw [len_of, len_of]; exact le_line hz, q _ H _ h (Fx.refl _ _) ?_⟩
  have e : (⟨a.toArray⟩ ++ ⟨b.toArray⟩ : Str) = ⟨(a ++ b).toArray⟩ := by
    show (⟨a.toArray ++ b.toArray⟩ : Str) = _
    simp
  rw [e]
  exact .str _
theorem dop_insg {c : Nat} {b : List Nat} (h : post (.bl (decide (c ∈ b)))) : Dop rInSg (.str [c]) (.str b) post := fun st M H v w _ _ _ iv iw Q q => by
  cases is_str iv
  cases is_str iw
  exact ⟨c, ⟨b.toArray⟩, rfl, rfl, q _ H _ h (Fx.refl _ _) (.bl _)⟩
theorem dop_notinsg {c : Nat} {b : List Nat} (h : post (.bl (!decide (c ∈ b)))) : Dop rNotInSg (.str [c]) (.str b) post := fun st M H v w _ _ _ iv iw Q q => by
  cases is_str iv
  cases is_str iw
  exact ⟨c, ⟨b.toArray⟩, rfl, rfl, q _ H _ h (Fx.refl _ _) (.bl _)⟩
theorem dop_ixs {l : List Nat} {i : Int} {c : Nat} (hz : l.length ≤ 1000000) (e : atI l i = some c) (h : post (.str [c])) : Dop rIxS (.str l) (.int i) post := fun st M H v w _ _ _ iv iw Q q => by
  cases is_str iv
  cases is_int iw
  exact ⟨_, i, c, rfl, rfl, by rw [len_of]; exact le_line hz, e, q _ H _ h (Fx.refl _ _) (.str [c])⟩
theorem atI_iss {st : Addr} {M : List Addr} {H : Hp} {vs : List V} {ds : List D} {i : Int} {d : D} (hs : Iss st M H vs ds) (e : atI ds i = some d) : ∃ v, atI vs i = some v ∧ Is st M H v d := by
  unfold atI at e ⊢
  rw [hs.length]
  cases z : ixN ds.length i with
  | none => rw [z] at e; cases e
  | some j =>
    rw [z] at e
    exact hs.get e
theorem dop_ixl {l : List D} {i : Int} {c : D} (e : atI l i = some c) (h : post c) : Dop (rIxL K) (.lst l) (.int i) post := fun st M H v w _ _ _ iv iw Q q => by
  obtain ⟨p, vs, rfl, hm, hl, hs⟩ := is_lst iv
  cases is_int iw
  obtain ⟨u, hu, iu⟩ := atI_iss hs e
  exact ⟨p, vs, i, u, rfl, rfl, .of hl, hu, q _ H _ h (Fx.refl _ _) iu⟩
theorem dop_ixt {l : List D} {i : Int} {c : D} (e : atI l i = some c) (h : post c) : Dop (rIxT K) (.tup l) (.int i) post := fun st M H v w _ _ _ iv iw Q q => by
  obtain ⟨p, vs, rfl, hl, hs⟩ := is_tup iv
  cases is_int iw
  obtain ⟨u, hu, iu⟩ := atI_iss hs e
  exact ⟨p, vs, i, u, rfl, rfl, .of hl, hu, q _ H _ h (Fx.refl _ _) iu⟩
/-! ### calls -/
def lenD : D → Option Nat
  | .str l => some l.length
  | .lst l => some l.length
  | .tup l => some l.length
  | _ => none
theorem dcl_len {x : D} {n : Nat} (e : lenD x = some n) (hz : n ≤ 1000000) (h : post (.int n)) : Dcl (rLen K) [x] post := fun st M H vs _ _ _ iv Q q => by
  cases iv with
  | cons i r =>
    cases r
    refine ⟨_, n, rfl, ?_, q _ H _ h (Fx.refl _ _) (.int _)⟩
    cases i with
    | str l => cases e; exact ⟨by rw [len_of]; exact le_line hz, (len_of l).symm⟩
    | lst hm hl hs => cases e; exact .inl ⟨_, .of hl, hs.length.symm⟩
    | tup hl hs => cases e; exact .inr ⟨_, .of hl, hs.length.symm⟩
    | _ => cases e
theorem dcl_abs {i : Int} (h : post (.int (if i < 0 then -i else i))) : Dcl rAbs [.int i] post := fun st M H vs _ _ _ iv Q q => by
  cases iv with
  | cons i r =>
    cases r
    cases is_int i
    exact ⟨_, rfl, q _ H _ h (Fx.refl _ _) (.int _)⟩
theorem dcl_int {i : Int} (h : post (.int i)) : Dcl rInt [.int i] post := fun st M H vs _ _ _ iv Q q => by
  cases iv with
  | cons i r =>
    cases r
    cases is_int i
    exact .inl ⟨_, rfl, q _ H _ h (Fx.refl _ _) (.int _)⟩
theorem dcl_intb {b : Bool} (h : post (.int (if b then 1 else 0))) : Dcl rInt [.bl b] post := fun st M H vs _ _ _ iv Q q => by
  cases iv with
  | cons i r =>
    cases r
    cases is_bl i
    exact .inr ⟨_, rfl, q _ H _ h (Fx.refl _ _) (.int _)⟩
theorem dcl_max2 {i j : Int} (h : post (.int (if j > i then j else i))) : Dcl rMax2 [.int i, .int j] post := fun st M H vs _ _ _ iv Q q => by
  cases iv with
  | cons i r =>
    cases r with
    | cons j r =>
      cases r
      cases is_int i
      cases is_int j
      exact ⟨_, _, rfl, q _ H _ h (Fx.refl _ _) (.int _)⟩
theorem dcl_min2 {i j : Int} (h : post (.int (if j < i then j else i))) : Dcl rMin2 [.int i, .int j] post := fun st M H vs _ _ _ iv Q q => by
  cases iv with
  | cons i r =>
    cases r with
    | cons j r =>
      cases r
      cases is_int i
      cases is_int j
      exact ⟨_, _, rfl, q _ H _ h (Fx.refl _ _) (.int _)⟩
def tyD : D → String
  | .non => "NoneType" | .bl _ => "bool" | .int _ => "int" | .str _ => "str" | .tup _ => "tuple" | .lst _ => "list" | .stm => "list" | .dK _ => "dict" | .dT _ => "dict" | .ty _ => "type"
theorem dcl_isi {x : D} {T : String} {b : Bool} (hx : ∀ n, x ≠ .ty n) (hs : x ≠ .stm) (e : kitB (tyD x) T = some b) (h : post (.bl b)) : Dcl (rIsi K) [x, .ty T] post := fun st M H vs _ _ _ iv Q q => by
  cases iv with
  | cons i r =>
    cases r with
    | cons j r =>
      cases r
      have ej : ∀ {v : V}, Is st M H v (.ty T) → v = .ty T := fun h => by cases h; rfl
      cases ej j
      refine ⟨_, .ty T, .type (tyD x), .type T, b, rfl, .ty T, ?_, kit_ty e, q _ H _ h (Fx.refl _ _) (.bl _)⟩
      cases i with
      | non => exact .base .non
      | bl b => exact .base (.bl b)
      | int b => exact .base (.int b)
      | str b => exact .base (.str _)
      | tup hl hs => exact .base (.tup hl)
      | lst hm hl hs => exact .base (.lst hl)
      | dK hm hl hs => exact .base (.dK hl)
      | dT hm hl hs => exact .base (.dT hl)
      | ty n => exact absurd rfl (hx n)
      | stm => exact absurd rfl hs
theorem iss_bls {st : Addr} {M : List Addr} {H : Hp} : ∀ {vs : List V} {bs : List Bool}, Iss st M H vs (bs.map D.bl) → vs = bs.map V.bl
  | _, [], h => by cases h; rfl
  | _, b :: bs, h => by
    cases h with
    | cons i r =>
      cases is_bl i
      rw [iss_bls r]
      rfl
theorem dcl_all {bs : List Bool} (h : post (.bl (bs.all id))) : Dcl (rAll K) [.lst (bs.map D.bl)] post := fun st M H vs _ _ _ iv Q q => by
  cases iv with
  | cons i r =>
    cases r
    obtain ⟨p, vs, rfl, hm, hl, hs⟩ := is_lst i
    rw [iss_bls hs] at hl
    exact ⟨p, bs, rfl, .of hl, q _ H _ h (Fx.refl _ _) (.bl _)⟩
def seqD : D → Option (List D)
  | .lst l => some l
  | .tup l => some l
  | _ => none
theorem seqD_ok {st : Addr} {M : List Addr} {H : Hp} {v : V} {x : D} {l : List D} (i : Is st M H v x) (e : seqD x = some l) : ∃ p vs, v = .ref p ∧ (SqL K H p vs ∨ SqT K H p vs) ∧ Iss st M H vs l := by
  cases i with
  | lst hm hl hs => cases e; exact ⟨_, _, rfl, .inl (.of hl), hs⟩
  | tup hl hs => cases e; exact ⟨_, _, rfl, .inr (.of hl), hs⟩
  | _ => cases e
theorem fresh_ne {st : Addr} {M : List Addr} {H : Hp} (trk : ∀ b ∈ M, ∃ o, H b = some o) {p : Addr} (hp : H p = none) : p ∉ M := fun z => by
  obtain ⟨o, e⟩ := trk p z
  rw [hp] at e
  cases e
theorem dcl_listof {x : D} {l : List D} (e : seqD x = some l) (h : post (.lst l)) : Dcl (rListOf K) [x] post := fun st M H vs hst hM trk iv Q q => by
  cases iv with
  | cons i r =>
    cases r
    obtain ⟨p, vs, rfl, hl, hs⟩ := seqD_ok (K := K) i e
    exact ⟨p, vs, rfl, hl, fun l hn => q _ _ _ h (Fx.new hn) (.lst (fresh_ne (st := st) trk hn) upd_same (hs.mono (fun _ z => z) hM (Fx.new hn) hst.notup))⟩
theorem dcl_tupof {x : D} {l : List D} (e : seqD x = some l) (h : post (.tup l)) : Dcl (rTupOf K) [x] post := fun st M H vs hst hM trk iv Q q => by
  cases iv with
  | cons i r =>
    cases r
    cases i with
    | lst hm hl hs =>
      cases e
      exact ⟨_, _, rfl, .inl ⟨.of hl, fun l hn => q _ _ _ h (Fx.new hn) (.tup upd_same (hs.mono (fun _ z => z) hM (Fx.new hn) hst.notup))⟩⟩
    | tup hl hs =>
      cases e
      exact ⟨_, _, rfl, .inr ⟨.of hl, q _ H _ h (Fx.refl _ _) (.tup hl hs)⟩⟩
    | _ => cases e
/-! ### methods -/
def Dmt (K : PySem.W.Frag) (T : String) (r : V → List V → Hp → VK → Prop) (x : D) (xs : List D) (post : D → Prop) : Prop := ∀ (st : Addr) (M : List Addr) (H : Hp) (v : V) (vs : List V), Stm st M H → st ∈ M → (∀ b ∈ M, ∃ o, H b = some o) → Is st M H v x → Iss st M H vs xs → ∀ Q : VK,
  (∀ z H' d, post d → Fx st H H' → Is st M H' z d → Q z H') → r v vs H Q
def TyOk (T : String) : D → Prop
  | .str _ => T = "str"
  | .lst _ => T = "list"
  | .dK _ => T = "dict"
  | .dT _ => T = "dict"
  | _ => False
theorem tyOk {st : Addr} {M : List Addr} {H : Hp} {T : String} {v : V} {x : D} (i : Is st M H v x) (h : TyOk T x) : tyV K T v H := by
  cases i with
  | str l => exact h
  | lst hm hl hs => exact .inl ⟨h, _, .of hl⟩
  | dK hm hl hs => exact .inr (.inr (.inl ⟨h, .inl ⟨_, hl⟩⟩))
  | dT hm hl hs => exact .inr (.inr (.inl ⟨h, .inr ⟨_, hl⟩⟩))
  | _ => exact h.elim
theorem de_bm {T : String} {r : V → List V → Hp → VK → Prop} (h : De te env fun x => TyOk T x ∧ Da tas env fun xs => Dmt K T r x xs post) : De (tBM K T r te tas) env post := fun B M σ H S Q q =>
  h B M σ H S _ fun v H1 x ⟨ht, hx⟩ S1 e1 i1 => ⟨tyOk i1 ht, hx B M σ H1 S1 _ fun vs H2 xs hy S2 e2 i2 => hy B.st M H2 v vs S2.stm S2.stM S2.trk (S1.is e2 i1) i2 Q fun z H3 d hd e3 i3 => q z H3 d hd (S2.fx e3) ((e1.trans e2).trans e3) i3⟩
theorem de_bm0 {T : String} {r : V → List V → Hp → VK → Prop} (h : De te env fun x => TyOk T x ∧ Dmt K T r x [] post) : De (tBM0 K T r te) env post := fun B M σ H S Q q =>
  h B M σ H S _ fun v H1 x ⟨ht, hx⟩ S1 e1 i1 => ⟨tyOk i1 ht, hx B.st M H1 v [] S1.stm S1.stM S1.trk i1 .nil Q fun z H3 d hd e3 i3 => q z H3 d hd (S1.fx e3) (e1.trans e3) i3⟩
theorem iss_strs {st : Addr} {M : List Addr} {H : Hp} : ∀ {vs : List V} {ls : List (List Nat)}, Iss st M H vs (ls.map D.str) → vs = (ls.map fun l => (⟨l.toArray⟩ : Str)).map V.str
  | _, [], h => by cases h; rfl
  | _, b :: bs, h => by
    cases h with
    | cons i r =>
      cases is_str i
      rw [iss_strs r]
      rfl
open TL in
theorem join_nil : ∀ ls : List (List Nat), (Txt.join (⟨#[]⟩ : Str) (ls.map fun l => (⟨l.toArray⟩ : Str))) = ⟨ls.flatten.toArray⟩ := fun ls => by
  have h : tl (Txt.join (⟨#[]⟩ : Str) (ls.map fun l => (⟨l.toArray⟩ : Str))) = ls.flatten := by
    rw [join_eq, tl_join]
    rw [List.map_map]
    have e : ls.map (tl ∘ fun l => (⟨l.toArray⟩ : Str)) = ls := by
      conv => rhs; rw [← List.map_id ls]
      apply List.map_congr_left
      intro l _
      rfl
    rw [e]
    show joinL [] ls = _
    clear e
    induction ls with
    | nil => rfl
    | cons a r ih =>
      cases r with
      | nil => show a = [a].flatten; simp
      | cons b r =>
        show a ++ ([] ++ joinL [] (b :: r)) = _
        rw [ih, List.nil_append]
        rfl
  generalize hz : Txt.join (⟨#[]⟩ : Str) (ls.map fun l => (⟨l.toArray⟩ : Str)) = z at h ⊢
  cases z with
  | mk c =>
    have h' : c.toList = ls.flatten := h
    rw [← h']
theorem dmt_join0 {ls : List (List Nat)} {x : D} (e : seqD x = some (ls.map D.str)) (hz : ls.flatten.length ≤ 1000000) (h : post (.str ls.flatten)) : Dmt K "str" (rJoin K) (.str []) [x] post := fun st M H v vs hst hM trk iv ivs Q q => by
  cases is_str iv
  cases ivs with
  | cons i r =>
    cases r
    obtain ⟨p, vs, rfl, hl, hs⟩ := seqD_ok (K := K) i e
    rw [iss_strs hs] at hl
    refine ⟨_, p, _, rfl, rfl, hl, ?_, q _ H _ h (Fx.refl _ _) ?_⟩
    · have e1 : ((ls.map fun l => (⟨l.toArray⟩ : Str)).map (·.length)).sum = ls.flatten.length := by
        rw [List.map_map, List.length_flatten]
        congr 1
      rw [e1]
      show _ + _ * 0 ≤ _
      omega
    · show Is st M H (.str (Txt.join (⟨#[]⟩ : Str) _)) _
      rw [join_nil]
      exact .str _
/-! ### slices -/
theorem do_none {post : Option Int → Prop} (h : post none) : Do tNoPart env post := fun B M σ H S Q q => q none H h S (Fx.refl _ _)
theorem do_part {post : Option Int → Prop} (h : De te env fun d => ∃ i, d = .int i ∧ post (some i)) : Do (tPart te) env post := fun B M σ H S Q q =>
  h B M σ H S _ fun v H1 x ⟨i, e, hp⟩ S1 e1 i1 => by
    subst e
    cases is_int i1
    exact ⟨i, rfl, q _ H1 hp S1 e1⟩
def Dsl (r : V → Option Int → Option Int → Hp → VK → Prop) (x : D) (l u : Option Int) (post : D → Prop) : Prop := ∀ (st : Addr) (M : List Addr) (H : Hp) (v : V), Stm st M H → st ∈ M → (∀ b ∈ M, ∃ o, H b = some o) → Is st M H v x → ∀ Q : VK,
  (∀ z H' d, post d → Fx st H H' → Is st M H' z d → Q z H') → r v l u H Q
theorem de_sl {r : V → Option Int → Option Int → Hp → VK → Prop} (h : De te env fun x => Do tl env fun l => Do th env fun u => Dsl r x l u post) : De (tSl r te tl th) env post := fun B M σ H S Q q =>
  h B M σ H S _ fun v H1 x hx S1 e1 i1 => hx B M σ H1 S1 _ fun l H2 hl S2 e2 => hl B M σ H2 S2 _ fun u H3 hu S3 e3 => hu B.st M H3 v S3.stm S3.stM S3.trk (S2.is e3 (S1.is e2 i1)) Q fun z H4 d hd e4 i4 => q z H4 d hd (S3.fx e4) (((e1.trans e2).trans e3).trans e4) i4
/-- the items of a slice, over any list -/
def cutD {α : Type} (xs : List α) (lo hi : Option Int) : List α := (xs.drop (HT.sIx xs.length 0 lo)).take (HT.sIx xs.length xs.length hi - HT.sIx xs.length 0 lo)
theorem dsl_str {s : List Nat} {l u : Option Int} (hz : s.length ≤ 1000000) (h : post (.str (cutD s l u))) : Dsl rSlS (.str s) l u post := fun st M H v _ _ _ iv Q q => by
  cases is_str iv
  refine ⟨_, rfl, by rw [len_of]; exact le_line hz, q _ H _ h (Fx.refl _ _) ?_⟩
  have e : cutS (⟨s.toArray⟩ : Str) l u = ⟨(cutD s l u).toArray⟩ := by
    unfold cutS cutD
    rw [len_of]
  rw [e]
  exact .str _
theorem dsl_tup {s : List D} {l u : Option Int} (h : post (.tup (cutD s l u))) : Dsl (rSlA K) (.tup s) l u post := fun st M H v hst hM trk iv Q q => by
  obtain ⟨p, vs, rfl, hl, hs⟩ := is_tup iv
  have hc : Iss st M H (cutV vs l u) (cutD s l u) := by
    unfold cutV cutD
    rw [hs.length]
    exact (hs.drop _).take _
  refine ⟨p, vs, rfl, .of hl, fun z => q _ H _ h (Fx.refl _ _) ?_, fun _ p' hn => q _ _ _ h (Fx.new hn) (.tup upd_same (hc.mono (fun _ z => z) hM (Fx.new hn) hst.notup))⟩
  have e : cutV vs l u = vs := by
    unfold cutV
    rw [z.1, z.2, List.drop_zero, Nat.sub_zero, List.take_length]
  rw [e] at hc
  exact .tup hl hc
theorem dsl_lst {s : List D} {l u : Option Int} (h : post (.lst (cutD s l u))) : Dsl (rSlL K) (.lst s) l u post := fun st M H v hst hM trk iv Q q => by
  obtain ⟨p, vs, rfl, hm, hl, hs⟩ := is_lst iv
  have hc : Iss st M H (cutV vs l u) (cutD s l u) := by
    unfold cutV cutD
    rw [hs.length]
    exact (hs.drop _).take _
  exact ⟨p, vs, rfl, .of hl, fun p' hn => q _ _ _ h (Fx.new hn) (.lst (fresh_ne (st := st) trk hn) upd_same (hc.mono (fun _ z => z) hM (Fx.new hn) hst.notup))⟩
/-! ### tuples and lists put together -/
theorem dop_catt {a b : List D} (hz : a.length + b.length ≤ 1000000) (h : post (.tup (a ++ b))) : Dop (rCatA K) (.tup a) (.tup b) post := fun st M H v w hst hM trk iv iw Q q => by
  obtain ⟨p, vs, rfl, hl, hs⟩ := is_tup iv
  obtain ⟨p2, vs2, rfl, hl2, hs2⟩ := is_tup iw
  refine ⟨p, p2, vs, vs2, rfl, rfl, .of hl, .of hl2, by rw [hs.length, hs2.length]; exact le_line hz, fun e => ?_, fun _ e => ?_, fun _ _ p' hn => ?_⟩
  · subst e
    cases hs
    exact q _ H _ h (Fx.refl _ _) (.tup hl2 hs2)
  · subst e
    cases hs2
    refine q _ H _ h (Fx.refl _ _) ?_
    rw [List.append_nil]
    exact .tup hl hs
  · exact q _ _ _ h (Fx.new hn) (.tup upd_same ((hs.append hs2).mono (fun _ z => z) hM (Fx.new hn) hst.notup))
theorem dop_catl {a b : List D} (hz : a.length + b.length ≤ 1000000) (h : post (.lst (a ++ b))) : Dop rCat (.lst a) (.lst b) post := fun st M H v w hst hM trk iv iw Q q => by
  obtain ⟨p, vs, rfl, hm, hl, hs⟩ := is_lst iv
  obtain ⟨p2, vs2, rfl, hm2, hl2, hs2⟩ := is_lst iw
  exact ⟨p, p2, vs, vs2, rfl, rfl, hl, hl2, by rw [hs.length, hs2.length]; exact le_line hz, fun p' hn => q _ _ _ h (Fx.new hn) (.lst (fresh_ne (st := st) trk hn) upd_same ((hs.append hs2).mono (fun _ z => z) hM (Fx.new hn) hst.notup))⟩
/-! ### truth -/
theorem dt_tru {te : TE} {postb : Bool → Prop} (h : De te env fun x => ∃ b, dTru x = some b ∧ postb b ∧ ∀ l, x = .str l → l.length ≤ 1000000) : Dt (tTruD K te) env postb := fun B M σ H S Q q =>
  h B M σ H S _ fun v H1 x ⟨b, e, hb, hz⟩ S1 e1 i1 => by
    refine ⟨b, ?_, q b H1 hb S1 e1⟩
    cases i1 with
    | non => exact (Option.some.inj e).symm
    | bl b => exact (Option.some.inj e).symm
    | int b => exact (Option.some.inj e).symm
    | str l =>
      refine ⟨by rw [len_of]; exact le_line (hz l rfl), ?_⟩
      rw [len_of, ← Option.some.inj e]
      cases l with
      | nil => rfl
      | cons a r =>
        show (!false) = _
        symm
        exact bne_iff_ne.mpr (by rw [List.length_cons]; omega)
    | lst hm hl hs =>
      refine .inl ⟨_, .of hl, ?_⟩
      rw [← Option.some.inj e]
      cases hs <;> rfl
    | tup hl hs =>
      refine .inr (.inl ⟨_, .of hl, ?_⟩)
      rw [← Option.some.inj e]
      cases hs <;> rfl
    | _ => cases e
end
end DL

namespace DL
open PySem PySem.Spec PyProof.Rows L2

/-! ### more rules: a text times a number, a tuple times a number, list of a text, a text turned round -/
def rMulS : R2 := fun x y H Q => ∃ (z : Str) (n : Int), x = .str z ∧ y = .int n ∧ -1000 ≤ n ∧ n ≤ 1000 ∧ z.length ≤ 1000 ∧ Q (.str ⟨(List.replicate n.toNat z.cps.toList).flatten.toArray⟩) H
theorem foldl_rep (a : Array Nat) : ∀ (n : Nat) (acc : Array Nat), (List.replicate n a).foldl (· ++ ·) acc = acc ++ (List.replicate n a.toList).flatten.toArray
  | 0, acc => by simp
  | n + 1, acc => by
    rw [List.replicate_succ, List.foldl_cons, foldl_rep a n, List.replicate_succ, List.flatten_cons, Array.append_assoc]
    congr 1
    apply Array.ext'
    simp
section
variable {X : Cx}
theorem od_mul_str : OpR X (binaryOp .Mult) rMulS := by
  intro pins s σ H x y v u Q I rx ry h
  obtain ⟨z, n, rfl, rfl, h1, h2, h3, q⟩ := h
  obtain ⟨t, rfl⟩ := rx
  obtain ⟨t2, rfl⟩ := ry
  have hz : (sizeLine : Nat) = 16777216 := sizeLine_eq
  have hl : z.length * n.toNat ≤ 1000000 := Nat.le_trans (Nat.mul_le_mul h3 (show n.toNat ≤ 1000 by omega)) (by decide)
  refine P.mul_str (by rw [decide_eq_false (by omega), decide_eq_false (by omega)]; rfl) (fun h0 _ => ?_) (fun _ _ => short24 (by omega)) ?_
  · have h4 : (2 ^ 63 - 1 : Int) / n ≥ (2 ^ 63 - 1) / 1000 := by
      refine (Int.le_ediv_iff_mul_le (by omega)).mpr ?_
      have : ((2 ^ 63 - 1 : Int) / 1000) * n ≤ ((2 ^ 63 - 1 : Int) / 1000) * 1000 := Int.mul_le_mul_of_nonneg_left h2 (by decide)
      exact Int.le_trans this (by decide)
    have h5 : ((2 ^ 63 - 1) / 1000 : Int) ≥ 1000 := by decide
    omega
  · by_cases c1 : n < 1
    · rw [if_pos c1]
      have e : n.toNat = 0 := by omega
      rw [e] at q
      exact ⟨by decide, .str _, H, I.tok _, ⟨_, rfl⟩, q⟩
    · rw [if_neg c1]
      by_cases c2 : (n == 1 || z.length == 0) = true
      · rw [if_pos c2]
        refine ⟨.str z, H, I, ⟨t, rfl⟩, ?_⟩
        have e : (⟨(List.replicate n.toNat z.cps.toList).flatten.toArray⟩ : Str) = z := by
          rcases Bool.or_eq_true _ _ |>.mp c2 with z1 | z1
          · have : n = 1 := by simpa using z1
            subst this
            cases z
            simp
          · have z2 : z.cps.size = 0 := by
              have : z.length = 0 := by simpa using z1
              exact this
            cases z with
            | mk c =>
              have : c = #[] := Array.eq_empty_of_size_eq_zero z2
              subst this
              simp
        rw [e] at q
        exact q
      · rw [if_neg c2]
        have e : (List.replicate n.toNat z.cps).foldl (· ++ ·) #[] = (List.replicate n.toNat z.cps.toList).flatten.toArray := by
          rw [foldl_rep]
          simp
        rw [e]
        refine ⟨?_, .str _, H, I.tok _, ⟨_, rfl⟩, q⟩
        show ((List.replicate n.toNat z.cps.toList).flatten.toArray).size ≤ sizeLine
        rw [List.size_toArray]
        have : ∀ m : Nat, (List.replicate m z.cps.toList).flatten.length = m * z.length := fun m => by
          induction m with
          | zero => simp
          | succ m ih =>
            rw [List.replicate_succ, List.flatten_cons, List.length_append, ih, Nat.succ_mul, Nat.add_comm]
            congr 1
        rw [this, Nat.mul_comm]
        omega
theorem od_rept : OpR X (binaryOp .Mult) (rRepT X.K) := op_repT
end
section
variable {env : Nv} {post : D → Prop} {K : PySem.W.Frag}
theorem dop_muls {a : List Nat} {n : Int} (h1 : -1000 ≤ n) (h2 : n ≤ 1000) (h3 : a.length ≤ 1000) (h : post (.str (List.replicate n.toNat a).flatten)) : Dop rMulS (.str a) (.int n) post := fun st M H v w _ _ _ iv iw Q q => by
  cases is_str iv
  cases is_int iw
  exact ⟨_, n, rfl, rfl, h1, h2, by rw [len_of]; exact h3, q _ H _ h (Fx.refl _ _) (.str _)⟩
theorem iss_rep {st : Addr} {M : List Addr} {H : Hp} {vs : List V} {ds : List D} (h : Iss st M H vs ds) : ∀ n : Nat, Iss st M H (List.replicate n vs).flatten (List.replicate n ds).flatten
  | 0 => .nil
  | n + 1 => by
    rw [List.replicate_succ, List.flatten_cons, List.replicate_succ, List.flatten_cons]
    exact h.append (iss_rep h n)
theorem dop_rept {a : List D} {n : Int} (h1 : 2 ≤ n) (h2 : n ≤ 1000) (h3 : a.length ≤ 1000) (h0 : a ≠ []) (h : post (.tup (List.replicate n.toNat a).flatten)) : Dop (rRepT K) (.tup a) (.int n) post := fun st M H v w hst hM trk iv iw Q q => by
  obtain ⟨p, vs, rfl, hl, hs⟩ := is_tup iv
  cases is_int iw
  refine ⟨p, n, vs, rfl, rfl, .of hl, fun z => ?_, h1, h2, by rw [hs.length]; exact h3, fun p' hn => q _ _ _ h (Fx.new hn) (.tup upd_same ((iss_rep hs _).mono (fun _ z => z) hM (Fx.new hn) hst.notup))⟩
  subst z
  cases hs
  exact h0 rfl
/-- a fresh list from two -/
theorem den_catl {ta tb : TE} {postN : Ow → Prop} (h : De ta env fun x => De tb env fun y => ∃ a b, x = .lst a ∧ y = .lst b ∧ a.length + b.length ≤ 1000000 ∧ postN (.lst (a ++ b))) : DeN (tOp rCat ta tb) env postN := fun B M σ H S Q q => by
  refine h B M σ H S _ fun v H1 x hx S1 e1 i1 => hx B M σ H1 S1 _ fun w H2 y hy S2 e2 i2 => ?_
  obtain ⟨a, b, rfl, rfl, hz, hp⟩ := hy
  obtain ⟨p, vs, rfl, hm, hl, hs⟩ := is_lst (S1.is e2 i1)
  obtain ⟨p2, vs2, rfl, hm2, hl2, hs2⟩ := is_lst i2
  have f := e1.trans e2
  exact ⟨p, p2, vs, vs2, rfl, rfl, hl, hl2, by rw [hs.length, hs2.length]; exact le_line hz, fun p' hn => q p' _ (.lst (vs ++ vs2)) (.lst (a ++ b)) hp (S2.newIn hn _) (f.trans (Fx.new hn)) upd_same (.lst (S2.newIs hn _ (hs.append hs2))) (fresh_back f (S2.nst hn) hn)⟩
/-- list(range(n)) -/
theorem den_listrg {tas : TA} {te : L2.St → Hp → (Int → Int → Hp → Prop) → Prop} : True := trivial
/-! ### slices of written bounds -/
theorem cutD_to {α : Type} (xs : List α) (i : Int) (h : 0 ≤ i) : cutD xs none (some i) = xs.take i.toNat := by
  obtain ⟨n, rfl⟩ := Int.eq_ofNat_of_zero_le h
  unfold cutD
  rw [HT.sIx_none, HT.sIx_nat, List.drop_zero, Nat.sub_zero]
  simp
theorem cutD_from {α : Type} (xs : List α) (i : Int) (h : 0 ≤ i) : cutD xs (some i) none = xs.drop i.toNat := by
  obtain ⟨n, rfl⟩ := Int.eq_ofNat_of_zero_le h
  unfold cutD
  rw [HT.sIx_none, HT.sIx_nat]
  rw [List.take_of_length_le (by rw [List.length_drop]; omega)]
  show xs.drop (min n xs.length) = xs.drop n
  by_cases hn : n ≤ xs.length
  · rw [Nat.min_eq_left hn]
  · rw [Nat.min_eq_right (by omega), List.drop_of_length_le (Nat.le_refl _), List.drop_of_length_le (by omega)]
theorem cutD_mid {α : Type} (xs : List α) (i j : Int) (h : 0 ≤ i) (h2 : 0 ≤ j) : cutD xs (some i) (some j) = (xs.drop i.toNat).take (j.toNat - i.toNat) := by
  obtain ⟨n, rfl⟩ := Int.eq_ofNat_of_zero_le h
  obtain ⟨m, rfl⟩ := Int.eq_ofNat_of_zero_le h2
  unfold cutD
  rw [HT.sIx_nat, HT.sIx_nat]
  show (xs.drop (min n xs.length)).take (min m xs.length - min n xs.length) = (xs.drop n).take (m - n)
  by_cases hn : n ≤ xs.length
  · rw [Nat.min_eq_left hn]
    by_cases hm : m ≤ xs.length
    · rw [Nat.min_eq_left hm]
    · rw [Nat.min_eq_right (by omega), List.take_of_length_le (by rw [List.length_drop]; omega), List.take_of_length_le (by rw [List.length_drop]; omega)]
  · rw [Nat.min_eq_right (by omega : xs.length ≤ n), List.drop_of_length_le (Nat.le_refl _), List.drop_of_length_le (by omega), List.take_nil, List.take_nil]
theorem atI_at {α : Type} {xs : List α} {i : Int} {x : α} (h : 0 ≤ i) (e : xs[i.toNat]? = some x) : atI xs i = some x := by
  have hl := (List.getElem?_eq_some_iff.mp e).1
  unfold atI ixN
  rw [if_pos h, if_pos (by omega)]
  exact e
theorem atI_lt {α : Type} (xs : List α) (i : Int) (h : 0 ≤ i) (h2 : i < xs.length) : ∃ x, atI xs i = some x ∧ x ∈ xs := by
  have hl : i.toNat < xs.length := by omega
  exact ⟨xs[i.toNat], atI_at h (List.getElem?_eq_getElem hl), List.getElem_mem hl⟩
theorem atI_back {α : Type} (xs : List α) (x : α) : atI (xs ++ [x]) (-1) = some x := by
  unfold atI ixN
  rw [if_neg (by omega), if_pos (by rw [List.length_append, List.length_singleton]; omega)]
  show (xs ++ [x])[_]? = _
  rw [List.length_append, List.length_singleton]
  have : ((-1 : Int) + ((xs.length + 1 : Nat) : Int)).toNat = xs.length := by omega
  rw [this]
  simp
end
section
variable {post : D → Prop} {K : PySem.W.Frag} {i j : Int}
theorem dsl_tup_to {s : List D} (h0 : 0 ≤ i) (h : post (.tup (s.take i.toNat))) : Dsl (rSlA K) (.tup s) none (some i) post := dsl_tup (by rw [cutD_to _ _ h0]; exact h)
theorem dsl_tup_from {s : List D} (h0 : 0 ≤ i) (h : post (.tup (s.drop i.toNat))) : Dsl (rSlA K) (.tup s) (some i) none post := dsl_tup (by rw [cutD_from _ _ h0]; exact h)
theorem dsl_tup_mid {s : List D} (h0 : 0 ≤ i) (h1 : 0 ≤ j) (h : post (.tup ((s.drop i.toNat).take (j.toNat - i.toNat)))) : Dsl (rSlA K) (.tup s) (some i) (some j) post := dsl_tup (by rw [cutD_mid _ _ _ h0 h1]; exact h)
theorem dsl_str_to {s : List Nat} (hz : s.length ≤ 1000000) (h0 : 0 ≤ i) (h : post (.str (s.take i.toNat))) : Dsl rSlS (.str s) none (some i) post := dsl_str hz (by rw [cutD_to _ _ h0]; exact h)
theorem dsl_str_from {s : List Nat} (hz : s.length ≤ 1000000) (h0 : 0 ≤ i) (h : post (.str (s.drop i.toNat))) : Dsl rSlS (.str s) (some i) none post := dsl_str hz (by rw [cutD_from _ _ h0]; exact h)
theorem dsl_str_mid {s : List Nat} (hz : s.length ≤ 1000000) (h0 : 0 ≤ i) (h1 : 0 ≤ j) (h : post (.str ((s.drop i.toNat).take (j.toNat - i.toNat)))) : Dsl rSlS (.str s) (some i) (some j) post := dsl_str hz (by rw [cutD_mid _ _ _ h0 h1]; exact h)
end
/-! ### kinds -/
def okD : D → Bool
  | .stm => false
  | .ty _ => false
  | _ => true
theorem okD.ty {v : D} (h : okD v = true) : ∀ n, v ≠ .ty n := fun n z => by rw [z] at h; cases h
theorem okD.stm {v : D} (h : okD v = true) : v ≠ .stm := fun z => by rw [z] at h; cases h
def isTy (T : String) (v : D) : Bool := match v with
  | .bl _ => T == "bool" || T == "int"
  | v => tyD v == T
theorem kits : ∀ s ∈ ["NoneType", "bool", "int", "str", "tuple", "list", "dict"], ∀ T ∈ ["int", "bool", "str", "tuple", "list"], kitB s T = some (if s = "bool" then (T == "bool" || T == "int") else s == T) := by decide +kernel
theorem kit_of_ty {v : D} {T : String} (h : okD v = true) (hT : T = "int" ∨ T = "bool" ∨ T = "str" ∨ T = "tuple" ∨ T = "list") : kitB (tyD v) T = some (isTy T v) := by
  have hm : T ∈ ["int", "bool", "str", "tuple", "list"] := by
    rcases hT with rfl | rfl | rfl | rfl | rfl <;> simp
  cases v with
  | stm => cases h
  | ty n => cases h
  | bl b => exact kits "bool" (by simp) T hm
  | non => exact kits "NoneType" (by simp) T hm
  | int i => exact kits "int" (by simp) T hm
  | str s => exact kits "str" (by simp) T hm
  | tup ds => exact kits "tuple" (by simp) T hm
  | lst ds => exact kits "list" (by simp) T hm
  | dK ds => exact kits "dict" (by simp) T hm
  | dT ds => exact kits "dict" (by simp) T hm
theorem dcl_isib {K : PySem.W.Frag} {post : D → Prop} {x : D} {T : String} (b : Bool) (hx : okD x = true) (hT : T = "int" ∨ T = "bool" ∨ T = "str" ∨ T = "tuple" ∨ T = "list") (hb : isTy T x = b) (h : post (.bl b)) : Dcl (rIsi K) [x, .ty T] post :=
  dcl_isi (okD.ty hx) (okD.stm hx) (hb ▸ kit_of_ty hx hT) h
theorem dcl_isi' {K : PySem.W.Frag} {post : D → Prop} {x : D} {T : String} (hx : okD x = true) (hT : T = "int" ∨ T = "bool" ∨ T = "str" ∨ T = "tuple" ∨ T = "list") (h : post (.bl (isTy T x))) : Dcl (rIsi K) [x, .ty T] post :=
  dcl_isi (okD.ty hx) (okD.stm hx) (kit_of_ty hx hT) h
end DL

namespace DL
open PySem PySem.Spec PyProof.Rows L2

theorem df_mk {K : PySem.W.Frag} {h : Heap} {mg : Str → Option Value} {x : Str} {st : Stmt} {ps : List Str} {f : Addr} {oc kV dc pm cd ct : Value} {od an : Option Addr} {sl : Array (Option Value)} (X : K.In h) (G : h.Ns mainGlobals mg)
    (a : PySem.W.nsIn K mainGlobals x = some (some (.ref f))) (l : K.lookup f = some ⟨oc, od, .func (PySem.W.fnOf x x (defArgs st) (defBody st) (defScope st) .none kV dc pm an cd ct), sl⟩) (c : PySem.W.codeIn K cd x = true) (k : PySem.W.keepIn K (.ref f) = true)
    (hb : ∀ (kV doc pm : Value) (an : Option Addr) (cdv ct : Value) (us : List Value), us.length = ps.length → bindArgs (PySem.W.fnOf x x (defArgs st) (defBody st) (defScope st) .none kV doc pm an cdv ct) ⟨us, []⟩ = pure (ps.zip us)) : Df K mg x st ps :=
  ⟨f, _, fun_mk l c k, PySem.W.mg_of X G a, (fun_mk l c k).binds hb⟩
theorem mg_intK {K : PySem.W.Frag} {h : Heap} {mg : Str → Option Value} {x : Str} {n : Int} {t : Tok} (X : K.In h) (G : h.Ns mainGlobals mg) (a : PySem.W.nsIn K mainGlobals x = some (some (.int n t))) : ∃ u, mg x = some u ∧ RelV (.int n) u :=
  ⟨_, PySem.W.mg_of X G a, t, rfl⟩
theorem mg_strK {K : PySem.W.Frag} {h : Heap} {mg : Str → Option Value} {x : Str} {n : Str} {t : Tok} (X : K.In h) (G : h.Ns mainGlobals mg) (a : PySem.W.nsIn K mainGlobals x = some (some (.str n t))) : ∃ u, mg x = some u ∧ RelV (.str n) u :=
  ⟨_, PySem.W.mg_of X G a, t, rfl⟩
def spLaw (K : PySem.W.Frag) : Sp := fun vs H Q _ => ∃ (a : Addr) (ns : List Int), vs = [.ref a] ∧ SqL K H a (ns.map V.int) ∧ ns.length ≤ 63 ∧ ∀ H', Q (.bl true) H'
def spStream (K : PySem.W.Frag) : Sp := fun vs H Q _ => ∃ (a : Addr) (ns : List Int), vs = [.ref a] ∧ SqL K H a (ns.map V.int) ∧
  ∀ b st H', st ≠ b → H' b = some (.lst (ns.map V.int)) → H' st = some (.lst [.ref b, .int 0, .int 0]) → Q (.ref st) H'
theorem law_read {K : PySem.W.Frag} {tr : TS} {N : List Str} {n : Nat} (hN : N.length = n + 2) (h : Ds tr (.any :: .dat .stm :: List.replicate n .any) (fun _ => False) (fun d => d = .bl true) (fun _ => False) (fun _ => False)) :
    ∀ vs H Q (E : XK), spLaw K vs H Q E → (tSeq (tAsg (tCall (spStream K) [] E0 (tCons (tVar 0) tNil)) (gName 1)) tr) { nx := fun _ H' => Q .non H', rt := Q } (L2.start N vs) H := by
  intro vs H Q E ⟨a, ns, e, hS, hl, q⟩
  subst e
  have e0 : L2.start N [V.ref a] = some (.ref a) :: none :: List.replicate n none := by
    unfold L2.start
    rw [hN]
    show some (V.ref a) :: List.replicate (n + 1) none = _
    rw [List.replicate_succ]
  rw [e0]
  refine ⟨.ref a, rfl, a, ns, rfl, hS, fun b st H' ne hb hs => ?_⟩
  have S : Sr ⟨st, [st], H', []⟩ [st] (some (.ref a) :: some (.ref st) :: List.replicate n none) H' (.any :: .dat .stm :: List.replicate n .any) := by
    have anyat : ∀ (i : Nat) s, (Sl.any :: Sl.dat D.stm :: List.replicate n Sl.any)[i]? = some s → (i = 1 ∧ s = .dat .stm) ∨ s = .any := fun i s h => by
      match i with
      | 0 => exact .inr (Option.some.inj h).symm
      | 1 => exact .inl ⟨rfl, (Option.some.inj h).symm⟩
      | i + 2 =>
        have h' : (List.replicate n Sl.any)[i]? = some s := h
        obtain ⟨_, h'⟩ := List.getElem?_eq_some_iff.mp h'
        rw [List.getElem_replicate] at h'
        exact .inr h'.symm
    refine ⟨⟨b, ns, 0, 0, fun z => ne (List.mem_singleton.mp z).symm, fun z => ne z.symm, hs, hb, by omega, by omega⟩, List.mem_singleton.mpr rfl, Fx.refl _ _, fun _ z => z, fun _ z => .inl z, fun c hc => ⟨_, (List.mem_singleton.mp hc) ▸ hs⟩, List.mem_singleton.mpr rfl, fun c hc => ⟨_, (List.mem_singleton.mp hc) ▸ hs⟩, ?_, fun i d h => ?_, fun i o h => ?_, fun i j p o u h => ?_, fun x hx => nomatch hx⟩
    · simp
    · rcases anyat i _ h with ⟨rfl, z⟩ | z
      · cases z
        exact ⟨.ref st, rfl, .stm⟩
      · cases z
    · rcases anyat i _ h with ⟨_, z⟩ | z <;> cases z
    · rcases anyat i _ h with ⟨_, z⟩ | z <;> cases z
  exact h _ _ _ _ S _ (fun _ _ _ _ he _ => he.elim) (fun v H'' d hd fx iv => by
    have hd' : d = .bl true := hd
    subst hd'
    cases is_bl iv
    exact q H'') (fun _ _ _ _ he _ => he.elim) (fun _ _ _ _ he _ => he.elim)
/-- the stream's state is told by nothing but its form -/
theorem stm_next {st : Addr} {M : List Addr} {H : Hp} {c' k' : Int} (hs : Stm st M H) (h1 : 0 ≤ c') (h2 : 0 ≤ k') {a : Addr} {c k : Int} (e : H st = some (.lst [.ref a, .int c, .int k])) : Fx st H (upd H st (.lst [.ref a, .int c', .int k'])) := by
  refine ⟨fun b o hb h => by rw [upd_ne hb]; exact h, fun a2 c2 k2 _ _ e2 => ?_⟩
  rw [e] at e2
  cases e2
  exact ⟨c', k', h1, h2, upd_same⟩
end DL

theorem Law.lit_0 : (PySem.Str.ofString "aAbBcC").cps.toList = [97, 65, 98, 66, 99, 67] := by decide +kernel
theorem Law.lit_1 : (PySem.Str.ofString "").cps.toList = [] := by decide +kernel
theorem Law.lit_2 : (PySem.Str.ofString "2").cps.toList = [50] := by decide +kernel
theorem Law.lit_3 : (PySem.Str.ofString "a").cps.toList = [97] := by decide +kernel
theorem Law.lit_4 : (PySem.Str.ofString "a b").cps.toList = [97, 32, 98] := by decide +kernel
theorem Law.lit_5 : (PySem.Str.ofString "a1").cps.toList = [97, 49] := by decide +kernel
theorem Law.lit_6 : (PySem.Str.ofString "d").cps.toList = [100] := by decide +kernel
theorem Law.lit_7 : (PySem.Str.ofString "bc").cps.toList = [98, 99] := by decide +kernel
theorem Law.lit_8 : (PySem.Str.ofString "aBC").cps.toList = [97, 66, 67] := by decide +kernel
theorem Law.lit_9 : (PySem.Str.ofString "aBcCx").cps.toList = [97, 66, 99, 67, 120] := by decide +kernel
local macro_rules | `(tactic| walk_at "str") => `(tactic| first
  | refine DL.de_strL Law.lit_0 ?_
  | refine DL.de_strL Law.lit_1 ?_
  | refine DL.de_strL Law.lit_2 ?_
  | refine DL.de_strL Law.lit_3 ?_
  | refine DL.de_strL Law.lit_4 ?_
  | refine DL.de_strL Law.lit_5 ?_
  | refine DL.de_strL Law.lit_6 ?_
  | refine DL.de_strL Law.lit_7 ?_
  | refine DL.de_strL Law.lit_8 ?_
  | refine DL.de_strL Law.lit_9 ?_
  | refine DL.de_str ?_)
local macro_rules | `(tactic| walk_at "cm") => `(tactic| first | exact Or.inl ⟨by omega, by omega⟩ | exact Or.inr ⟨by omega, by omega⟩)
local macro_rules | `(tactic| walk_at "sz") => `(tactic| first | omega | (simp only [List.length_cons, List.length_nil, List.length_append, List.length_map, List.length_take, List.length_drop]; omega) | (simp only [List.length_cons, List.length_nil, List.length_append, List.length_map] at *; omega))
local macro_rules | `(tactic| walk_at "dl") => `(tactic| first
  | ((with_reducible show DL.De (L2.tVar _) _ _); refine DL.de_var rfl ?_)
  | ((with_reducible show DL.De (L2.tC (.int _)) _ _); refine DL.de_int ?_)
  | ((with_reducible show DL.De (L2.tC (.bl _)) _ _); refine DL.de_bl ?_)
  | ((with_reducible show DL.De (L2.tC (.str _)) _ _); walk_at "str")
  | ((with_reducible show DL.De (L2.tC .non) _ _); refine DL.de_non ?_)
  | ((with_reducible show DL.De (L2.tC (.ty _)) _ _); refine DL.de_ty ?_)
  | ((with_reducible show DL.De (L2.tOp _ _ _) _ _); refine DL.de_op ?_)
  | ((with_reducible show DL.De (L2.tUn _ _) _ _); refine DL.de_un ?_)
  | ((with_reducible show DL.De (L2.tCB _ _) _ _); refine DL.de_cb ?_)
  | ((with_reducible show DL.De (L2.tTup _) _ _); refine DL.de_tup ?_)
  | ((with_reducible show DL.De (L2.tLst _) _ _); refine DL.de_lst ?_)
  | ((with_reducible show DL.De (L2.tCall (DL.PF _) _ _ _) _ _); refine DL.de_call ?_)
  | ((with_reducible show DL.De (L2.tChain _ _ _ _ _) _ _); refine DL.de_chain ?_)
  | ((with_reducible show DL.De (L2.tAndV _ _) _ _); refine DL.de_andV ?_)
  | ((with_reducible show DL.De (L2.tOrV _ _) _ _); refine DL.de_orV ?_)
  | ((with_reducible show DL.De (L2.tNotV _) _ _); refine DL.de_notV ?_)
  | ((with_reducible show DL.De (L2.tIf _ _ _) _ _); refine DL.de_if ?_)
  | ((with_reducible show DL.De (L2.tBM _ _ _ _ _) _ _); refine DL.de_bm ?_)
  | ((with_reducible show DL.De (L2.tBM0 _ _ _ _) _ _); refine DL.de_bm0 ?_)
  | ((with_reducible show DL.De (L2.tSl _ _ _ _) _ _); refine DL.de_sl ?_)
  | ((with_reducible show DL.Da L2.tNil _ _); refine DL.da_nil ?_)
  | ((with_reducible show DL.Da (L2.tCons _ _) _ _); refine DL.da_cons ?_)
  | ((with_reducible show DL.Do L2.tNoPart _ _); refine DL.do_none ?_)
  | ((with_reducible show DL.Do (L2.tPart _) _ _); refine DL.do_part ?_)
  | ((with_reducible show DL.Dt (L2.tTest _) _ _); refine DL.dt_test ?_)
  | ((with_reducible show DL.Dt (L2.tB _) _ _); refine DL.dt_B ?_)
  | ((with_reducible show DL.Dt (L2.tAnd _ _) _ _); refine DL.dt_and ?_)
  | ((with_reducible show DL.Dt (L2.tOr _ _) _ _); refine DL.dt_or ?_)
  | ((with_reducible show DL.Dt (L2.tNot _) _ _); refine DL.dt_not ?_)
  | ((with_reducible show DL.Dt L2.tYes _ _); refine DL.dt_yes ?_)
  | ((with_reducible show DL.Dt (DL.tTruD _ _) _ _); refine DL.dt_tru ?_)
  | ((with_reducible show DL.Ds (L2.tSeq _ _) _ _ _ _ _); refine DL.ds_seq ?_)
  | ((with_reducible show DL.Ds (L2.tAsg (L2.tCall _ _ _ _) (L2.gName _)) _ _ _ _ _); refine DL.ds_set ?_)
  | ((with_reducible show DL.Ds (L2.tAsg (L2.tSl _ _ _ _) (L2.gName _)) _ _ _ _ _); refine DL.ds_set ?_)
  | ((with_reducible show DL.Ds (L2.tAsg (L2.tBM _ _ _ _ _) (L2.gName _)) _ _ _ _ _); refine DL.ds_set ?_)
  | ((with_reducible show DL.Ds (L2.tAsg (L2.tVar _) (L2.gName _)) _ _ _ _ _); refine DL.ds_set ?_)
  | ((with_reducible show DL.Ds (L2.tAsg (L2.tC _) (L2.gName _)) _ _ _ _ _); refine DL.ds_set ?_)
  | ((with_reducible show DL.Ds (L2.tAsg (L2.tIf _ _ _) (L2.gName _)) _ _ _ _ _); refine DL.ds_set ?_)
  | ((with_reducible show DL.Ds (L2.tAsg (L2.tUn _ _) (L2.gName _)) _ _ _ _ _); refine DL.ds_set ?_)
  | ((with_reducible show DL.Ds (L2.tAsg (L2.tTup _) (L2.gName _)) _ _ _ _ _); refine DL.ds_set ?_)
  | ((with_reducible show DL.Ds (L2.tAsg (L2.tOp (L2.rI0 _) _ _) (L2.gName _)) _ _ _ _ _); refine DL.ds_set ?_)
  | ((with_reducible show DL.Ds (L2.tAsg (L2.tOp (L2.rI _ _) _ _) (L2.gName _)) _ _ _ _ _); refine DL.ds_set ?_)
  | ((with_reducible show DL.Ds (L2.tAsg (L2.tOp (L2.rIxL _) _ _) (L2.gName _)) _ _ _ _ _); refine DL.ds_set ?_)
  | ((with_reducible show DL.Ds (L2.tAsg (L2.tOp (L2.rIxT _) _ _) (L2.gName _)) _ _ _ _ _); refine DL.ds_set ?_)
  | ((with_reducible show DL.Ds (L2.tAsg (L2.tOp L2.rIxS _ _) (L2.gName _)) _ _ _ _ _); refine DL.ds_set ?_)
  | ((with_reducible show DL.Ds (L2.tAsg (L2.tOp DL.rAddS _ _) (L2.gName _)) _ _ _ _ _); refine DL.ds_set ?_)
  | ((with_reducible show DL.Ds (L2.tAug _ _ _) _ _ _ _ _); refine DL.ds_aug rfl ?_)
  | ((with_reducible show DL.Ds L2.tNext _ _ _ _ _); refine DL.ds_next ?_)
  | ((with_reducible show DL.Ds L2.tBreak _ _ _ _ _); refine DL.ds_brk ?_)
  | ((with_reducible show DL.Ds L2.tCont _ _ _ _ _); refine DL.ds_cont ?_)
  | ((with_reducible show DL.Ds (L2.tIfS _ _ _) _ _ _ _ _); refine DL.ds_if ?_)
  | ((with_reducible show DL.Ds (L2.tRet _) _ _ _ _ _); refine DL.ds_ret ?_)
  | ((with_reducible show DL.Ds L2.tRetN _ _ _ _ _); refine DL.ds_retN ?_)
  | ((with_reducible show DL.Dop (L2.rI0 _) (.int _) (.int _) _); first | refine DL.dop_i0 ?_ | refine DL.dop_b0 ?_)
  | ((with_reducible show DL.Dop L2.rEq (.int _) (.int _) _); refine DL.dop_eqi ?_)
  | ((with_reducible show DL.Dop L2.rEq (.str _) (.str _) _); refine DL.dop_eqs ?_)
  | ((with_reducible show DL.Dop L2.rEq (.bl _) (.bl _) _); refine DL.dop_eqb ?_)
  | ((with_reducible show DL.Dop L2.rNe (.int _) (.int _) _); refine DL.dop_nei ?_)
  | ((with_reducible show DL.Dop L2.rNe (.str _) (.str _) _); refine DL.dop_nes ?_)
  | ((with_reducible show DL.Dop L2.rIsB (.bl _) (.bl _) _); refine DL.dop_isB ?_)
  | ((with_reducible show DL.Dop L2.rNotB (.bl _) (.bl _) _); refine DL.dop_notB ?_)
  | ((with_reducible show DL.Dop DL.rIsN _ .non _); refine DL.dop_isN ?_)
  | ((with_reducible show DL.Dop DL.rNotN _ .non _); refine DL.dop_notN ?_)
  | ((with_reducible show DL.Dop (L2.rI L2.CMul _) _ _ _); refine DL.dop_i (by walk_at "cm") ?_)
  | ((with_reducible show DL.Dun (L2.rU _) (.int _) _); refine DL.dun_i ?_)
  | ((with_reducible show DL.Dcl DL.rAbs _ _); refine DL.dcl_abs ?_)
  | ((with_reducible show DL.Dcl DL.rInt [.int _] _); refine DL.dcl_int ?_)
  | ((with_reducible show DL.Dcl DL.rInt [.bl _] _); refine DL.dcl_intb ?_)
  | ((with_reducible show DL.Dcl (L2.rIsi _) [_, .ty _] _); first | refine DL.dcl_isib true (by first | rfl | assumption) (by simp) rfl ?_ | refine DL.dcl_isib false (by first | rfl | assumption) (by simp) rfl ?_)
  | ((with_reducible show DL.Dcl (DL.rListOf _) _ _); refine DL.dcl_listof rfl ?_)
  | ((with_reducible show DL.Dcl (DL.rTupOf _) _ _); refine DL.dcl_tupof rfl ?_)
  | ((with_reducible show DL.Dcl (DL.rLen _) _ _); refine DL.dcl_len rfl (by walk_at "sz") ?_)
  | ((with_reducible show DL.Dop DL.rAddS (.str _) (.str _) _); refine DL.dop_adds (by walk_at "sz") ?_)
  | ((with_reducible show DL.Dop (L2.rCatA _) (.tup _) (.tup _) _); refine DL.dop_catt (by walk_at "sz") ?_)
  | ((with_reducible show DL.Dsl (L2.rSlA _) (.tup _) _ _ _); first | refine DL.dsl_tup_to (by omega) ?_ | refine DL.dsl_tup_from (by omega) ?_ | refine DL.dsl_tup_mid (by omega) (by omega) ?_ | refine DL.dsl_tup ?_)
  | ((with_reducible show DL.Dsl L2.rSlS (.str _) _ _ _); first | refine DL.dsl_str_to (by walk_at "sz") (by omega) ?_ | refine DL.dsl_str_from (by walk_at "sz") (by omega) ?_ | refine DL.dsl_str_mid (by walk_at "sz") (by omega) (by omega) ?_ | refine DL.dsl_str (by walk_at "sz") ?_)
  | ((with_reducible show DL.Dop DL.rMulS (.str _) (.int _) _); refine DL.dop_muls (by omega) (by omega) (by walk_at "sz") ?_)
  | ((with_reducible show DL.Dop (L2.rRepT _) (.tup _) (.int _) _); refine DL.dop_rept (by omega) (by omega) (by walk_at "sz") (by simp) ?_)
  | ((with_reducible show DL.Dop L2.rCat (.lst _) (.lst _) _); refine DL.dop_catl (by walk_at "sz") ?_)
  | ((with_reducible show List.length (_ :: _) ≤ 1000000 ∧ _); refine ⟨by walk_at "sz", ?_⟩)
  | ((with_reducible show List.length [] ≤ 1000000 ∧ _); refine ⟨by walk_at "sz", ?_⟩)
  | ((with_reducible show ite (_ = true) _ _); first | refine L2.iteT ?_ | refine L2.iteF ?_)
  | ((with_reducible show ∃ b, DL.D.bl _ = DL.D.bl b ∧ _); refine ⟨_, rfl, ?_⟩)
  | ((with_reducible show ∃ b, DL.D.int _ = DL.D.int b ∧ _); refine ⟨_, rfl, ?_⟩)
  | (dsimp only [List.set]))

namespace Law
open PySem PySem.Spec PyProof.Rows L2 DL
def topS (i : Nat) : Stmt := PySem.Challenge.pw_foldedways_k16_forms_of_families.main.body.getD i (.Pass ⟨0, 0, 0, 0⟩)
abbrev s_law_stream : Stmt := topS 13
abbrev n_law_stream : List Str := ["script"]
theorem sc_law_stream : FnScope n_law_stream ["script"] (defScope s_law_stream) := ⟨rfl, rfl, rfl, by decide +kernel, rfl, by decide +kernel, by decide +kernel⟩
abbrev s_law_next : Stmt := topS 14
abbrev n_law_next : List Str := ["stream", "many", "k", "cell", "digit"]
theorem sc_law_next : FnScope n_law_next ["stream", "many"] (defScope s_law_next) := ⟨rfl, rfl, rfl, by decide +kernel, rfl, by decide +kernel, by decide +kernel⟩
abbrev s_law_word : Stmt := topS 20
abbrev n_law_word : List Str := ["stream", "rank", "most", "letters", "k"]
theorem sc_law_word : FnScope n_law_word ["stream", "rank", "most"] (defScope s_law_word) := ⟨rfl, rfl, rfl, by decide +kernel, rfl, by decide +kernel, by decide +kernel⟩
abbrev s_law_family : Stmt := topS 21
abbrev n_law_family : List Str := ["stream", "rank", "most", "k"]
theorem sc_law_family : FnScope n_law_family ["stream"] (defScope s_law_family) := ⟨rfl, rfl, rfl, by decide +kernel, rfl, by decide +kernel, by decide +kernel⟩
abbrev s_is_integer : Stmt := topS 5
abbrev n_is_integer : List Str := ["value", "least", "most"]
theorem sc_is_integer : FnScope n_is_integer ["value", "least", "most"] (defScope s_is_integer) := ⟨rfl, rfl, rfl, by decide +kernel, rfl, by decide +kernel, by decide +kernel⟩
abbrev s_is_rank : Stmt := topS 6
abbrev n_is_rank : List Str := ["value"]
theorem sc_is_rank : FnScope n_is_rank ["value"] (defScope s_is_rank) := ⟨rfl, rfl, rfl, by decide +kernel, rfl, by decide +kernel, by decide +kernel⟩
abbrev s_letters_of : Stmt := topS 2
abbrev n_letters_of : List Str := ["rank"]
theorem sc_letters_of : FnScope n_letters_of ["rank"] (defScope s_letters_of) := ⟨rfl, rfl, rfl, by decide +kernel, rfl, by decide +kernel, by decide +kernel⟩
abbrev s_is_spelled : Stmt := topS 7
abbrev n_is_spelled : List Str := ["value", "rank", "most", "letters", "letter"]
theorem sc_is_spelled : FnScope n_is_spelled ["value", "rank", "most"] (defScope s_is_spelled) := ⟨rfl, rfl, rfl, by decide +kernel, rfl, by decide +kernel, by decide +kernel⟩
abbrev s_is_family : Stmt := topS 11
abbrev n_is_family : List Str := ["value", "rank", "given", "word"]
theorem sc_is_family : FnScope n_is_family ["value"] (defScope s_is_family) := ⟨rfl, rfl, rfl, by decide +kernel, rfl, by decide +kernel, by decide +kernel⟩
abbrev s_law : Stmt := topS 28
abbrev n_law : List Str := ["script", "stream", "family", "rank", "given", "wrong", "bad"]
theorem sc_law : FnScope n_law ["script"] (defScope s_law) := ⟨rfl, rfl, rfl, by decide +kernel, rfl, by decide +kernel, by decide +kernel⟩
section
variable {P : Program} {w : World} {K : PySem.W.Frag} {mg : Str → Option Value} {base : Heap}
/-! letters, words -/
def LETS : List Nat := [97, 65, 98, 66, 99, 67]
def LS (r : Int) : List Nat := LETS.take (2 * r).toNat
theorem LS_len {r : Int} (h1 : 1 ≤ r) (h2 : r ≤ 3) : ((LS r).length : Int) = 2 * r := by
  unfold LS
  rw [List.length_take]
  show ((min (2 * r).toNat 6 : Nat) : Int) = 2 * r
  omega
theorem sgl (w : List Nat) : w.map (fun c => D.str [c]) = (w.map fun c => [c]).map D.str := by
  rw [List.map_map]
  rfl
theorem flat_sgl : ∀ w : List Nat, (w.map fun c => [c]).flatten = w
  | [] => rfl
  | c :: w => by
    rw [List.map_cons, List.flatten_cons, flat_sgl w]
    rfl
theorem map_bl_take {α : Type} {f : α → Bool} {l : List α} {i : Nat} {c : α} (h : l[i]? = some c) : ((l.take i).map f).map D.bl ++ [.bl (f c)] = ((l.take (i + 1)).map f).map D.bl := by
  rw [List.take_add_one, h]
  simp
def isInt (v : D) (l m : Int) : Bool := match v with
  | .int i => decide (l ≤ i) && decide (i ≤ m)
  | _ => false
def spelled (v : D) (r m : Int) : Bool := match v with
  | .str l => decide ((l.length : Int) ≤ m) && l.all fun c => decide (c ∈ LS r)
  | _ => false
def szD (v : D) : Prop := ∀ l, v = .str l → l.length ≤ 1000
theorem isInt_iff {r : D} (h : isInt r 1 3 = true) : ∃ i : Int, r = .int i ∧ 1 ≤ i ∧ i ≤ 3 := by
  cases r with
  | int i =>
    simp only [isInt, Bool.and_eq_true, decide_eq_true_eq] at h
    exact ⟨i, rfl, h.1, h.2⟩
  | _ => cases h
theorem rng3 {r : Int} (h1 : 1 ≤ r) (h2 : r ≤ 3) : r = 1 ∨ r = 2 ∨ r = 3 := by omega
def okW (r : Int) (m : Nat) (w : List Nat) : Prop := w.length ≤ m ∧ ∀ c ∈ w, c ∈ LS r
theorem cut_LS {r : Int} : ([97, 65, 98, 66, 99, 67] : List Nat).take (2 * r).toNat = LS r := rfl

end
structure Txt (mg : Str → Option Value) : Prop where
  n_abs : mg "abs" = none
  n_all : mg "all" = none
  n_bool : mg "bool" = none
  n_int : mg "int" = none
  n_isinstance : mg "isinstance" = none
  n_len : mg "len" = none
  n_list : mg "list" = none
  n_range : mg "range" = none
  n_str : mg "str" = none
  n_tuple : mg "tuple" = none
  g_HIGHEST_RANK : ∃ u, mg "HIGHEST_RANK" = some u ∧ RelV (.int 3) u
  g_LETTERS : ∃ u, mg "LETTERS" = some u ∧ RelV (.str "aAbBcC") u
  g_MOST_GIVEN : ∃ u, mg "MOST_GIVEN" = some u ∧ RelV (.int 4) u
  g_MOST_GIVEN_LETTERS : ∃ u, mg "MOST_GIVEN_LETTERS" = some u ∧ RelV (.int 8) u
section
variable {P : Program} {w : World} {K : PySem.W.Frag} {mg : Str → Option Value} {base : Heap}
-- _law_stream
theorem ok_law_stream (T : Txt mg) (d_law_stream : Df K mg "_law_stream" s_law_stream ["script"]) : C8.Cal P w K mg base 1 "_law_stream" (spStream K) [] := by
  refine df_raw d_law_stream sc_law_stream (fun vs H Q E h => ?_) fun f cdv A outer s H E hr => ⟨_, (pss_one (ps_ret (pe_lst (pa_cons (pe_callTy cd_listof (by rfl) T.n_list (by decide +kernel) (pa_cons (pv 0) pa_nil)) (pa_cons pe_int (pa_cons pe_int pa_nil)))))), fun vs Q h => ?_⟩
  · obtain ⟨a, ns, rfl, _⟩ := h
    rfl
  · obtain ⟨a, ns, rfl, hS, q⟩ := h
    refine ⟨.ref a, rfl, a, _, rfl, .inl hS, fun b hb => ?_⟩
    refine ⟨Nat.le_trans (show 3 ≤ 1000 by decide) (by decide), fun st hst => ?_⟩
    have ne : b ≠ st := fun z => by
      rw [← z, upd_same] at hst
      cases hst
    exact q b st _ (fun z => ne z.symm) (by rw [upd_ne ne, upd_same]) upd_same
-- _law_next
def fs_law_next : FS := ⟨Int, fun m => [.stm, .int m], fun m => 0 < m ∧ m < 1000000, fun m d => ∃ i : Int, d = .int i ∧ 0 ≤ i ∧ i < m⟩
theorem fmod_rng (x : Int) {m : Int} (h : 0 < m) : 0 ≤ x.fmod m ∧ x.fmod m < m := by
  rw [Int.fmod_eq_emod_of_nonneg _ (Int.le_of_lt h)]
  exact ⟨Int.emod_nonneg _ (Int.ne_of_gt h), Int.emod_lt_of_pos _ h⟩
theorem fdiv_nn {x m : Int} (hx : 0 ≤ x) (h : 0 < m) : 0 ≤ x.fdiv m := by
  rw [Int.fdiv_eq_ediv_of_nonneg _ (Int.le_of_lt h)]
  exact Int.ediv_nonneg hx (Int.le_of_lt h)
def tN1 (K : PySem.W.Frag) : TS := tSeq (tAsg (tOp (rI (fun _ j => j ≠ 0) fun i j => .int (i.fmod j)) (tCB DL.rInt (tCons (tOp (rIxL K) (tVar 0) (tC (.int 1))) tNil)) (tVar 1)) (gName 4))
          (tSeq (tAsg (tOp (rI CDivN fun i j => .int (i.fdiv j)) (tOp (rIxL K) (tVar 0) (tC (.int 1))) (tVar 1)) (gSub (tVar 0) (tC (.int 1)) rSetL)) (tRet (tVar 4)))
def tN2 : TS := (tSeq (tAsg (tVar 3) (gSub (tVar 0) (tC (.int 1)) rSetL)) (tAsg (tOp (rI0 fun i j => .int (i + j)) (tVar 2) (tC (.int 1))) (gSub (tVar 0) (tC (.int 2)) rSetL)))
def tN3 : TS := tSeq (tIfS (tTest (tOp (rI0 fun i j => .bl (decide (i < j))) (tVar 3) (tOp (rI CPow fun i j => .int (i ^ j.toNat)) (tC (.int 10)) (tC (.int 18)))))
            (tSeq (tAsg (tOp (rI (fun _ j => j ≠ 0) fun i j => .int (i.fmod j)) (tCB DL.rInt (tCons (tOp (rI0 fun i j => .int (i + j)) (tOp (rI0 fun i j => .int (i + j)) (tOp (rI CMul fun i j => .int (i * j)) (tVar 3) (tC (.int 48271))) (tOp (rI CMul fun i j => .int (i * j)) (tVar 2) (tC (.int 69621)))) (tC (.int 11))) tNil)) (tC (.int 2147483647))) (gName 3))
              (tAsg (tOp (rI0 fun i j => .int (i + j)) (tOp (rI CMul fun i j => .int (i * j)) (tOp (rI (fun _ j => j ≠ 0) fun i j => .int (i.fmod j)) (tCB DL.rInt (tCons (tOp (rI0 fun i j => .int (i + j)) (tOp (rI CMul fun i j => .int (i * j)) (tVar 3) (tC (.int 16807))) (tC (.int 13))) tNil)) (tC (.int 2147483647))) (tC (.int 65537))) (tVar 3)) (gName 3))) tNext) tN2
/-- the stream at st, as the def sees it -/
def StAt (st a : Addr) (ns : List Int) (H0 H : Hp) : Prop := ∃ c k : Int, 0 ≤ c ∧ 0 ≤ k ∧ H = upd H0 st (.lst [.ref a, .int c, .int k])
theorem ok_law_next (T : Txt mg) (d_law_next : Df K mg "_law_next" s_law_next ["stream", "many"]) : C8.Cal P w K mg base 1 "_law_next" (PF fs_law_next) [] := by
  refine df_raw d_law_next sc_law_next (fun vs H Q E h => ?_) fun f cdv A outer s H E hr => ⟨_, (pss_cons (ps_if (pt_cmpR op_eq (pe_ix ix_list (pv 0) pe_int (fun _ _ => rfl)) pe_int (nomark _)) (pss_cons (ps_set (i := 2) sc_law_next.nd rfl (by first | exact Or.inl rfl | exact Or.inr rfl) (pe_ix ix_list (pv 0) pe_int (fun _ _ => rfl))) (pss_cons (ps_set (i := 3) sc_law_next.nd rfl (by first | exact Or.inl rfl | exact Or.inr rfl) (pe_op op_add pe_int (pv 2))) (pss_cons (ps_if (pt_cmpR op_lt (pv 2) (pe_callB cd_len (by rfl) T.n_len (by decide +kernel) (pa_cons (pe_ix ix_list (pv 0) pe_int (fun _ _ => rfl)) pa_nil)) (nomark _)) (pss_one (ps_set (i := 3) sc_law_next.nd rfl (by first | exact Or.inl rfl | exact Or.inr rfl) (pe_callB cd_abs (by rfl) T.n_abs (by decide +kernel) (pa_cons (pe_ix ix_list (pe_ix ix_list (pv 0) pe_int (fun _ _ => rfl)) (pv 2) (fun _ _ => rfl)) pa_nil)))) pss_nil) (pss_cons (ps_if (pt_cmpR op_lt (pv 3) (pe_op op_pow pe_int pe_int) (nomark _)) (pss_cons (ps_set (i := 3) sc_law_next.nd rfl (by first | exact Or.inl rfl | exact Or.inr rfl) (pe_op op_modN (pe_callTy cd_int (by rfl) T.n_int (by decide +kernel) (pa_cons (pe_op op_add (pe_op op_add (pe_op op_mul (pv 3) pe_int) (pe_op op_mul (pv 2) pe_int)) pe_int) pa_nil)) pe_int)) (pss_one (ps_set (i := 3) sc_law_next.nd rfl (by first | exact Or.inl rfl | exact Or.inr rfl) (pe_op op_add (pe_op op_mul (pe_op op_modN (pe_callTy cd_int (by rfl) T.n_int (by decide +kernel) (pa_cons (pe_op op_add (pe_op op_mul (pv 3) pe_int) pe_int) pa_nil)) pe_int) pe_int) (pv 3))))) pss_nil) (pss_cons (ps_asg (pv 3) (pg_sub (pv 0) pe_int set_list)) (pss_one (ps_asg (pe_op op_add (pv 2) pe_int) (pg_sub (pv 0) pe_int set_list)))))))) pss_nil) (pss_cons (ps_set (i := 4) sc_law_next.nd rfl (by first | exact Or.inl rfl | exact Or.inr rfl) (pe_op op_modN (pe_callTy cd_int (by rfl) T.n_int (by decide +kernel) (pa_cons (pe_ix ix_list (pv 0) pe_int (fun _ _ => rfl)) pa_nil)) (pv 1))) (pss_cons (ps_asg (pe_op op_fdivN (pe_ix ix_list (pv 0) pe_int (fun _ _ => rfl)) (pv 1)) (pg_sub (pv 0) pe_int set_list)) (pss_one (ps_ret (pv 4)))))), fun vs Q h => ?_⟩
  · obtain ⟨a, st', M, _, _, _, hs, _⟩ := h
    rw [hs.length]
    rfl
  · obtain ⟨m, st, M, hst, hM, trk, hs, ⟨m1, m2⟩, q⟩ := h
    obtain ⟨a, ns, c, k, ha, hne, h1, h2, h3, h4⟩ := hst
    obtain ⟨v, w, rfl, rfl, rfl⟩ : ∃ v w, vs = [v, w] ∧ v = .ref st ∧ w = .int m := by
      cases hs with
      | cons i r =>
        cases r with
        | cons j r =>
          cases r
          cases is_int j
          cases i
          exact ⟨_, _, rfl, rfl, rfl⟩
    have hS : Stm st M H := ⟨a, ns, c, k, ha, hne, h1, h2, h3, h4⟩
    have fin : ∀ (c2 k2 : Int), 0 ≤ c2 → 0 ≤ k2 → ∀ d : Int, 0 ≤ d → d < m → Q (.int d) (upd H st (.lst [.ref a, .int c2, .int k2])) := fun c2 k2 g1 g2 d d1 d2 =>
      q _ _ (.int d) ⟨d, rfl, d1, d2⟩ (stm_next hS g1 g2 h1) (.int d)
    -- what stands behind the if
    have behind : ∀ (c1 k1 : Int) (σ' : L2.St), 0 ≤ c1 → 0 ≤ k1 → σ'[0]? = some (some (V.ref st)) → σ'[1]? = some (some (V.int m)) → 4 < σ'.length →
        tN1 K { nx := fun _ H' => Q .non H', rt := Q } σ' (upd H st (.lst [.ref a, .int c1, .int k1])) := fun c1 k1 σ' g1 g2 e0 e1 e4 => by
      refine ⟨.ref st, e0, st, _, 1, .int c1, rfl, rfl, .of upd_same, rfl, .inl ⟨c1, rfl, .int m, e1, c1, m, rfl, rfl, by omega, ?_⟩⟩
      have f0 : (σ'.set 4 (some (.int (c1.fmod m))))[0]? = some (some (V.ref st)) := by rw [List.getElem?_set_ne (by decide)]; exact e0
      have f1 : (σ'.set 4 (some (.int (c1.fmod m))))[1]? = some (some (V.int m)) := by rw [List.getElem?_set_ne (by decide)]; exact e1
      have f4 : (σ'.set 4 (some (.int (c1.fmod m))))[4]? = some (some (V.int (c1.fmod m))) := by rw [List.getElem?_set_self e4]
      refine ⟨.ref st, f0, st, _, 1, .int c1, rfl, rfl, .of upd_same, rfl, .int m, f1, c1, m, rfl, rfl, ⟨by omega, by omega⟩, .ref st, f0, st, _, 1, 1, rfl, rfl, upd_same, rfl, ?_⟩
      refine ⟨.int (c1.fmod m), f4, ?_⟩
      rw [upd_upd]
      exact fin (c1.fdiv m) k1 (fdiv_nn g1 m1) g2 _ (fmod_rng c1 m1).1 (fmod_rng c1 m1).2
    have eH : H = upd H st (.lst [.ref a, .int c, .int k]) := by
      funext b
      by_cases z : b = st
      · rw [z, upd_same, h1]
      · rw [upd_ne z]
    refine ⟨.ref st, rfl, st, _, 1, .int c, rfl, rfl, .of h1, rfl, rfl, _, rfl, ite2 (fun _ => ?_) (fun _ => ?_)⟩
    · -- k = stream[2]; cell = 7 + k
      refine ⟨.ref st, rfl, st, _, 2, .int k, rfl, rfl, .of h1, rfl, .int k, rfl, 7, k, rfl, rfl, ?_⟩
      -- if k < len(stream[0]): cell = abs(stream[0][k])
      have tail : ∀ (cell : Int), 0 ≤ cell →
          tN3 { nx := fun σ' H' => tN1 K { nx := fun _ H' => Q .non H', rt := Q } σ' H', rt := Q } [some (.ref st), some (.int m), some (.int k), some (.int cell), none] H := fun cell hc => by
        have store : ∀ (cell2 : Int), 0 ≤ cell2 → tN2 { nx := fun σ' H' => tN1 K { nx := fun _ H' => Q .non H', rt := Q } σ' H', rt := Q } [some (.ref st), some (.int m), some (.int k), some (.int cell2), none] H := fun cell2 hc2 => by
          refine ⟨.int cell2, rfl, .ref st, rfl, st, _, 1, 1, rfl, rfl, h1, rfl, ?_⟩
          refine ⟨.int k, rfl, k, 1, rfl, rfl, .ref st, rfl, st, _, 2, 2, rfl, rfl, upd_same, rfl, ?_⟩
          rw [upd_upd]
          exact behind cell2 (k + 1) _ hc2 (by omega) rfl rfl (by show 4 < 5; decide)
        refine ⟨.int cell, rfl, 10, 18, rfl, rfl, ⟨by decide, by decide, by decide⟩, cell, 10 ^ 18, rfl, rfl, _, rfl, ite2 (fun hlt => ?_) (fun _ => ?_)⟩
        · have hlt' : cell < 10 ^ 18 := of_decide_eq_true hlt
          refine ⟨.int cell, rfl, cell, 48271, rfl, rfl, Or.inr ⟨by decide, by decide⟩, .int k, rfl, k, 69621, rfl, rfl, Or.inr ⟨by decide, by decide⟩, _, _, rfl, rfl, _, 11, rfl, rfl, .inl ⟨_, rfl, _, 2147483647, rfl, rfl, (show (2147483647 : Int) ≠ 0 by decide), ?_⟩⟩
          have hc2 := (fmod_rng (cell * 48271 + k * 69621 + 11) (m := 2147483647) (by decide)).1
          have hc3 := (fmod_rng ((cell * 48271 + k * 69621 + 11).fmod 2147483647 * 16807 + 13) (m := 2147483647) (by decide)).1
          refine ⟨.int ((cell * 48271 + k * 69621 + 11).fmod 2147483647), rfl, _, 16807, rfl, rfl, Or.inr ⟨by decide, by decide⟩, _, 13, rfl, rfl, .inl ⟨_, rfl, _, 2147483647, rfl, rfl, (show (2147483647 : Int) ≠ 0 by decide), _, 65537, rfl, rfl, Or.inr ⟨by decide, by decide⟩, .int ((cell * 48271 + k * 69621 + 11).fmod 2147483647), rfl, _, _, rfl, rfl, ?_⟩⟩
          exact store (((cell * 48271 + k * 69621 + 11).fmod 2147483647 * 16807 + 13).fmod 2147483647 * 65537 + (cell * 48271 + k * 69621 + 11).fmod 2147483647) (by omega)
        · exact store cell hc
      refine ⟨.int k, rfl, .ref st, rfl, st, _, 0, .ref a, rfl, rfl, .of h1, rfl, .ref a, ns.length, rfl, .inl ⟨_, .of h2, by rw [List.length_map]⟩, k, ns.length, rfl, rfl, _, rfl, ite2 (fun hlt => ?_) (fun _ => ?_)⟩
      · have hlt' : k < ns.length := of_decide_eq_true hlt
        have hk : k.toNat < ns.length := by omega
        refine ⟨.ref st, rfl, st, _, 0, .ref a, rfl, rfl, .of h1, rfl, .int k, rfl, a, _, k, .int ns[k.toNat], rfl, rfl, .of h2, atI_at h4 (by rw [List.getElem?_map, List.getElem?_eq_getElem hk]; rfl), _, rfl, ?_⟩
        exact tail _ (by split <;> omega)
      · exact tail (7 + k) (by omega)
    · have b := behind c k [some (.ref st), some (.int m), none, none, none] h3 h4 rfl rfl (by show 4 < 5; decide)
      rw [← eH] at b
      exact b
-- src: c416ebe0aeaf
def fs_law_word : FS := ⟨Int × Int, fun a => [.stm, .int a.1, .int a.2], fun a => 1 ≤ a.1 ∧ a.1 ≤ 3 ∧ 0 ≤ a.2 ∧ a.2 ≤ 100, fun a d => ∃ w : List Nat, d = .str w ∧ (w.length : Int) ≤ a.2 ∧ ∀ c ∈ w, c ∈ LS a.1⟩
theorem ok_law_word (T : Txt mg) (d_law_word : Df K mg "_law_word" s_law_word ["stream", "rank", "most"]) (c_law_next : C8.Cal P w K mg base 1 "_law_next" (PF fs_law_next) []) : C8.Cal P w K mg base 2 "_law_word" (PF fs_law_word) [] := by
  refine df_cal d_law_word sc_law_word (fun _ => rfl) fun f cdv A outer s H E hr => ⟨_, (pss_cons (ps_set (i := 3) sc_law_word.nd rfl (by first | exact Or.inl rfl | exact Or.inr rfl) (pe_slice sl_str pe_str po_none (po_some (pe_op op_mul pe_int (pv 1))))) (pss_one (ps_ret (pe_bm PySem.F.plainAttrs_str PySem.F.slot_str_join PySem.F.type_str_join md_join pe_str (pa_cons (pe_lc (own := [("k", 4)]) rfl sc_law_word.nd (pi_range1 (by rfl) T.n_range (pa_cons (C8.pe_c c_law_next hr (by decide) (by rfl) (pa_cons (pv 0) (pa_cons (pe_op op_add (pv 2) pe_int) pa_nil))) pa_nil)) (blkOk_by (N := n_law_word) (sc := defScope s_law_word) (own := [("k", 4)]) (by decide +kernel)) (fun _ _ _ _ _ => (pg_name (i := 4) sc_law_word.nd rfl (by first | exact Or.inl rfl | exact Or.inr rfl))) (fun _ _ _ _ _ => pts_nil) (fun _ _ _ _ _ => (pe_ix ix_str (pv 3) (C8.pe_c c_law_next hr (by decide) (by rfl) (pa_cons (pv 0) (pa_cons (pe_op op_mul pe_int (pv 1)) pa_nil))) (fun _ _ => rfl)))) pa_nil))))), fun a hp => ?_⟩
  obtain ⟨r, m⟩ := a
  obtain ⟨h1, h2, h3, h4⟩ := hp
  have h1 : 1 ≤ r := h1
  have h2 : r ≤ 3 := h2
  have h3 : 0 ≤ m := h3
  have h4 : m ≤ 100 := h4
  show Ds _ [.dat .stm, .dat (.int r), .dat (.int m), .any, .any] _ (fun d => ∃ w : List Nat, d = .str w ∧ (w.length : Int) ≤ m ∧ ∀ c ∈ w, c ∈ LS r) _ _
  repeat walk_at "dl"
  rw [cut_LS]
  repeat walk_at "dl"
  repeat walk_at "dl"
  refine ⟨rfl, ?_⟩
  walk_at "dl"
  refine de_ofN (den_lc (di_range1 ?_))
  repeat walk_at "dl"
  refine ⟨m + 1, rfl, ⟨by omega, by omega⟩, fun d hd => ?_⟩
  obtain ⟨n, rfl, n1, n2⟩ := hd
  walk_at "dl"
  refine ⟨n, rfl, by omega, by omega, by rw [rgI_len]; omega, fun i acc => ∃ w : List Nat, acc = w.map (fun c => D.str [c]) ∧ w.length = i ∧ ∀ c ∈ w, c ∈ LS r, ⟨[], rfl, rfl, fun c hc => nomatch hc⟩, fun i d acc hd _ ha => ?_, fun acc ha => ?_⟩
  · repeat walk_at "dl"
    refine ⟨2 * r, rfl, ⟨by omega, by omega⟩, fun d hd => ?_⟩
    obtain ⟨j, rfl, j1, j2⟩ := hd
    obtain ⟨c, hc, hm⟩ := atI_lt (LS r) j j1 (by rw [LS_len h1 h2]; exact j2)
    have hl := LS_len h1 h2
    refine dop_ixs (by omega) hc ?_
    obtain ⟨w, rfl, hw, hw2⟩ := ha
    refine ⟨w ++ [c], by simp, by simp [hw], fun x hx => ?_⟩
    rcases List.mem_append.mp hx with z | z
    · exact hw2 x z
    · rw [List.mem_singleton.mp z]
      exact hm
  · obtain ⟨w, rfl, hw, hw2⟩ := ha
    rw [rgI_len] at hw
    walk_at "dl"
    refine dmt_join0 (ls := w.map fun c => [c]) (by rw [← sgl]; rfl) (by rw [flat_sgl]; omega) ?_
    rw [flat_sgl]
    exact ⟨w, rfl, by omega, hw2⟩
-- _law_family
def famD (r : Int) (ws : List (List Nat)) : D := .tup [.int r, .tup (ws.map D.str)]
def okF (r : Int) (ws : List (List Nat)) : Prop := 1 ≤ r ∧ r ≤ 3 ∧ ws.length ≤ 4 ∧ ∀ w ∈ ws, okW r 8 w
def fs_law_family : FS := ⟨Unit, fun _ => [.stm], fun _ => True, fun _ d => ∃ r ws, d = famD r ws ∧ okF r ws⟩
theorem ok_law_family (T : Txt mg) (d_law_family : Df K mg "_law_family" s_law_family ["stream"]) (c_law_next : C8.Cal P w K mg base 1 "_law_next" (PF fs_law_next) []) (c_law_word : C8.Cal P w K mg base 2 "_law_word" (PF fs_law_word) []) : C8.Cal P w K mg base 3 "_law_family" (PF fs_law_family) [] := by
  refine df_cal d_law_family sc_law_family (fun _ => rfl) fun f cdv A outer s H E hr => ⟨_, (pss_cons (ps_set (i := 1) sc_law_family.nd rfl (by first | exact Or.inl rfl | exact Or.inr rfl) (pe_ix ix_list (pe_lst (pa_cons pe_int (pa_cons pe_int (pa_cons pe_int (pa_cons pe_int pa_nil))))) (C8.pe_c c_law_next hr (by decide) (by rfl) (pa_cons (pv 0) (pa_cons pe_int pa_nil))) (fun _ _ => rfl))) (pss_cons (ps_set (i := 2) sc_law_family.nd rfl (by first | exact Or.inl rfl | exact Or.inr rfl) (pe_ix ix_list (pe_lst (pa_cons pe_int (pa_cons pe_int (pa_cons pe_int pa_nil)))) (C8.pe_c c_law_next hr (by decide) (by rfl) (pa_cons (pv 0) (pa_cons pe_int pa_nil))) (fun _ _ => rfl))) (pss_one (ps_ret (pe_tup (pa_cons (pv 1) (pa_cons (pe_callTy cd_tupof (by rfl) T.n_tuple (by decide +kernel) (pa_cons (pe_lc (own := [("k", 3)]) rfl sc_law_family.nd (pi_range1 (by rfl) T.n_range (pa_cons (C8.pe_c c_law_next hr (by decide) (by rfl) (pa_cons (pv 0) (pa_cons pe_int pa_nil))) pa_nil)) (blkOk_by (N := n_law_family) (sc := defScope s_law_family) (own := [("k", 3)]) (by decide +kernel)) (fun _ _ _ _ _ => (pg_name (i := 3) sc_law_family.nd rfl (by first | exact Or.inl rfl | exact Or.inr rfl))) (fun _ _ _ _ _ => pts_nil) (fun _ _ _ _ _ => (C8.pe_c c_law_word hr (by decide) (by rfl) (pa_cons (pv 0) (pa_cons (pv 1) (pa_cons (pv 2) pa_nil)))))) pa_nil)) pa_nil))))))), fun a hp => ?_⟩
  show Ds _ [.dat .stm, .any, .any, .any] _ (fun d => ∃ r ws, d = famD r ws ∧ okF r ws) _ _
  repeat walk_at "dl"
  repeat walk_at "dl"
  refine ⟨(4 : Int), rfl, ⟨by omega, by omega⟩, fun d hd => ?_⟩
  obtain ⟨i, rfl, i1, i2⟩ := hd
  obtain ⟨x, hx, hm⟩ := atI_lt [D.int 1, D.int 2, D.int 2, D.int 3] i i1 i2
  refine dop_ixl hx ?_
  obtain ⟨r, rfl, r1, r2⟩ : ∃ r : Int, x = .int r ∧ 1 ≤ r ∧ r ≤ 3 := by
    simp only [List.mem_cons, List.not_mem_nil, or_false] at hm
    rcases hm with z | z | z | z <;> exact ⟨_, z, by omega, by omega⟩
  repeat walk_at "dl"
  repeat walk_at "dl"
  refine ⟨(3 : Int), rfl, ⟨by omega, by omega⟩, fun d hd => ?_⟩
  obtain ⟨j, rfl, j1, j2⟩ := hd
  obtain ⟨y, hy, hm⟩ := atI_lt [D.int 3, D.int 5, D.int 8] j j1 j2
  refine dop_ixl hy ?_
  obtain ⟨m, rfl, m1, m2⟩ : ∃ m : Int, y = .int m ∧ 0 ≤ m ∧ m ≤ 8 := by
    simp only [List.mem_cons, List.not_mem_nil, or_false] at hm
    rcases hm with z | z | z <;> exact ⟨_, z, by omega, by omega⟩
  repeat walk_at "dl"
  refine de_ofN (den_lc (di_range1 ?_))
  repeat walk_at "dl"
  refine ⟨(5 : Int), rfl, ⟨by omega, by omega⟩, fun d hd => ?_⟩
  obtain ⟨n, rfl, n1, n2⟩ := hd
  walk_at "dl"
  refine ⟨n, rfl, by omega, by omega, by rw [rgI_len]; omega, fun i acc => ∃ ws : List (List Nat), acc = ws.map D.str ∧ ws.length = i ∧ ∀ w ∈ ws, okW r 8 w, ⟨[], rfl, rfl, fun c hc => nomatch hc⟩, fun i d acc hd _ ha => ?_, fun acc ha => ?_⟩
  · repeat walk_at "dl"
    refine ⟨(r, m), rfl, ⟨r1, r2, m1, by omega⟩, fun d hd => ?_⟩
    obtain ⟨w, rfl, w1, w2⟩ := hd
    have w1 : (w.length : Int) ≤ m := w1
    obtain ⟨ws, rfl, e1, e2⟩ := ha
    refine ⟨ws ++ [w], by simp, by simp [e1], fun x hx => ?_⟩
    rcases List.mem_append.mp hx with z | z
    · exact e2 x z
    · rw [List.mem_singleton.mp z]
      exact ⟨by omega, w2⟩
  · obtain ⟨ws, rfl, e1, e2⟩ := ha
    rw [rgI_len] at e1
    repeat walk_at "dl"
    exact ⟨r, ws, rfl, r1, r2, by omega, e2⟩
-- is_integer
def fs_is_integer : FS := ⟨D × Int × Int, fun a => [a.1, .int a.2.1, .int a.2.2], fun a => okD a.1 = true, fun a d => d = .bl (isInt a.1 a.2.1 a.2.2)⟩
theorem ok_is_integer (T : Txt mg) (d_is_integer : Df K mg "is_integer" s_is_integer ["value", "least", "most"]) : C8.Cal P w K mg base 1 "is_integer" (PF fs_is_integer) [] := by
  refine df_cal d_is_integer sc_is_integer (fun _ => rfl) fun f cdv A outer s H E hr => ⟨_, (pss_one (ps_ret (pe_and (pe_callB call_isi (by rfl) T.n_isinstance (by decide +kernel) (pa_cons (pv 0) (pa_cons (pe_bltn (v := .ty "int") (by rfl) T.n_int (by decide +kernel) rfl) pa_nil))) (pe_and (pe_not (pe_callB call_isi (by rfl) T.n_isinstance (by decide +kernel) (pa_cons (pv 0) (pa_cons (pe_bltn (v := .ty "bool") (by rfl) T.n_bool (by decide +kernel) rfl) pa_nil)))) (pe_one (pe_chain op_le op_le (pv 1) (pv 0) (pv 2))))))), fun a hp => ?_⟩
  obtain ⟨v, l, m⟩ := a
  have hv : okD v = true := hp
  show Ds _ [.dat v, .dat (.int l), .dat (.int m)] _ (fun d => d = .bl (isInt v l m)) _ _
  cases v with
  | int i =>
    repeat walk_at "dl"
    by_cases h : l ≤ i
    · rw [decide_eq_true h]
      repeat walk_at "dl"
      show D.bl (decide (i ≤ m)) = .bl (decide (l ≤ i) && decide (i ≤ m))
      rw [decide_eq_true h, Bool.true_and]
    · rw [decide_eq_false h]
      repeat walk_at "dl"
      show D.bl false = .bl (decide (l ≤ i) && decide (i ≤ m))
      rw [decide_eq_false h, Bool.false_and]
  | _ => first | (cases hv; done) | ((repeat walk_at "dl"); rfl)
-- is_rank
def fs_is_rank : FS := ⟨D, fun a => [a], fun a => okD a = true, fun a d => d = .bl (isInt a 1 3)⟩
theorem ok_is_rank (T : Txt mg) (d_is_rank : Df K mg "is_rank" s_is_rank ["value"]) (c_is_integer : C8.Cal P w K mg base 1 "is_integer" (PF fs_is_integer) []) : C8.Cal P w K mg base 2 "is_rank" (PF fs_is_rank) [] := by
  refine df_cal d_is_rank sc_is_rank (fun _ => rfl) fun f cdv A outer s H E hr => ⟨_, (pss_one (ps_ret (C8.pe_c c_is_integer hr (by decide) (by rfl) (pa_cons (pv 0) (pa_cons pe_int (pa_cons (C8.pe_gc (by rfl) T.g_HIGHEST_RANK) pa_nil)))))), fun v hv => ?_⟩
  show Ds _ [.dat v] _ (fun d => d = .bl (isInt v 1 3)) _ _
  repeat walk_at "dl"
  exact ⟨(v, 1, 3), rfl, hv, fun d hd => hd⟩
-- letters_of
def fs_letters_of : FS := ⟨Int, fun r => [.int r], fun r => 1 ≤ r ∧ r ≤ 3, fun r d => d = .str (LS r)⟩
theorem ok_letters_of (T : Txt mg) (d_letters_of : Df K mg "letters_of" s_letters_of ["rank"]) : C8.Cal P w K mg base 1 "letters_of" (PF fs_letters_of) [] := by
  refine df_cal d_letters_of sc_letters_of (fun _ => rfl) fun f cdv A outer s H E hr => ⟨_, (pss_one (ps_ret (pe_slice sl_str (C8.pe_gc (by rfl) T.g_LETTERS) po_none (po_some (pe_op op_mul pe_int (pv 0)))))), fun (r : Int) hp => ?_⟩
  obtain ⟨h1, h2⟩ := hp
  show Ds _ [.dat (.int r)] _ (fun d => d = .str (LS r)) _ _
  repeat walk_at "dl"
  exact congrArg D.str cut_LS
-- is_spelled
def fs_is_spelled : FS := ⟨D × Int × Int, fun a => [a.1, .int a.2.1, .int a.2.2], fun a => okD a.1 = true ∧ szD a.1 ∧ 1 ≤ a.2.1 ∧ a.2.1 ≤ 3, fun a d => d = .bl (spelled a.1 a.2.1 a.2.2)⟩
theorem ok_is_spelled (T : Txt mg) (d_is_spelled : Df K mg "is_spelled" s_is_spelled ["value", "rank", "most"]) (c_letters_of : C8.Cal P w K mg base 1 "letters_of" (PF fs_letters_of) []) : C8.Cal P w K mg base 2 "is_spelled" (PF fs_is_spelled) [] := by
  refine df_cal d_is_spelled sc_is_spelled (fun _ => rfl) fun f cdv A outer s H E hr => ⟨_, (pss_cons (ps_if (PW.pt (pw_or (pt_not (pt_val (pe_callB call_isi (by rfl) T.n_isinstance (by decide +kernel) (pa_cons (pv 0) (pa_cons (pe_bltn (v := .ty "str") (by rfl) T.n_str (by decide +kernel) rfl) pa_nil))))) (pw_or1 (pt_cmpR op_gt (pe_callB cd_len (by rfl) T.n_len (by decide +kernel) (pa_cons (pv 0) pa_nil)) (pv 2) (nomark _))))) (pss_one (ps_ret pe_bl)) pss_nil) (pss_cons (ps_set (i := 3) sc_is_spelled.nd rfl (by first | exact Or.inl rfl | exact Or.inr rfl) (C8.pe_c c_letters_of hr (by decide) (by rfl) (pa_cons (pv 1) pa_nil))) (pss_one (ps_ret (pe_callB (cd_all rfl) (by rfl) T.n_all (by decide +kernel) (pa_cons (pe_lc (own := [("letter", 4)]) rfl sc_is_spelled.nd (pi_str (pv 0)) (blkOk_by (N := n_is_spelled) (sc := defScope s_is_spelled) (own := [("letter", 4)]) (by decide +kernel)) (fun _ _ _ _ _ => (pg_name (i := 4) sc_is_spelled.nd rfl (by first | exact Or.inl rfl | exact Or.inr rfl))) (fun _ _ _ _ _ => pts_nil) (fun _ _ _ _ _ => (pe_cmpR od_in_sg (pv 4) (pv 3) rfl))) pa_nil)))))), fun a hp => ?_⟩
  obtain ⟨v, r, m⟩ := a
  obtain ⟨hv, hz, h1, h2⟩ := hp
  have hv : okD v = true := hv
  have hz : szD v := hz
  show Ds _ [.dat v, .dat (.int r), .dat (.int m), .any, .any] _ (fun d => d = .bl (spelled v r m)) _ _
  cases v with
  | str l =>
    have hl := hz l rfl
    repeat walk_at "dl"
    by_cases hm : (l.length : Int) ≤ m
    · rw [decide_eq_false (by omega)]
      repeat walk_at "dl"
      refine ⟨r, rfl, ⟨h1, h2⟩, fun d hd => ?_⟩
      cases hd
      repeat walk_at "dl"
      refine de_ofN (den_lc (di_str (de_var rfl ⟨l, rfl, by simp; omega, fun i acc => acc = ((l.take i).map fun c => decide (c ∈ LS r)).map D.bl, by simp, fun i d acc hd _ ha => ?_, fun acc ha => ?_⟩)))
      · rw [List.getElem?_map] at hd
        cases e : l[i]? with
        | none => rw [e] at hd; cases hd
        | some c =>
          rw [e] at hd
          cases hd
          repeat walk_at "dl"
          refine dop_insg ?_
          rw [ha]
          exact map_bl_take e
      · rw [List.length_map] at ha
        rw [List.take_length] at ha
        subst ha
        walk_at "dl"
        refine dcl_all ?_
        show D.bl _ = D.bl (decide ((l.length : Int) ≤ m) && l.all fun c => decide (c ∈ LS r))
        rw [decide_eq_true hm, Bool.true_and, List.all_map]
        rfl
    · rw [decide_eq_true (by omega)]
      repeat walk_at "dl"
      show D.bl false = D.bl (decide ((l.length : Int) ≤ m) && l.all fun c => decide (c ∈ LS r))
      rw [decide_eq_false hm, Bool.false_and]
  | _ => first | (cases hv; done) | ((repeat walk_at "dl"); rfl)
-- is_family
def gd0 (v : D) : Prop := okD v = true ∧ szD v ∧ (∀ ds, v = .tup ds → ds.length ≤ 1000) ∧ ∀ ds, v = .lst ds → ds.length ≤ 1000
def gd1 (v : D) : Prop := gd0 v ∧ ∀ ds, v = .tup ds → ∀ d ∈ ds, gd0 d
def gd2 (v : D) : Prop := gd0 v ∧ ∀ ds, v = .tup ds → ∀ d ∈ ds, gd1 d
def rk : D → Int
  | .int i => i
  | _ => 0
def givenOk (r : D) (g : D) : Bool := match g with
  | .tup ws => decide (ws.length ≤ 4) && ws.all fun w => spelled w (rk r) 8
  | _ => false
def isFam (v : D) : Bool := match v with
  | .tup [r, g] => isInt r 1 3 && givenOk r g
  | _ => false
def fs_is_family : FS := ⟨D, fun v => [v], fun v => gd2 v, fun v d => d = .bl (isFam v)⟩
theorem ok_is_family (T : Txt mg) (d_is_family : Df K mg "is_family" s_is_family ["value"]) (c_is_rank : C8.Cal P w K mg base 2 "is_rank" (PF fs_is_rank) []) (c_is_spelled : C8.Cal P w K mg base 2 "is_spelled" (PF fs_is_spelled) []) : C8.Cal P w K mg base 3 "is_family" (PF fs_is_family) [] := by
  refine df_cal d_is_family sc_is_family (fun _ => rfl) fun f cdv A outer s H E hr => ⟨_, (pss_cons (ps_if (PW.pt (pw_or (pt_not (pt_val (pe_callB call_isi (by rfl) T.n_isinstance (by decide +kernel) (pa_cons (pv 0) (pa_cons (pe_bltn (v := .ty "tuple") (by rfl) T.n_tuple (by decide +kernel) rfl) pa_nil))))) (pw_or1 (pt_cmpR op_ne (pe_callB cd_len (by rfl) T.n_len (by decide +kernel) (pa_cons (pv 0) pa_nil)) pe_int (nomark _))))) (pss_one (ps_ret pe_bl)) pss_nil) (pss_cons (ps_asg (pv 0) (pg_tup rfl (pgs_cons (pg_name (i := 1) sc_is_family.nd rfl (by first | exact Or.inl rfl | exact Or.inr rfl)) (pgs_cons (pg_name (i := 2) sc_is_family.nd rfl (by first | exact Or.inl rfl | exact Or.inr rfl)) pgs_nil)))) (pss_cons (ps_if (PW.pt (pw_or (pt_not (pt_val (C8.pe_c c_is_rank hr (by decide) (by rfl) (pa_cons (pv 1) pa_nil)))) (pw_or (pt_not (pt_val (pe_callB call_isi (by rfl) T.n_isinstance (by decide +kernel) (pa_cons (pv 2) (pa_cons (pe_bltn (v := .ty "tuple") (by rfl) T.n_tuple (by decide +kernel) rfl) pa_nil))))) (pw_or1 (pt_cmpR op_gt (pe_callB cd_len (by rfl) T.n_len (by decide +kernel) (pa_cons (pv 2) pa_nil)) (C8.pe_gc (by rfl) T.g_MOST_GIVEN) (nomark _)))))) (pss_one (ps_ret pe_bl)) pss_nil) (pss_one (ps_ret (pe_callB (cd_all rfl) (by rfl) T.n_all (by decide +kernel) (pa_cons (pe_lc (own := [("word", 3)]) rfl sc_is_family.nd (pi_tup (pv 2)) (blkOk_by (N := n_is_family) (sc := defScope s_is_family) (own := [("word", 3)]) (by decide +kernel)) (fun _ _ _ _ _ => (pg_name (i := 3) sc_is_family.nd rfl (by first | exact Or.inl rfl | exact Or.inr rfl))) (fun _ _ _ _ _ => pts_nil) (fun _ _ _ _ _ => (C8.pe_c c_is_spelled hr (by decide) (by rfl) (pa_cons (pv 3) (pa_cons (pv 1) (pa_cons (C8.pe_gc (by rfl) T.g_MOST_GIVEN_LETTERS) pa_nil)))))) pa_nil))))))), fun (v : D) hp => ?_⟩
  have hv : gd2 v := hp
  show Ds _ [.dat v, .any, .any, .any] _ (fun d => d = .bl (isFam v)) _ _
  have hv0 := hv.1.1
  cases v with
  | tup ds =>
    have hl : ds.length ≤ 1000 := hv.1.2.2.1 ds rfl
    repeat walk_at "dl"
    by_cases h2 : ds.length = 2
    · obtain ⟨r, g, rfl⟩ : ∃ r g, ds = [r, g] := by
        match ds, h2 with
        | [r, g], _ => exact ⟨r, g, rfl⟩
      have hr1 := (hv.2 _ rfl r (by simp))
      have hg1 := (hv.2 _ rfl g (by simp))
      rw [decide_eq_true (by rfl)]
      repeat walk_at "dl"
      refine ds_asg ?_
      walk_at "dl"
      refine dg_tup rfl (dgs_cons (dg_name (dgs_cons (dg_name (dgs_nil ?_)))))
      repeat walk_at "dl"
      refine ⟨r, rfl, hr1.1.1, fun d hd => ?_⟩
      cases hd
      walk_at "dl"
      by_cases hi : isInt r 1 3 = true
      · obtain ⟨i, rfl, i1, i2⟩ := isInt_iff hi
        rw [hi]
        have hg0 := hg1.1.1
        cases g with
        | tup ws =>
          have hw : ws.length ≤ 1000 := hg1.1.2.2.1 ws rfl
          repeat walk_at "dl"
          by_cases h4 : ws.length ≤ 4
          · rw [decide_eq_false (by omega)]
            repeat walk_at "dl"
            refine de_ofN (den_lc (di_tup (de_var rfl ⟨ws, rfl, by omega, fun i' acc => acc = ((ws.take i').map fun w => spelled w i 8).map D.bl, by simp, fun k d acc hd _ ha => ?_, fun acc ha => ?_⟩)))
            · repeat walk_at "dl"
              have hm := hg1.2 ws rfl d (List.mem_of_getElem? hd)
              refine ⟨(d, i, 8), rfl, ⟨hm.1, hm.2.1, i1, i2⟩, fun d' hd' => ?_⟩
              cases hd'
              rw [ha]
              exact map_bl_take hd
            · dsimp only at ha
              rw [List.take_length] at ha
              subst ha
              walk_at "dl"
              refine dcl_all ?_
              show D.bl _ = D.bl (isInt (.int i) 1 3 && (decide (ws.length ≤ 4) && ws.all fun w => spelled w i 8))
              rw [hi, decide_eq_true h4, Bool.true_and, Bool.true_and, List.all_map]
              rfl
          · rw [decide_eq_true (by omega)]
            repeat walk_at "dl"
            show D.bl _ = D.bl (isInt (.int i) 1 3 && (decide (ws.length ≤ 4) && ws.all fun w => spelled w i 8))
            rw [decide_eq_false h4, Bool.false_and, Bool.and_false]
        | _ => first | (cases hg0; done) | ((repeat walk_at "dl"); show D.bl _ = D.bl (_ && false); rw [Bool.and_false])
      · have hi' : isInt r 1 3 = false := by simpa using hi
        rw [hi']
        repeat walk_at "dl"
        show D.bl _ = D.bl (isInt r 1 3 && _)
        rw [hi', Bool.false_and]
    · rw [decide_eq_false (by omega)]
      repeat walk_at "dl"
      show D.bl false = D.bl (isFam (.tup ds))
      match ds, h2 with
      | [], _ => rfl
      | [_], _ => rfl
      | _ :: _ :: _ :: _, _ => rfl
  | _ => first | (cases hv0; done) | ((repeat walk_at "dl"); rfl)
-- law k16
def g0 (v : D) : Bool := match v with
  | .stm => false | .ty _ => false
  | .str l => decide (l.length ≤ 1000)
  | .tup ds => decide (ds.length ≤ 1000)
  | .lst ds => decide (ds.length ≤ 1000)
  | _ => true
def g1 (v : D) : Bool := g0 v && match v with
  | .tup ds => ds.all g0
  | _ => true
def g2 (v : D) : Bool := g0 v && match v with
  | .tup ds => ds.all g1
  | _ => true
theorem gd0_of {v : D} (h : g0 v = true) : gd0 v := by
  refine ⟨?_, fun l e => ?_, fun l e => ?_, fun l e => ?_⟩
  · cases v <;> first | rfl | (cases h; done)
  · subst e; exact of_decide_eq_true h
  · subst e; exact of_decide_eq_true h
  · subst e; exact of_decide_eq_true h
theorem gd1_of {v : D} (h : g1 v = true) : gd1 v := by
  obtain ⟨h1, h2⟩ := Bool.and_eq_true _ _ |>.mp h
  refine ⟨gd0_of h1, fun l e d hd => ?_⟩
  subst e
  exact gd0_of (List.all_eq_true.mp h2 d hd)
theorem gd2_of {v : D} (h : g2 v = true) : gd2 v := by
  obtain ⟨h1, h2⟩ := Bool.and_eq_true _ _ |>.mp h
  refine ⟨gd0_of h1, fun l e d hd => ?_⟩
  subst e
  exact gd1_of (List.all_eq_true.mp h2 d hd)
def Bad (v : D) : Prop := g2 v = true ∧ isFam v = false
theorem strs_g0 {r : Int} {ws : List (List Nat)} (h : ∀ w ∈ ws, okW r 8 w) : (ws.map D.str).all g0 = true := by
  rw [List.all_eq_true]
  intro d hd
  obtain ⟨w, hw, rfl⟩ := List.mem_map.mp hd
  have h8 := (h w hw).1
  exact decide_eq_true (show w.length ≤ 1000 by omega)
theorem take_g0 {r : Int} {ws : List (List Nat)} (h : ∀ w ∈ ws, okW r 8 w) (n : Nat) : ((ws.map D.str).take n).all g0 = true := by
  rw [← List.map_take]
  exact strs_g0 (r := r) fun w hw => h w (List.mem_of_mem_take hw)
theorem fam_true {r : Int} {ws : List (List Nat)} (h : okF r ws) : isFam (famD r ws) = true := by
  obtain ⟨h1, h2, h3, h4⟩ := h
  show ((decide (1 ≤ r) && decide (r ≤ 3)) && (decide ((ws.map D.str).length ≤ 4) && (ws.map D.str).all fun w => spelled w r 8)) = true
  rw [decide_eq_true h1, decide_eq_true h2, List.length_map, decide_eq_true h3, Bool.true_and, Bool.true_and, Bool.true_and, List.all_eq_true]
  intro d hd
  obtain ⟨w, hw, rfl⟩ := List.mem_map.mp hd
  obtain ⟨a, b⟩ := h4 w hw
  show (decide ((w.length : Int) ≤ 8) && w.all fun c => decide (c ∈ LS r)) = true
  rw [decide_eq_true (by omega), Bool.true_and, List.all_eq_true]
  exact fun c hc => decide_eq_true (b c hc)
theorem fam_g2 {r : Int} {ws : List (List Nat)} (h : okF r ws) : g2 (famD r ws) = true := by
  have h0 := strs_g0 h.2.2.2
  have hl : (ws.map D.str).length ≤ 1000 := by rw [List.length_map]; have := h.2.2.1; omega
  show (decide (2 ≤ 1000) && ((g0 (.int r) && true) && (((decide ((ws.map D.str).length ≤ 1000)) && (ws.map D.str).all g0) && true))) = true
  rw [h0, decide_eq_true hl]
  rfl
/-- a pair of a rank and given words of which the last one is none -/
theorem bad_last {r : Int} {ws : List (List Nat)} (h : okF r ws) {x : D} (hx : g0 x = true) (hs : spelled x r 8 = false) : Bad (.tup [.int r, .tup ((ws.map D.str).take (3 : Int).toNat ++ [x])]) := by
  have h0 := take_g0 h.2.2.2 (3 : Int).toNat
  have hl : ((ws.map D.str).take (3 : Int).toNat ++ [x]).length ≤ 1000 := by rw [List.length_append, List.length_take, List.length_singleton]; omega
  constructor
  · show (decide (2 ≤ 1000) && ((g0 (.int r) && true) && (((decide (((ws.map D.str).take (3 : Int).toNat ++ [x]).length ≤ 1000)) && ((ws.map D.str).take (3 : Int).toNat ++ [x]).all g0) && true))) = true
    rw [decide_eq_true hl, List.all_append, h0]
    show (decide (2 ≤ 1000) && ((g0 (.int r) && true) && ((true && (true && (g0 x && true))) && true))) = true
    rw [hx]
    rfl
  · show (isInt (.int r) 1 3 && (decide (_ ≤ 4) && ((ws.map D.str).take (3 : Int).toNat ++ [x]).all fun w => spelled w r 8)) = false
    rw [List.all_append]
    show (isInt (.int r) 1 3 && (decide (_ ≤ 4) && (_ && (spelled x r 8 && true)))) = false
    rw [hs]
    simp
theorem spelled_not {l : List Nat} {r : Int} {c : Nat} (hc : c ∈ l) (h : c ∉ LS r) : spelled (.str l) r 8 = false := by
  show (decide _ && l.all fun c => decide (c ∈ LS r)) = false
  have : (l.all fun c => decide (c ∈ LS r)) = false := by
    rw [List.all_eq_false]
    exact ⟨c, hc, by simpa using h⟩
  rw [this, Bool.and_false]
theorem not_in {r : Int} (h1 : 1 ≤ r) (h2 : r ≤ 3) {c : Nat} (h : c ∉ LETS) : c ∉ LS r := fun z => h (List.mem_of_mem_take z)
theorem fam_as {r : Int} (h1 : 1 ≤ r) (h2 : r ≤ 3) : isFam (.tup [.int r, .tup (List.replicate (4 : Int).toNat [D.str (List.replicate (8 : Int).toNat [97]).flatten]).flatten]) = true := by
  rcases rng3 h1 h2 with rfl | rfl | rfl <;> decide
theorem bad_all {r : Int} {ws : List (List Nat)} (h : okF r ws) {bc : Nat} (hb : r < 3 → bc ∉ LS r) (l : List D) (hl : ∀ d ∈ l, d ∈ ([.lst [.int r, .tup (ws.map D.str)], .tup [.int r], .tup [.int r, .tup (ws.map D.str), .tup []], .tup [.int r, .lst (ws.map D.str)], .tup [.int 0, .tup []], .tup [.int 4, .tup []], .tup [.bl true, .tup [.str [97]]], .tup [.non, .tup (ws.map D.str)], .non, .tup [.str [50], .tup (ws.map D.str)],
    .tup [.int r, .tup ((ws.map D.str).take (3 : Int).toNat ++ [.str (List.replicate (9 : Int).toNat [97]).flatten])], .tup [.int r, .tup ((ws.map D.str).take (3 : Int).toNat ++ [.str ((([97, 66, 99, 67, 120] : List Nat).drop (r - 1).toNat).take ((r + 2).toNat - (r - 1).toNat) ++ [100])])], .tup [.int r, .tup (List.replicate (5 : Int).toNat [D.str [97]]).flatten], .tup [.int r, .str [97]],
    .tup [.int r, .tup ((ws.map D.str).take (3 : Int).toNat ++ [.non])], .tup [.int r, .tup ((ws.map D.str).take (3 : Int).toNat ++ [.lst [.str [97]]])], .tup [.int r, .tup ((ws.map D.str).take (3 : Int).toNat ++ [.str [97, 32, 98]])], .tup [.int r, .tup ((ws.map D.str).take (3 : Int).toNat ++ [.str [97, 49]])]] : List D) ∨ r < 3 ∧ d ∈ ([.tup [.int r, .tup ((ws.map D.str).take (3 : Int).toNat ++ [.str [bc]])], .tup [.int r, .tup ((ws.map D.str).take (3 : Int).toNat ++ [.str [97, 66, 67]])]] : List D)) : ∀ d ∈ l, Bad d := by
  intro d hd
  obtain ⟨h1, h2, h3, h4⟩ := id h
  have hg := strs_g0 h4
  have hz : (ws.map D.str).length ≤ 1000 := by rw [List.length_map]; omega
  have hz' := decide_eq_true hz
  rcases hl d hd with z | ⟨hr, z⟩
  · simp only [List.mem_cons, List.not_mem_nil, or_false] at z
    rcases z with rfl | rfl | rfl | rfl | rfl | rfl | rfl | rfl | rfl | rfl | rfl | rfl | rfl | rfl | rfl | rfl | rfl | rfl
    · exact ⟨rfl, rfl⟩
    · exact ⟨rfl, rfl⟩
    · refine ⟨?_, rfl⟩
      show (decide (3 ≤ 1000) && ((g0 (.int r) && true) && ((((decide ((ws.map D.str).length ≤ 1000)) && (ws.map D.str).all g0)) && ((decide (0 ≤ 1000) && true) && true)))) = true
      rw [hg, hz']
      rfl
    · refine ⟨?_, ?_⟩
      · show (decide (2 ≤ 1000) && ((g0 (.int r) && true) && (((decide ((ws.map D.str).length ≤ 1000)) && true) && true))) = true
        rw [hz']
        rfl
      · show (isInt (.int r) 1 3 && false) = false
        rw [Bool.and_false]
    · exact ⟨by decide, by decide⟩
    · exact ⟨by decide, by decide⟩
    · exact ⟨by decide, by decide⟩
    · refine ⟨?_, rfl⟩
      show (decide (2 ≤ 1000) && ((true && true) && (((decide ((ws.map D.str).length ≤ 1000)) && (ws.map D.str).all g0) && true))) = true
      rw [hg, hz']
      rfl
    · exact ⟨rfl, rfl⟩
    · refine ⟨?_, rfl⟩
      show (decide (2 ≤ 1000) && ((decide (1 ≤ 1000) && true) && (((decide ((ws.map D.str).length ≤ 1000)) && (ws.map D.str).all g0) && true))) = true
      rw [hg, hz']
      rfl
    · refine bad_last h (by decide) ?_
      show (decide (((List.replicate (9 : Int).toNat [97]).flatten.length : Int) ≤ 8) && (List.replicate (9 : Int).toNat [97]).flatten.all fun c => decide (c ∈ LS r)) = false
      rw [decide_eq_false (by decide), Bool.false_and]
    · refine bad_last h ?_ (spelled_not (c := 100) (by simp) (not_in h1 h2 (by decide)))
      refine decide_eq_true (show _ ≤ 1000 from ?_)
      rw [List.length_append, List.length_take, List.length_drop, List.length_cons, List.length_cons, List.length_cons, List.length_cons, List.length_cons, List.length_nil, List.length_singleton]
      omega
    · refine ⟨by rfl, ?_⟩
      show (isInt (.int r) 1 3 && (decide (5 ≤ 4) && (List.replicate (5 : Int).toNat [D.str [97]]).flatten.all fun w => spelled w r 8)) = false
      rw [show decide (5 ≤ 4) = false from by decide, Bool.false_and, Bool.and_false]
    · refine ⟨rfl, ?_⟩
      show (isInt (.int r) 1 3 && false) = false
      rw [Bool.and_false]
    · exact bad_last h rfl rfl
    · exact bad_last h rfl rfl
    · exact bad_last h rfl (spelled_not (c := 32) (by simp) (not_in h1 h2 (by decide)))
    · exact bad_last h rfl (spelled_not (c := 49) (by simp) (not_in h1 h2 (by decide)))
  · simp only [List.mem_cons, List.not_mem_nil, or_false] at z
    rcases z with rfl | rfl
    · exact bad_last h rfl (spelled_not (c := bc) (by simp) (hb hr))
    · refine bad_last h rfl (spelled_not (c := 67) (by simp) ?_)
      rcases rng3 h1 h2 with rfl | rfl | rfl
      · decide
      · decide
      · omega

theorem ok_law {f : Addr} {fd : FuncData} (T : Txt mg) (F : Fun K "law" "law" s_law f fd) (c_law_family : C8.Cal P w K mg base 3 "_law_family" (PF fs_law_family) []) (c_law_next : C8.Cal P w K mg base 1 "_law_next" (PF fs_law_next) []) (c_law_stream : C8.Cal P w K mg base 1 "_law_stream" (spStream K) []) (c_is_family : C8.Cal P w K mg base 3 "is_family" (PF fs_is_family) []) : FnOk P w K mg base CX0 4 f fd ["script"] (spLaw K) := by
  refine F.ok sc_law (fun vs H Q E h => ?_) (fun cdv A outer s H vs Q E hr h => ⟨_, (pss_cons (ps_set (i := 1) sc_law.nd rfl (by first | exact Or.inl rfl | exact Or.inr rfl) (C8.pe_c c_law_stream hr (by decide) (by rfl) (pa_cons (pv 0) pa_nil))) (pss_cons (ps_set (i := 2) sc_law.nd rfl (by first | exact Or.inl rfl | exact Or.inr rfl) (C8.pe_c c_law_family hr (by decide) (by rfl) (pa_cons (pv 1) pa_nil))) (pss_cons (ps_asg (pv 2) (pg_tup rfl (pgs_cons (pg_name (i := 3) sc_law.nd rfl (by first | exact Or.inl rfl | exact Or.inr rfl)) (pgs_cons (pg_name (i := 4) sc_law.nd rfl (by first | exact Or.inl rfl | exact Or.inr rfl)) pgs_nil)))) (pss_cons (ps_set (i := 5) sc_law.nd rfl (by first | exact Or.inl rfl | exact Or.inr rfl) (pe_lst (pa_cons (pe_callTy cd_listof (by rfl) T.n_list (by decide +kernel) (pa_cons (pv 2) pa_nil)) (pa_cons (pe_tup (pa_cons (pv 3) pa_nil)) (pa_cons (pe_tup (pa_cons (pv 3) (pa_cons (pv 4) (pa_cons (pe_tup pa_nil) pa_nil)))) (pa_cons (pe_tup (pa_cons (pv 3) (pa_cons (pe_callTy cd_listof (by rfl) T.n_list (by decide +kernel) (pa_cons (pv 4) pa_nil)) pa_nil))) (pa_cons (pe_tup (pa_cons pe_int (pa_cons (pe_tup pa_nil) pa_nil))) (pa_cons (pe_tup (pa_cons pe_int (pa_cons (pe_tup pa_nil) pa_nil))) (pa_cons (pe_tup (pa_cons pe_bl (pa_cons (pe_tup (pa_cons pe_str pa_nil)) pa_nil))) (pa_cons (pe_tup (pa_cons pe_non (pa_cons (pv 4) pa_nil))) (pa_cons pe_non (pa_cons (pe_tup (pa_cons pe_str (pa_cons (pv 4) pa_nil))) pa_nil)))))))))))) (pss_cons (ps_set (i := 5) sc_law.nd rfl (by first | exact Or.inl rfl | exact Or.inr rfl) (pe_op op_cat (pv 5) (pe_lst (pa_cons (pe_tup (pa_cons (pv 3) (pa_cons (pe_op op_catA (pe_slice sl_tupA (pv 4) po_none (po_some pe_int)) (pe_tup (pa_cons (pe_op od_mul_str pe_str pe_int) pa_nil))) pa_nil))) (pa_cons (pe_tup (pa_cons (pv 3) (pa_cons (pe_op op_catA (pe_slice sl_tupA (pv 4) po_none (po_some pe_int)) (pe_tup (pa_cons (pe_op od_add_str (pe_slice sl_str pe_str (po_some (pe_op op_sub (pv 3) pe_int)) (po_some (pe_op op_add (pv 3) pe_int))) pe_str) pa_nil))) pa_nil))) (pa_cons (pe_tup (pa_cons (pv 3) (pa_cons (pe_op od_rept (pe_tup (pa_cons pe_str pa_nil)) pe_int) pa_nil))) (pa_cons (pe_tup (pa_cons (pv 3) (pa_cons pe_str pa_nil))) pa_nil))))))) (pss_cons (ps_set (i := 5) sc_law.nd rfl (by first | exact Or.inl rfl | exact Or.inr rfl) (pe_op op_cat (pv 5) (pe_lst (pa_cons (pe_tup (pa_cons (pv 3) (pa_cons (pe_op op_catA (pe_slice sl_tupA (pv 4) po_none (po_some pe_int)) (pe_tup (pa_cons pe_non pa_nil))) pa_nil))) (pa_cons (pe_tup (pa_cons (pv 3) (pa_cons (pe_op op_catA (pe_slice sl_tupA (pv 4) po_none (po_some pe_int)) (pe_tup (pa_cons (pe_lst (pa_cons pe_str pa_nil)) pa_nil))) pa_nil))) (pa_cons (pe_tup (pa_cons (pv 3) (pa_cons (pe_op op_catA (pe_slice sl_tupA (pv 4) po_none (po_some pe_int)) (pe_tup (pa_cons pe_str pa_nil))) pa_nil))) (pa_cons (pe_tup (pa_cons (pv 3) (pa_cons (pe_op op_catA (pe_slice sl_tupA (pv 4) po_none (po_some pe_int)) (pe_tup (pa_cons pe_str pa_nil))) pa_nil))) pa_nil))))))) (pss_cons (ps_if (pt_cmpR op_lt (pv 3) pe_int (nomark _)) (pss_cons (ps_expr (pe_bm PySem.F.plainAttrs_list PySem.F.slot_list_append PySem.F.type_list_append mt_append (pv 5) (pa_cons (pe_tup (pa_cons (pv 3) (pa_cons (pe_op op_catA (pe_slice sl_tupA (pv 4) po_none (po_some pe_int)) (pe_tup (pa_cons (pe_ix ix_str pe_str (pe_op op_sub (pv 3) pe_int) (fun _ _ => rfl)) pa_nil))) pa_nil))) pa_nil))) (pss_one (ps_expr (pe_bm PySem.F.plainAttrs_list PySem.F.slot_list_append PySem.F.type_list_append mt_append (pv 5) (pa_cons (pe_tup (pa_cons (pv 3) (pa_cons (pe_op op_catA (pe_slice sl_tupA (pv 4) po_none (po_some pe_int)) (pe_tup (pa_cons (pe_slice sl_str pe_str po_none (po_some pe_int)) pa_nil))) pa_nil))) pa_nil))))) pss_nil) (pss_cons (ps_set (i := 6) sc_law.nd rfl (by first | exact Or.inl rfl | exact Or.inr rfl) (pe_ix ix_list (pv 5) (C8.pe_c c_law_next hr (by decide) (by rfl) (pa_cons (pv 1) (pa_cons (pe_callB cd_len (by rfl) T.n_len (by decide +kernel) (pa_cons (pv 5) pa_nil)) pa_nil))) (fun _ _ => rfl))) (pss_one (ps_ret (pe_and (pe_cmpR op_isBl (C8.pe_c c_is_family hr (by decide) (by rfl) (pa_cons (pv 2) pa_nil)) pe_bl (nomark _)) (pe_and (pe_cmpR op_isBl (C8.pe_c c_is_family hr (by decide) (by rfl) (pa_cons (pe_tup (pa_cons (pv 3) (pa_cons (pe_op od_rept (pe_tup (pa_cons (pe_op od_mul_str pe_str pe_int) pa_nil)) pe_int) pa_nil))) pa_nil)) pe_bl (nomark _)) (pe_one (pe_cmpR op_isBl (C8.pe_c c_is_family hr (by decide) (by rfl) (pa_cons (pv 6) pa_nil)) pe_bl (nomark _))))))))))))))), law_read rfl ?_ vs H Q E h⟩)
  · obtain ⟨a, ns, rfl, _⟩ := h
    rfl
  show Ds _ [.any, .dat .stm, .any, .any, .any, .any, .any] _ _ _ _
  repeat walk_at "dl"
  refine ⟨(), rfl, trivial, fun d hd => ?_⟩
  obtain ⟨r, ws, rfl, hF⟩ := hd
  obtain ⟨h1, h2, h3, h4⟩ := id hF
  have hlen : (ws.map D.str).length ≤ 4 := by rw [List.length_map]; exact h3
  repeat walk_at "dl"
  refine ds_asg ?_
  walk_at "dl"
  refine dg_tup rfl (dgs_cons (dg_name (dgs_cons (dg_name (dgs_nil ?_)))))
  repeat walk_at "dl"
  refine ds_set ?_
  repeat walk_at "dl"
  refine ds_set ?_
  repeat walk_at "dl"
  refine ds_setN (den_catl ?_)
  repeat walk_at "dl"
  refine ⟨_, _, rfl, rfl, by walk_at "sz", ?_⟩
  try dsimp only [List.set]
  refine ds_seq (ds_mid (fun e => ∃ l, e = [Sl.any, Sl.dat D.stm, Sl.dat (famD r ws), Sl.dat (D.int r), Sl.dat (D.tup (ws.map D.str)), Sl.own (.lst l), Sl.any] ∧ (∀ d ∈ l, Bad d) ∧ 0 < l.length ∧ l.length ≤ 20) ?_ fun e he => ?_)
  · repeat walk_at "dl"
    by_cases hr3 : r < 3
    · rw [decide_eq_true hr3]
      obtain ⟨bc, hbc, hbn⟩ : ∃ bc, atI ([98, 99] : List Nat) (r - 1) = some bc ∧ bc ∉ LS r := by
        rcases rng3 h1 h2 with rfl | rfl | rfl
        · exact ⟨98, rfl, by decide⟩
        · exact ⟨99, rfl, by decide⟩
        · omega
      repeat walk_at "dl"
      refine ds_append rfl (by simp only [List.length_append, List.length_cons, List.length_nil]; omega) ?_
      repeat walk_at "dl"
      refine dop_ixs (by simp) hbc ?_
      repeat walk_at "dl"
      refine ds_append rfl (by simp only [List.length_append, List.length_cons, List.length_nil]; omega) ?_
      repeat walk_at "dl"
      refine ⟨_, rfl, bad_all hF (bc := bc) (fun _ => hbn) _ (fun d hd => ?_), by simp, by simp⟩
      simp only [List.mem_append, List.mem_singleton, List.append_assoc] at hd
      rcases hd with hd | hd | hd | hd | hd
      · exact .inl (List.mem_append.mpr (.inl hd) : d ∈ [_, _, _, _, _, _, _, _, _, _] ++ ([_, _, _, _] ++ [_, _, _, _]))
      · exact .inl (List.mem_append.mpr (.inr (List.mem_append.mpr (.inl hd))) : d ∈ [_, _, _, _, _, _, _, _, _, _] ++ ([_, _, _, _] ++ [_, _, _, _]))
      · exact .inl (List.mem_append.mpr (.inr (List.mem_append.mpr (.inr hd))) : d ∈ [_, _, _, _, _, _, _, _, _, _] ++ ([_, _, _, _] ++ [_, _, _, _]))
      · exact .inr ⟨hr3, by rw [hd]; exact List.mem_cons_self⟩
      · exact .inr ⟨hr3, by rw [hd]; exact List.mem_cons_of_mem _ List.mem_cons_self⟩
    · rw [decide_eq_false hr3]
      repeat walk_at "dl"
      refine ⟨_, rfl, bad_all hF (bc := 98) (fun z => absurd z hr3) _ (fun d hd => .inl hd), by simp, by simp⟩
  · obtain ⟨l, rfl, hb, l1, l2⟩ := he
    refine ds_rel 5 rfl ?_
    repeat walk_at "dl"
    refine ⟨(l.length : Int), rfl, ⟨by omega, by omega⟩, fun d hd => ?_⟩
    obtain ⟨i, rfl, i1, i2⟩ := hd
    obtain ⟨bad, hbad, hm⟩ := atI_lt l i i1 i2
    refine dop_ixl hbad ?_
    repeat walk_at "dl"
    refine ⟨famD r ws, rfl, gd2_of (fam_g2 hF), fun d hd => ?_⟩
    cases hd
    rw [fam_true hF]
    repeat walk_at "dl"
    refine ⟨_, rfl, gd2_of (by rfl), fun d hd => ?_⟩
    cases hd
    rw [fam_as h1 h2]
    repeat walk_at "dl"
    refine ⟨bad, rfl, gd2_of (hb bad hm).1, fun d hd => ?_⟩
    cases hd
    rw [(hb bad hm).2]
    repeat walk_at "dl"
    rfl
end
end Law
namespace Law
open PySem PySem.Spec PyProof.Rows L2 DL
theorem all_mk {l : PySem.W.OpenLaw} {w : World} {K : PySem.W.Frag} {h : Heap} {mg : Str → Option Value} {fa f : Addr} (X : K.In h) (G : h.Ns mainGlobals mg) (hfa : mg "law" = some (.ref fa)) (T : Txt mg)
    (d_law_stream : Df K mg "_law_stream" s_law_stream ["script"])
    (d_law_next : Df K mg "_law_next" s_law_next ["stream", "many"])
    (d_law_word : Df K mg "_law_word" s_law_word ["stream", "rank", "most"])
    (d_law_family : Df K mg "_law_family" s_law_family ["stream"])
    (d_is_integer : Df K mg "is_integer" s_is_integer ["value", "least", "most"])
    (d_is_rank : Df K mg "is_rank" s_is_rank ["value"])
    (d_letters_of : Df K mg "letters_of" s_letters_of ["rank"])
    (d_is_spelled : Df K mg "is_spelled" s_is_spelled ["value", "rank", "most"])
    (d_is_family : Df K mg "is_family" s_is_family ["value"])
    {oc kV dc pm cd ct : Value} {od an : Option Addr} {sl : Array (Option Value)} (a : PySem.W.nsIn K mainGlobals "law" = some (some (.ref f))) (lk : K.lookup f = some ⟨oc, od, .func (PySem.W.fnOf "law" "law" (defArgs s_law) (defBody s_law) (defScope s_law) .none kV dc pm an cd ct), sl⟩) (c : PySem.W.codeIn K cd "law" = true) (k : PySem.W.keepIn K (.ref f) = true) :
    ∃ fd : FuncData, (∀ (s : Shared) (v : Value), BindsTo s fd ⟨[v], []⟩ [("script", v)]) ∧ ∀ base : Heap, K.In base → base.Ns mainGlobals mg → FnOk l.prog w K mg base CX0 4 fa fd ["script"] (spLaw K) := by
  have e := hfa.symm.trans (PySem.W.mg_of X G a)
  cases e
  refine ⟨PySem.W.fnOf "law" "law" (defArgs s_law) (defBody s_law) (defScope s_law) .none kV dc pm an cd ct, fun s v => .of_eq rfl, fun base _ _ => ?_⟩
  have c_law_stream : C8.Cal l.prog w K mg base 1 "_law_stream" (spStream K) [] := ok_law_stream T d_law_stream
  have c_law_next : C8.Cal l.prog w K mg base 1 "_law_next" (PF fs_law_next) [] := ok_law_next T d_law_next
  have c_law_word : C8.Cal l.prog w K mg base 2 "_law_word" (PF fs_law_word) [] := ok_law_word T d_law_word c_law_next
  have c_law_family : C8.Cal l.prog w K mg base 3 "_law_family" (PF fs_law_family) [] := ok_law_family T d_law_family c_law_next c_law_word
  have c_is_integer : C8.Cal l.prog w K mg base 1 "is_integer" (PF fs_is_integer) [] := ok_is_integer T d_is_integer
  have c_is_rank : C8.Cal l.prog w K mg base 2 "is_rank" (PF fs_is_rank) [] := ok_is_rank T d_is_rank c_is_integer
  have c_letters_of : C8.Cal l.prog w K mg base 1 "letters_of" (PF fs_letters_of) [] := ok_letters_of T d_letters_of
  have c_is_spelled : C8.Cal l.prog w K mg base 2 "is_spelled" (PF fs_is_spelled) [] := ok_is_spelled T d_is_spelled c_letters_of
  have c_is_family : C8.Cal l.prog w K mg base 3 "is_family" (PF fs_is_family) [] := ok_is_family T d_is_family c_is_rank c_is_spelled
  exact ok_law T (fun_mk (st := s_law) lk c k) c_law_family c_law_next c_law_stream c_is_family
end Law
open PySem PySem.W PyProof.Rows L2 DL
set_option maxRecDepth 100000 in
set_option maxHeartbeats 0 in
theorem PySem.Challenge.cw_foldedways_k16_forms_of_families_holds : PySem.Challenge.rw_foldedways_k16_forms_of_families.Holds := by
  w_on; o_law; k_head; (case hw => w_witness2)
  k_fill
  refine L2.walk_of (l := PySem.Challenge.rw_foldedways_k16_forms_of_families) (n := 63) (k := 4) (x := "script") (CX := fun _ => L2.CX0) (sp := fun w => DL.spLaw _) rfl (by decide) rfl ⟨rfl, by decide, by decide⟩ (fun w h Y => PySem.W.kIn_of Y) ?F (fun _ _ a ns hl _ hS => ⟨a, ns, rfl, hS, hl, fun _ => rfl⟩) (fun _ _ _ _ _ h => h)
  case F =>
    intro w mg fa h KX G hmg
    have T : Law.Txt mg := by
      have c_HIGHEST_RANK : ∃ u, mg "HIGHEST_RANK" = some u ∧ RelV (.int 3) u := by
        refine' mg_intK KX G ?zzq
        (case zzq => k_is)
      have c_LETTERS : ∃ u, mg "LETTERS" = some u ∧ RelV (.str "aAbBcC") u := by
        refine' mg_strK KX G ?zzq
        (case zzq => k_is)
      have c_MOST_GIVEN : ∃ u, mg "MOST_GIVEN" = some u ∧ RelV (.int 4) u := by
        refine' mg_intK KX G ?zzq
        (case zzq => k_is)
      have c_MOST_GIVEN_LETTERS : ∃ u, mg "MOST_GIVEN_LETTERS" = some u ∧ RelV (.int 8) u := by
        refine' mg_intK KX G ?zzq
        (case zzq => k_is)
      refine ⟨?b_abs, ?b_all, ?b_bool, ?b_int, ?b_isinstance, ?b_len, ?b_list, ?b_range, ?b_str, ?b_tuple, c_HIGHEST_RANK, c_LETTERS, c_MOST_GIVEN, c_MOST_GIVEN_LETTERS⟩
      (case b_abs => (refine' PySem.W.mg_none_of KX G ?zzq; (case zzq => k_is)))
      (case b_all => (refine' PySem.W.mg_none_of KX G ?zzq; (case zzq => k_is)))
      (case b_bool => (refine' PySem.W.mg_none_of KX G ?zzq; (case zzq => k_is)))
      (case b_int => (refine' PySem.W.mg_none_of KX G ?zzq; (case zzq => k_is)))
      (case b_isinstance => (refine' PySem.W.mg_none_of KX G ?zzq; (case zzq => k_is)))
      (case b_len => (refine' PySem.W.mg_none_of KX G ?zzq; (case zzq => k_is)))
      (case b_list => (refine' PySem.W.mg_none_of KX G ?zzq; (case zzq => k_is)))
      (case b_range => (refine' PySem.W.mg_none_of KX G ?zzq; (case zzq => k_is)))
      (case b_str => (refine' PySem.W.mg_none_of KX G ?zzq; (case zzq => k_is)))
      (case b_tuple => (refine' PySem.W.mg_none_of KX G ?zzq; (case zzq => k_is)))
    have d_law_stream := DL.df_mk (x := "_law_stream") (st := Law.s_law_stream) (ps := ["script"]) KX G (by k_is) (by k_is) (by k_is) (by k_is) (fun _ _ _ _ _ _ us hl => match us, hl with | [_], _ => rfl)
    have d_law_next := DL.df_mk (x := "_law_next") (st := Law.s_law_next) (ps := ["stream", "many"]) KX G (by k_is) (by k_is) (by k_is) (by k_is) (fun _ _ _ _ _ _ us hl => match us, hl with | [_, _], _ => rfl)
    have d_law_word := DL.df_mk (x := "_law_word") (st := Law.s_law_word) (ps := ["stream", "rank", "most"]) KX G (by k_is) (by k_is) (by k_is) (by k_is) (fun _ _ _ _ _ _ us hl => match us, hl with | [_, _, _], _ => rfl)
    have d_law_family := DL.df_mk (x := "_law_family") (st := Law.s_law_family) (ps := ["stream"]) KX G (by k_is) (by k_is) (by k_is) (by k_is) (fun _ _ _ _ _ _ us hl => match us, hl with | [_], _ => rfl)
    have d_is_integer := DL.df_mk (x := "is_integer") (st := Law.s_is_integer) (ps := ["value", "least", "most"]) KX G (by k_is) (by k_is) (by k_is) (by k_is) (fun _ _ _ _ _ _ us hl => match us, hl with | [_, _, _], _ => rfl)
    have d_is_rank := DL.df_mk (x := "is_rank") (st := Law.s_is_rank) (ps := ["value"]) KX G (by k_is) (by k_is) (by k_is) (by k_is) (fun _ _ _ _ _ _ us hl => match us, hl with | [_], _ => rfl)
    have d_letters_of := DL.df_mk (x := "letters_of") (st := Law.s_letters_of) (ps := ["rank"]) KX G (by k_is) (by k_is) (by k_is) (by k_is) (fun _ _ _ _ _ _ us hl => match us, hl with | [_], _ => rfl)
    have d_is_spelled := DL.df_mk (x := "is_spelled") (st := Law.s_is_spelled) (ps := ["value", "rank", "most"]) KX G (by k_is) (by k_is) (by k_is) (by k_is) (fun _ _ _ _ _ _ us hl => match us, hl with | [_, _, _], _ => rfl)
    have d_is_family := DL.df_mk (x := "is_family") (st := Law.s_is_family) (ps := ["value"]) KX G (by k_is) (by k_is) (by k_is) (by k_is) (fun _ _ _ _ _ _ us hl => match us, hl with | [_], _ => rfl)
    refine' Law.all_mk KX G hmg T d_law_stream d_law_next d_law_word d_law_family d_is_integer d_is_rank d_letters_of d_is_spelled d_is_family ?zza ?zzl ?zzc ?zzk
    (case zza => k_is); (case zzl => k_is); (case zzc => k_is); (case zzk => k_is)
