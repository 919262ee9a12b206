import PyProof.Rows.All
import Wide.All
import OpenK.AllK
import Wide.FinOn
import HandS.ForMost
import HandS.IsInst
import HandS.Evl
import HandS.Codes
import HandS.TupMul
import HandS.TupAny
import HandS.Style
import HandS.Conv
import HandS.Replace
import HandS.ToBytes
import KE.LtSeq
import KE.GoesEnum
import HandS.Strs
import KE.KDictList
import HandS.WordsDict
import KE.DataCmp
import HandS.DictComp
import HandS.TupSets
import KE.GoesSet
import KE.KSortTupG
import KE.SortLaws
import HandS.SetBool
import HandS.Deep
import HandS.ExcInit
import HandS.ExcField
import KE.KExcIs
import HandS.WordsExc
import HandS.StrMore
import PySem.Challenge.RW_foldedways_k04_whole_reduced_words_count
set_option Elab.async false
set_option linter.all false
set_option maxRecDepth 100000
set_option maxHeartbeats 4000000
namespace DL
open PySem PySem.Spec PyProof.Rows L2

inductive D where
  | non | bl (b : Bool) | int (i : Int) | str (s : List Nat) | ty (n : String) | stm | exc (a dd : Addr) (ns : List Str) (ds : List D) | cls (a : Addr)
  | tup (ds : List D) | ptp (ds : List D) | lst (ds : List D) | dK (kvs : List (Key × V)) | dT (kvs : List (List Key × V)) | dKx (ks : List Key) (ds : List D) | dTx (ks : List (List Key)) (ds : List D)

mutual
inductive Is (st : Addr) (M : List Addr) (H : Hp) : V → D → Prop
  | non : Is st M H .non .non
  | bl (b : Bool) : Is st M H (.bl b) (.bl b)
  | int (i : Int) : Is st M H (.int i) (.int i)
  | str (s : List Nat) : Is st M H (.str ⟨s.toArray⟩) (.str s)
  | ty (n : String) : Is st M H (.ty n) (.ty n)
  | stm : Is st M H (.ref st) .stm
  | cls (a : Addr) : Is st M H (.ref a) (.cls a)
  | exc {a dd : Addr} {vs : List V} {ns : List Str} {ds : List D} (hm : dd ∉ M) (h : H dd = some (.xd (ns.zip vs))) (hl : ns.length = vs.length) (hs : Iss st M H vs ds) : Is st M H (.ref a) (.exc a dd ns ds)
  | tup {p : Addr} {vs : List V} {ds : List D} (h : H p = some (.tup vs)) (hs : Iss st M H vs ds) : Is st M H (.ref p) (.tup ds)
  | ptp {p : Addr} {o : Obj} {vs : List V} {ds : List D} (hm : p ∉ M) (h : H p = some (.frz o (.tup vs))) (hc : o.cls = .type "tuple" ∧ o.dict = none) (hs : Iss st M H vs ds) : Is st M H (.ref p) (.ptp ds)
  | lst {p : Addr} {vs : List V} {ds : List D} (hm : p ∉ M) (h : H p = some (.lst vs)) (hs : Iss st M H vs ds) : Is st M H (.ref p) (.lst ds)
  | dK {p : Addr} {kvs : List (Key × V)} (hm : p ∉ M) (h : H p = some (.dK kvs)) (hf : ∀ kv ∈ kvs, flatV kv.2 = true) : Is st M H (.ref p) (.dK kvs)
  | dT {p : Addr} {kvs : List (List Key × V)} (hm : p ∉ M) (h : H p = some (.dT kvs)) (hf : ∀ kv ∈ kvs, flatV kv.2 = true) : Is st M H (.ref p) (.dT kvs)
  | dKx {p : Addr} {ks : List Key} {vs : List V} {ds : List D} (hm : p ∉ M) (h : H p = some (.dK (ks.zip vs))) (hl : ks.length = vs.length) (hs : Iss st M H vs ds) : Is st M H (.ref p) (.dKx ks ds)
  | dTx {p : Addr} {ks : List (List Key)} {vs : List V} {ds : List D} (hm : p ∉ M) (h : H p = some (.dT (ks.zip vs))) (hl : ks.length = vs.length) (hs : Iss st M H vs ds) : Is st M H (.ref p) (.dTx ks ds)
inductive Iss (st : Addr) (M : List Addr) (H : Hp) : List V → List D → Prop
  | nil : Iss st M H [] []
  | cons {v : V} {d : D} {vs : List V} {ds : List D} (h : Is st M H v d) (hs : Iss st M H vs ds) : Iss st M H (v :: vs) (d :: ds)
end

/-- all but the stream stands as it did, the stream may have moved on -/
def Fx (st : Addr) (H H' : Hp) : Prop := (∀ b o, b ≠ st → H b = some o → H' b = some o) ∧
  ∀ (a : Addr) (c k : Int), 0 ≤ c → 0 ≤ k → H st = some (.lst [.ref a, .int c, .int k]) → ∃ c' k' : Int, 0 ≤ c' ∧ 0 ≤ k' ∧ H' st = some (.lst [.ref a, .int c', .int k'])
theorem Fx.refl (st : Addr) (H : Hp) : Fx st H H := ⟨fun _ _ _ h => h, fun _ c k h1 h2 h => ⟨c, k, h1, h2, h⟩⟩
theorem Fx.trans {st : Addr} {H H1 H2 : Hp} (a : Fx st H H1) (b : Fx st H1 H2) : Fx st H H2 := ⟨fun x o n h => b.1 x o n (a.1 x o n h), fun x c k h1 h2 h => by
  obtain ⟨c', k', g1, g2, g⟩ := a.2 x c k h1 h2 h
  exact b.2 x c' k' g1 g2 g⟩
theorem Fx.new {st : Addr} {H : Hp} {p : Addr} {o : HO} (h : H p = none) : Fx st H (upd H p o) := by
  refine ⟨fun a u _ e => ?_, fun a c k h1 h2 e => ⟨c, k, h1, h2, ?_⟩⟩
  · rw [upd_ne (ne_of_none e h)]
    exact e
  · rw [upd_ne (ne_of_none e h)]
    exact e
/-- the stream: a list of the script's list and two ints -/
def Stm (st : Addr) (M : List Addr) (H : Hp) : Prop := ∃ (a : Addr) (ns : List Int) (c k : Int), a ∉ M ∧ a ≠ st ∧ H st = some (.lst [.ref a, .int c, .int k]) ∧ H a = some (.lst (ns.map V.int)) ∧ 0 ≤ c ∧ 0 ≤ k

mutual
theorem Is.mono {st : Addr} {M M' : List Addr} {H H' : Hp} (hM : ∀ b ∈ M', b ∈ M) (hS : st ∈ M) (e : Fx st H H') (ht : ∀ vs, H st ≠ some (.tup vs)) : ∀ {v : V} {d : D}, Is st M H v d → Is st M' H' v d
  | _, _, .non => .non
  | _, _, .bl b => .bl b
  | _, _, .int i => .int i
  | _, _, .str s => .str s
  | _, _, .ty n => .ty n
  | _, _, .stm => .stm
  | _, _, .cls a => .cls a
  | _, _, .exc hm h hl hs => .exc (fun z => hm (hM _ z)) (e.1 _ _ (fun z => hm (z ▸ hS)) h) hl (Iss.mono hM hS e ht hs)
  | _, _, .tup h hs => .tup (e.1 _ _ (fun z => ht _ (z ▸ h)) h) (Iss.mono hM hS e ht hs)
  | _, _, .ptp hm h hc hs => .ptp (fun z => hm (hM _ z)) (e.1 _ _ (fun z => hm (z ▸ hS)) h) hc (Iss.mono hM hS e ht hs)
  | _, _, .lst hm h hs => .lst (fun z => hm (hM _ z)) (e.1 _ _ (fun z => hm (z ▸ hS)) h) (Iss.mono hM hS e ht hs)
  | _, _, .dK hm h hf => .dK (fun z => hm (hM _ z)) (e.1 _ _ (fun z => hm (z ▸ hS)) h) hf
  | _, _, .dT hm h hf => .dT (fun z => hm (hM _ z)) (e.1 _ _ (fun z => hm (z ▸ hS)) h) hf
  | _, _, .dKx hm h hl hs => .dKx (fun z => hm (hM _ z)) (e.1 _ _ (fun z => hm (z ▸ hS)) h) hl (Iss.mono hM hS e ht hs)
  | _, _, .dTx hm h hl hs => .dTx (fun z => hm (hM _ z)) (e.1 _ _ (fun z => hm (z ▸ hS)) h) hl (Iss.mono hM hS e ht hs)
theorem Iss.mono {st : Addr} {M M' : List Addr} {H H' : Hp} (hM : ∀ b ∈ M', b ∈ M) (hS : st ∈ M) (e : Fx st H H') (ht : ∀ vs, H st ≠ some (.tup vs)) : ∀ {vs : List V} {ds : List D}, Iss st M H vs ds → Iss st M' H' vs ds
  | _, _, .nil => .nil
  | _, _, .cons h hs => .cons (Is.mono hM hS e ht h) (Iss.mono hM hS e ht hs)
end
mutual
/-- one address outside M changes: data that do not reach it stay; and M may take in a new address -/
theorem Is.upd {st : Addr} {M : List Addr} {H : Hp} {p : Addr} {o : HO} (hp : p ∈ M) (ht : ∀ vs, H p ≠ some (.tup vs)) : ∀ {v : V} {d : D}, Is st M H v d → Is st M (upd H p o) v d
  | _, _, .non => .non
  | _, _, .bl b => .bl b
  | _, _, .int i => .int i
  | _, _, .str s => .str s
  | _, _, .ty n => .ty n
  | _, _, .stm => .stm
  | _, _, .cls a => .cls a
  | _, _, .exc hm h hl hs => .exc hm (by rw [upd_ne (fun z => hm (by rw [z]; exact hp))]; exact h) hl (Iss.upd hp ht hs)
  | _, _, .tup h hs => .tup (by rw [upd_ne (fun z => ht _ (by rw [← z]; exact h))]; exact h) (Iss.upd hp ht hs)
  | _, _, .ptp hm h hc hs => .ptp hm (by rw [upd_ne (fun z => hm (by rw [z]; exact hp))]; exact h) hc (Iss.upd hp ht hs)
  | _, _, .lst hm h hs => .lst hm (by rw [upd_ne (fun z => hm (by rw [z]; exact hp))]; exact h) (Iss.upd hp ht hs)
  | _, _, .dK hm h hf => .dK hm (by rw [upd_ne (fun z => hm (by rw [z]; exact hp))]; exact h) hf
  | _, _, .dT hm h hf => .dT hm (by rw [upd_ne (fun z => hm (by rw [z]; exact hp))]; exact h) hf
  | _, _, .dKx hm h hl hs => .dKx hm (by rw [upd_ne (fun z => hm (by rw [z]; exact hp))]; exact h) hl (Iss.upd hp ht hs)
  | _, _, .dTx hm h hl hs => .dTx hm (by rw [upd_ne (fun z => hm (by rw [z]; exact hp))]; exact h) hl (Iss.upd hp ht hs)
theorem Iss.upd {st : Addr} {M : List Addr} {H : Hp} {p : Addr} {o : HO} (hp : p ∈ M) (ht : ∀ vs, H p ≠ some (.tup vs)) : ∀ {vs : List V} {ds : List D}, Iss st M H vs ds → Iss st M (upd H p o) vs ds
  | _, _, .nil => .nil
  | _, _, .cons h hs => .cons (Is.upd hp ht h) (Iss.upd hp ht hs)
end
mutual
/-- a new address is taken into M -/
theorem Is.more {st : Addr} {M : List Addr} {H : Hp} {p : Addr} (hp : H p = none) : ∀ {v : V} {d : D}, Is st M H v d → Is st (p :: M) H v d
  | _, _, .non => .non
  | _, _, .bl b => .bl b
  | _, _, .int i => .int i
  | _, _, .str s => .str s
  | _, _, .ty n => .ty n
  | _, _, .stm => .stm
  | _, _, .cls a => .cls a
  | _, _, .exc hm h hl hs => .exc (fun z => (List.mem_cons.mp z).elim (ne_of_none h hp) hm) h hl (Iss.more hp hs)
  | _, _, .tup h hs => .tup h (Iss.more hp hs)
  | _, _, .ptp hm h hc hs => .ptp (fun z => (List.mem_cons.mp z).elim (ne_of_none h hp) hm) h hc (Iss.more hp hs)
  | _, _, .lst hm h hs => .lst (fun z => (List.mem_cons.mp z).elim (ne_of_none h hp) hm) h (Iss.more hp hs)
  | _, _, .dK hm h hf => .dK (fun z => (List.mem_cons.mp z).elim (ne_of_none h hp) hm) h hf
  | _, _, .dT hm h hf => .dT (fun z => (List.mem_cons.mp z).elim (ne_of_none h hp) hm) h hf
  | _, _, .dKx hm h hl hs => .dKx (fun z => (List.mem_cons.mp z).elim (ne_of_none h hp) hm) h hl (Iss.more hp hs)
  | _, _, .dTx hm h hl hs => .dTx (fun z => (List.mem_cons.mp z).elim (ne_of_none h hp) hm) h hl (Iss.more hp hs)
theorem Iss.more {st : Addr} {M : List Addr} {H : Hp} {p : Addr} (hp : H p = none) : ∀ {vs : List V} {ds : List D}, Iss st M H vs ds → Iss st (p :: M) H vs ds
  | _, _, .nil => .nil
  | _, _, .cons h hs => .cons (Is.more hp h) (Iss.more hp hs)
end
theorem Iss.length {st : Addr} {M : List Addr} {H : Hp} : ∀ {vs : List V} {ds : List D}, Iss st M H vs ds → vs.length = ds.length
  | _, _, .nil => rfl
  | _, _, .cons _ hs => by rw [List.length_cons, List.length_cons, Iss.length hs]
theorem Iss.get {st : Addr} {M : List Addr} {H : Hp} : ∀ {vs : List V} {ds : List D} {i : Nat} {d : D}, Iss st M H vs ds → ds[i]? = some d → ∃ v, vs[i]? = some v ∧ Is st M H v d
  | _, _, _, _, .nil, e => by simp at e
  | _, _, 0, _, .cons h _, e => by simp at e; subst e; exact ⟨_, rfl, h⟩
  | _, _, i + 1, d, .cons _ hs, e => by
    obtain ⟨v, h1, h2⟩ := Iss.get (i := i) (d := d) hs (by simpa using e)
    exact ⟨v, by simpa using h1, h2⟩
theorem Iss.getV {st : Addr} {M : List Addr} {H : Hp} : ∀ {vs : List V} {ds : List D} {i : Nat} {v : V}, Iss st M H vs ds → vs[i]? = some v → ∃ d, ds[i]? = some d ∧ Is st M H v d
  | _, _, _, _, .nil, e => by simp at e
  | _, _, 0, _, .cons h _, e => by simp at e; subst e; exact ⟨_, rfl, h⟩
  | _, _, i + 1, d, .cons _ hs, e => by
    obtain ⟨v, h1, h2⟩ := Iss.getV (i := i) (v := d) hs (by simpa using e)
    exact ⟨v, by simpa using h1, h2⟩
theorem Iss.append {st : Addr} {M : List Addr} {H : Hp} : ∀ {vs ws : List V} {ds es : List D}, Iss st M H vs ds → Iss st M H ws es → Iss st M H (vs ++ ws) (ds ++ es)
  | _, _, _, _, .nil, s => s
  | _, _, _, _, .cons h t, s => .cons h (Iss.append t s)
theorem Iss.take {st : Addr} {M : List Addr} {H : Hp} : ∀ {vs : List V} {ds : List D} (n : Nat), Iss st M H vs ds → Iss st M H (vs.take n) (ds.take n)
  | _, _, 0, _ => .nil
  | _, _, _ + 1, .nil => .nil
  | _, _, n + 1, .cons h t => .cons h (Iss.take n t)
theorem Iss.drop {st : Addr} {M : List Addr} {H : Hp} : ∀ {vs : List V} {ds : List D} (n : Nat), Iss st M H vs ds → Iss st M H (vs.drop n) (ds.drop n)
  | _, _, 0, h => h
  | _, _, _ + 1, .nil => .nil
  | _, _, n + 1, .cons _ t => Iss.drop n t
theorem Iss.set {st : Addr} {M : List Addr} {H : Hp} {v : V} {d : D} (h : Is st M H v d) : ∀ {vs : List V} {ds : List D} (n : Nat), Iss st M H vs ds → Iss st M H (vs.set n v) (ds.set n d)
  | _, _, _, .nil => .nil
  | _, _, 0, .cons _ t => .cons h t
  | _, _, n + 1, .cons q t => .cons q (Iss.set h n t)

/-- what is known of a slot -/
inductive Ow where
  | lst (ds : List D) | dK (kvs : List (Key × V)) | dT (kvs : List (List Key × V)) | dKx (ks : List Key) (ds : List D) | dTx (ks : List (List Key)) (ds : List D)
inductive Sl where
  | any | dat (d : D) | own (o : Ow)
abbrev Nv := List Sl
inductive OwOk (st : Addr) (M : List Addr) (H : Hp) : HO → Ow → Prop
  | lst {vs : List V} {ds : List D} (h : Iss st M H vs ds) : OwOk st M H (.lst vs) (.lst ds)
  | dK {kvs : List (Key × V)} (hf : ∀ kv ∈ kvs, flatV kv.2 = true) : OwOk st M H (.dK kvs) (.dK kvs)
  | dT {kvs : List (List Key × V)} (hf : ∀ kv ∈ kvs, flatV kv.2 = true) : OwOk st M H (.dT kvs) (.dT kvs)
  | dKx {ks : List Key} {vs : List V} {ds : List D} (hl : ks.length = vs.length) (hs : Iss st M H vs ds) : OwOk st M H (.dK (ks.zip vs)) (.dKx ks ds)
  | dTx {ks : List (List Key)} {vs : List V} {ds : List D} (hl : ks.length = vs.length) (hs : Iss st M H vs ds) : OwOk st M H (.dT (ks.zip vs)) (.dTx ks ds)
theorem OwOk.notup {st : Addr} {M : List Addr} {H : Hp} {h : HO} {o : Ow} (k : OwOk st M H h o) : ∀ vs, h ≠ .tup vs := by
  cases k <;> (intro vs z; cases z)
theorem OwOk.mut {st : Addr} {M : List Addr} {H : Hp} {h : HO} {o : Ow} (k : OwOk st M H h o) : Mut (some h) := by
  cases k <;> trivial

/-- what stays through a def's run: the stream, what may not be reached ahead, the heap at the entry, data that are kept in mind -/
structure Bs where
  st : Addr
  M0 : List Addr
  H0 : Hp
  hid : List (V × D)
structure Sr (B : Bs) (M : List Addr) (σ : L2.St) (H : Hp) (env : Nv) : Prop where
  stm : Stm B.st M H
  stM : B.st ∈ M
  keep : Fx B.st B.H0 H
  sub : ∀ b ∈ B.M0, b ∈ M
  fresh : ∀ b ∈ M, b ∈ B.M0 ∨ B.H0 b = none
  trk : ∀ b ∈ M, ∃ o, H b = some o
  st0 : B.st ∈ B.M0
  trk0 : ∀ b ∈ B.M0, ∃ o, B.H0 b = some o
  len : σ.length = env.length
  dat : ∀ (i : Nat) d, env[i]? = some (.dat d) → ∃ v, σ[i]? = some (some v) ∧ Is B.st M H v d
  own : ∀ (i : Nat) o, env[i]? = some (.own o) → ∃ p h, σ[i]? = some (some (.ref p)) ∧ p ∈ M ∧ p ∉ B.M0 ∧ H p = some h ∧ OwOk B.st M H h o
  inj : ∀ (i j : Nat) p o u, env[i]? = some (.own o) → env[j]? = some (.own u) → σ[i]? = some (some (.ref p)) → σ[j]? = some (some (.ref p)) → i = j
  hid : ∀ x ∈ B.hid, Is B.st M H x.1 x.2

section
variable {st : Addr} {B : Bs} {M : List Addr} {H H' : Hp} {σ : L2.St} {env : Nv}
theorem Stm.notup (h : Stm st M H) : ∀ vs, H st ≠ some (.tup vs) := fun vs z => by
  obtain ⟨a, ns, c, k, _, _, e, _⟩ := h
  rw [e] at z
  cases z
theorem Stm.fx {M' : List Addr} (h : Stm st M H) (e : Fx st H H') (hM : ∀ b ∈ M', b ∈ M) : Stm st M' H' := by
  obtain ⟨a, ns, c, k, h1, h2, h3, h4, h5, h6⟩ := h
  obtain ⟨c', k', g1, g2, g3⟩ := e.2 a c k h5 h6 h3
  exact ⟨a, ns, c', k', fun z => h1 (hM _ z), h2, g3, e.1 _ _ h2 h4, g1, g2⟩
theorem Sr.nt (S : Sr B M σ H env) : ∀ vs, H B.st ≠ some (.tup vs) := S.stm.notup
theorem Sr.is (S : Sr B M σ H env) (e : Fx B.st H H') {v : V} {d : D} (h : Is B.st M H v d) : Is B.st M H' v d := h.mono (fun _ z => z) S.stM e S.nt
theorem Sr.iss (S : Sr B M σ H env) (e : Fx B.st H H') {v : List V} {d : List D} (h : Iss B.st M H v d) : Iss B.st M H' v d := h.mono (fun _ z => z) S.stM e S.nt
theorem Sr.newM (S : Sr B M σ H env) {p : Addr} (hp : H p = none) : p ∉ M := fun z => by
  obtain ⟨o, e⟩ := S.trk p z
  rw [hp] at e
  cases e
theorem Sr.new0 (S : Sr B M σ H env) {p : Addr} (hp : H p = none) : B.H0 p = none := by
  cases e : B.H0 p with
  | none => rfl
  | some o =>
    have hs : p ≠ B.st := fun z => S.newM hp (z ▸ S.stM)
    rw [S.keep.1 p o hs e] at hp
    cases hp
theorem OwOk.fx (hS : st ∈ M) (e : Fx st H H') (ht : ∀ vs, H st ≠ some (.tup vs)) {h : HO} {o : Ow} (k : OwOk st M H h o) : OwOk st M H' h o := by
  cases k with
  | lst h => exact .lst (h.mono (fun _ z => z) hS e ht)
  | dK hf => exact .dK hf
  | dT hf => exact .dT hf
  | dKx hl hs => exact .dKx hl (hs.mono (fun _ z => z) hS e ht)
  | dTx hl hs => exact .dTx hl (hs.mono (fun _ z => z) hS e ht)
/-- the heap grows, the stream may move -/
theorem Sr.fx (S : Sr B M σ H env) (e : Fx B.st H H') : Sr B M σ H' env where
  stm := S.stm.fx e fun _ z => z
  stM := S.stM
  keep := S.keep.trans e
  sub := S.sub
  fresh := S.fresh
  trk := fun b hb => by
    by_cases z : b = B.st
    · obtain ⟨a, ns, c, k, _, _, h3, _⟩ := S.stm.fx (M' := M) e fun _ z => z
      exact ⟨_, z ▸ h3⟩
    · obtain ⟨o, q⟩ := S.trk b hb
      exact ⟨o, e.1 b o z q⟩
  st0 := S.st0
  trk0 := S.trk0
  len := S.len
  dat := fun i d h => by
    obtain ⟨v, h1, h2⟩ := S.dat i d h
    exact ⟨v, h1, S.is e h2⟩
  own := fun i o h => by
    obtain ⟨p, u, h1, h2, h3, h4, h5⟩ := S.own i o h
    exact ⟨p, u, h1, h2, h3, e.1 p u (fun z => h3 (z ▸ S.st0)) h4, h5.fx S.stM e S.nt⟩
  inj := S.inj
  hid := fun x hx => S.is e (S.hid x hx)
/-- a new object -/
theorem Sr.new (S : Sr B M σ H env) {p : Addr} {o : HO} (hp : H p = none) : Sr B M σ (upd H p o) env := S.fx (Fx.new hp)
end

/-! ### judgements over data -/
def De (te : TE) (env : Nv) (post : D → Prop) : Prop := ∀ B M σ H, Sr B M σ H env → ∀ Q : VK,
  (∀ v H' d, post d → Sr B M σ H' env → Fx B.st H H' → Is B.st M H' v d → Q v H') → te σ H Q
def Dt (tt : TT) (env : Nv) (post : Bool → Prop) : Prop := ∀ B M σ H, Sr B M σ H env → ∀ Q : Bool → Hp → Prop,
  (∀ b H', post b → Sr B M σ H' env → Fx B.st H H' → Q b H') → tt σ H Q
def Da (ta : TA) (env : Nv) (post : List D → Prop) : Prop := ∀ B M σ H, Sr B M σ H env → ∀ Q : List V → Hp → Prop,
  (∀ vs H' ds, post ds → Sr B M σ H' env → Fx B.st H H' → Iss B.st M H' vs ds → Q vs H') → ta σ H Q
def Do (to : TO) (env : Nv) (post : Option Int → Prop) : Prop := ∀ B M σ H, Sr B M σ H env → ∀ Q : Option Int → Hp → Prop,
  (∀ o H', post o → Sr B M σ H' env → Fx B.st H H' → Q o H') → to σ H Q
def Ds (ts : TS) (env : Nv) (nx : Nv → Prop) (rt : D → Prop) (bk ct : Nv → Prop) : Prop := ∀ B M σ H, Sr B M σ H env → ∀ D : Ends,
  (∀ M' σ' H' env', nx env' → Sr B M' σ' H' env' → D.nx σ' H') →
  (∀ v H' d, rt d → Fx B.st B.H0 H' → Is B.st B.M0 H' v d → D.rt v H') →
  (∀ M' σ' H' env', bk env' → Sr B M' σ' H' env' → D.bk σ' H') →
  (∀ M' σ' H' env', ct env' → Sr B M' σ' H' env' → D.ct σ' H') → ts D σ H

section
variable {env : Nv} {post : D → Prop} {ta tb tc te : TE} {t u : TT} {tas : TA} {r r' : R2}
theorem de_mono {post' : D → Prop} (h : De te env post) (k : ∀ d, post d → post' d) : De te env post' := fun B M σ H S Q q =>
  h B M σ H S Q fun v H' d p => q v H' d (k d p)
theorem de_var {i : Nat} {d : D} (h : env[i]? = some (.dat d)) (k : post d) : De (tVar i) env post := fun B M σ H S Q q => by
  obtain ⟨v, h1, h2⟩ := S.dat i d h
  exact ⟨v, h1, q v H d k S (Fx.refl _ _) h2⟩
theorem de_int {i : Int} (k : post (.int i)) : De (tC (.int i)) env post := fun B M σ H S Q q => q _ H _ k S (Fx.refl _ _) (.int i)
theorem de_bl {i : Bool} (k : post (.bl i)) : De (tC (.bl i)) env post := fun B M σ H S Q q => q _ H _ k S (Fx.refl _ _) (.bl i)
theorem is_strS (st : Addr) (M : List Addr) (H : Hp) (x : Str) : Is st M H (.str x) (.str x.cps.toList) := by
  have h := Is.str (st := st) (M := M) (H := H) x.cps.toList
  rw [Array.toArray_toList] at h
  exact h
theorem de_str {i : Str} (k : post (.str i.cps.toList)) : De (tC (.str i)) env post := fun B M σ H S Q q => q _ H _ k S (Fx.refl _ _) (is_strS _ _ _ i)
theorem de_ty {i : String} (k : post (.ty i)) : De (tC (.ty i)) env post := fun B M σ H S Q q => q _ H _ k S (Fx.refl _ _) (.ty i)
theorem de_strL {i : Str} {l : List Nat} (e : i.cps.toList = l) (k : post (.str l)) : De (tC (.str i)) env post := de_str (e ▸ k)
theorem de_non (k : post .non) : De (tC .non) env post := fun B M σ H S Q q => q _ H _ k S (Fx.refl _ _) .non
/-- an operation on values, over data -/
def Dop (r : R2) (x y : D) (post : D → Prop) : Prop := ∀ (st : Addr) (M : List Addr) (H : Hp) (v w : V), Stm st M H → st ∈ M → (∀ b ∈ M, ∃ o, H b = some o) → Is st M H v x → Is st M H w y → ∀ Q : VK,
  (∀ z H' d, post d → Fx st H H' → Is st M H' z d → Q z H') → r v w H Q
theorem de_op (h : De ta env fun x => De tb env fun y => Dop r x y post) : De (tOp r ta tb) env post := fun B M σ H S Q q =>
  h B M σ H S _ fun v H1 x hx S1 e1 i1 => hx B M σ H1 S1 _ fun w H2 y hy S2 e2 i2 =>
    hy B.st M H2 v w S2.stm S2.stM S2.trk (S1.is e2 i1) i2 Q fun z H3 d hd e3 i3 => q z H3 d hd (S2.fx e3) ((e1.trans e2).trans e3) i3
def Dun (r : V → Hp → VK → Prop) (x : D) (post : D → Prop) : Prop := ∀ (st : Addr) (M : List Addr) (H : Hp) (v : V), Stm st M H → st ∈ M → (∀ b ∈ M, ∃ o, H b = some o) → Is st M H v x → ∀ Q : VK,
  (∀ z H' d, post d → Fx st H H' → Is st M H' z d → Q z H') → r v H Q
theorem de_un {r : V → Hp → VK → Prop} (h : De ta env fun x => Dun r x post) : De (tUn r ta) env post := fun B M σ H S Q q =>
  h B M σ H S _ fun v H2 y hy S2 e2 i2 =>
    hy B.st M H2 v S2.stm S2.stM S2.trk i2 Q fun z H3 d hd e3 i3 => q z H3 d hd (S2.fx e3) (e2.trans e3) i3
def Dcl (r : List V → Hp → VK → Prop) (xs : List D) (post : D → Prop) : Prop := ∀ (st : Addr) (M : List Addr) (H : Hp) (vs : List V), Stm st M H → st ∈ M → (∀ b ∈ M, ∃ o, H b = some o) → Iss st M H vs xs → ∀ Q : VK,
  (∀ z H' d, post d → Fx st H H' → Is st M H' z d → Q z H') → r vs H Q
theorem de_cb {r : List V → Hp → VK → Prop} (h : Da tas env fun xs => Dcl r xs post) : De (tCB r tas) env post := fun B M σ H S Q q =>
  h B M σ H S _ fun v H2 y hy S2 e2 i2 =>
    hy B.st M H2 v S2.stm S2.stM S2.trk i2 Q fun z H3 d hd e3 i3 => q z H3 d hd (S2.fx e3) (e2.trans e3) i3
theorem da_nil {post : List D → Prop} (k : post []) : Da tNil env post := fun B M σ H S Q q => q [] H [] k S (Fx.refl _ _) .nil
theorem da_cons {post : List D → Prop} (h : De ta env fun x => Da tas env fun xs => post (x :: xs)) : Da (tCons ta tas) env post := fun B M σ H S Q q =>
  h B M σ H S _ fun v H1 x hx S1 e1 i1 => hx B M σ H1 S1 _ fun vs H2 xs hy S2 e2 i2 => q _ H2 _ hy S2 (e1.trans e2) (.cons (S1.is e2 i1) i2)
/-- a def's promise over data: its arguments told by an a, where it is asked, what may come -/
structure FS where
  α : Type
  arg : α → List D
  pre : α → Prop
  rel : α → D → Prop
def PF (F : FS) : Sp := fun vs H Q _ => ∃ (a : F.α) (st : Addr) (M : List Addr), Stm st M H ∧ st ∈ M ∧ (∀ b ∈ M, ∃ o, H b = some o) ∧ Iss st M H vs (F.arg a) ∧ F.pre a ∧
  ∀ r H' d, F.rel a d → Fx st H H' → Is st M H' r d → Q r H'
theorem de_call {F : FS} {E : XK} (h : Da tas env fun xs => ∃ a : F.α, xs = F.arg a ∧ F.pre a ∧ ∀ d, F.rel a d → post d) : De (tCall (PF F) [] E tas) env post := fun B M σ H S Q q =>
  h B M σ H S _ fun vs H2 xs ⟨a, ea, hy1, hy2⟩ S2 e2 i2 => ⟨a, B.st, M, S2.stm, S2.stM, S2.trk, by rw [List.append_nil, ← ea]; exact i2, hy1, fun r H' d hd e3 i3 => q r H' d (hy2 d hd) (S2.fx e3) (e2.trans e3) i3⟩
theorem de_tup (h : Da tas env fun xs => xs.length ≤ 1000000 ∧ post (.tup xs)) : De (tTup tas) env post := fun B M σ H S Q q =>
  h B M σ H S _ fun vs H2 xs hy S2 e2 i2 => ⟨Nat.le_trans (by rw [i2.length]; exact hy.1) (by decide), fun p hp => q _ _ _ hy.2 (S2.new hp) (e2.trans (Fx.new hp)) (.tup upd_same (S2.iss (Fx.new hp) i2))⟩
theorem de_lst (h : Da tas env fun xs => xs.length ≤ 1000000 ∧ post (.lst xs)) : De (tLst tas) env post := fun B M σ H S Q q =>
  h B M σ H S _ fun vs H2 xs hy S2 e2 i2 => ⟨Nat.le_trans (by rw [i2.length]; exact hy.1) (by decide), fun p hp => q _ _ _ hy.2 (S2.new hp) (e2.trans (Fx.new hp)) (.lst (S2.newM hp) upd_same (S2.iss (Fx.new hp) i2))⟩
theorem is_bl {st : Addr} {M : List Addr} {H : Hp} {v : V} {b : Bool} (h : Is st M H v (.bl b)) : v = .bl b := by cases h; rfl
theorem is_int {st : Addr} {M : List Addr} {H : Hp} {v : V} {b : Int} (h : Is st M H v (.int b)) : v = .int b := by cases h; rfl
theorem is_str {st : Addr} {M : List Addr} {H : Hp} {v : V} {b : List Nat} (h : Is st M H v (.str b)) : v = .str ⟨b.toArray⟩ := by cases h; rfl
theorem is_non {st : Addr} {M : List Addr} {H : Hp} {v : V} (h : Is st M H v .non) : v = .non := by cases h; rfl
theorem is_tup {st : Addr} {M : List Addr} {H : Hp} {v : V} {ds : List D} (h : Is st M H v (.tup ds)) : ∃ p vs, v = .ref p ∧ H p = some (.tup vs) ∧ Iss st M H vs ds := by cases h with | tup h hs => exact ⟨_, _, rfl, h, hs⟩
theorem is_ptp {st : Addr} {M : List Addr} {H : Hp} {v : V} {ds : List D} (h : Is st M H v (.ptp ds)) : ∃ p vs o, v = .ref p ∧ H p = some (.frz o (.tup vs)) ∧ (o.cls = .type "tuple" ∧ o.dict = none) ∧ Iss st M H vs ds := by cases h with | ptp hm h hc hs => exact ⟨_, _, _, rfl, h, hc, hs⟩
/-- a tuple, read -/
def SqD : D → List D → Prop
  | .tup l, ds => l = ds
  | .ptp l, ds => l = ds
  | _, _ => False
theorem _root_.L2.SqT.ofF {K : PySem.W.Frag} {H : Hp} {p : Addr} {o : Obj} {vs : List V} (h : H p = some (.frz o (.tup vs))) : SqT K H p vs := .inl (.inr ⟨_, h⟩)
theorem is_sq {K : PySem.W.Frag} {st : Addr} {M : List Addr} {H : Hp} {v : V} {d : D} {ds : List D} (hd : SqD d ds) (h : Is st M H v d) : ∃ p vs, v = .ref p ∧ SqT K H p vs ∧ Iss st M H vs ds := by
  cases h with
  | tup h hs => cases hd; exact ⟨_, _, rfl, .of h, hs⟩
  | ptp hm h hc hs => cases hd; exact ⟨_, _, rfl, .ofF h, hs⟩
  | _ => exact hd.elim
theorem is_lst {st : Addr} {M : List Addr} {H : Hp} {v : V} {ds : List D} (h : Is st M H v (.lst ds)) : ∃ p vs, v = .ref p ∧ p ∉ M ∧ H p = some (.lst vs) ∧ Iss st M H vs ds := by cases h with | lst hm h hs => exact ⟨_, _, rfl, hm, h, hs⟩
/-! tests -/
theorem dt_test {postb : Bool → Prop} (h : De te env fun x => ∃ b, x = .bl b ∧ postb b) : Dt (tTest te) env postb := fun B M σ H S Q q =>
  h B M σ H S _ fun v H1 x ⟨b, e, hb⟩ S1 e1 i1 => by
    subst e
    exact ⟨b, is_bl i1, q b H1 hb S1 e1⟩
theorem dt_B {postb : Bool → Prop} (h : De te env fun x => ∃ b, x = .bl b ∧ postb b) : Dt (tB te) env postb := fun B M σ H S Q q =>
  h B M σ H S _ fun v H1 x ⟨b, e, hb⟩ S1 e1 i1 => by
    subst e
    exact ⟨b, is_bl i1, q b H1 hb S1 e1⟩
theorem dt_and {postb : Bool → Prop} (h : Dt t env fun b => if b = true then Dt u env postb else postb false) : Dt (tAnd t u) env postb := fun B M σ H S Q q =>
  h B M σ H S _ fun b H1 hb S1 e1 => by
    cases b with
    | true => exact hb B M σ H1 S1 Q fun b2 H2 h2 S2 e2 => q b2 H2 h2 S2 (e1.trans e2)
    | false => exact q false H1 hb S1 e1
theorem dt_or {postb : Bool → Prop} (h : Dt t env fun b => if b = true then postb true else Dt u env postb) : Dt (tOr t u) env postb := fun B M σ H S Q q =>
  h B M σ H S _ fun b H1 hb S1 e1 => by
    cases b with
    | false => exact hb B M σ H1 S1 Q fun b2 H2 h2 S2 e2 => q b2 H2 h2 S2 (e1.trans e2)
    | true => exact q true H1 hb S1 e1
theorem dt_not {postb : Bool → Prop} (h : Dt t env fun b => postb (!b)) : Dt (tNot t) env postb := fun B M σ H S Q q =>
  h B M σ H S _ fun b H1 hb S1 e1 => q _ H1 hb S1 e1
theorem de_andV (h : De ta env fun x => ∃ b, x = .bl b ∧ if b = true then De tb env post else post (.bl false)) : De (tAndV ta tb) env post := fun B M σ H S Q q =>
  h B M σ H S _ fun v H1 x ⟨b, e, hb⟩ S1 e1 i1 => by
    subst e
    refine ⟨b, is_bl i1, ?_⟩
    cases b with
    | true => exact hb B M σ H1 S1 Q fun v2 H2 d h2 S2 e2 => q v2 H2 d h2 S2 (e1.trans e2)
    | false => exact q _ H1 _ hb S1 e1 (.bl false)
theorem de_orV (h : De ta env fun x => ∃ b, x = .bl b ∧ if b = true then post (.bl true) else De tb env post) : De (tOrV ta tb) env post := fun B M σ H S Q q =>
  h B M σ H S _ fun v H1 x ⟨b, e, hb⟩ S1 e1 i1 => by
    subst e
    refine ⟨b, is_bl i1, ?_⟩
    cases b with
    | false => exact hb B M σ H1 S1 Q fun v2 H2 d h2 S2 e2 => q v2 H2 d h2 S2 (e1.trans e2)
    | true => exact q _ H1 _ hb S1 e1 (.bl true)
theorem de_notV (h : De ta env fun x => ∃ b, x = .bl b ∧ post (.bl (!b))) : De (tNotV ta) env post := fun B M σ H S Q q =>
  h B M σ H S _ fun v H1 x ⟨b, e, hb⟩ S1 e1 i1 => by
    subst e
    exact ⟨b, is_bl i1, q _ H1 _ hb S1 e1 (.bl (!b))⟩
theorem de_if (h : Dt t env fun b => if b = true then De ta env post else De tb env post) : De (tIf t ta tb) env post := fun B M σ H S Q q =>
  h B M σ H S _ fun b H1 hb S1 e1 => by
    cases b with
    | true => exact hb B M σ H1 S1 Q fun v2 H2 d h2 S2 e2 => q v2 H2 d h2 S2 (e1.trans e2)
    | false => exact hb B M σ H1 S1 Q fun v2 H2 d h2 S2 e2 => q v2 H2 d h2 S2 (e1.trans e2)
theorem de_chain (h : De ta env fun x => De tb env fun y => Dop r x y fun z => ∃ b, z = .bl b ∧ if b = true then De tc env (fun w => Dop r' y w post) else post (.bl false)) : De (tChain r r' ta tb tc) env post := by
  intro B M σ H S Q q
  refine h B M σ H S _ fun v H1 x hx S1 e1 i1 => hx B M σ H1 S1 _ fun w H2 y hy S2 e2 i2 => ?_
  refine hy B.st M H2 v w S2.stm S2.stM S2.trk (S1.is e2 i1) i2 _ fun z H3 d hd e3 i3 => ?_
  obtain ⟨b, eb, hb⟩ := hd
  subst eb
  have S3 := S2.fx e3
  refine ⟨b, is_bl i3, ?_⟩
  cases b with
  | true =>
    refine hb B M σ H3 S3 _ fun w2 H4 y2 hy2 S4 e4 i4 => ?_
    refine hy2 B.st M H4 w w2 S4.stm S4.stM S4.trk (S3.is e4 (S2.is e3 i2)) i4 Q fun z5 H5 d5 hd5 e5 i5 => ?_
    exact q z5 H5 d5 hd5 (S4.fx e5) ((((e1.trans e2).trans e3).trans e4).trans e5) i5
  | false => exact q _ H3 _ hb S3 ((e1.trans e2).trans e3) (.bl false)
/-- truth -/
def tTruD (K : PySem.W.Frag) (te : TE) : TT := fun σ H Q => te σ H fun x H' => ∃ k, TruV K x H' k ∧ Q k H'
def dTru : D → Option Bool
  | .non => some false
  | .bl b => some b
  | .int i => some (i != 0)
  | .str s => some (!s.isEmpty)
  | .lst ds => some (!ds.isEmpty)
  | .tup ds => some (!ds.isEmpty)
  | .ptp ds => some (!ds.isEmpty)
  | _ => none
end
end DL

namespace DL
open PySem PySem.Spec PyProof.Rows L2

section
variable {B : Bs} {M M' : List Addr} {H H' : Hp} {σ : L2.St} {env env' : Nv} {nx : Nv → Prop} {rt : D → Prop} {bk ct : Nv → Prop} {t u : TS} {c : TT} {te ta tb : TE} {tas : TA} {post : D → Prop} {K : PySem.W.Frag}
theorem ds_seq (h : Ds t env (fun e => Ds u e nx rt bk ct) rt bk ct) : Ds (tSeq t u) env nx rt bk ct := fun B M σ H S E q1 q2 q3 q4 =>
  h B M σ H S _ (fun M' σ' H' e' he S' => he B M' σ' H' S' E q1 q2 q3 q4) q2 q3 q4
theorem ds_mid (Mid : Nv → Prop) (h : Ds t env Mid rt bk ct) (k : ∀ e, Mid e → nx e) : Ds t env nx rt bk ct := fun B M σ H S E q1 q2 q3 q4 =>
  h B M σ H S E (fun M' σ' H' e' he S' => q1 M' σ' H' e' (k e' he) S') q2 q3 q4
theorem ds_cut (h : Ds t env (fun e => Ds u e nx rt bk ct) rt bk ct) : Ds (Evl.tCut t u) env nx rt bk ct := fun B M σ H S E q1 q2 q3 q4 =>
  ⟨fun σ' H' => u E σ' H', h B M σ H S _ (fun M' σ' H' e' he S' => he B M' σ' H' S' E q1 q2 q3 q4) q2 q3 q4, fun _ _ z => z⟩
theorem ds_next (h : nx env) : Ds tNext env nx rt bk ct := fun B M σ H S E q1 q2 q3 q4 => q1 M σ H env h S
theorem ds_brk (h : bk env) : Ds tBreak env nx rt bk ct := fun B M σ H S E q1 q2 q3 q4 => q3 M σ H env h S
theorem ds_cont (h : ct env) : Ds tCont env nx rt bk ct := fun B M σ H S E q1 q2 q3 q4 => q4 M σ H env h S
theorem ds_if (h : Dt c env fun b => if b = true then Ds t env nx rt bk ct else Ds u env nx rt bk ct) : Ds (tIfS c t u) env nx rt bk ct := fun B M σ H S E q1 q2 q3 q4 =>
  h B M σ H S _ fun b H1 hb S1 e1 => by
    cases b with
    | true => exact hb B M σ H1 S1 E q1 q2 q3 q4
    | false => exact hb B M σ H1 S1 E q1 q2 q3 q4
theorem ds_ret (h : De te env rt) : Ds (tRet te) env nx rt bk ct := fun B M σ H S E q1 q2 q3 q4 =>
  h B M σ H S _ fun v H1 d hd S1 e1 i1 => q2 v H1 d hd S1.keep (i1.mono S1.sub S1.stM (Fx.refl _ _) S1.nt)
theorem ds_retN (h : rt .non) : Ds tRetN env nx rt bk ct := fun B M σ H S E q1 q2 q3 q4 => q2 .non H .non h S.keep .non
theorem ds_drop (h : De te env fun _ => nx env) : Ds (tDrop te) env nx rt bk ct := fun B M σ H S E q1 q2 q3 q4 =>
  h B M σ H S _ fun v H1 d hd S1 e1 i1 => q1 M σ H1 env hd S1
theorem Sr.set (S : Sr B M σ H env) {i : Nat} {v : V} {d : D} (h : Is B.st M H v d) : Sr B M (σ.set i (some v)) H (env.set i (.dat d)) where
  stm := S.stm
  stM := S.stM
  keep := S.keep
  sub := S.sub
  fresh := S.fresh
  trk := S.trk
  st0 := S.st0
  trk0 := S.trk0
  len := by rw [List.length_set, List.length_set, S.len]
  dat := fun j e hj => by
    by_cases q : i = j
    · subst q
      have hl : i < env.length := by
        have := (List.getElem?_eq_some_iff.mp hj).1
        rwa [List.length_set] at this
      rw [List.getElem?_set_self hl] at hj
      cases hj
      exact ⟨v, by rw [List.getElem?_set_self (by rw [S.len]; exact hl)], h⟩
    · rw [List.getElem?_set_ne q] at hj
      rw [List.getElem?_set_ne q]
      exact S.dat j e hj
  own := fun j o hj => by
    by_cases q : i = j
    · subst q
      have hl : i < env.length := by
        have := (List.getElem?_eq_some_iff.mp hj).1
        rwa [List.length_set] at this
      rw [List.getElem?_set_self hl] at hj
      cases hj
    · rw [List.getElem?_set_ne q] at hj
      rw [List.getElem?_set_ne q]
      exact S.own j o hj
  inj := fun j k p o u hj hk h1 h2 => by
    have nj : i ≠ j := fun q => by
      subst q
      have hl : i < env.length := by
        have := (List.getElem?_eq_some_iff.mp hj).1
        rwa [List.length_set] at this
      rw [List.getElem?_set_self hl] at hj
      cases hj
    have nk : i ≠ k := fun q => by
      subst q
      have hl : i < env.length := by
        have := (List.getElem?_eq_some_iff.mp hk).1
        rwa [List.length_set] at this
      rw [List.getElem?_set_self hl] at hk
      cases hk
    rw [List.getElem?_set_ne nj] at hj h1
    rw [List.getElem?_set_ne nk] at hk h2
    exact S.inj j k p o u hj hk h1 h2
  hid := S.hid
theorem ds_set {i : Nat} (h : De te env fun d => nx (env.set i (.dat d))) : Ds (tAsg te (gName i)) env nx rt bk ct := fun B M σ H S E q1 q2 q3 q4 =>
  h B M σ H S _ fun v H1 d hd S1 e1 i1 => q1 M _ H1 _ hd (S1.set i1)
/-- name op= e -/
theorem ds_aug {i : Nat} {f : Int → Int → Int} {a : Int} (ha : env[i]? = some (.dat (.int a))) (h : De te env fun d => ∃ b, d = .int b ∧ nx (env.set i (.dat (.int (f a b))))) : Ds (tAug i te (ipI f)) env nx rt bk ct := fun B M σ H S E q1 q2 q3 q4 => by
  obtain ⟨x, h1, h2⟩ := S.dat i _ ha
  cases is_int h2
  refine ⟨.int a, h1, h B M σ H S _ fun v H1 d hd S1 e1 i1 => ?_⟩
  obtain ⟨b, rfl, hd⟩ := hd
  cases is_int i1
  exact ⟨a, b, rfl, rfl, q1 M _ H1 _ hd (S1.set (.int _))⟩

/-! ### lists of one's own -/
def toD : Ow → D
  | .lst ds => .lst ds
  | .dK kvs => .dK kvs
  | .dT kvs => .dT kvs
  | .dKx ks ds => .dKx ks ds
  | .dTx ks ds => .dTx ks ds
theorem OwOk.is {st p : Addr} {h : HO} {o : Ow} (k : OwOk st M H h o) (hp : p ∉ M) (e : H p = some h) : Is st M H (.ref p) (toD o) := by
  cases k with
  | lst hs => exact .lst hp e hs
  | dK hf => exact .dK hp e hf
  | dT hf => exact .dT hp e hf
  | dKx hl hs => exact .dKx hp e hl hs
  | dTx hl hs => exact .dTx hp e hl hs
theorem OwOk.mono {st : Addr} (hM : ∀ b ∈ M', b ∈ M) (hS : st ∈ M) (e : Fx st H H') (ht : ∀ vs, H st ≠ some (.tup vs)) {h : HO} {o : Ow} (k : OwOk st M H h o) : OwOk st M' H' h o := by
  cases k with
  | lst h => exact .lst (h.mono hM hS e ht)
  | dK hf => exact .dK hf
  | dT hf => exact .dT hf
  | dKx hl hs => exact .dKx hl (hs.mono hM hS e ht)
  | dTx hl hs => exact .dTx hl (hs.mono hM hS e ht)
/-- a fresh object comes, reached by nothing -/
def DeN (te : TE) (env : Nv) (post : Ow → Prop) : Prop := ∀ B M σ H, Sr B M σ H env → ∀ Q : VK,
  (∀ p H' h o, post o → Sr B (p :: M) σ H' env → Fx B.st H H' → H' p = some h → OwOk B.st (p :: M) H' h o → H p = none → Q (.ref p) H') → te σ H Q
theorem Sr.less (S : Sr B M σ H env) (hs : ∀ b ∈ M', b ∈ M) (h0 : ∀ b ∈ B.M0, b ∈ M') (ho : ∀ (i : Nat) o p, env[i]? = some (.own o) → σ[i]? = some (some (.ref p)) → p ∈ M') : Sr B M' σ H env where
  stm := S.stm.fx (Fx.refl _ _) hs
  stM := h0 _ S.st0
  keep := S.keep
  sub := h0
  fresh := fun b hb => S.fresh b (hs b hb)
  trk := fun b hb => S.trk b (hs b hb)
  st0 := S.st0
  trk0 := S.trk0
  len := S.len
  dat := fun i d h => by
    obtain ⟨v, h1, h2⟩ := S.dat i d h
    exact ⟨v, h1, h2.mono hs S.stM (Fx.refl _ _) S.nt⟩
  own := fun i o h => by
    obtain ⟨p, u, h1, h2, h3, h4, h5⟩ := S.own i o h
    exact ⟨p, u, h1, ho i o p h h1, h3, h4, h5.mono hs S.stM (Fx.refl _ _) S.nt⟩
  inj := S.inj
  hid := fun x hx => (S.hid x hx).mono hs S.stM (Fx.refl _ _) S.nt
theorem de_ofN (h : DeN te env fun o => post (toD o)) : De te env post := fun B M σ H S Q q =>
  h B M σ H S Q fun p H' u o hp S' e hu ko hn => by
    have nM : p ∉ M := S.newM hn
    have sub : ∀ b ∈ M, b ∈ p :: M := fun b hb => List.mem_cons_of_mem _ hb
    exact q _ H' _ hp (S'.less sub S.sub fun i o' p' h1 h2 => by
      obtain ⟨p2, _, g1, g2, _⟩ := S.own i o' h1
      rw [h2] at g1
      cases g1
      exact g2) e ((ko.mono sub S'.stM (Fx.refl _ _) S'.nt).is nM hu)
/-- a slot is given up -/
def Nv.free (env : Nv) (i : Nat) : Nv := env.set i .any
theorem Sr.any (S : Sr B M σ H env) {i : Nat} {v : Option V} : Sr B M (σ.set i v) H (env.set i .any) where
  stm := S.stm
  stM := S.stM
  keep := S.keep
  sub := S.sub
  fresh := S.fresh
  trk := S.trk
  st0 := S.st0
  trk0 := S.trk0
  len := by rw [List.length_set, List.length_set, S.len]
  dat := fun j e hj => by
    by_cases q : i = j
    · subst q
      have hl : i < env.length := by
        have := (List.getElem?_eq_some_iff.mp hj).1
        rwa [List.length_set] at this
      rw [List.getElem?_set_self hl] at hj
      cases hj
    · rw [List.getElem?_set_ne q] at hj
      rw [List.getElem?_set_ne q]
      exact S.dat j e hj
  own := fun j o hj => by
    by_cases q : i = j
    · subst q
      have hl : i < env.length := by
        have := (List.getElem?_eq_some_iff.mp hj).1
        rwa [List.length_set] at this
      rw [List.getElem?_set_self hl] at hj
      cases hj
    · rw [List.getElem?_set_ne q] at hj
      rw [List.getElem?_set_ne q]
      exact S.own j o hj
  inj := fun j k p o u hj hk h1 h2 => by
    have nj : i ≠ j := fun q => by
      subst q
      have hl : i < env.length := by
        have := (List.getElem?_eq_some_iff.mp hj).1
        rwa [List.length_set] at this
      rw [List.getElem?_set_self hl] at hj
      cases hj
    have nk : i ≠ k := fun q => by
      subst q
      have hl : i < env.length := by
        have := (List.getElem?_eq_some_iff.mp hk).1
        rwa [List.length_set] at this
      rw [List.getElem?_set_self hl] at hk
      cases hk
    rw [List.getElem?_set_ne nj] at hj h1
    rw [List.getElem?_set_ne nk] at hk h2
    exact S.inj j k p o u hj hk h1 h2
  hid := S.hid
/-- what is known of slots may be forgotten -/
theorem Sr.weak (S : Sr B M σ H env) (hl : env'.length = env.length) (h : ∀ (i : Nat) s, env'[i]? = some s → s = .any ∨ env[i]? = some s) : Sr B M σ H env' where
  stm := S.stm
  stM := S.stM
  keep := S.keep
  sub := S.sub
  fresh := S.fresh
  trk := S.trk
  st0 := S.st0
  trk0 := S.trk0
  len := S.len.trans hl.symm
  dat := fun j e hj => (h j _ hj).elim (fun z => nomatch z) fun z => S.dat j e z
  own := fun j e hj => (h j _ hj).elim (fun z => nomatch z) fun z => S.own j e z
  inj := fun j k p o u hj hk => S.inj j k p o u ((h j _ hj).elim (fun z => nomatch z) id) ((h k _ hk).elim (fun z => nomatch z) id)
  hid := S.hid
/-- a slot takes a fresh object for its own -/
theorem Sr.setN (S : Sr B (p :: M) σ H env) (S0 : Sr B M σ H' env) {i : Nat} (hn : H' p = none) {h : HO} {o : Ow} (e : H p = some h) (k : OwOk B.st (p :: M) H h o) : Sr B (p :: M) (σ.set i (some (.ref p))) H (env.set i (.own o)) := by
  have A := S.any (i := i) (v := some (.ref p))
  have ne : ∀ (j : Nat) u q, env[j]? = some (.own u) → σ[j]? = some (some (.ref q)) → q ≠ p := fun j u q h1 h2 z => by
    obtain ⟨p2, x, g1, g2, g3, g4, g5⟩ := S0.own j u h1
    rw [h2] at g1
    cases g1
    rw [z, hn] at g4
    cases g4
  have set_at : ∀ {α : Type} {l : List α} {j : Nat} {x y : α}, (l.set i x)[j]? = some y → (j = i ∧ y = x) ∨ (j ≠ i ∧ l[j]? = some y) := fun {α l j x y} hj => by
    by_cases q : i = j
    · subst q
      have hl : i < l.length := by
        have := (List.getElem?_eq_some_iff.mp hj).1
        rwa [List.length_set] at this
      rw [List.getElem?_set_self hl] at hj
      exact .inl ⟨rfl, (Option.some.inj hj).symm⟩
    · rw [List.getElem?_set_ne q] at hj
      exact .inr ⟨fun z => q z.symm, hj⟩
  refine ⟨A.stm, A.stM, A.keep, A.sub, A.fresh, A.trk, A.st0, A.trk0, by rw [List.length_set, List.length_set, S.len], fun j d hj => ?_, fun j u hj => ?_, fun j l q u w hj hk h1 h2 => ?_, A.hid⟩
  · rcases set_at hj with ⟨_, z⟩ | ⟨nj, hj⟩
    · cases z
    · rw [List.getElem?_set_ne (fun z => nj z.symm)]
      exact S.dat j d hj
  · rcases set_at hj with ⟨rfl, z⟩ | ⟨nj, hj'⟩
    · cases z
      have hl : j < env.length := by
        have := (List.getElem?_eq_some_iff.mp hj).1
        rwa [List.length_set] at this
      refine ⟨p, h, by rw [List.getElem?_set_self (by rw [S.len]; exact hl)], List.mem_cons_self, fun z => ?_, e, k⟩
      obtain ⟨x, hx⟩ := S0.trk p (S0.sub p z)
      rw [hn] at hx
      cases hx
    · rw [List.getElem?_set_ne (fun z => nj z.symm)]
      exact S.own j u hj'
  · rcases set_at hj with ⟨rfl, _⟩ | ⟨nj, hj'⟩
    · rcases set_at hk with ⟨rfl, _⟩ | ⟨nk, hk'⟩
      · rfl
      · rw [List.getElem?_set_ne (fun z => nk z.symm)] at h2
        have hl : j < σ.length := by
          have := (List.getElem?_eq_some_iff.mp h1).1
          rwa [List.length_set] at this
        rw [List.getElem?_set_self hl] at h1
        cases h1
        exact absurd rfl (ne l w p hk' h2)
    · rw [List.getElem?_set_ne (fun z => nj z.symm)] at h1
      rcases set_at hk with ⟨rfl, _⟩ | ⟨nk, hk'⟩
      · have hl : l < σ.length := by
          have := (List.getElem?_eq_some_iff.mp h2).1
          rwa [List.length_set] at this
        rw [List.getElem?_set_self hl] at h2
        cases h2
        exact absurd rfl (ne j u p hj' h1)
      · rw [List.getElem?_set_ne (fun z => nk z.symm)] at h2
        exact S.inj j l q u w hj' hk' h1 h2
theorem ds_setN {i : Nat} (h : DeN te env fun o => nx (env.set i (.own o))) : Ds (tAsg te (gName i)) env nx rt bk ct := fun B M σ H S E q1 q2 q3 q4 =>
  h B M σ H S _ fun p H' u o hp S' e hu ko hn => q1 _ _ H' _ hp (S'.setN S hn hu ko)
/-- a new object is laid and taken into M -/
theorem Sr.newIn (S2 : Sr B M σ H env) {p : Addr} (hn : H p = none) (o : HO) : Sr B (p :: M) σ (upd H p o) env := by
  have S3 : Sr B M σ (upd H p o) env := S2.new hn
  have hk : ∀ b ∈ (p :: M), b ∈ B.M0 ∨ B.H0 b = none := fun b hb => (List.mem_cons.mp hb).elim (fun z => .inr (z ▸ S2.new0 hn)) (S2.fresh b)
  have mo : ∀ {v : V} {d : D}, Is B.st M H v d → Is B.st (p :: M) (upd H p o) v d := fun h => (h.more hn).mono (fun _ z => z) (List.mem_cons_of_mem _ S2.stM) (Fx.new hn) S2.nt
  have moo : ∀ {v : List V} {d : List D}, Iss B.st M H v d → Iss B.st (p :: M) (upd H p o) v d := fun h => (h.more hn).mono (fun _ z => z) (List.mem_cons_of_mem _ S2.stM) (Fx.new hn) S2.nt
  have ne : p ≠ B.st := fun z => S2.newM hn (z ▸ S2.stM)
  refine ⟨?_, List.mem_cons_of_mem _ S2.stM, S3.keep, fun b hb => List.mem_cons_of_mem _ (S2.sub b hb), hk, fun b hb => ?_, S2.st0, S2.trk0, S2.len, fun i d hd => ?_, fun i u ho => ?_, S2.inj, fun x hx => mo (S2.hid x hx)⟩
  · obtain ⟨a, ns, c, k, h1, h2, h3, h4, h5⟩ := S3.stm
    refine ⟨a, ns, c, k, fun z => (List.mem_cons.mp z).elim (fun z => ?_) h1, h2, h3, h4, h5⟩
    obtain ⟨a', ns', c', k', g1, g2, g3, g4, g5⟩ := S2.stm
    have h3' : H B.st = some (.lst [.ref a, .int c, .int k]) := by
      rw [← h3, upd_ne (fun z => ne z.symm)]
    rw [h3'] at g3
    have : a = a' := by injection g3 with g3; injection g3 with g3; injection g3 with g3 _; injection g3
    rw [← this, z, hn] at g4
    cases g4
  · by_cases z : b = p
    · subst z
      exact ⟨o, upd_same⟩
    · exact S3.trk b ((List.mem_cons.mp hb).resolve_left z)
  · obtain ⟨v, h1, h2⟩ := S2.dat i d hd
    exact ⟨v, h1, mo h2⟩
  · obtain ⟨p', u', h1, h2, h3, h4, h5⟩ := S2.own i u ho
    refine ⟨p', u', h1, List.mem_cons_of_mem _ h2, h3, by rw [upd_ne (ne_of_none h4 hn)]; exact h4, ?_⟩
    cases h5 with
    | lst h => exact .lst (moo h)
    | dK hf => exact .dK hf
    | dT hf => exact .dT hf
    | dKx hl hs => exact .dKx hl (moo hs)
    | dTx hl hs => exact .dTx hl (moo hs)
theorem Sr.newIs (S2 : Sr B M σ H env) {p : Addr} (hn : H p = none) (o : HO) {v : List V} {d : List D} (h : Iss B.st M H v d) : Iss B.st (p :: M) (upd H p o) v d :=
  (h.more hn).mono (fun _ z => z) (List.mem_cons_of_mem _ S2.stM) (Fx.new hn) S2.nt
theorem fresh_back {H H' : Hp} {p st : Addr} (e : Fx st H H') (ne : p ≠ st) (h : H' p = none) : H p = none := by
  cases z : H p with
  | none => rfl
  | some o =>
    rw [e.1 p o ne z] at h
    cases h
theorem Sr.nst (S : Sr B M σ H env) {p : Addr} (hn : H p = none) : p ≠ B.st := fun z => S.newM hn (z ▸ S.stM)
theorem den_lst {postN : Ow → Prop} (h : Da tas env fun xs => xs.length ≤ 1000000 ∧ postN (.lst xs)) : DeN (tLst tas) env postN := fun B M σ H S Q q =>
  h B M σ H S _ fun vs H2 xs hy S2 e2 i2 => ⟨Nat.le_trans (by rw [i2.length]; exact hy.1) (by decide), fun p hn =>
    q p _ (.lst vs) (.lst xs) hy.2 (S2.newIn hn _) (e2.trans (Fx.new hn)) upd_same (.lst (S2.newIs hn _ i2)) (fresh_back e2 (S2.nst hn) hn)⟩

/-! ### giving up what is one's own; looking at it -/
theorem Sr.rel (S : Sr B M σ H env) {i : Nat} {o : Ow} (hi : env[i]? = some (.own o)) : ∃ M', (∀ b ∈ M', b ∈ M) ∧ Sr B M' σ H (env.set i (.dat (toD o))) ∧ ∀ b ∈ M, b ∉ M' → σ[i]? = some (some (.ref b)) := by
  obtain ⟨p, u, h1, h2, h3, h4, h5⟩ := S.own i o hi
  have hl : i < env.length := (List.getElem?_eq_some_iff.mp hi).1
  have hM : ∀ b ∈ M.filter (fun b => decide (b ≠ p)), b ∈ M := fun b hb => (List.mem_filter.mp hb).1
  have h0 : ∀ b ∈ B.M0, b ∈ M.filter (fun b => decide (b ≠ p)) := fun b hb => List.mem_filter.mpr ⟨S.sub b hb, decide_eq_true fun z => h3 (z ▸ hb)⟩
  have S1 : Sr B M σ H (env.set i .any) := S.weak (by rw [List.length_set]) fun j s hj => by
    by_cases q : i = j
    · subst q
      rw [List.getElem?_set_self hl] at hj
      exact .inl (Option.some.inj hj).symm
    · rw [List.getElem?_set_ne q] at hj
      exact .inr hj
  have S2 : Sr B (M.filter fun b => decide (b ≠ p)) σ H (env.set i .any) := S1.less hM h0 fun j w q h6 h7 => by
    by_cases z : i = j
    · subst z
      rw [List.getElem?_set_self hl] at h6
      cases h6
    · rw [List.getElem?_set_ne z] at h6
      obtain ⟨p2, u2, g1, g2, g3, g4, g5⟩ := S.own j w h6
      rw [h7] at g1
      cases g1
      exact List.mem_filter.mpr ⟨g2, decide_eq_true fun y => z (S.inj i j p o w hi h6 h1 (y ▸ h7))⟩
  have hp : p ∉ M.filter (fun b => decide (b ≠ p)) := fun z => (of_decide_eq_true (List.mem_filter.mp z).2) rfl
  have S3 := S2.set (i := i) ((h5.mono hM S.stM (Fx.refl _ _) S.nt).is hp h4)
  refine ⟨_, hM, ?_, fun b hb hn => ?_⟩
  · rw [List.set_set] at S3
    have e : σ.set i (some (.ref p)) = σ := by
      apply List.ext_getElem?
      intro j
      by_cases q : i = j
      · subst q
        rw [List.getElem?_set_self (by rw [S.len]; exact hl), h1]
      · rw [List.getElem?_set_ne q]
    rw [e] at S3
    exact S3
  · have : b = p := Decidable.byContradiction fun z => hn (List.mem_filter.mpr ⟨hb, decide_eq_true z⟩)
    rw [this]
    exact h1
theorem ds_rel (i : Nat) {o : Ow} (hi : env[i]? = some (.own o)) (h : Ds t (env.set i (.dat (toD o))) nx rt bk ct) : Ds t env nx rt bk ct := fun B M σ H S E q1 q2 q3 q4 => by
  obtain ⟨M', _, S', _⟩ := S.rel hi
  exact h B M' σ H S' E q1 q2 q3 q4
/-- flat data reach nothing -/
def flatD : D → Prop
  | .non => True
  | .bl _ => True
  | .int _ => True
  | .str _ => True
  | .ty _ => True
  | _ => False
theorem Is.flat {st : Addr} {v : V} {d : D} (h : Is st M H v d) (f : flatD d) : Is st M' H' v d := by
  cases h with
  | non => exact .non
  | bl b => exact .bl b
  | int b => exact .int b
  | str b => exact .str b
  | ty b => exact .ty b
  | _ => exact f.elim
theorem de_look (i : Nat) {o : Ow} (hi : env[i]? = some (.own o)) (h : De te (env.set i (.dat (toD o))) fun d => flatD d ∧ post d) : De te env post := fun B M σ H S Q q => by
  obtain ⟨M', hM, S', _⟩ := S.rel hi
  exact h B M' σ H S' Q fun v H1 d hd S1 e1 i1 => q v H1 d hd.2 (S.fx e1) e1 (i1.flat hd.1)
theorem dt_look (i : Nat) {o : Ow} (hi : env[i]? = some (.own o)) {postb : Bool → Prop} (h : Dt c (env.set i (.dat (toD o))) postb) : Dt c env postb := fun B M σ H S Q q => by
  obtain ⟨M', hM, S', _⟩ := S.rel hi
  exact h B M' σ H S' Q fun b H1 hb S1 e1 => q b H1 hb (S.fx e1) e1
/-- what is one's own changes -/
theorem Sr.mutate (S : Sr B M σ H env) {i : Nat} {o o' : Ow} {p : Addr} {h h' : HO} (hi : env[i]? = some (.own o)) (hσ : σ[i]? = some (some (.ref p))) (hp : H p = some h) (k : OwOk B.st M H h o) (k' : OwOk B.st M H h' o') : Sr B M σ (upd H p h') (env.set i (.own o')) := by
  obtain ⟨p2, u, h1, h2, h3, h4, h5⟩ := S.own i o hi
  rw [hσ] at h1
  cases h1
  rw [hp] at h4
  cases h4
  have hl : i < env.length := (List.getElem?_eq_some_iff.mp hi).1
  have ne : p ≠ B.st := fun z => h3 (z ▸ S.st0)
  have nt : ∀ vs, H p ≠ some (.tup vs) := fun vs z => by
    rw [hp] at z
    exact k.notup vs (Option.some.inj z)
  have mo : ∀ {h : HO} {o : Ow}, OwOk B.st M H h o → OwOk B.st M (upd H p h') h o := fun k => by
    cases k with
    | lst h => exact .lst (h.upd h2 nt)
    | dK hf => exact .dK hf
    | dT hf => exact .dT hf
    | dKx hl hs => exact .dKx hl (hs.upd h2 nt)
    | dTx hl hs => exact .dTx hl (hs.upd h2 nt)
  refine ⟨?_, S.stM, ⟨fun b u hb e => ?_, fun a c k q1 q2 e => ?_⟩, S.sub, S.fresh, fun b hb => ?_, S.st0, S.trk0, by rw [List.length_set]; exact S.len, fun j d hj => ?_, fun j w hj => ?_, fun j l q w x hj hk g1 g2 => ?_, fun x hx => (S.hid x hx).upd h2 nt⟩
  · obtain ⟨a, ns, c, k, g1, g2, g3, g4, g5⟩ := S.stm
    refine ⟨a, ns, c, k, g1, g2, by rw [upd_ne (fun z => ne z.symm)]; exact g3, by rw [upd_ne (fun z => g1 (by rw [z]; exact h2))]; exact g4, g5⟩
  · have nb : b ≠ p := fun z => by
      rcases S.fresh p h2 with y | y
      · exact h3 y
      · rw [z, y] at e
        cases e
    rw [upd_ne nb]
    exact S.keep.1 b u hb e
  · obtain ⟨c', k', r1, r2, r3⟩ := S.keep.2 a c k q1 q2 e
    exact ⟨c', k', r1, r2, by rw [upd_ne (fun z => ne z.symm)]; exact r3⟩
  · by_cases z : b = p
    · exact ⟨h', by rw [z, upd_same]⟩
    · rw [upd_ne z]
      exact S.trk b hb
  · by_cases q : i = j
    · subst q
      rw [List.getElem?_set_self hl] at hj
      cases hj
    · rw [List.getElem?_set_ne q] at hj
      obtain ⟨v, g1, g2⟩ := S.dat j d hj
      exact ⟨v, g1, g2.upd h2 nt⟩
  · by_cases q : i = j
    · subst q
      rw [List.getElem?_set_self hl] at hj
      cases hj
      exact ⟨p, h', hσ, h2, h3, upd_same, mo k'⟩
    · rw [List.getElem?_set_ne q] at hj
      obtain ⟨p3, u3, g1, g2, g3, g4, g5⟩ := S.own j w hj
      refine ⟨p3, u3, g1, g2, g3, by rw [upd_ne (fun z => q (S.inj i j p o w hi hj hσ (by rw [← z]; exact g1)))]; exact g4, mo g5⟩
  · have back : ∀ {j : Nat} {w : Ow}, (env.set i (.own o'))[j]? = some (.own w) → ∃ w', env[j]? = some (.own w') := fun {j w} hj => by
      by_cases q : i = j
      · subst q
        exact ⟨o, hi⟩
      · rw [List.getElem?_set_ne q] at hj
        exact ⟨w, hj⟩
    obtain ⟨w1, e1⟩ := back hj
    obtain ⟨w2, e2⟩ := back hk
    exact S.inj j l q w1 w2 e1 e2 g1 g2
/-- xs.append(e) -/
theorem ds_append {i : Nat} {ds : List D} (hi : env[i]? = some (.own (.lst ds))) (hz : ds.length < 1000000) (h : De te env fun d => nx (env.set i (.own (.lst (ds ++ [d]))))) : Ds (tDrop (tBM K "list" rAppend (tVar i) (tCons te tNil))) env nx rt bk ct := fun B M σ H S E q1 q2 q3 q4 => by
  obtain ⟨p, u, h1, h2, h3, h4, h5⟩ := S.own i _ hi
  cases h5 with
  | @lst vs _ hs =>
    refine ⟨.ref p, h1, .inl ⟨rfl, vs, .of h4⟩, h B M σ H S _ fun v H1 d hd S1 e1 i1 => ?_⟩
    have h4' : H1 p = some (.lst vs) := e1.1 p _ (fun z => h3 (z ▸ S.st0)) h4
    have hs' : Iss B.st M H1 vs ds := S.iss e1 hs
    exact ⟨p, vs, v, rfl, rfl, h4', Nat.lt_of_lt_of_le (by rw [hs'.length]; exact hz) (by decide), q1 M σ _ _ hd (S1.mutate hi h1 h4' (.lst hs') (.lst (hs'.append (.cons i1 .nil))))⟩
/-- xs.pop(), its answer dropped -/
theorem ds_pop {i : Nat} {ds : List D} {d : D} (hi : env[i]? = some (.own (.lst (ds ++ [d])))) (h : nx (env.set i (.own (.lst ds)))) : Ds (tDrop (tBM0 K "list" rPop (tVar i))) env nx rt bk ct := fun B M σ H S E q1 q2 q3 q4 => by
  obtain ⟨p, u, h1, h2, h3, h4, h5⟩ := S.own i _ hi
  cases h5 with
  | @lst vs _ hs =>
    have hl := hs.length
    rw [List.length_append, List.length_singleton] at hl
    obtain ⟨y, hy, _⟩ := hs.get (i := ds.length) (d := d) (by simp)
    have hd : Iss B.st M H vs.dropLast ds := by
      have := hs.take ds.length
      rw [List.take_left] at this
      have e : vs.dropLast = vs.take ds.length := by rw [List.dropLast_eq_take, hl, Nat.add_sub_cancel]
      rw [e]
      exact this
    refine ⟨.ref p, h1, .inl ⟨rfl, vs, .of h4⟩, p, vs, y, rfl, rfl, h4, by rw [hl, Nat.add_sub_cancel]; exact hy, q1 M σ _ _ h (S.mutate hi h1 h4 (.lst hs) (.lst hd))⟩
/-- xs[j] = e -/
theorem ds_setItem {i : Nat} {ds : List D} (hi : env[i]? = some (.own (.lst ds))) (h : De te env fun d => De tb env fun j => ∃ n : Nat, j = .int n ∧ n < ds.length ∧ nx (env.set i (.own (.lst (ds.set n d))))) : Ds (tAsg te (gSub (tVar i) tb rSetL)) env nx rt bk ct := fun B M σ H S E q1 q2 q3 q4 => by
  refine h B M σ H S _ fun v H1 d hd S1 e1 i1 => ?_
  obtain ⟨p, u, h1, h2, h3, h4, h5⟩ := S1.own i _ hi
  cases h5 with
  | @lst vs _ hs =>
    refine ⟨.ref p, h1, hd B M σ H1 S1 _ fun w H2 j hj S2 e2 i2 => ?_⟩
    obtain ⟨n, rfl, hn, hj⟩ := hj
    cases is_int i2
    have h4' : H2 p = some (.lst vs) := e2.1 p _ (fun z => h3 (z ▸ S.st0)) h4
    have hs' : Iss B.st M H2 vs ds := S1.iss e2 hs
    refine ⟨p, vs, n, n, rfl, rfl, h4', ?_, q1 M σ _ _ hj (S2.mutate hi h1 h4' (.lst hs') (.lst (hs'.set (S1.is e2 i1) n)))⟩
    unfold ixN
    rw [if_pos (Int.natCast_nonneg n), if_pos (by rw [hs'.length]; omega), Int.toNat_natCast]
end
end DL

namespace DL
open PySem PySem.Spec PyProof.Rows L2

section
variable {B : Bs} {M M' : List Addr} {H H' H1 : Hp} {σ : L2.St} {env env' : Nv} {nx : Nv → Prop} {rt : D → Prop} {bk ct : Nv → Prop} {t u : TS} {c : TT} {te ta tb : TE} {tas : TA} {post : D → Prop} {K : PySem.W.Frag}
theorem Sr.hide (S : Sr B M σ H env) {hv : List (V × D)} (h : ∀ x ∈ hv, Is B.st M H x.1 x.2) : Sr { B with hid := hv ++ B.hid } M σ H env :=
  ⟨S.stm, S.stM, S.keep, S.sub, S.fresh, S.trk, S.st0, S.trk0, S.len, S.dat, S.own, S.inj, fun x hx => (List.mem_append.mp hx).elim (h x) (S.hid x)⟩
theorem Sr.show {hv : List (V × D)} (S : Sr { B with hid := hv ++ B.hid } M σ H env) : Sr B M σ H env :=
  ⟨S.stm, S.stM, S.keep, S.sub, S.fresh, S.trk, S.st0, S.trk0, S.len, S.dat, S.own, S.inj, fun x hx => S.hid x (List.mem_append_right _ hx)⟩
theorem Sr.hv {hv : List (V × D)} (S : Sr { B with hid := hv ++ B.hid } M σ H env) : ∀ x ∈ hv, Is B.st M H x.1 x.2 := fun x hx => S.hid x (List.mem_append_left _ hx)

/-! ### what a loop walks -/
structure ItD (J : It) (st : Addr) (hv : List (V × D)) (ds : List D) : Prop where
  run : ∀ M H, Stm st M H → st ∈ M → (∀ x ∈ hv, Is st M H x.1 x.2) → (∀ i, i < ds.length → J.go i H) ∧ (∀ i, ds.length ≤ i → J.stop i H) ∧
    ∀ (i : Nat) d x H', ds[i]? = some d → J.yld i H x H' → (H' = H ∨ ∃ T o, H T = none ∧ H' = upd H T o) ∧ Is st M H' x d
def Di (wi : TI) (env : Nv) (post : List D → Prop) : Prop := ∀ B M σ H, Sr B M σ H env → ∀ R : It → Hp → Prop,
  (∀ J H' hv ds, post ds → Sr B M σ H' env → Fx B.st H H' → (∀ x ∈ hv, Is B.st M H' x.1 x.2) → ItD J B.st hv ds → R J H') → wi σ H R
theorem di_list {post : List D → Prop} (h : De te env fun d => ∃ ds, d = .lst ds ∧ post ds) : Di (iList K te) env post := fun B M σ H S R q =>
  h B M σ H S _ fun v H1 d ⟨ds, e, hp⟩ S1 e1 i1 => by
    subst e
    obtain ⟨p, vs, rfl, hm, hl, hs⟩ := is_lst i1
    refine ⟨p, rfl, ⟨vs, .of hl⟩, q _ H1 [(.ref p, .lst ds)] ds hp S1 e1 (fun x hx => ?_) ⟨fun M2 H2 hst hM hh => ?_⟩⟩
    · rw [List.mem_singleton.mp hx]
      exact i1
    · obtain ⟨p2, vs2, e2, hm2, hl2, hs2⟩ := is_lst (hh _ (List.mem_singleton.mpr rfl))
      cases e2
      refine ⟨fun i hi => ?_, fun i hi => ⟨vs2, .of hl2, by rw [hs2.length]; exact hi⟩, fun i d x H' hd hy => ?_⟩
      · obtain ⟨v, hv, _⟩ := hs2.get (List.getElem?_eq_getElem hi)
        exact ⟨vs2, v, .of hl2, hv⟩
      · obtain ⟨rfl, hy⟩ := hy
        obtain ⟨v, hv, iv⟩ := hs2.get hd
        have := hy vs2 (.of hl2)
        rw [hv] at this
        cases this
        exact ⟨.inl rfl, iv⟩
theorem di_tup {post : List D → Prop} (h : De te env fun d => ∃ ds, d = .tup ds ∧ post ds) : Di (iTup K te) env post := fun B M σ H S R q =>
  h B M σ H S _ fun v H1 d ⟨ds, e, hp⟩ S1 e1 i1 => by
    subst e
    obtain ⟨p, vs, rfl, hl, hs⟩ := is_tup i1
    refine ⟨p, rfl, ⟨vs, .of hl⟩, q _ H1 [(.ref p, .tup ds)] ds hp S1 e1 (fun x hx => ?_) ⟨fun M2 H2 hst hM hh => ?_⟩⟩
    · rw [List.mem_singleton.mp hx]
      exact i1
    · obtain ⟨p2, vs2, e2, hl2, hs2⟩ := is_tup (hh _ (List.mem_singleton.mpr rfl))
      cases e2
      refine ⟨fun i hi => ?_, fun i hi => ⟨vs2, .of hl2, by rw [hs2.length]; exact hi⟩, fun i d x H' hd hy => ?_⟩
      · obtain ⟨v, hv, _⟩ := hs2.get (List.getElem?_eq_getElem hi)
        exact ⟨vs2, v, .of hl2, hv⟩
      · obtain ⟨rfl, hy⟩ := hy
        obtain ⟨v, hv, iv⟩ := hs2.get hd
        have := hy vs2 (.of hl2)
        rw [hv] at this
        cases this
        exact ⟨.inl rfl, iv⟩
theorem di_sq {post : List D → Prop} (h : De te env fun d => ∃ ds, SqD d ds ∧ post ds) : Di (iTup K te) env post := fun B M σ H S R q =>
  h B M σ H S _ fun v H1 d ⟨ds, e, hp⟩ S1 e1 i1 => by
    obtain ⟨p, vs, rfl, hl, hs⟩ := is_sq (K := K) e i1
    refine ⟨p, rfl, ⟨vs, hl⟩, q _ H1 [(.ref p, d)] ds hp S1 e1 (fun x hx => ?_) ⟨fun M2 H2 hst hM hh => ?_⟩⟩
    · rw [List.mem_singleton.mp hx]
      exact i1
    · obtain ⟨p2, vs2, e2, hl2, hs2⟩ := is_sq (K := K) e (hh _ (List.mem_singleton.mpr rfl))
      cases e2
      refine ⟨fun i hi => ?_, fun i hi => ⟨vs2, hl2, by rw [hs2.length]; exact hi⟩, fun i d x H' hd hy => ?_⟩
      · obtain ⟨v, hv, _⟩ := hs2.get (List.getElem?_eq_getElem hi)
        exact ⟨vs2, v, hl2, hv⟩
      · obtain ⟨rfl, hy⟩ := hy
        obtain ⟨v, hv, iv⟩ := hs2.get hd
        have := hy vs2 (hl2)
        rw [hv] at this
        cases this
        exact ⟨.inl rfl, iv⟩
abbrev sign (c : Nat) : D := .str [c]
theorem di_str {post : List D → Prop} (h : De te env fun d => ∃ s, d = .str s ∧ post (s.map sign)) : Di (iStr te) env post := fun B M σ H S R q =>
  h B M σ H S _ fun v H1 d ⟨s, e, hp⟩ S1 e1 i1 => by
    subst e
    cases is_str i1
    refine ⟨⟨s.toArray⟩, rfl, q _ H1 [] _ hp S1 e1 (fun x hx => nomatch hx) ⟨fun M2 H2 hst hM hh => ?_⟩⟩
    refine ⟨fun i hi => ?_, fun i hi => ?_, fun i d x H' hd hy => ?_⟩
    · rw [List.length_map] at hi
      show i < s.toArray.size
      rw [List.size_toArray]
      exact hi
    · rw [List.length_map] at hi
      show s.toArray.size ≤ i
      rw [List.size_toArray]
      exact hi
    · obtain ⟨rfl, c, hc, rfl⟩ := hy
      rw [List.getElem?_map] at hd
      have : s[i]? = some c := by
        rw [← hc]
        simp
      rw [this] at hd
      cases hd
      exact ⟨.inl rfl, .str [c]⟩
def rgI (lo : Int) (n : Nat) : List D := (List.range n).map fun i => .int (lo + (i : Nat))
theorem rgI_len (lo : Int) (n : Nat) : (rgI lo n).length = n := by unfold rgI; rw [List.length_map, List.length_range]
theorem rgI_get (lo : Int) (n i : Nat) (h : i < n) : (rgI lo n)[i]? = some (.int (lo + (i : Nat))) := by
  unfold rgI
  rw [List.getElem?_map, List.getElem?_range h]
  rfl
theorem itd_range {st : Addr} (lo : Int) (n : Nat) : ItD (Itr lo n) st [] (rgI lo n) := ⟨fun M2 H2 hst hM hh => by
  rw [rgI_len]
  refine ⟨fun i hi => hi, fun i hi => hi, fun i d x H' hd hy => ?_⟩
  obtain ⟨rfl, rfl⟩ := hy
  have hi : i < n := by
    have := (List.getElem?_eq_some_iff.mp hd).1
    rwa [rgI_len] at this
  rw [rgI_get lo n i hi] at hd
  cases hd
  exact ⟨.inl rfl, .int _⟩⟩
theorem di_range1 {post : List D → Prop} (h : Da tas env fun ds => ∃ n : Int, ds = [.int n] ∧ -1000000 ≤ n ∧ n ≤ 1000000 ∧ post (rgI 0 n.toNat)) : Di (iRng1 tas) env post := fun B M σ H S R q =>
  h B M σ H S _ fun vs H1 d ⟨n, e, h1, h2, hp⟩ S1 e1 i1 => by
    subst e
    cases i1 with
    | cons a b =>
      cases b
      cases is_int a
      exact ⟨n, rfl, by omega, by omega, q _ H1 [] _ hp S1 e1 (fun x hx => nomatch hx) (itd_range 0 _)⟩
theorem di_range2 {post : List D → Prop} (h : Da tas env fun ds => ∃ m n : Int, ds = [.int m, .int n] ∧ -1000000 ≤ m ∧ m ≤ 1000000 ∧ -1000000 ≤ n ∧ n ≤ 1000000 ∧ post (rgI m (n - m).toNat)) : Di (iRng2 tas) env post := fun B M σ H S R q =>
  h B M σ H S _ fun vs H1 d ⟨m, n, e, h1, h2, h3, h4, hp⟩ S1 e1 i1 => by
    subst e
    cases i1 with
    | cons a b =>
      cases b with
      | cons b c =>
        cases c
        cases is_int a
        cases is_int b
        exact ⟨m, n, rfl, ⟨by omega, by omega, by omega, by omega⟩, q _ H1 [] _ hp S1 e1 (fun x hx => nomatch hx) (itd_range m _)⟩

/-! ### targets -/
def Dg (g : TG) (d : D) (env : Nv) (post : Nv → Prop) : Prop := ∀ B M σ H v, Sr B M σ H env → Is B.st M H v d → ∀ Q : L2.St → Hp → Prop, (∀ σ' env', post env' → Sr B M σ' H env' → Q σ' H) → g v σ H Q
def Dgs (g : TGs) (ds : List D) (env : Nv) (post : Nv → Prop) : Prop := ∀ B M σ H vs, Sr B M σ H env → Iss B.st M H vs ds → ∀ Q : L2.St → Hp → Prop, (∀ σ' env', post env' → Sr B M σ' H env' → Q σ' H) → g vs σ H Q
theorem dg_name {i : Nat} {d : D} {post : Nv → Prop} (h : post (env.set i (.dat d))) : Dg (gName i) d env post := fun B M σ H v S iv Q q => q _ _ h (S.set iv)
theorem dgs_nil {post : Nv → Prop} (h : post env) : Dgs gNil [] env post := fun B M σ H v S iv Q q => by
  cases iv
  exact ⟨rfl, q _ _ h S⟩
theorem dgs_cons {g : TG} {gs : TGs} {d : D} {ds : List D} {post : Nv → Prop} (h : Dg g d env fun e => Dgs gs ds e post) : Dgs (gCons g gs) (d :: ds) env post := fun B M σ H v S iv Q q => by
  cases iv with
  | cons a b => exact ⟨_, _, rfl, h B M σ H _ S a _ fun σ' env' h' S' => h' B M σ' H _ S' b Q q⟩
theorem dg_tup {n : Nat} {gs : TGs} {ds : List D} {post : Nv → Prop} (hn : ds.length = n) (h : Dgs gs ds env post) : Dg (gTup K n gs) (.tup ds) env post := fun B M σ H v S iv Q q => by
  obtain ⟨p, vs, rfl, hl, hs⟩ := is_tup iv
  exact ⟨p, vs, rfl, .of hl, by rw [hs.length]; exact hn, h B M σ H vs S hs Q q⟩
/-- a, b = e -/
theorem ds_asg {g : TG} (h : De te env fun d => Dg g d env nx) : Ds (tAsg te g) env nx rt bk ct := fun B M σ H S E q1 q2 q3 q4 =>
  h B M σ H S _ fun v H1 d hd S1 e1 i1 => hd B M σ H1 v S1 i1 _ fun σ' env' h' S' => q1 M σ' H1 env' h' S'

/-! ### loops -/
theorem ds_for {wi : TI} {g : TG} {tb' : TS} (h : Di wi env fun ds => ∃ Iv : Nat → Nv → Prop, Iv 0 env ∧
      (∀ i d env', ds[i]? = some d → Iv i env' → Dg g d env' fun e2 => Ds tb' e2 (Iv (i + 1)) rt nx (Iv (i + 1))) ∧ ∀ env', Iv ds.length env' → nx env') : Ds (tFor wi g tb') env nx rt bk ct := fun B M σ H S E q1 q2 q3 q4 => by
  refine h B M σ H S _ fun J H1 hv ds ⟨Iv, h0, hs, hd⟩ S1 e1 hh T => ?_
  refine ⟨fun i m σ H => m = ds.length - i ∧ i ≤ ds.length ∧ ∃ M' env', Iv i env' ∧ Sr { B with hid := hv ++ B.hid } M' σ H env', ⟨_, rfl, Nat.zero_le _, M, env, h0, S1.hide hh⟩, ?_⟩
  rintro i m σ2 H2 ⟨rfl, hi, M2, env2, hI, S2⟩
  obtain ⟨t1, t2, t3⟩ := T.run M2 H2 S2.stm S2.stM S2.hv
  by_cases hlt : i < ds.length
  · refine .inr ⟨t1 i hlt, fun σ' H' => ∃ M' env', Iv (i + 1) env' ∧ Sr { B with hid := hv ++ B.hid } M' σ' H' env', fun σ' H' ⟨M', env', a, b⟩ => ⟨_, by omega, rfl, hlt, M', env', a, b⟩, fun x H3 hy => ?_⟩
    obtain ⟨hH, ix⟩ := t3 i _ x H3 (List.getElem?_eq_getElem hlt) hy
    have S3 : Sr { B with hid := hv ++ B.hid } M2 σ2 H3 env2 := by
      rcases hH with z | ⟨T, o, hT, z⟩
      · rw [z]; exact S2
      · rw [z]; exact S2.new hT
    refine hs i _ env2 (List.getElem?_eq_getElem hlt) hI _ M2 σ2 H3 x S3 ix _ fun σ4 env4 h4 S4 => ?_
    exact h4 _ M2 σ4 H3 S4 _ (fun M' σ' H' e' he S' => ⟨M', e', he, S'⟩) q2 (fun M' σ' H' e' he S' => q1 M' σ' H' e' he S'.show) (fun M' σ' H' e' he S' => ⟨M', e', he, S'⟩)
  · have e : i = ds.length := by omega
    subst e
    exact .inl ⟨t2 _ (Nat.le_refl _), q1 M2 σ2 H2 env2 (hd env2 hI) S2.show⟩
theorem ds_while {tb' : TS} (Iv : Nat → Nv → Prop) (m0 : Nat) (h0 : Iv m0 env)
    (hs : ∀ m env', Iv m env' → Dt c env' fun b => if b = true then Ds tb' env' (fun e => ∃ m', m' < m ∧ Iv m' e) rt nx (fun e => ∃ m', m' < m ∧ Iv m' e) else nx env') : Ds (tWhile c tb') env nx rt bk ct := fun B M σ H S E q1 q2 q3 q4 => by
  refine ⟨fun m σ H => ∃ M' env', Iv m env' ∧ Sr B M' σ H env', ⟨m0, M, env, h0, S⟩, ?_⟩
  rintro m σ2 H2 ⟨M2, env2, hI, S2⟩
  refine hs m env2 hI B M2 σ2 H2 S2 _ fun b H3 hb S3 e3 => ?_
  cases b with
  | true =>
    refine ⟨fun σ' H' => ∃ m', m' < m ∧ ∃ M' env', Iv m' env' ∧ Sr B M' σ' H' env', fun σ' H' ⟨m', hm, w⟩ => ⟨m', hm, w⟩, ?_⟩
    exact hb B M2 σ2 H3 S3 _ (fun M' σ' H' e' ⟨m', hm, hi⟩ S' => ⟨m', hm, M', e', hi, S'⟩) q2 (fun M' σ' H' e' he S' => q1 M' σ' H' e' he S') (fun M' σ' H' e' ⟨m', hm, hi⟩ S' => ⟨m', hm, M', e', hi, S'⟩)
  | false => exact q1 M2 σ2 H3 env2 hb S3

/-! ### comprehensions -/
theorem Sr.newIn' (S : Sr B M σ H env) {p : Addr} {o : HO} (hn : H p = none) (e : Fx B.st H H') (hp : H' p = some o) : Sr B (p :: M) σ H' env := by
  have S3 : Sr B M σ H' env := S.fx e
  have mo : ∀ {v : V} {d : D}, Is B.st M H v d → Is B.st (p :: M) H' v d := fun h => (h.more hn).mono (fun _ z => z) (List.mem_cons_of_mem _ S.stM) e S.nt
  have moo : ∀ {v : List V} {d : List D}, Iss B.st M H v d → Iss B.st (p :: M) H' v d := fun h => (h.more hn).mono (fun _ z => z) (List.mem_cons_of_mem _ S.stM) e S.nt
  refine ⟨?_, List.mem_cons_of_mem _ S.stM, S3.keep, fun b hb => List.mem_cons_of_mem _ (S.sub b hb), fun b hb => (List.mem_cons.mp hb).elim (fun z => .inr (z ▸ S.new0 hn)) (S.fresh b), fun b hb => ?_, S.st0, S.trk0, S.len, fun i d hd => ?_, fun i u ho => ?_, S.inj, fun x hx => mo (S.hid x hx)⟩
  · obtain ⟨a, ns, c, k, g1, g2, g3, g4, g5, g6⟩ := S.stm
    obtain ⟨c', k', r1, r2, r3⟩ := e.2 a c k g5 g6 g3
    exact ⟨a, ns, c', k', fun z => (List.mem_cons.mp z).elim (ne_of_none g4 hn) g1, g2, r3, e.1 _ _ g2 g4, r1, r2⟩
  · by_cases z : b = p
    · subst z
      exact ⟨o, hp⟩
    · exact S3.trk b ((List.mem_cons.mp hb).resolve_left z)
  · obtain ⟨v, h1, h2⟩ := S.dat i d hd
    exact ⟨v, h1, mo h2⟩
  · obtain ⟨p', u', h1, h2, h3, h4, h5⟩ := S.own i u ho
    refine ⟨p', u', h1, List.mem_cons_of_mem _ h2, h3, e.1 _ _ (fun z => h3 (z ▸ S.st0)) h4, ?_⟩
    cases h5 with
    | lst h => exact .lst (moo h)
    | dK hf => exact .dK hf
    | dT hf => exact .dT hf
    | dKx hl hs => exact .dKx hl (moo hs)
    | dTx hl hs => exact .dTx hl (moo hs)
theorem Fx.mut {st p : Addr} {o : HO} (e : Fx st H H') (hn : H p = none) (ne : p ≠ st) : Fx st H (upd H' p o) :=
  ⟨fun b u hb h => by rw [upd_ne (ne_of_none h hn)]; exact e.1 b u hb h, fun a c k h1 h2 h => by
    obtain ⟨c', k', r1, r2, r3⟩ := e.2 a c k h1 h2 h
    exact ⟨c', k', r1, r2, by rw [upd_ne (fun z => ne z.symm)]; exact r3⟩⟩
theorem den_lc {wi : TI} {j : Nat} {tt : TT} {postN : Ow → Prop} (h : Di wi env fun ds => ds.length ≤ 1000000 ∧ ∃ Iv : Nat → List D → Prop, Iv 0 [] ∧
      (∀ i d acc, ds[i]? = some d → acc.length ≤ i → Iv i acc → Dt tt ((env.set j .any).set j (.dat d)) fun b => if b = true then De te ((env.set j .any).set j (.dat d)) fun y => Iv (i + 1) (acc ++ [y]) else Iv (i + 1) acc) ∧
      ∀ acc, Iv ds.length acc → postN (.lst acc)) : DeN (tLc wi (gName j) tt te [j]) env postN := fun B M σ H S Q q => by
  refine h B M σ H S _ fun J H1 hv ds ⟨hz, Iv, h0, hs, hd⟩ S1 e1 hh T Dl hn => ?_
  have ne : Dl ≠ B.st := S1.nst hn
  refine ⟨fun i m H' => m = ds.length - i ∧ i ≤ ds.length ∧ ∃ acc accv, acc.length ≤ i ∧ Iv i acc ∧ Fx B.st H1 H' ∧ H' Dl = some (.lst accv) ∧ Iss B.st (Dl :: M) H' accv acc, ⟨_, rfl, Nat.zero_le _, [], [], Nat.le_refl _, h0, Fx.new hn, upd_same, .nil⟩, ?_⟩
  rintro i m H2 ⟨rfl, hi, acc, accv, hal, hI, f2, hD, ha⟩
  have S2 : Sr { B with hid := hv ++ B.hid } (Dl :: M) (σ.set j none) H2 (env.set j .any) := ((S1.hide hh).newIn' (B := { B with hid := hv ++ B.hid }) hn f2 hD).any
  obtain ⟨t1, t2, t3⟩ := T.run _ H2 S2.stm S2.stM S2.hv
  by_cases hlt : i < ds.length
  · refine .inr ⟨t1 i hlt, fun H' => ∃ acc accv, acc.length ≤ i + 1 ∧ Iv (i + 1) acc ∧ Fx B.st H1 H' ∧ H' Dl = some (.lst accv) ∧ Iss B.st (Dl :: M) H' accv acc, fun H' hN => ⟨_, by omega, rfl, hlt, hN⟩, fun x H3 hy => ?_⟩
    obtain ⟨hH, ix⟩ := t3 i _ x H3 (List.getElem?_eq_getElem hlt) hy
    have e3 : Fx B.st H2 H3 := by
      rcases hH with z | ⟨T, o, hT, z⟩
      · rw [z]; exact Fx.refl _ _
      · rw [z]; exact Fx.new hT
    have S3 := (S2.fx e3).set (i := j) ix
    refine ⟨?_, ?_⟩
    · show (((σ.set j none).set j (some x)).set j none) = σ.set j none
      rw [List.set_set, List.set_set]
    · refine hs i _ acc (List.getElem?_eq_getElem hlt) hal hI _ _ _ H3 S3 _ fun b H4 hb S4 e4 => ?_
      have nD : Dl ∉ ({ B with hid := hv ++ B.hid } : Bs).M0 := fun z => by
        obtain ⟨o, ho⟩ := S1.trk Dl (S1.sub Dl z)
        rw [hn] at ho
        cases ho
      have f4 : Fx B.st H1 H4 := (f2.trans e3).trans e4
      have a4 : Iss B.st (Dl :: M) H4 accv acc := S2.iss (e3.trans e4) ha
      have D4 : H4 Dl = some (.lst accv) := e4.1 _ _ ne (e3.1 _ _ ne hD)
      cases b with
      | true =>
        refine hb _ _ _ H4 S4 _ fun y H5 d5 h5 S5 e5 i5 => ?_
        have a5 : Iss B.st (Dl :: M) H5 accv acc := S4.iss e5 a4
        have D5 : H5 Dl = some (.lst accv) := e5.1 _ _ ne D4
        have nt : ∀ vs, H5 Dl ≠ some (.tup vs) := fun vs z => by rw [D5] at z; cases z
        refine ⟨accv, D5, Nat.lt_of_le_of_lt (by rw [a5.length]; exact hal) (Nat.lt_of_lt_of_le (Nat.lt_of_lt_of_le hlt hz) (by decide)), acc ++ [d5], accv ++ [y], by rw [List.length_append, List.length_singleton]; omega, h5, (f4.trans e5).mut hn ne, upd_same, ?_⟩
        exact (a5.append (.cons i5 .nil)).upd List.mem_cons_self nt
      | false => exact ⟨acc, accv, by omega, hb, f4, D4, a4⟩
  · have e : i = ds.length := by omega
    subst e
    refine .inl ⟨t2 _ (Nat.le_refl _), q Dl H2 (.lst accv) (.lst acc) (hd acc hI) (S1.newIn' hn f2 hD) (e1.trans f2) hD (.lst ha) (fresh_back e1 ne hn)⟩
theorem dt_yes {postb : Bool → Prop} (h : postb true) : Dt tYes env postb := fun B M σ H S Q q => q true H h S (Fx.refl _ _)
end

/-! ### a def's promise from its body -/
theorem sr_start {F : FS} {N : List Str} {st : Addr} {M : List Addr} {H : Hp} {vs : List V} {ds : List D} (h1 : Stm st M H) (h2 : st ∈ M) (h3 : ∀ b ∈ M, ∃ o, H b = some o) (hs : Iss st M H vs ds) :
    Sr ⟨st, M, H, []⟩ M (L2.start N vs) H (ds.map Sl.dat ++ List.replicate (N.length - ds.length) Sl.any) := by
  have hl : vs.length = ds.length := hs.length
  have anyat : ∀ (i : Nat) s, (ds.map Sl.dat ++ List.replicate (N.length - ds.length) Sl.any)[i]? = some s → (∃ d, ds[i]? = some d ∧ s = .dat d) ∨ s = .any := fun i s h => by
    by_cases hi : i < (ds.map Sl.dat).length
    · rw [List.getElem?_append_left hi, List.getElem?_map] at h
      cases e : ds[i]? with
      | none => rw [e] at h; cases h
      | some d => rw [e] at h; exact .inl ⟨d, rfl, (Option.some.inj h).symm⟩
    · rw [List.getElem?_append_right (by omega)] at h
      obtain ⟨_, h⟩ := List.getElem?_eq_some_iff.mp h
      rw [List.getElem_replicate] at h
      exact .inr h.symm
  refine ⟨h1, h2, Fx.refl _ _, fun _ z => z, fun _ z => .inl z, h3, h2, h3, ?_, fun i d h => ?_, fun i o h => ?_, fun i j p o u h => ?_, fun x hx => nomatch hx⟩
  · unfold L2.start
    rw [List.length_append, List.length_append, List.length_map, List.length_map, List.length_replicate, List.length_replicate, hl]
  · rcases anyat i _ h with ⟨d', e, z⟩ | z
    · cases z
      obtain ⟨v, hv, iv⟩ := hs.get e
      refine ⟨v, ?_, iv⟩
      have hi : i < (vs.map some).length := by
        rw [List.length_map]
        exact (List.getElem?_eq_some_iff.mp hv).1
      unfold L2.start
      rw [List.getElem?_append_left hi, List.getElem?_map, hv]
      rfl
    · cases z
  · rcases anyat i _ h with ⟨d', e, z⟩ | z <;> cases z
  · rcases anyat i _ h with ⟨d', e, z⟩ | z <;> cases z
/-- a def of the text where the module's name has it -/
structure Df (K : PySem.W.Frag) (mg : Str → Option Value) (x : Str) (st : Stmt) (ps : List Str) : Prop where
  ex : ∃ (f : Addr) (fd : FuncData), Fun K x x st f fd ∧ mg x = some (.ref f) ∧ Binds K fd ps []
/-- its promise, over values -/
theorem df_raw {P : Program} {w : World} {K : PySem.W.Frag} {mg : Str → Option Value} {base : Heap} {x : Str} {st : Stmt} {N ps : List Str} {k : Nat} {sp : Sp} (d : Df K mg x st ps) (S : FnScope N ps (defScope st))
    (len : ∀ vs H Q E, sp vs H Q E → vs.length = ps.length)
    (hbody : ∀ (f : Addr) (cdv : Value) (A : Around) (outer : List PySem.Env) (s : Shared) (H : Hp) (E : XK), Room k (A.deeper (envOfC x (defScope st) s.heap.objs.size f cdv)) →
      ∃ t, PSs (cxOf CX0 P w K mg base N x (defScope st) f cdv A outer s H E).nox (defBody st) t ∧ ∀ vs Q, sp vs H Q E → t { nx := fun _ H' => Q .non H', rt := Q } (L2.start N vs) H) : C8.Cal P w K mg base (k + 1) x sp [] := by
  obtain ⟨f, fd, Fn, hm, hb⟩ := d.ex
  refine ⟨f, fd, ps, [], Fn.ok S len (fun cdv A outer s H vs Q E hr h => ?_), hm, Fn.kp, hb, .nil⟩
  obtain ⟨t, ht, q⟩ := hbody f cdv A outer s H E hr
  exact ⟨t, ht, q vs Q h⟩
/-- .. over data -/
theorem df_cal {P : Program} {w : World} {K : PySem.W.Frag} {mg : Str → Option Value} {base : Heap} {x : Str} {st : Stmt} {N ps : List Str} {k : Nat} {F : FS} (d : Df K mg x st ps) (S : FnScope N ps (defScope st))
    (len : ∀ a, (F.arg a).length = ps.length)
    (hbody : ∀ (f : Addr) (cdv : Value) (A : Around) (outer : List PySem.Env) (s : Shared) (H : Hp) (E : XK), Room k (A.deeper (envOfC x (defScope st) s.heap.objs.size f cdv)) →
      ∃ t, PSs (cxOf CX0 P w K mg base N x (defScope st) f cdv A outer s H E).nox (defBody st) t ∧
        ∀ a, F.pre a → Ds t ((F.arg a).map Sl.dat ++ List.replicate (N.length - (F.arg a).length) Sl.any) (fun _ => F.rel a .non) (F.rel a) (fun _ => False) (fun _ => False)) : C8.Cal P w K mg base (k + 1) x (PF F) [] := by
  refine df_raw d S (fun vs H Q E h => ?_) (fun f cdv A outer s H E hr => ?_)
  · obtain ⟨a, st', M, _, _, _, hs, _⟩ := h
    rw [hs.length]
    exact len a
  · obtain ⟨t, ht, hd⟩ := hbody f cdv A outer s H E hr
    refine ⟨t, ht, fun vs Q h => ?_⟩
    obtain ⟨a, st', M, h1, h2, h3, hs, hp, q⟩ := h
    exact hd a hp _ M _ H (sr_start (F := F) h1 h2 h3 hs) _ (fun M' σ' H' e' he S' => q .non H' .non he S'.keep .non) (fun v H' d hr fx iv => q v H' d hr fx iv) (fun M' σ' H' e' he S' => he) (fun M' σ' H' e' he S' => he)
end DL

namespace DL
open PySem PySem.Spec PyProof.Rows L2

/-! ### names for readings -/
def rAddS : R2 := fun x y H Q => ∃ i j, x = .str i ∧ y = .str j ∧ i.length + j.length ≤ sizeLine ∧ Q (.str (i ++ j)) H
def rInSg : R2 := fun x y H Q => ∃ (c : Nat) (z : Str), x = .str ⟨#[c]⟩ ∧ y = .str z ∧ Q (.bl (decide (c ∈ z.cps.toList))) H
def rNotInSg : R2 := fun x y H Q => ∃ (c : Nat) (z : Str), x = .str ⟨#[c]⟩ ∧ y = .str z ∧ Q (.bl (!decide (c ∈ z.cps.toList))) H
def rIsN : R2 := fun x y H Q => y = .non ∧ Q (.bl (decide (x = .non))) H
def rNotN : R2 := fun x y H Q => y = .non ∧ Q (.bl (!decide (x = .non))) H
def rLen (K : PySem.W.Frag) : List V → Hp → VK → Prop := fun xs H Q => ∃ x n, xs = [x] ∧ LenV K x H n ∧ Q (.int n) H
def rAbs : List V → Hp → VK → Prop := fun xs H Q => ∃ i, xs = [.int i] ∧ Q (.int (if i < 0 then -i else i)) H
def rInt : List V → Hp → VK → Prop := fun xs H Q => (∃ i, xs = [.int i] ∧ Q (.int i) H) ∨ ∃ k, xs = [.bl k] ∧ Q (.int (if k then 1 else 0)) H
def rMax2 : List V → Hp → VK → Prop := fun xs H Q => ∃ i j, xs = [.int i, .int j] ∧ Q (.int (if j > i then j else i)) H
def rMin2 : List V → Hp → VK → Prop := fun xs H Q => ∃ i j, xs = [.int i, .int j] ∧ Q (.int (if j < i then j else i)) H
def rListOf (K : PySem.W.Frag) : List V → Hp → VK → Prop := fun xs H Q => ∃ p ys, xs = [.ref p] ∧ (SqL K H p ys ∨ SqT K H p ys) ∧ ∀ l, H l = none → Q (.ref l) (upd H l (.lst ys))
def rTupOf (K : PySem.W.Frag) : List V → Hp → VK → Prop := fun xs H Q => ∃ p ys, xs = [.ref p] ∧ ((SqL K H p ys ∧ ∀ l, H l = none → Q (.ref l) (upd H l (.tup ys))) ∨ (SqT K H p ys ∧ Q (.ref p) H))
/-- tuple(xs), xs a list: the new object known -/
def rTupOfF (K : PySem.W.Frag) : List V → Hp → VK → Prop := fun xs H Q => ∃ p ys, xs = [.ref p] ∧ SqL K H p ys ∧ ∀ (l : Addr) (o : Obj), H l = none → o.cls = .type "tuple" → o.dict = none → Q (.ref l) (upd H l (.frz o (.tup ys)))
/-- isinstance of a tuple whose object is known -/
def rIsiF (K : PySem.W.Frag) : List V → Hp → VK → Prop := fun xs H Q => ∃ (p : Addr) (o : Obj) (vs : List V) (c : V) (u : Value) (b : Bool), xs = [.ref p, c] ∧ ClsV c u ∧ H p = some (.frz o (.tup vs)) ∧ o.cls = .type "tuple" ∧ PySem.W.kitOne K (.type "tuple") u = some b ∧ Q (.bl b) H
def rIsiD (K : PySem.W.Frag) : List V → Hp → VK → Prop := fun xs H Q => rIsi K xs H Q ∨ rIsiF K xs H Q
def rJoin (K : PySem.W.Frag) : V → List V → Hp → VK → Prop := fun x xs H Q => ∃ a p, ∃ ys : List Str, x = .str a ∧ xs = [.ref p] ∧ (SqL K H p (ys.map V.str) ∨ SqT K H p (ys.map V.str)) ∧ (ys.map (·.length)).sum + ys.length * a.length ≤ 16777216 ∧ Q (.str (Txt.join a ys)) H
def rSIndex : V → List V → Hp → VK → Prop := fun x xs H Q => ∃ a b i rest, x = .str a ∧ xs = [.str b] ∧ Builtin.Str.occurrences a b 0 a.length 1 = i :: rest ∧ Q (.int (i : Nat)) H
section
variable {X : Cx}
theorem od_add_str : OpR X (binaryOp .Add) rAddS := op_add_str
theorem od_in_sg : OpR X (compareOp .In) rInSg := op_in_sign
theorem od_notin_sg : OpR X (compareOp .NotIn) rNotInSg := op_notIn_sign
theorem od_isN : OpR X (compareOp .Is) rIsN := op_isN
theorem od_notN : OpR X (compareOp .IsNot) rNotN := op_notN
theorem cd_len : CallR X (.builtin "len") (rLen X.K) := call_len
theorem cd_abs : CallR X (.builtin "abs") rAbs := call_abs
theorem cd_int : CallR X (.type "int") rInt := call_int1
theorem cd_max2 (hc : X.calm = true) : CallR X (.builtin "max") rMax2 := call_max2 hc
theorem cd_min2 (hc : X.calm = true) : CallR X (.builtin "min") rMin2 := call_min2 hc
theorem cd_listof : CallR X (.type "list") (rListOf X.K) := call_list_of
theorem cd_tupof : CallR X (.type "tuple") (rTupOf X.K) := call_tuple_of
theorem cd_tupofF : CallR X (.type "tuple") (rTupOfF X.K) := by
  intro pins s σ H xs us Q I r h
  obtain ⟨p, ys, rfl, hq, q⟩ := h
  obtain ⟨u, rfl, rx⟩ := vals1 r
  cases rx
  obtain ⟨its, r', pl, hz⟩ := I.list hq
  have hlen := r'.length
  refine call_tuple_list pl.isList (fun h' kp => ?_) (by simp only [List.size_toArray] <;> omega)
  have I1 : Inv X pins σ H { s with heap := h' } := I.kept (t' := s.toks) kp
  have I2 : Inv X pins σ (upd H h'.objs.size (.frz { cls := .type "tuple", data := .seq its.toArray } (.tup ys))) { s with heap := h'.push { cls := .type "tuple", data := .seq its.toArray } } :=
    I1.laid (t' := s.toks) (fun b o e => Heap.get?_push_of_some _ e) (Nat.le_refl _) (show ObjOk X.prog X.w _ _ _ (.frz _ (.tup ys)) from ⟨Heap.get?_push_size _ rfl, hz, its, r', IsTup.new _ _⟩)
  exact ⟨.ref h'.objs.size, _, I2, rfl, q _ _ (I1.hok.fresh (Nat.le_refl _)) rfl rfl⟩
theorem cd_isiF : CallR X (.builtin "isinstance") (rIsiF X.K) := by
  intro pins s σ H xs us Q I r h
  obtain ⟨p, o, vs, c, u, b, rfl, k, hp, hc, e, q⟩ := h
  obtain ⟨u1, u2, rfl, r1, r2⟩ := vals2 r
  have e2 := k.eq r2
  subst e2
  cases r1
  obtain ⟨h1, _⟩ := (show ObjOk X.prog X.w H s.heap p (.frz o (.tup vs)) from I.hok p _ hp)
  exact PySem.W.kia_one PySem.W.kitx_tuple I.kIn ⟨o, h1, hc⟩ e (fun z => nomatch z) fun tk => ⟨.bl b, H, I.tok tk, rfl, q⟩
theorem cd_isi : CallR X (.builtin "isinstance") (rIsiD X.K) := CallR.or call_isi cd_isiF
theorem cd_all (hc : X.calm = true) : CallR X (.builtin "all") (rAll X.K) := cr_all hc
theorem md_join : MtR X "str.join" (rJoin X.K) := mt_join
theorem md_sindex : MtR X "str.index" rSIndex := mt_sindex
theorem ptd {e : Expr} {te : TE} (ha : PE X e te) (he : ∀ whole, isTrue e X.env whole = (do let v ← whole; standAt e.pos; holding [v] (truthy v))) : PT X e (tTruD X.K te) := pt_truth ha he
end

section
variable {env : Nv} {post : D → Prop} {K : PySem.W.Frag} {ta tb te : TE} {tl th : TO} {tas : TA}
/-! ### ints -/
theorem dop_i0 {f : Int → Int → Int} {i j : Int} (h : post (.int (f i j))) : Dop (rI0 fun i j => .int (f i j)) (.int i) (.int j) post := fun st M H v w _ _ _ iv iw Q q => by
  cases is_int iv
  cases is_int iw
  exact ⟨i, j, rfl, rfl, q _ H _ h (Fx.refl _ _) (.int _)⟩
theorem dop_b0 {f : Int → Int → Bool} {i j : Int} (h : post (.bl (f i j))) : Dop (rI0 fun i j => .bl (f i j)) (.int i) (.int j) post := fun st M H v w _ _ _ iv iw Q q => by
  cases is_int iv
  cases is_int iw
  exact ⟨i, j, rfl, rfl, q _ H _ h (Fx.refl _ _) (.bl _)⟩
theorem dop_i {C : Int → Int → Prop} {f : Int → Int → Int} {i j : Int} (hc : C i j) (h : post (.int (f i j))) : Dop (rI C fun i j => .int (f i j)) (.int i) (.int j) post := fun st M H v w _ _ _ iv iw Q q => by
  cases is_int iv
  cases is_int iw
  exact ⟨i, j, rfl, rfl, hc, q _ H _ h (Fx.refl _ _) (.int _)⟩
theorem dun_i {f : Int → Int} {i : Int} (h : post (.int (f i))) : Dun (rU fun i => .int (f i)) (.int i) post := fun st M H v _ _ _ iv Q q => by
  cases is_int iv
  exact ⟨i, rfl, q _ H _ h (Fx.refl _ _) (.int _)⟩
/-! ### == -/
def eqD : D → D → Option Bool
  | .non, .non => some true
  | .int a, .int b => some (decide (a = b))
  | .bl a, .bl b => some (decide (a = b))
  | .str a, .str b => some (decide (a = b))
  | .non, .int _ => some false | .int _, .non => some false | .non, .bl _ => some false | .bl _, .non => some false | .non, .str _ => some false | .str _, .non => some false
  | .int _, .str _ => some false | .str _, .int _ => some false | .bl _, .str _ => some false | .str _, .bl _ => some false
  | _, _ => none
theorem str_inj {a b : List Nat} : V.str ⟨a.toArray⟩ = V.str ⟨b.toArray⟩ ↔ a = b := by
  constructor
  · intro h
    injection h with h
    injection h with h
    simpa using h
  · intro h; rw [h]
theorem eqD_ok {st : Addr} {M : List Addr} {H : Hp} {v w : V} {x y : D} {b : Bool} (iv : Is st M H v x) (iw : Is st M H w y) (h : eqD x y = some b) : scal v w = true ∧ decide (v = w) = b := by
  cases iv <;> cases iw <;> first
    | (cases h; done)
    | (cases h; refine ⟨rfl, decide_eq_decide.mpr ?_⟩; simp [str_inj]; done)
    | (cases h; refine ⟨rfl, ?_⟩; simp; done)
theorem dop_eq {x y : D} {b : Bool} (e : eqD x y = some b) (h : post (.bl b)) : Dop rEq x y post := fun st M H v w _ _ _ iv iw Q q => by
  obtain ⟨h1, h2⟩ := eqD_ok iv iw e
  exact ⟨h1, q _ H _ h (Fx.refl _ _) (by rw [h2]; exact .bl _)⟩
theorem dop_ne {x y : D} {b : Bool} (e : eqD x y = some b) (h : post (.bl (!b))) : Dop rNe x y post := fun st M H v w _ _ _ iv iw Q q => by
  obtain ⟨h1, h2⟩ := eqD_ok iv iw e
  exact ⟨h1, q _ H _ h (Fx.refl _ _) (by rw [h2]; exact .bl _)⟩
theorem dop_eqi {i j : Int} (h : post (.bl (decide (i = j)))) : Dop rEq (.int i) (.int j) post := dop_eq rfl h
theorem dop_eqs {i j : List Nat} (h : post (.bl (decide (i = j)))) : Dop rEq (.str i) (.str j) post := dop_eq rfl h
theorem dop_eqb {i j : Bool} (h : post (.bl (decide (i = j)))) : Dop rEq (.bl i) (.bl j) post := dop_eq rfl h
theorem dop_nei {i j : Int} (h : post (.bl (!decide (i = j)))) : Dop rNe (.int i) (.int j) post := dop_ne rfl h
theorem dop_nes {i j : List Nat} (h : post (.bl (!decide (i = j)))) : Dop rNe (.str i) (.str j) post := dop_ne rfl h
theorem dop_isB {a b : Bool} (h : post (.bl (decide (a = b)))) : Dop rIsB (.bl a) (.bl b) post := fun st M H v w _ _ _ iv iw Q q => by
  cases is_bl iv
  cases is_bl iw
  exact ⟨a, b, rfl, rfl, q _ H _ h (Fx.refl _ _) (.bl _)⟩
theorem dop_notB {a b : Bool} (h : post (.bl (!decide (a = b)))) : Dop rNotB (.bl a) (.bl b) post := fun st M H v w _ _ _ iv iw Q q => by
  cases is_bl iv
  cases is_bl iw
  exact ⟨a, b, rfl, rfl, q _ H _ h (Fx.refl _ _) (.bl _)⟩
def isNon : D → Bool
  | .non => true
  | _ => false
theorem isNon_ok {st : Addr} {M : List Addr} {H : Hp} {v : V} {x : D} (iv : Is st M H v x) : decide (v = .non) = isNon x := by
  cases iv <;> first | rfl | exact decide_eq_false (by intro z; cases z)
theorem dop_isN {x : D} (h : post (.bl (isNon x))) : Dop rIsN x .non post := fun st M H v w _ _ _ iv iw Q q => by
  cases is_non iw
  exact ⟨rfl, q _ H _ h (Fx.refl _ _) (by rw [isNon_ok iv]; exact .bl _)⟩
theorem dop_notN {x : D} (h : post (.bl (!isNon x))) : Dop rNotN x .non post := fun st M H v w _ _ _ iv iw Q q => by
  cases is_non iw
  exact ⟨rfl, q _ H _ h (Fx.refl _ _) (by rw [isNon_ok iv]; exact .bl _)⟩
/-! ### texts -/
theorem len_of (l : List Nat) : (⟨l.toArray⟩ : Str).length = l.length := by
  show l.toArray.size = _
  simp
theorem le_line {n : Nat} (h : n ≤ 1000000) : n ≤ sizeLine := Nat.le_trans h (by decide)
theorem dop_adds {a b : List Nat} (hz : a.length + b.length ≤ 1000000) (h : post (.str (a ++ b))) : Dop rAddS (.str a) (.str b) post := fun st M H v w _ _ _ iv iw Q q => by
  cases is_str iv
  cases is_str iw
  refine ⟨_, _, rfl, rfl, by rw [len_of, len_of]; exact le_line hz, q _ H _ h (Fx.refl _ _) ?_⟩
  have e : (⟨a.toArray⟩ ++ ⟨b.toArray⟩ : Str) = ⟨(a ++ b).toArray⟩ := by
    show (⟨a.toArray ++ b.toArray⟩ : Str) = _
    simp
  rw [e]
  exact .str _
theorem dop_insg {c : Nat} {b : List Nat} (h : post (.bl (decide (c ∈ b)))) : Dop rInSg (.str [c]) (.str b) post := fun st M H v w _ _ _ iv iw Q q => by
  cases is_str iv
  cases is_str iw
  exact ⟨c, ⟨b.toArray⟩, rfl, rfl, q _ H _ h (Fx.refl _ _) (.bl _)⟩
theorem dop_notinsg {c : Nat} {b : List Nat} (h : post (.bl (!decide (c ∈ b)))) : Dop rNotInSg (.str [c]) (.str b) post := fun st M H v w _ _ _ iv iw Q q => by
  cases is_str iv
  cases is_str iw
  exact ⟨c, ⟨b.toArray⟩, rfl, rfl, q _ H _ h (Fx.refl _ _) (.bl _)⟩
theorem dop_ixs {l : List Nat} {i : Int} {c : Nat} (hz : l.length ≤ 1000000) (e : atI l i = some c) (h : post (.str [c])) : Dop rIxS (.str l) (.int i) post := fun st M H v w _ _ _ iv iw Q q => by
  cases is_str iv
  cases is_int iw
  exact ⟨_, i, c, rfl, rfl, by rw [len_of]; exact le_line hz, e, q _ H _ h (Fx.refl _ _) (.str [c])⟩
theorem atI_iss {st : Addr} {M : List Addr} {H : Hp} {vs : List V} {ds : List D} {i : Int} {d : D} (hs : Iss st M H vs ds) (e : atI ds i = some d) : ∃ v, atI vs i = some v ∧ Is st M H v d := by
  unfold atI at e ⊢
  rw [hs.length]
  cases z : ixN ds.length i with
  | none => rw [z] at e; cases e
  | some j =>
    rw [z] at e
    exact hs.get e
theorem dop_ixl {l : List D} {i : Int} {c : D} (e : atI l i = some c) (h : post c) : Dop (rIxL K) (.lst l) (.int i) post := fun st M H v w _ _ _ iv iw Q q => by
  obtain ⟨p, vs, rfl, hm, hl, hs⟩ := is_lst iv
  cases is_int iw
  obtain ⟨u, hu, iu⟩ := atI_iss hs e
  exact ⟨p, vs, i, u, rfl, rfl, .of hl, hu, q _ H _ h (Fx.refl _ _) iu⟩
theorem dop_ixt {l : List D} {i : Int} {c : D} (e : atI l i = some c) (h : post c) : Dop (rIxT K) (.tup l) (.int i) post := fun st M H v w _ _ _ iv iw Q q => by
  obtain ⟨p, vs, rfl, hl, hs⟩ := is_tup iv
  cases is_int iw
  obtain ⟨u, hu, iu⟩ := atI_iss hs e
  exact ⟨p, vs, i, u, rfl, rfl, .of hl, hu, q _ H _ h (Fx.refl _ _) iu⟩
theorem dop_ixz {x : D} {l : List D} {i : Int} {c : D} (hx : SqD x l) (e : atI l i = some c) (h : post c) : Dop (rIxT K) x (.int i) post := fun st M H v w _ _ _ iv iw Q q => by
  obtain ⟨p, vs, rfl, hl, hs⟩ := is_sq (K := K) hx iv
  cases is_int iw
  obtain ⟨u, hu, iu⟩ := atI_iss hs e
  exact ⟨p, vs, i, u, rfl, rfl, hl, hu, q _ H _ h (Fx.refl _ _) iu⟩
/-! ### calls -/
def lenD : D → Option Nat
  | .str l => some l.length
  | .lst l => some l.length
  | .tup l => some l.length
  | .ptp l => some l.length
  | _ => none
theorem dcl_len {x : D} {n : Nat} (e : lenD x = some n) (hz : n ≤ 1000000) (h : post (.int n)) : Dcl (rLen K) [x] post := fun st M H vs _ _ _ iv Q q => by
  cases iv with
  | cons i r =>
    cases r
    refine ⟨_, n, rfl, ?_, q _ H _ h (Fx.refl _ _) (.int _)⟩
    cases i with
    | str l => cases e; exact ⟨by rw [len_of]; exact le_line hz, (len_of l).symm⟩
    | lst hm hl hs => cases e; exact .inl ⟨_, .of hl, hs.length.symm⟩
    | tup hl hs => cases e; exact .inr ⟨_, .of hl, hs.length.symm⟩
    | ptp hm hl hc hs => cases e; exact .inr ⟨_, .ofF hl, hs.length.symm⟩
    | _ => cases e
theorem dcl_abs {i : Int} (h : post (.int (if i < 0 then -i else i))) : Dcl rAbs [.int i] post := fun st M H vs _ _ _ iv Q q => by
  cases iv with
  | cons i r =>
    cases r
    cases is_int i
    exact ⟨_, rfl, q _ H _ h (Fx.refl _ _) (.int _)⟩
theorem dcl_int {i : Int} (h : post (.int i)) : Dcl rInt [.int i] post := fun st M H vs _ _ _ iv Q q => by
  cases iv with
  | cons i r =>
    cases r
    cases is_int i
    exact .inl ⟨_, rfl, q _ H _ h (Fx.refl _ _) (.int _)⟩
theorem dcl_intb {b : Bool} (h : post (.int (if b then 1 else 0))) : Dcl rInt [.bl b] post := fun st M H vs _ _ _ iv Q q => by
  cases iv with
  | cons i r =>
    cases r
    cases is_bl i
    exact .inr ⟨_, rfl, q _ H _ h (Fx.refl _ _) (.int _)⟩
theorem dcl_max2 {i j : Int} (h : post (.int (if j > i then j else i))) : Dcl rMax2 [.int i, .int j] post := fun st M H vs _ _ _ iv Q q => by
  cases iv with
  | cons i r =>
    cases r with
    | cons j r =>
      cases r
      cases is_int i
      cases is_int j
      exact ⟨_, _, rfl, q _ H _ h (Fx.refl _ _) (.int _)⟩
theorem dcl_min2 {i j : Int} (h : post (.int (if j < i then j else i))) : Dcl rMin2 [.int i, .int j] post := fun st M H vs _ _ _ iv Q q => by
  cases iv with
  | cons i r =>
    cases r with
    | cons j r =>
      cases r
      cases is_int i
      cases is_int j
      exact ⟨_, _, rfl, q _ H _ h (Fx.refl _ _) (.int _)⟩
def tyD : D → String
  | .non => "NoneType" | .bl _ => "bool" | .int _ => "int" | .str _ => "str" | .tup _ => "tuple" | .ptp _ => "tuple" | .lst _ => "list" | .stm => "list" | .dK _ => "dict" | .dT _ => "dict" | .dKx .. => "dict" | .dTx .. => "dict" | .ty _ => "type" | .exc .. => "object" | .cls _ => "type"
def oddD : D → Bool
  | .ty _ => true
  | .stm => true
  | .exc .. => true
  | .cls _ => true
  | _ => false
theorem dcl_isi {x : D} {T : String} {b : Bool} (hx : oddD x = false) (e : kitB (tyD x) T = some b) (h : post (.bl b)) : Dcl (rIsiD K) [x, .ty T] post := fun st M H vs _ _ _ iv Q q => by
  cases iv with
  | cons i r =>
    cases r with
    | cons j r =>
      cases r
      have ej : ∀ {v : V}, Is st M H v (.ty T) → v = .ty T := fun h => by cases h; rfl
      cases ej j
      have qq := q _ H _ h (Fx.refl _ _) (.bl _)
      by_cases hpp : ∃ ds, x = .ptp ds
      · obtain ⟨ds, rfl⟩ := hpp
        obtain ⟨p, vs, o, rfl, hl, hc, hs⟩ := is_ptp i
        exact .inr ⟨p, o, vs, .ty T, .type T, b, rfl, .ty T, hl, hc.1, kit_ty e, qq⟩
      refine .inl ⟨_, .ty T, .type (tyD x), .type T, b, rfl, .ty T, ?_, kit_ty e, qq⟩
      cases i with
      | ptp hm hl hc hs => exact (hpp ⟨_, rfl⟩).elim
      | non => exact .base .non
      | bl b => exact .base (.bl b)
      | int b => exact .base (.int b)
      | str b => exact .base (.str _)
      | tup hl hs => exact .base (.tup hl)
      | lst hm hl hs => exact .base (.lst hl)
      | dK hm hl hs => exact .base (.dK hl)
      | dT hm hl hs => exact .base (.dT hl)
      | dKx hm hl _ hs => exact .base (.dK hl)
      | dTx hm hl _ hs => exact .base (.dT hl)
      | ty n => cases hx
      | stm => cases hx
      | cls a => cases hx
      | exc hm h hl hs => cases hx
theorem iss_bls {st : Addr} {M : List Addr} {H : Hp} : ∀ {vs : List V} {bs : List Bool}, Iss st M H vs (bs.map D.bl) → vs = bs.map V.bl
  | _, [], h => by cases h; rfl
  | _, b :: bs, h => by
    cases h with
    | cons i r =>
      cases is_bl i
      rw [iss_bls r]
      rfl
theorem dcl_all {bs : List Bool} (h : post (.bl (bs.all id))) : Dcl (rAll K) [.lst (bs.map D.bl)] post := fun st M H vs _ _ _ iv Q q => by
  cases iv with
  | cons i r =>
    cases r
    obtain ⟨p, vs, rfl, hm, hl, hs⟩ := is_lst i
    rw [iss_bls hs] at hl
    exact ⟨p, bs, rfl, .of hl, q _ H _ h (Fx.refl _ _) (.bl _)⟩
def seqD : D → Option (List D)
  | .lst l => some l
  | .tup l => some l
  | .ptp l => some l
  | _ => none
theorem seqD_ok {st : Addr} {M : List Addr} {H : Hp} {v : V} {x : D} {l : List D} (i : Is st M H v x) (e : seqD x = some l) : ∃ p vs, v = .ref p ∧ (SqL K H p vs ∨ SqT K H p vs) ∧ Iss st M H vs l := by
  cases i with
  | lst hm hl hs => cases e; exact ⟨_, _, rfl, .inl (.of hl), hs⟩
  | tup hl hs => cases e; exact ⟨_, _, rfl, .inr (.of hl), hs⟩
  | ptp hm hl hc hs => cases e; exact ⟨_, _, rfl, .inr (.ofF hl), hs⟩
  | _ => cases e
theorem fresh_ne {st : Addr} {M : List Addr} {H : Hp} (trk : ∀ b ∈ M, ∃ o, H b = some o) {p : Addr} (hp : H p = none) : p ∉ M := fun z => by
  obtain ⟨o, e⟩ := trk p z
  rw [hp] at e
  cases e
theorem dcl_listof {x : D} {l : List D} (e : seqD x = some l) (h : post (.lst l)) : Dcl (rListOf K) [x] post := fun st M H vs hst hM trk iv Q q => by
  cases iv with
  | cons i r =>
    cases r
    obtain ⟨p, vs, rfl, hl, hs⟩ := seqD_ok (K := K) i e
    exact ⟨p, vs, rfl, hl, fun l hn => q _ _ _ h (Fx.new hn) (.lst (fresh_ne (st := st) trk hn) upd_same (hs.mono (fun _ z => z) hM (Fx.new hn) hst.notup))⟩
theorem dcl_tupof {x : D} {l : List D} (hx : ∀ ds, x ≠ .ptp ds) (e : seqD x = some l) (h : post (.tup l)) : Dcl (rTupOf K) [x] post := fun st M H vs hst hM trk iv Q q => by
  cases iv with
  | cons i r =>
    cases r
    cases i with
    | lst hm hl hs =>
      cases e
      exact ⟨_, _, rfl, .inl ⟨.of hl, fun l hn => q _ _ _ h (Fx.new hn) (.tup upd_same (hs.mono (fun _ z => z) hM (Fx.new hn) hst.notup))⟩⟩
    | tup hl hs =>
      cases e
      exact ⟨_, _, rfl, .inr ⟨.of hl, q _ H _ h (Fx.refl _ _) (.tup hl hs)⟩⟩
    | ptp hm hl hc hs => exact (hx _ rfl).elim
    | _ => cases e
theorem dcl_tupofF {l : List D} (h : post (.ptp l)) : Dcl (rTupOfF K) [.lst l] post := fun st M H vs hst hM trk iv Q q => by
  cases iv with
  | cons i r =>
    cases r
    obtain ⟨p, vs, rfl, hm, hl, hs⟩ := is_lst i
    exact ⟨_, _, rfl, .of hl, fun l o hn hc hd => q _ _ _ h (Fx.new hn) (.ptp (fresh_ne (st := st) trk hn) upd_same ⟨hc, hd⟩ (hs.mono (fun _ z => z) hM (Fx.new hn) hst.notup))⟩
/-! ### methods -/
def Dmt (K : PySem.W.Frag) (T : String) (r : V → List V → Hp → VK → Prop) (x : D) (xs : List D) (post : D → Prop) : Prop := ∀ (st : Addr) (M : List Addr) (H : Hp) (v : V) (vs : List V), Stm st M H → st ∈ M → (∀ b ∈ M, ∃ o, H b = some o) → Is st M H v x → Iss st M H vs xs → ∀ Q : VK,
  (∀ z H' d, post d → Fx st H H' → Is st M H' z d → Q z H') → r v vs H Q
def TyOk (T : String) : D → Prop
  | .str _ => T = "str"
  | .lst _ => T = "list"
  | .dK _ => T = "dict"
  | .dT _ => T = "dict"
  | .dKx .. => T = "dict"
  | .dTx .. => T = "dict"
  | _ => False
theorem tyOk {st : Addr} {M : List Addr} {H : Hp} {T : String} {v : V} {x : D} (i : Is st M H v x) (h : TyOk T x) : tyV K T v H := by
  cases i with
  | str l => exact h
  | lst hm hl hs => exact .inl ⟨h, _, .of hl⟩
  | dK hm hl hs => exact .inr (.inr (.inl ⟨h, .inl ⟨_, hl⟩⟩))
  | dT hm hl hs => exact .inr (.inr (.inl ⟨h, .inr ⟨_, hl⟩⟩))
  | dKx hm hl _ hs => exact .inr (.inr (.inl ⟨h, .inl ⟨_, hl⟩⟩))
  | dTx hm hl _ hs => exact .inr (.inr (.inl ⟨h, .inr ⟨_, hl⟩⟩))
  | _ => exact h.elim
theorem de_bm {T : String} {r : V → List V → Hp → VK → Prop} (h : De te env fun x => TyOk T x ∧ Da tas env fun xs => Dmt K T r x xs post) : De (tBM K T r te tas) env post := fun B M σ H S Q q =>
  h B M σ H S _ fun v H1 x ⟨ht, hx⟩ S1 e1 i1 => ⟨tyOk i1 ht, hx B M σ H1 S1 _ fun vs H2 xs hy S2 e2 i2 => hy B.st M H2 v vs S2.stm S2.stM S2.trk (S1.is e2 i1) i2 Q fun z H3 d hd e3 i3 => q z H3 d hd (S2.fx e3) ((e1.trans e2).trans e3) i3⟩
theorem de_bm0 {T : String} {r : V → List V → Hp → VK → Prop} (h : De te env fun x => TyOk T x ∧ Dmt K T r x [] post) : De (tBM0 K T r te) env post := fun B M σ H S Q q =>
  h B M σ H S _ fun v H1 x ⟨ht, hx⟩ S1 e1 i1 => ⟨tyOk i1 ht, hx B.st M H1 v [] S1.stm S1.stM S1.trk i1 .nil Q fun z H3 d hd e3 i3 => q z H3 d hd (S1.fx e3) (e1.trans e3) i3⟩
theorem iss_strs {st : Addr} {M : List Addr} {H : Hp} : ∀ {vs : List V} {ls : List (List Nat)}, Iss st M H vs (ls.map D.str) → vs = (ls.map fun l => (⟨l.toArray⟩ : Str)).map V.str
  | _, [], h => by cases h; rfl
  | _, b :: bs, h => by
    cases h with
    | cons i r =>
      cases is_str i
      rw [iss_strs r]
      rfl
open TL in
theorem join_nil : ∀ ls : List (List Nat), (Txt.join (⟨#[]⟩ : Str) (ls.map fun l => (⟨l.toArray⟩ : Str))) = ⟨ls.flatten.toArray⟩ := fun ls => by
  have h : tl (Txt.join (⟨#[]⟩ : Str) (ls.map fun l => (⟨l.toArray⟩ : Str))) = ls.flatten := by
    rw [join_eq, tl_join]
    rw [List.map_map]
    have e : ls.map (tl ∘ fun l => (⟨l.toArray⟩ : Str)) = ls := by
      conv => rhs; rw [← List.map_id ls]
      apply List.map_congr_left
      intro l _
      rfl
    rw [e]
    show joinL [] ls = _
    clear e
    induction ls with
    | nil => rfl
    | cons a r ih =>
      cases r with
      | nil => show a = [a].flatten; simp
      | cons b r =>
        show a ++ ([] ++ joinL [] (b :: r)) = _
        rw [ih, List.nil_append]
        rfl
  generalize hz : Txt.join (⟨#[]⟩ : Str) (ls.map fun l => (⟨l.toArray⟩ : Str)) = z at h ⊢
  cases z with
  | mk c =>
    have h' : c.toList = ls.flatten := h
    rw [← h']
theorem dmt_join0 {ls : List (List Nat)} {x : D} (e : seqD x = some (ls.map D.str)) (hz : ls.flatten.length ≤ 1000000) (h : post (.str ls.flatten)) : Dmt K "str" (rJoin K) (.str []) [x] post := fun st M H v vs hst hM trk iv ivs Q q => by
  cases is_str iv
  cases ivs with
  | cons i r =>
    cases r
    obtain ⟨p, vs, rfl, hl, hs⟩ := seqD_ok (K := K) i e
    rw [iss_strs hs] at hl
    refine ⟨_, p, _, rfl, rfl, hl, ?_, q _ H _ h (Fx.refl _ _) ?_⟩
    · have e1 : ((ls.map fun l => (⟨l.toArray⟩ : Str)).map (·.length)).sum = ls.flatten.length := by
        rw [List.map_map, List.length_flatten]
        congr 1
      rw [e1]
      show _ + _ * 0 ≤ _
      omega
    · show Is st M H (.str (Txt.join (⟨#[]⟩ : Str) _)) _
      rw [join_nil]
      exact .str _
/-! ### slices -/
theorem do_none {post : Option Int → Prop} (h : post none) : Do tNoPart env post := fun B M σ H S Q q => q none H h S (Fx.refl _ _)
theorem do_part {post : Option Int → Prop} (h : De te env fun d => ∃ i, d = .int i ∧ post (some i)) : Do (tPart te) env post := fun B M σ H S Q q =>
  h B M σ H S _ fun v H1 x ⟨i, e, hp⟩ S1 e1 i1 => by
    subst e
    cases is_int i1
    exact ⟨i, rfl, q _ H1 hp S1 e1⟩
def Dsl (r : V → Option Int → Option Int → Hp → VK → Prop) (x : D) (l u : Option Int) (post : D → Prop) : Prop := ∀ (st : Addr) (M : List Addr) (H : Hp) (v : V), Stm st M H → st ∈ M → (∀ b ∈ M, ∃ o, H b = some o) → Is st M H v x → ∀ Q : VK,
  (∀ z H' d, post d → Fx st H H' → Is st M H' z d → Q z H') → r v l u H Q
theorem de_sl {r : V → Option Int → Option Int → Hp → VK → Prop} (h : De te env fun x => Do tl env fun l => Do th env fun u => Dsl r x l u post) : De (tSl r te tl th) env post := fun B M σ H S Q q =>
  h B M σ H S _ fun v H1 x hx S1 e1 i1 => hx B M σ H1 S1 _ fun l H2 hl S2 e2 => hl B M σ H2 S2 _ fun u H3 hu S3 e3 => hu B.st M H3 v S3.stm S3.stM S3.trk (S2.is e3 (S1.is e2 i1)) Q fun z H4 d hd e4 i4 => q z H4 d hd (S3.fx e4) (((e1.trans e2).trans e3).trans e4) i4
/-- the items of a slice, over any list -/
def cutD {α : Type} (xs : List α) (lo hi : Option Int) : List α := (xs.drop (HT.sIx xs.length 0 lo)).take (HT.sIx xs.length xs.length hi - HT.sIx xs.length 0 lo)
theorem dsl_str {s : List Nat} {l u : Option Int} (hz : s.length ≤ 1000000) (h : post (.str (cutD s l u))) : Dsl rSlS (.str s) l u post := fun st M H v _ _ _ iv Q q => by
  cases is_str iv
  refine ⟨_, rfl, by rw [len_of]; exact le_line hz, q _ H _ h (Fx.refl _ _) ?_⟩
  have e : cutS (⟨s.toArray⟩ : Str) l u = ⟨(cutD s l u).toArray⟩ := by
    unfold cutS cutD
    rw [len_of]
  rw [e]
  exact .str _
theorem dsl_tup {s : List D} {l u : Option Int} (h : post (.tup (cutD s l u))) : Dsl (rSlA K) (.tup s) l u post := fun st M H v hst hM trk iv Q q => by
  obtain ⟨p, vs, rfl, hl, hs⟩ := is_tup iv
  have hc : Iss st M H (cutV vs l u) (cutD s l u) := by
    unfold cutV cutD
    rw [hs.length]
    exact (hs.drop _).take _
  refine ⟨p, vs, rfl, .of hl, fun z => q _ H _ h (Fx.refl _ _) ?_, fun _ p' hn => q _ _ _ h (Fx.new hn) (.tup upd_same (hc.mono (fun _ z => z) hM (Fx.new hn) hst.notup))⟩
  have e : cutV vs l u = vs := by
    unfold cutV
    rw [z.1, z.2, List.drop_zero, Nat.sub_zero, List.take_length]
  rw [e] at hc
  exact .tup hl hc
theorem dsl_lst {s : List D} {l u : Option Int} (h : post (.lst (cutD s l u))) : Dsl (rSlL K) (.lst s) l u post := fun st M H v hst hM trk iv Q q => by
  obtain ⟨p, vs, rfl, hm, hl, hs⟩ := is_lst iv
  have hc : Iss st M H (cutV vs l u) (cutD s l u) := by
    unfold cutV cutD
    rw [hs.length]
    exact (hs.drop _).take _
  exact ⟨p, vs, rfl, .of hl, fun p' hn => q _ _ _ h (Fx.new hn) (.lst (fresh_ne (st := st) trk hn) upd_same (hc.mono (fun _ z => z) hM (Fx.new hn) hst.notup))⟩
/-! ### tuples and lists put together -/
theorem dop_catt {a b : List D} (hz : a.length + b.length ≤ 1000000) (h : post (.tup (a ++ b))) : Dop (rCatA K) (.tup a) (.tup b) post := fun st M H v w hst hM trk iv iw Q q => by
  obtain ⟨p, vs, rfl, hl, hs⟩ := is_tup iv
  obtain ⟨p2, vs2, rfl, hl2, hs2⟩ := is_tup iw
  refine ⟨p, p2, vs, vs2, rfl, rfl, .of hl, .of hl2, by rw [hs.length, hs2.length]; exact le_line hz, fun e => ?_, fun _ e => ?_, fun _ _ p' hn => ?_⟩
  · subst e
    cases hs
    exact q _ H _ h (Fx.refl _ _) (.tup hl2 hs2)
  · subst e
    cases hs2
    refine q _ H _ h (Fx.refl _ _) ?_
    rw [List.append_nil]
    exact .tup hl hs
  · exact q _ _ _ h (Fx.new hn) (.tup upd_same ((hs.append hs2).mono (fun _ z => z) hM (Fx.new hn) hst.notup))
theorem dop_catl {a b : List D} (hz : a.length + b.length ≤ 1000000) (h : post (.lst (a ++ b))) : Dop rCat (.lst a) (.lst b) post := fun st M H v w hst hM trk iv iw Q q => by
  obtain ⟨p, vs, rfl, hm, hl, hs⟩ := is_lst iv
  obtain ⟨p2, vs2, rfl, hm2, hl2, hs2⟩ := is_lst iw
  exact ⟨p, p2, vs, vs2, rfl, rfl, hl, hl2, by rw [hs.length, hs2.length]; exact le_line hz, fun p' hn => q _ _ _ h (Fx.new hn) (.lst (fresh_ne (st := st) trk hn) upd_same ((hs.append hs2).mono (fun _ z => z) hM (Fx.new hn) hst.notup))⟩
/-! ### truth -/
theorem dt_tru {te : TE} {postb : Bool → Prop} (h : De te env fun x => ∃ b, dTru x = some b ∧ postb b ∧ ∀ l, x = .str l → l.length ≤ 1000000) : Dt (tTruD K te) env postb := fun B M σ H S Q q =>
  h B M σ H S _ fun v H1 x ⟨b, e, hb, hz⟩ S1 e1 i1 => by
    refine ⟨b, ?_, q b H1 hb S1 e1⟩
    cases i1 with
    | non => exact (Option.some.inj e).symm
    | bl b => exact (Option.some.inj e).symm
    | int b => exact (Option.some.inj e).symm
    | str l =>
      refine ⟨by rw [len_of]; exact le_line (hz l rfl), ?_⟩
      rw [len_of, ← Option.some.inj e]
      cases l with
      | nil => rfl
      | cons a r =>
        show (!false) = _
        symm
        exact bne_iff_ne.mpr (by rw [List.length_cons]; omega)
    | lst hm hl hs =>
      refine .inl ⟨_, .of hl, ?_⟩
      rw [← Option.some.inj e]
      cases hs <;> rfl
    | tup hl hs =>
      refine .inr (.inl ⟨_, .of hl, ?_⟩)
      rw [← Option.some.inj e]
      cases hs <;> rfl
    | ptp hm hl hc hs =>
      refine .inr (.inl ⟨_, .ofF hl, ?_⟩)
      rw [← Option.some.inj e]
      cases hs <;> rfl
    | _ => cases e
end
end DL

namespace DL
open PySem PySem.Spec PyProof.Rows L2

/-! ### more rules: a text times a number, a tuple times a number, list of a text, a text turned round -/
def rMulS : R2 := fun x y H Q => ∃ (z : Str) (n : Int), x = .str z ∧ y = .int n ∧ -1000 ≤ n ∧ n ≤ 1000 ∧ z.length ≤ 1000 ∧ Q (.str ⟨(List.replicate n.toNat z.cps.toList).flatten.toArray⟩) H
theorem foldl_rep (a : Array Nat) : ∀ (n : Nat) (acc : Array Nat), (List.replicate n a).foldl (· ++ ·) acc = acc ++ (List.replicate n a.toList).flatten.toArray
  | 0, acc => by simp
  | n + 1, acc => by
    rw [List.replicate_succ, List.foldl_cons, foldl_rep a n, List.replicate_succ, List.flatten_cons, Array.append_assoc]
    congr 1
    apply Array.ext'
    simp
section
variable {X : Cx}
theorem od_mul_str : OpR X (binaryOp .Mult) rMulS := by
  intro pins s σ H x y v u Q I rx ry h
  obtain ⟨z, n, rfl, rfl, h1, h2, h3, q⟩ := h
  obtain ⟨t, rfl⟩ := rx
  obtain ⟨t2, rfl⟩ := ry
  have hz : (sizeLine : Nat) = 16777216 := sizeLine_eq
  have hl : z.length * n.toNat ≤ 1000000 := Nat.le_trans (Nat.mul_le_mul h3 (show n.toNat ≤ 1000 by omega)) (by decide)
  refine P.mul_str (by rw [decide_eq_false (by omega), decide_eq_false (by omega)]; rfl) (fun h0 _ => ?_) (fun _ _ => short24 (by omega)) ?_
  · have h4 : (2 ^ 63 - 1 : Int) / n ≥ (2 ^ 63 - 1) / 1000 := by
      refine (Int.le_ediv_iff_mul_le (by omega)).mpr ?_
      have : ((2 ^ 63 - 1 : Int) / 1000) * n ≤ ((2 ^ 63 - 1 : Int) / 1000) * 1000 := Int.mul_le_mul_of_nonneg_left h2 (by decide)
      exact Int.le_trans this (by decide)
    have h5 : ((2 ^ 63 - 1) / 1000 : Int) ≥ 1000 := by decide
    omega
  · by_cases c1 : n < 1
    · rw [if_pos c1]
      have e : n.toNat = 0 := by omega
      rw [e] at q
      exact ⟨by decide, .str _, H, I.tok _, ⟨_, rfl⟩, q⟩
    · rw [if_neg c1]
      by_cases c2 : (n == 1 || z.length == 0) = true
      · rw [if_pos c2]
        refine ⟨.str z, H, I, ⟨t, rfl⟩, ?_⟩
        have e : (⟨(List.replicate n.toNat z.cps.toList).flatten.toArray⟩ : Str) = z := by
          rcases Bool.or_eq_true _ _ |>.mp c2 with z1 | z1
          · have : n = 1 := by simpa using z1
            subst this
            cases z
            simp
          · have z2 : z.cps.size = 0 := by
              have : z.length = 0 := by simpa using z1
              exact this
            cases z with
            | mk c =>
              have : c = #[] := Array.eq_empty_of_size_eq_zero z2
              subst this
              simp
        rw [e] at q
        exact q
      · rw [if_neg c2]
        have e : (List.replicate n.toNat z.cps).foldl (· ++ ·) #[] = (List.replicate n.toNat z.cps.toList).flatten.toArray := by
          rw [foldl_rep]
          simp
        rw [e]
        refine ⟨?_, .str _, H, I.tok _, ⟨_, rfl⟩, q⟩
        show ((List.replicate n.toNat z.cps.toList).flatten.toArray).size ≤ sizeLine
        rw [List.size_toArray]
        have : ∀ m : Nat, (List.replicate m z.cps.toList).flatten.length = m * z.length := fun m => by
          induction m with
          | zero => simp
          | succ m ih =>
            rw [List.replicate_succ, List.flatten_cons, List.length_append, ih, Nat.succ_mul, Nat.add_comm]
            congr 1
        rw [this, Nat.mul_comm]
        omega
theorem od_rept : OpR X (binaryOp .Mult) (rRepT X.K) := op_repT
end
section
variable {env : Nv} {post : D → Prop} {K : PySem.W.Frag}
theorem dop_muls {a : List Nat} {n : Int} (h1 : -1000 ≤ n) (h2 : n ≤ 1000) (h3 : a.length ≤ 1000) (h : post (.str (List.replicate n.toNat a).flatten)) : Dop rMulS (.str a) (.int n) post := fun st M H v w _ _ _ iv iw Q q => by
  cases is_str iv
  cases is_int iw
  exact ⟨_, n, rfl, rfl, h1, h2, by rw [len_of]; exact h3, q _ H _ h (Fx.refl _ _) (.str _)⟩
theorem iss_rep {st : Addr} {M : List Addr} {H : Hp} {vs : List V} {ds : List D} (h : Iss st M H vs ds) : ∀ n : Nat, Iss st M H (List.replicate n vs).flatten (List.replicate n ds).flatten
  | 0 => .nil
  | n + 1 => by
    rw [List.replicate_succ, List.flatten_cons, List.replicate_succ, List.flatten_cons]
    exact h.append (iss_rep h n)
theorem dop_rept {a : List D} {n : Int} (h1 : 2 ≤ n) (h2 : n ≤ 1000) (h3 : a.length ≤ 1000) (h0 : a ≠ []) (h : post (.tup (List.replicate n.toNat a).flatten)) : Dop (rRepT K) (.tup a) (.int n) post := fun st M H v w hst hM trk iv iw Q q => by
  obtain ⟨p, vs, rfl, hl, hs⟩ := is_tup iv
  cases is_int iw
  refine ⟨p, n, vs, rfl, rfl, .of hl, fun z => ?_, h1, h2, by rw [hs.length]; exact h3, fun p' hn => q _ _ _ h (Fx.new hn) (.tup upd_same ((iss_rep hs _).mono (fun _ z => z) hM (Fx.new hn) hst.notup))⟩
  subst z
  cases hs
  exact h0 rfl
/-- a fresh list from two -/
theorem den_catl {ta tb : TE} {postN : Ow → Prop} (h : De ta env fun x => De tb env fun y => ∃ a b, x = .lst a ∧ y = .lst b ∧ a.length + b.length ≤ 1000000 ∧ postN (.lst (a ++ b))) : DeN (tOp rCat ta tb) env postN := fun B M σ H S Q q => by
  refine h B M σ H S _ fun v H1 x hx S1 e1 i1 => hx B M σ H1 S1 _ fun w H2 y hy S2 e2 i2 => ?_
  obtain ⟨a, b, rfl, rfl, hz, hp⟩ := hy
  obtain ⟨p, vs, rfl, hm, hl, hs⟩ := is_lst (S1.is e2 i1)
  obtain ⟨p2, vs2, rfl, hm2, hl2, hs2⟩ := is_lst i2
  have f := e1.trans e2
  exact ⟨p, p2, vs, vs2, rfl, rfl, hl, hl2, by rw [hs.length, hs2.length]; exact le_line hz, fun p' hn => q p' _ (.lst (vs ++ vs2)) (.lst (a ++ b)) hp (S2.newIn hn _) (f.trans (Fx.new hn)) upd_same (.lst (S2.newIs hn _ (hs.append hs2))) (fresh_back f (S2.nst hn) hn)⟩
/-- list(range(n)) -/
theorem den_listrg {tas : TA} {te : L2.St → Hp → (Int → Int → Hp → Prop) → Prop} : True := trivial
/-! ### slices of written bounds -/
theorem cutD_to {α : Type} (xs : List α) (i : Int) (h : 0 ≤ i) : cutD xs none (some i) = xs.take i.toNat := by
  obtain ⟨n, rfl⟩ := Int.eq_ofNat_of_zero_le h
  unfold cutD
  rw [HT.sIx_none, HT.sIx_nat, List.drop_zero, Nat.sub_zero]
  simp
theorem cutD_from {α : Type} (xs : List α) (i : Int) (h : 0 ≤ i) : cutD xs (some i) none = xs.drop i.toNat := by
  obtain ⟨n, rfl⟩ := Int.eq_ofNat_of_zero_le h
  unfold cutD
  rw [HT.sIx_none, HT.sIx_nat]
  rw [List.take_of_length_le (by rw [List.length_drop]; omega)]
  show xs.drop (min n xs.length) = xs.drop n
  by_cases hn : n ≤ xs.length
  · rw [Nat.min_eq_left hn]
  · rw [Nat.min_eq_right (by omega), List.drop_of_length_le (Nat.le_refl _), List.drop_of_length_le (by omega)]
theorem cutD_mid {α : Type} (xs : List α) (i j : Int) (h : 0 ≤ i) (h2 : 0 ≤ j) : cutD xs (some i) (some j) = (xs.drop i.toNat).take (j.toNat - i.toNat) := by
  obtain ⟨n, rfl⟩ := Int.eq_ofNat_of_zero_le h
  obtain ⟨m, rfl⟩ := Int.eq_ofNat_of_zero_le h2
  unfold cutD
  rw [HT.sIx_nat, HT.sIx_nat]
  show (xs.drop (min n xs.length)).take (min m xs.length - min n xs.length) = (xs.drop n).take (m - n)
  by_cases hn : n ≤ xs.length
  · rw [Nat.min_eq_left hn]
    by_cases hm : m ≤ xs.length
    · rw [Nat.min_eq_left hm]
    · rw [Nat.min_eq_right (by omega), List.take_of_length_le (by rw [List.length_drop]; omega), List.take_of_length_le (by rw [List.length_drop]; omega)]
  · rw [Nat.min_eq_right (by omega : xs.length ≤ n), List.drop_of_length_le (Nat.le_refl _), List.drop_of_length_le (by omega), List.take_nil, List.take_nil]
theorem atI_at {α : Type} {xs : List α} {i : Int} {x : α} (h : 0 ≤ i) (e : xs[i.toNat]? = some x) : atI xs i = some x := by
  have hl := (List.getElem?_eq_some_iff.mp e).1
  unfold atI ixN
  rw [if_pos h, if_pos (by omega)]
  exact e
theorem atI_lt {α : Type} (xs : List α) (i : Int) (h : 0 ≤ i) (h2 : i < xs.length) : ∃ x, atI xs i = some x ∧ x ∈ xs := by
  have hl : i.toNat < xs.length := by omega
  exact ⟨xs[i.toNat], atI_at h (List.getElem?_eq_getElem hl), List.getElem_mem hl⟩
theorem atI_back {α : Type} (xs : List α) (x : α) : atI (xs ++ [x]) (-1) = some x := by
  unfold atI ixN
  rw [if_neg (by omega), if_pos (by rw [List.length_append, List.length_singleton]; omega)]
  show (xs ++ [x])[_]? = _
  rw [List.length_append, List.length_singleton]
  have : ((-1 : Int) + ((xs.length + 1 : Nat) : Int)).toNat = xs.length := by omega
  rw [this]
  simp
end
section
variable {post : D → Prop} {K : PySem.W.Frag} {i j : Int}
theorem dsl_tup_to {s : List D} (h0 : 0 ≤ i) (h : post (.tup (s.take i.toNat))) : Dsl (rSlA K) (.tup s) none (some i) post := dsl_tup (by rw [cutD_to _ _ h0]; exact h)
theorem dsl_tup_from {s : List D} (h0 : 0 ≤ i) (h : post (.tup (s.drop i.toNat))) : Dsl (rSlA K) (.tup s) (some i) none post := dsl_tup (by rw [cutD_from _ _ h0]; exact h)
theorem dsl_tup_mid {s : List D} (h0 : 0 ≤ i) (h1 : 0 ≤ j) (h : post (.tup ((s.drop i.toNat).take (j.toNat - i.toNat)))) : Dsl (rSlA K) (.tup s) (some i) (some j) post := dsl_tup (by rw [cutD_mid _ _ _ h0 h1]; exact h)
theorem dsl_str_to {s : List Nat} (hz : s.length ≤ 1000000) (h0 : 0 ≤ i) (h : post (.str (s.take i.toNat))) : Dsl rSlS (.str s) none (some i) post := dsl_str hz (by rw [cutD_to _ _ h0]; exact h)
theorem dsl_str_from {s : List Nat} (hz : s.length ≤ 1000000) (h0 : 0 ≤ i) (h : post (.str (s.drop i.toNat))) : Dsl rSlS (.str s) (some i) none post := dsl_str hz (by rw [cutD_from _ _ h0]; exact h)
theorem dsl_str_mid {s : List Nat} (hz : s.length ≤ 1000000) (h0 : 0 ≤ i) (h1 : 0 ≤ j) (h : post (.str ((s.drop i.toNat).take (j.toNat - i.toNat)))) : Dsl rSlS (.str s) (some i) (some j) post := dsl_str hz (by rw [cutD_mid _ _ _ h0 h1]; exact h)
end
/-! ### kinds -/
def okD : D → Bool
  | .stm => false
  | .ty _ => false
  | .exc .. => false
  | .cls _ => false
  | _ => true
theorem okD.odd {v : D} (h : okD v = true) : oddD v = false := by cases v <;> first | rfl | cases h
theorem okD.ty {v : D} (h : okD v = true) : ∀ n, v ≠ .ty n := fun n z => by rw [z] at h; cases h
theorem okD.stm {v : D} (h : okD v = true) : v ≠ .stm := fun z => by rw [z] at h; cases h
def isTy (T : String) (v : D) : Bool := match v with
  | .bl _ => T == "bool" || T == "int"
  | v => tyD v == T
theorem kits : ∀ s ∈ ["NoneType", "bool", "int", "str", "tuple", "list", "dict"], ∀ T ∈ ["int", "bool", "str", "tuple", "list"], kitB s T = some (if s = "bool" then (T == "bool" || T == "int") else s == T) := by decide +kernel
theorem kit_of_ty {v : D} {T : String} (h : okD v = true) (hT : T = "int" ∨ T = "bool" ∨ T = "str" ∨ T = "tuple" ∨ T = "list") : kitB (tyD v) T = some (isTy T v) := by
  have hm : T ∈ ["int", "bool", "str", "tuple", "list"] := by
    rcases hT with rfl | rfl | rfl | rfl | rfl <;> simp
  cases v with
  | stm => cases h
  | ty n => cases h
  | cls n => cases h
  | exc a b c d => cases h
  | bl b => exact kits "bool" (by simp) T hm
  | non => exact kits "NoneType" (by simp) T hm
  | int i => exact kits "int" (by simp) T hm
  | str s => exact kits "str" (by simp) T hm
  | tup ds => exact kits "tuple" (by simp) T hm
  | ptp ds => exact kits "tuple" (by simp) T hm
  | lst ds => exact kits "list" (by simp) T hm
  | dK ds => exact kits "dict" (by simp) T hm
  | dT ds => exact kits "dict" (by simp) T hm
  | dKx ks ds => exact kits "dict" (by simp) T hm
  | dTx ks ds => exact kits "dict" (by simp) T hm
theorem dcl_isib {K : PySem.W.Frag} {post : D → Prop} {x : D} {T : String} (b : Bool) (hx : okD x = true) (hT : T = "int" ∨ T = "bool" ∨ T = "str" ∨ T = "tuple" ∨ T = "list") (hb : isTy T x = b) (h : post (.bl b)) : Dcl (rIsiD K) [x, .ty T] post :=
  dcl_isi (okD.odd hx) (hb ▸ kit_of_ty hx hT) h
theorem dcl_isi' {K : PySem.W.Frag} {post : D → Prop} {x : D} {T : String} (hx : okD x = true) (hT : T = "int" ∨ T = "bool" ∨ T = "str" ∨ T = "tuple" ∨ T = "list") (h : post (.bl (isTy T x))) : Dcl (rIsiD K) [x, .ty T] post :=
  dcl_isi (okD.odd hx) (kit_of_ty hx hT) h
end DL

namespace DL
open PySem PySem.Spec PyProof.Rows L2

theorem df_mk {K : PySem.W.Frag} {h : Heap} {mg : Str → Option Value} {x : Str} {st : Stmt} {ps : List Str} {f : Addr} {oc kV dc pm cd ct : Value} {od an : Option Addr} {sl : Array (Option Value)} (X : K.In h) (G : h.Ns mainGlobals mg)
    (a : PySem.W.nsIn K mainGlobals x = some (some (.ref f))) (l : K.lookup f = some ⟨oc, od, .func (PySem.W.fnOf x x (defArgs st) (defBody st) (defScope st) .none kV dc pm an cd ct), sl⟩) (c : PySem.W.codeIn K cd x = true) (k : PySem.W.keepIn K (.ref f) = true)
    (hb : ∀ (kV doc pm : Value) (an : Option Addr) (cdv ct : Value) (us : List Value), us.length = ps.length → bindArgs (PySem.W.fnOf x x (defArgs st) (defBody st) (defScope st) .none kV doc pm an cdv ct) ⟨us, []⟩ = pure (ps.zip us)) : Df K mg x st ps :=
  ⟨f, _, fun_mk l c k, PySem.W.mg_of X G a, (fun_mk l c k).binds hb⟩
theorem mg_intK {K : PySem.W.Frag} {h : Heap} {mg : Str → Option Value} {x : Str} {n : Int} {t : Tok} (X : K.In h) (G : h.Ns mainGlobals mg) (a : PySem.W.nsIn K mainGlobals x = some (some (.int n t))) : ∃ u, mg x = some u ∧ RelV (.int n) u :=
  ⟨_, PySem.W.mg_of X G a, t, rfl⟩
theorem mg_strK {K : PySem.W.Frag} {h : Heap} {mg : Str → Option Value} {x : Str} {n : Str} {t : Tok} (X : K.In h) (G : h.Ns mainGlobals mg) (a : PySem.W.nsIn K mainGlobals x = some (some (.str n t))) : ∃ u, mg x = some u ∧ RelV (.str n) u :=
  ⟨_, PySem.W.mg_of X G a, t, rfl⟩
def spLaw (K : PySem.W.Frag) : Sp := fun vs H Q _ => ∃ (a : Addr) (ns : List Int), vs = [.ref a] ∧ SqL K H a (ns.map V.int) ∧ ns.length ≤ 63 ∧ ∀ H', Q (.bl true) H'
def spStream (K : PySem.W.Frag) : Sp := fun vs H Q _ => ∃ (a : Addr) (ns : List Int), vs = [.ref a] ∧ SqL K H a (ns.map V.int) ∧
  ∀ b st H', st ≠ b → H' b = some (.lst (ns.map V.int)) → H' st = some (.lst [.ref b, .int 0, .int 0]) → Q (.ref st) H'
theorem law_read {K : PySem.W.Frag} {tr : TS} {N : List Str} {n : Nat} (hN : N.length = n + 2) (h : Ds tr (.any :: .dat .stm :: List.replicate n .any) (fun _ => False) (fun d => d = .bl true) (fun _ => False) (fun _ => False)) :
    ∀ vs H Q (E : XK), spLaw K vs H Q E → (tSeq (tAsg (tCall (spStream K) [] E0 (tCons (tVar 0) tNil)) (gName 1)) tr) { nx := fun _ H' => Q .non H', rt := Q } (L2.start N vs) H := by
  intro vs H Q E ⟨a, ns, e, hS, hl, q⟩
  subst e
  have e0 : L2.start N [V.ref a] = some (.ref a) :: none :: List.replicate n none := by
    unfold L2.start
    rw [hN]
    show some (V.ref a) :: List.replicate (n + 1) none = _
    rw [List.replicate_succ]
  rw [e0]
  refine ⟨.ref a, rfl, a, ns, rfl, hS, fun b st H' ne hb hs => ?_⟩
  have S : Sr ⟨st, [st], H', []⟩ [st] (some (.ref a) :: some (.ref st) :: List.replicate n none) H' (.any :: .dat .stm :: List.replicate n .any) := by
    have anyat : ∀ (i : Nat) s, (Sl.any :: Sl.dat D.stm :: List.replicate n Sl.any)[i]? = some s → (i = 1 ∧ s = .dat .stm) ∨ s = .any := fun i s h => by
      match i with
      | 0 => exact .inr (Option.some.inj h).symm
      | 1 => exact .inl ⟨rfl, (Option.some.inj h).symm⟩
      | i + 2 =>
        have h' : (List.replicate n Sl.any)[i]? = some s := h
        obtain ⟨_, h'⟩ := List.getElem?_eq_some_iff.mp h'
        rw [List.getElem_replicate] at h'
        exact .inr h'.symm
    refine ⟨⟨b, ns, 0, 0, fun z => ne (List.mem_singleton.mp z).symm, fun z => ne z.symm, hs, hb, by omega, by omega⟩, List.mem_singleton.mpr rfl, Fx.refl _ _, fun _ z => z, fun _ z => .inl z, fun c hc => ⟨_, (List.mem_singleton.mp hc) ▸ hs⟩, List.mem_singleton.mpr rfl, fun c hc => ⟨_, (List.mem_singleton.mp hc) ▸ hs⟩, ?_, fun i d h => ?_, fun i o h => ?_, fun i j p o u h => ?_, fun x hx => nomatch hx⟩
    · simp
    · rcases anyat i _ h with ⟨rfl, z⟩ | z
      · cases z
        exact ⟨.ref st, rfl, .stm⟩
      · cases z
    · rcases anyat i _ h with ⟨_, z⟩ | z <;> cases z
    · rcases anyat i _ h with ⟨_, z⟩ | z <;> cases z
  exact h _ _ _ _ S _ (fun _ _ _ _ he _ => he.elim) (fun v H'' d hd fx iv => by
    have hd' : d = .bl true := hd
    subst hd'
    cases is_bl iv
    exact q H'') (fun _ _ _ _ he _ => he.elim) (fun _ _ _ _ he _ => he.elim)
/-- the stream's state is told by nothing but its form -/
theorem stm_next {st : Addr} {M : List Addr} {H : Hp} {c' k' : Int} (hs : Stm st M H) (h1 : 0 ≤ c') (h2 : 0 ≤ k') {a : Addr} {c k : Int} (e : H st = some (.lst [.ref a, .int c, .int k])) : Fx st H (upd H st (.lst [.ref a, .int c', .int k'])) := by
  refine ⟨fun b o hb h => by rw [upd_ne hb]; exact h, fun a2 c2 k2 _ _ e2 => ?_⟩
  rw [e] at e2
  cases e2
  exact ⟨c', k', h1, h2, upd_same⟩
end DL

namespace DL
open PySem PySem.Spec PyProof.Rows L2

/-! ### the letters and their opposites -/
def sw : Nat → Nat
  | 97 => 65 | 65 => 97 | 98 => 66 | 66 => 98 | 99 => 67 | 67 => 99 | c => c
def LTR : List Nat := [97, 65, 98, 66, 99, 67]
theorem sw_mem : ∀ {c : Nat}, c ∈ LTR → sw c ∈ LTR := fun {c} h => by
  simp only [LTR, List.mem_cons, List.not_mem_nil, or_false] at h
  rcases h with rfl | rfl | rfl | rfl | rfl | rfl <;> decide
theorem sw_sw : ∀ {c : Nat}, c ∈ LTR → sw (sw c) = c := fun {c} h => by
  simp only [LTR, List.mem_cons, List.not_mem_nil, or_false] at h
  rcases h with rfl | rfl | rfl | rfl | rfl | rfl <;> rfl
theorem sw_ne : ∀ {c : Nat}, c ∈ LTR → sw c ≠ c := fun {c} h => by
  simp only [LTR, List.mem_cons, List.not_mem_nil, or_false] at h
  rcases h with rfl | rfl | rfl | rfl | rfl | rfl <;> decide
theorem placed_one (l : List Nat) (f : Nat → Nat → List Nat) (g : Nat → Nat) (h : ∀ (i c : Nat), l[i]? = some c → f i c = [g c]) : placed ⟨l.toArray⟩ f = (l.map g).toArray := by
  apply Array.ext'
  unfold placed
  rw [Array.toList_flatten, List.toList_toArray]
  show ((Array.mapIdx (fun i c => (f i c).toArray) l.toArray).toList.map Array.toList).flatten = _
  rw [Array.toList_mapIdx]
  have : (List.mapIdx (fun i c => (f i c).toArray) l).map Array.toList = l.map fun c => [g c] := by
    apply List.ext_getElem?
    intro i
    rw [List.getElem?_map, List.getElem?_mapIdx, List.getElem?_map]
    cases e : l[i]? with
    | none => rfl
    | some c =>
      show some (f i c).toArray.toList = some [g c]
      rw [h i c e]
  show ((List.mapIdx (fun i c => (f i c).toArray) l).map Array.toList).flatten = _
  rw [this]
  clear this h
  induction l with
  | nil => rfl
  | cons a r ih =>
    rw [List.map_cons, List.flatten_cons, ih]
    rfl
theorem swap_txt {l : List Nat} (h : ∀ c ∈ l, c ∈ LTR) : Txt.swapcase ⟨l.toArray⟩ = ⟨(l.map sw).toArray⟩ := by
  unfold Txt.swapcase
  rw [placed_one l _ sw]
  intro i c hc
  have hm := h c (List.mem_of_getElem? hc)
  have hl : Unicode.lowerAt (⟨l.toArray⟩ : Str).cps i = if c == 0x3A3 && Unicode.endsWord (⟨l.toArray⟩ : Str).cps i then [0x3C2] else Unicode.lowerOf c := by
    unfold Unicode.lowerAt
    have : (⟨l.toArray⟩ : Str).cps[i]? = some c := by
      show l.toArray[i]? = some c
      rw [List.getElem?_toArray]
      exact hc
    rw [this]
  rw [hl]
  generalize Unicode.endsWord (⟨l.toArray⟩ : Str).cps i = b
  simp only [LTR, List.mem_cons, List.not_mem_nil, or_false] at hm
  rcases hm with rfl | rfl | rfl | rfl | rfl | rfl <;> cases b <;> decide +kernel
def rSwap : V → List V → Hp → VK → Prop := fun x xs H Q => ∃ a, x = .str a ∧ xs = [] ∧ a.length ≤ 5592405 ∧ Q (.str (Txt.swapcase a)) H
def rListStr : List V → Hp → VK → Prop := fun xs H Q => ∃ z : Str, xs = [.str z] ∧ z.length ≤ sizeLine ∧ ∀ l, H l = none → Q (.ref l) (upd H l (.lst (z.cps.toList.map fun c => V.str ⟨#[c]⟩)))
def tRevS (te : TE) : TE := fun σ H Q => te σ H fun x H1 => ∃ z : Str, x = .str z ∧ z.length ≤ sizeLine ∧ Q (.str ⟨z.cps.toList.reverse.toArray⟩) H1
theorem rev_list (l : List Nat) : (List.range l.length).map (fun k => l.toArray.getD (l.length - 1 - k) 0) = l.reverse := by
  apply List.ext_getElem?
  intro i
  by_cases hi : i < l.length
  · rw [List.getElem?_map, List.getElem?_range hi, List.getElem?_reverse hi]
    have hj : l.length - 1 - i < l.length := by omega
    show some (l.toArray.getD (l.length - 1 - i) 0) = _
    rw [List.getElem?_eq_getElem hj]
    simp [Array.getD, hj]
  · rw [List.getElem?_eq_none (by rw [List.length_map, List.length_range]; omega), List.getElem?_eq_none (by rw [List.length_reverse]; omega)]
section
variable {X : Cx}
theorem md_swap : MtR X "str.swapcase" rSwap := by
  intro pins s σ H x xs v us Q I rx rs h
  obtain ⟨a, rfl, rfl, hc, h⟩ := h
  obtain ⟨t, rfl⟩ := rx
  cases rs
  exact SC.swapcase (fit_swapcase hc) ⟨.str _, H, I.tok _, ⟨_, rfl⟩, h⟩
theorem cd_liststr (hc : X.calm = true) : CallR X (.type "list") rListStr := by
  intro pins s σ H xs us Q I r h
  obtain ⟨z, rfl, hz, q⟩ := h
  cases r with
  | cons r rr =>
    cases rr
    obtain ⟨t, rfl⟩ := r
    refine call_list_str (I.ok.hd hc) z t (fun h' tk acc' c' hk hS' hacc => ?_) (hn := hz)
    have rv : Vals (z.cps.toList.map fun c => V.str ⟨#[c]⟩) acc'.toList := by
      have gen : ∀ (l : List Nat) (us : List Value), l.length = us.length → (∀ (j : Nat) v, us[j]? = some v → ∃ c u, l[j]? = some c ∧ v = .str ⟨#[c]⟩ u) → Vals (l.map fun c => V.str ⟨#[c]⟩) us := by
        intro l
        induction l with
        | nil =>
          intro us hl _
          cases us with
          | nil => exact .nil
          | cons a b => cases hl
        | cons c r ih =>
          intro us hl hu
          cases us with
          | nil => cases hl
          | cons a b =>
            obtain ⟨c', u, e1, e2⟩ := hu 0 a rfl
            cases e1
            exact .cons ⟨u, e2⟩ (ih b (by simpa using hl) fun j v hj => hu (j + 1) v hj)
      refine gen _ _ (by rw [Array.length_toList, Array.length_toList, hacc.1]) fun j v hj => ?_
      obtain ⟨c, u, h1, h2⟩ := hacc.2 j v (by simpa using hj)
      exact ⟨c, u, by simpa using h1, h2⟩
    refine ⟨.ref s.heap.objs.size, upd H s.heap.objs.size (.lst (z.cps.toList.map fun c => V.str ⟨#[c]⟩)), I.laid hk (Nat.le_refl _) (show ObjOk X.prog X.w _ _ _ (.lst (z.cps.toList.map fun c => V.str ⟨#[c]⟩)) from ⟨?_, acc'.toList, c', rv, ?_⟩), rfl, q _ (I.hok.fresh (Nat.le_refl _))⟩
    · rw [List.length_map, Array.length_toList]
      exact hz
    · rw [Array.toArray_toList]
      exact hS'
theorem pd_revS {e : Expr} {te : TE} {k : Nat} {p1 p2 p3 pos : Pos} (he : PE X e te) : PE X (.Subscript e (.Slice none none (some (.UnaryOp .USub (.Constant (.int 1) k p1) p2)) p3) pos) (tRevS te) := by
  refine ⟨fun pins s σ H Q I h => ?_⟩
  refine Subscript_ (thn (he.run pins s σ H _ I h) fun v s1 ⟨x, H1, I1, r1, q1⟩ => ?_)
  obtain ⟨z, ex, hz, q⟩ := q1
  subst ex
  obtain ⟨t, rfl⟩ := r1
  have hst : PO X (some (.UnaryOp .USub (.Constant (.int 1) k p1) p2)) (tPart (tUn (rU fun i => .int (-i)) (tC (.int 1)))) := po_some (pe_un un_neg pe_int)
  refine wpAny_Slice (thn (po_none.run pins s1 σ H1 (fun o H2 => o = none ∧ H2 = H1) I1 ⟨rfl, rfl⟩) fun vl s2 ⟨l, H2, I2, pl, el, e2⟩ => ?_)
  subst el e2
  refine thn (po_none.run pins s2 σ H2 (fun o H3 => o = none ∧ H3 = H2) I2 ⟨rfl, rfl⟩) fun vu s3 ⟨u, H3, I3, pu, eu, e3⟩ => ?_
  subst eu e3
  refine thn (hst.run pins s3 σ H3 (fun o H4 => o = some (-1) ∧ H4 = H3) I3 ⟨1, rfl, -1, rfl, rfl, rfl⟩) fun vs s4 ⟨o, H4, I4, ps, eo, e4⟩ => ?_
  subst eo e4
  obtain ⟨l1, hl2, hl1⟩ := IsPart.raw pl
  obtain ⟨u1, hu2, hu1⟩ := IsPart.raw pu
  obtain ⟨w1, hw2, hw1⟩ := IsPart.raw ps
  cases l1 with
  | some q => cases hl1
  | none =>
    cases u1 with
    | some q => cases hu1
    | none =>
      cases w1 with
      | none => cases hw1
      | some wp =>
        obtain ⟨wi, wt⟩ := wp
        have ewi : wi = -1 := Option.some.inj hw1
        subst ewi
        subst hl2 hu2 hw2
        have I5 : Inv X pins σ H4 { s4 with heap := s4.heap.push { cls := .type "slice", data := .fields #[partValue none, partValue none, partValue (some (-1, wt))] } } := I4.kept (t' := s4.toks) fun b ob q => Heap.get?_push_of_some _ q
        show wpAny (model X.prog X.w) X.A (subscriptTail e (.Slice none none (some (.UnaryOp .USub (.Constant (.int 1) k p1) p2)) p3) (.str z t) (.ref s4.heap.objs.size)) (EP X pins σ Q) X.xe _
        refine tail_any (ops := [.str z t, .ref s4.heap.objs.size]) (typeIs_str _ _ _) (F.slot_str_getitem.lookup) ?_ (by with_unfolding_all rfl)
        refine wpAny_getItem_str_slice (l := none) (u := none) (st := some (-1, wt)) ⟨_, Heap.get?_push_size _ rfl, rfl, rfl⟩ rfl ?_
        have h1 : ¬ (((((some ((-1 : Int), wt)).map (·.1)).getD 1 == 1) && (slicePicked z none none (some (-1, wt))).length == z.length) = true) := by
          have : ((((some ((-1 : Int), wt)).map (·.1)).getD 1 == 1)) = false := rfl
          rw [this]; simp
        unfold sliceMade
        rw [if_neg h1]
        have e : ((slicePicked z none none (some (-1, wt))).filterMap (z.cps[·]?)) = z.cps.toList.reverse := by
          have h2 := step_rev_list z wt
          unfold Txt.sliceBy at h2
          rw [if_neg h1] at h2
          rw [List.toList_toArray] at h2
          rw [h2]
          cases z with
          | mk c =>
            have := rev_list c.toList
            rw [Array.length_toList, Array.toArray_toList] at this
            exact this
        rw [e]
        refine ⟨?_, .str _, H4, I5.tok _, ⟨_, rfl⟩, q⟩
        show (z.cps.toList.reverse.toArray).size ≤ sizeLine
        rw [List.size_toArray, List.length_reverse, Array.length_toList]
        exact hz
end
section
variable {env : Nv} {post : D → Prop} {K : PySem.W.Frag} {te : TE}
theorem dmt_swap {l : List Nat} (hz : l.length ≤ 1000000) (hl : ∀ c ∈ l, c ∈ LTR) (h : post (.str (l.map sw))) : Dmt K "str" rSwap (.str l) [] post := fun st M H v vs hst hM trk iv ivs Q q => by
  cases is_str iv
  cases ivs
  refine ⟨_, rfl, rfl, by rw [len_of]; omega, q _ H _ h (Fx.refl _ _) ?_⟩
  rw [swap_txt hl]
  exact .str _
theorem iss_sign {st : Addr} {M : List Addr} {H : Hp} : ∀ l : List Nat, Iss st M H (l.map fun c => V.str ⟨#[c]⟩) (l.map sign)
  | [] => .nil
  | a :: r => .cons (.str [a]) (iss_sign r)
theorem dcl_liststr {l : List Nat} (hz : l.length ≤ 1000000) (h : post (.lst (l.map sign))) : Dcl rListStr [.str l] post := fun st M H vs hst hM trk iv Q q => by
  cases iv with
  | cons i r =>
    cases r
    cases is_str i
    refine ⟨_, rfl, by rw [len_of]; exact le_line hz, fun p hn => q _ _ _ h (Fx.new hn) (.lst (fresh_ne (st := st) trk hn) upd_same ?_)⟩
    exact iss_sign l
theorem de_revS (h : De te env fun x => ∃ l, x = .str l ∧ l.length ≤ 1000000 ∧ post (.str l.reverse)) : De (tRevS te) env post := fun B M σ H S Q q =>
  h B M σ H S _ fun v H1 x ⟨l, e, hz, hp⟩ S1 e1 i1 => by
    subst e
    cases is_str i1
    refine ⟨_, rfl, by rw [len_of]; exact le_line hz, q _ H1 _ hp S1 e1 ?_⟩
    show Is B.st M H1 (.str ⟨(l.toArray.toList).reverse.toArray⟩) _
    rw [List.toList_toArray]
    exact .str _
theorem dmt_sindex {l : List Nat} {c i : Nat} {r : List Nat} (e : Builtin.Str.occurrences ⟨l.toArray⟩ ⟨#[c]⟩ 0 l.length 1 = i :: r) (h : post (.int (i : Nat))) : Dmt K "str" rSIndex (.str l) [.str [c]] post := fun st M H v vs hst hM trk iv ivs Q q => by
  cases is_str iv
  cases ivs with
  | cons i r =>
    cases r
    cases is_str i
    exact ⟨_, _, _, _, rfl, rfl, by rw [len_of]; exact e, q _ H _ h (Fx.refl _ _) (.int _)⟩
/-- the place of a letter among the letters -/
def ixL : Nat → Nat
  | 97 => 0 | 65 => 1 | 98 => 2 | 66 => 3 | 99 => 4 | 67 => 5 | _ => 6
theorem ix_let {c : Nat} (h : c ∈ LTR) : Builtin.Str.occurrences ⟨([97, 65, 98, 66, 99, 67] : List Nat).toArray⟩ ⟨#[c]⟩ 0 ([97, 65, 98, 66, 99, 67] : List Nat).length 1 = [ixL c] := by
  simp only [LTR, List.mem_cons, List.not_mem_nil, or_false] at h
  rcases h with rfl | rfl | rfl | rfl | rfl | rfl <;> decide +kernel
theorem ix_at {c : Nat} (h : c ∈ LTR) : atI ([65, 97, 66, 98, 67, 99] : List Nat) (ixL c : Nat) = some (sw c) := by
  simp only [LTR, List.mem_cons, List.not_mem_nil, or_false] at h
  rcases h with rfl | rfl | rfl | rfl | rfl | rfl <;> decide
end
end DL

namespace DL
open PySem PySem.Spec PyProof.Rows L2

/-! ### words: what is left when opposite neighbours are left out -/
abbrev Lts (w : List Nat) : Prop := ∀ c ∈ w, c ∈ LTR
/-- the stack, its top first -/
def psh (k : List Nat) (c : Nat) : List Nat := match k with
  | [] => [c]
  | x :: k => if x = sw c then k else c :: x :: k
theorem psh_cons (x : Nat) (k : List Nat) (c : Nat) : psh (x :: k) c = if x = sw c then k else c :: x :: k := rfl
def stk (w : List Nat) : List Nat := w.foldl psh []
def fold (w : List Nat) : List Nat := (stk w).reverse
def inv (w : List Nat) : List Nat := w.reverse.map sw
def red : List Nat → Prop
  | x :: y :: r => x ≠ sw y ∧ red (y :: r)
  | _ => True
theorem red_tail {x : Nat} {k : List Nat} (h : red (x :: k)) : red k := by
  cases k with
  | nil => trivial
  | cons y r => exact h.2
theorem sw_eq {a b : Nat} (ha : a ∈ LTR) (hb : b ∈ LTR) : a = sw b ↔ b = sw a := by
  constructor
  · intro h; rw [h, sw_sw hb]
  · intro h; rw [h, sw_sw ha]
theorem psh_lts {k : List Nat} {c : Nat} (hk : Lts k) (hc : c ∈ LTR) : Lts (psh k c) := by
  cases k with
  | nil => intro x hx; rw [List.mem_singleton.mp hx]; exact hc
  | cons y r =>
    rw [psh_cons]
    split
    · exact fun x hx => hk x (List.mem_cons_of_mem _ hx)
    · intro x hx
      rcases List.mem_cons.mp hx with z | z
      · rw [z]; exact hc
      · exact hk x z
theorem psh_red {k : List Nat} {c : Nat} (hk : Lts k) (hc : c ∈ LTR) (h : red k) : red (psh k c) := by
  cases k with
  | nil => trivial
  | cons y r =>
    rw [psh_cons]
    split
    · exact red_tail h
    · rename_i hy
      exact ⟨fun z => hy ((sw_eq hc (hk y List.mem_cons_self)).mp z), h⟩
theorem psh_psh {k : List Nat} {c : Nat} (hk : Lts k) (hc : c ∈ LTR) (h : red k) : psh (psh k c) (sw c) = k := by
  cases k with
  | nil =>
    show psh [c] (sw c) = []
    rw [psh_cons, sw_sw hc, if_pos rfl]
  | cons y r =>
    by_cases hy : y = sw c
    · have e : psh (y :: r) c = r := by rw [psh_cons, if_pos hy]
      rw [e]
      cases r with
      | nil => rw [hy]; rfl
      | cons z t =>
        rw [psh_cons]
        rw [sw_sw hc, if_neg, hy]
        intro hz
        have h1 : y ≠ sw z := h.1
        rw [hz] at h1
        exact h1 hy
    · have e : psh (y :: r) c = c :: y :: r := by rw [psh_cons, if_neg hy]
      rw [e]
      rw [psh_cons]
      rw [sw_sw hc, if_pos rfl]
theorem fl_lts {w : List Nat} : ∀ {k : List Nat}, Lts k → Lts w → Lts (w.foldl psh k) := by
  induction w with
  | nil => intro k hk _; exact hk
  | cons c w ih => intro k hk hw; exact ih (psh_lts hk (hw c List.mem_cons_self)) fun x hx => hw x (List.mem_cons_of_mem _ hx)
theorem fl_red {w : List Nat} : ∀ {k : List Nat}, Lts k → Lts w → red k → red (w.foldl psh k) := by
  induction w with
  | nil => intro k _ _ h; exact h
  | cons c w ih => intro k hk hw h; exact ih (psh_lts hk (hw c List.mem_cons_self)) (fun x hx => hw x (List.mem_cons_of_mem _ hx)) (psh_red hk (hw c List.mem_cons_self) h)
theorem stk_lts {w : List Nat} (hw : Lts w) : Lts (stk w) := fl_lts (fun _ h => nomatch h) hw
theorem stk_red {w : List Nat} (hw : Lts w) : red (stk w) := fl_red (fun _ h => nomatch h) hw trivial
theorem fold_lts {w : List Nat} (hw : Lts w) : Lts (fold w) := fun c hc => stk_lts hw c (List.mem_reverse.mp hc)
theorem red_app {a b : List Nat} (h : red (a ++ b)) : red b := by
  induction a with
  | nil => exact h
  | cons x a ih => exact ih (red_tail h)
/-- what is reduced is kept -/
theorem fl_self {w : List Nat} : ∀ {k : List Nat}, Lts k → Lts w → red (w.reverse ++ k) → w.foldl psh k = w.reverse ++ k := by
  induction w with
  | nil => intro k _ _ _; rfl
  | cons c w ih =>
    intro k hk hw h
    have hc := hw c List.mem_cons_self
    rw [List.reverse_cons, List.append_assoc, List.singleton_append] at h ⊢
    have e : psh k c = c :: k := by
      cases k with
      | nil => rfl
      | cons y r =>
        have h1 : red (c :: y :: r) := red_app h
        rw [psh_cons]
        rw [if_neg fun z => h1.1 ((sw_eq (hk y List.mem_cons_self) hc).mp z)]
    show w.foldl psh (psh k c) = _
    rw [e]
    exact ih (fun x hx => (List.mem_cons.mp hx).elim (fun z => z ▸ hc) (hk x)) (fun x hx => hw x (List.mem_cons_of_mem _ hx)) h
theorem stk_fold {w : List Nat} (hw : Lts w) : stk (fold w) = stk w := by
  have h := fl_self (w := fold w) (k := []) (fun _ h => nomatch h) (fold_lts hw) (by
    rw [List.append_nil]
    show red (stk w).reverse.reverse
    rw [List.reverse_reverse]
    exact stk_red hw)
  show (fold w).foldl psh [] = _
  rw [h, List.append_nil]
  show (stk w).reverse.reverse = _
  rw [List.reverse_reverse]
theorem fold_fold {w : List Nat} (hw : Lts w) : fold (fold w) = fold w := congrArg List.reverse (stk_fold hw)
theorem stk_app (u v : List Nat) : stk (u ++ v) = v.foldl psh (stk u) := by unfold stk; rw [List.foldl_append]
theorem fold_app_l {u v : List Nat} (hu : Lts u) : fold (fold u ++ v) = fold (u ++ v) := by
  unfold fold
  rw [stk_app, stk_app]
  have := stk_fold hu
  unfold fold at this
  rw [this]
/-- the word put on a stack as what it is when reduced -/
theorem fl_fold : ∀ (v : List Nat) {k : List Nat}, Lts k → Lts v → red k → (fold v).foldl psh k = v.foldl psh k := by
  intro v
  -- from the right
  suffices h : ∀ (n : Nat) (v : List Nat), v.length = n → ∀ {k : List Nat}, Lts k → Lts v → red k → (fold v).foldl psh k = v.foldl psh k from fun {k} a b c => h _ v rfl a b c
  intro n
  induction n with
  | zero =>
    intro v hv k _ _ _
    have : v = [] := List.length_eq_zero_iff.mp hv
    subst this
    rfl
  | succ n ih =>
    intro v hv k hk hl hr
    obtain ⟨u, c, rfl⟩ : ∃ u c, v = u ++ [c] := by
      have hne : v ≠ [] := fun z => by rw [z] at hv; cases hv
      exact ⟨v.dropLast, v.getLast hne, (List.dropLast_concat_getLast hne).symm⟩
    have hu : Lts u := fun x hx => hl x (List.mem_append_left _ hx)
    have hc : c ∈ LTR := hl c (List.mem_append_right _ (List.mem_singleton.mpr rfl))
    have ihu := ih u (by rw [List.length_append, List.length_singleton] at hv; omega) hk hu hr
    have es : stk (u ++ [c]) = psh (stk u) c := by rw [stk_app]; rfl
    rw [List.foldl_append]
    show (fold (u ++ [c])).foldl psh k = psh (u.foldl psh k) c
    rw [← ihu]
    unfold fold
    rw [es]
    have hs := stk_lts hu
    cases e : stk u with
    | nil => rfl
    | cons x s =>
      rw [e] at hs
      by_cases hx : x = sw c
      · have e2 : psh (x :: s) c = s := by rw [psh_cons, if_pos hx]
        rw [e2, List.reverse_cons, List.foldl_append]
        show s.reverse.foldl psh k = psh (psh (s.reverse.foldl psh k) x) c
        have hsr : Lts s.reverse := fun y hy => hs y (List.mem_cons_of_mem _ (List.mem_reverse.mp hy))
        have := psh_psh (fl_lts hk hsr) (sw_mem hc) (fl_red hk hsr hr)
        rw [sw_sw hc] at this
        rw [hx, this]
      · have e2 : psh (x :: s) c = c :: x :: s := by rw [psh_cons, if_neg hx]
        rw [e2, List.reverse_cons, List.foldl_append]
        rfl
theorem fold_app_r {u v : List Nat} (hu : Lts u) (hv : Lts v) : fold (u ++ fold v) = fold (u ++ v) := by
  unfold fold
  rw [stk_app, stk_app]
  have := fl_fold v (stk_lts hu) hv (stk_red hu)
  unfold fold at this
  rw [this]
/-- opposite neighbours left out anywhere -/
theorem fold_cut {u v : List Nat} {c d : Nat} (hu : Lts u) (hd : d ∈ LTR) (h : c = sw d) : fold (u ++ c :: d :: v) = fold (u ++ v) := by
  unfold fold
  rw [stk_app, stk_app]
  show (v.foldl psh (psh (psh (stk u) c) d)).reverse = _
  have := psh_psh (stk_lts hu) (sw_mem hd) (stk_red hu)
  rw [sw_sw hd] at this
  rw [h, this]
/-- reduced, read from the left -/
theorem red_rev : ∀ {w : List Nat}, Lts w → red w → red w.reverse := by
  intro w
  suffices h : ∀ (w k : List Nat), Lts w → Lts k → red w → red k → (∀ x y, w.head? = some x → k.head? = some y → x ≠ sw y) → red (w.reverse ++ k) from fun hw hr => by
    have := h w [] hw (fun _ z => nomatch z) hr trivial fun x y _ z => nomatch z
    rwa [List.append_nil] at this
  intro w
  induction w with
  | nil => intro k _ _ _ hk _; exact hk
  | cons c w ih =>
    intro k hw hk hr hrk hb
    rw [List.reverse_cons, List.append_assoc, List.singleton_append]
    refine ih (c :: k) (fun x hx => hw x (List.mem_cons_of_mem _ hx)) (fun x hx => (List.mem_cons.mp hx).elim (fun z => z ▸ hw c List.mem_cons_self) (hk x)) (red_tail hr) ?_ ?_
    · cases k with
      | nil => trivial
      | cons y t => exact ⟨hb c y rfl rfl, hrk⟩
    · intro x y hx hy
      cases hy
      cases w with
      | nil => cases hx
      | cons z t =>
        cases hx
        have h1 : c ≠ sw x := hr.1
        exact fun e => h1 ((sw_eq (hw x (List.mem_cons_of_mem _ List.mem_cons_self)) (hw c List.mem_cons_self)).mp e)
theorem fold_red {w : List Nat} (hw : Lts w) : red (fold w) := red_rev (stk_lts hw) (stk_red hw)
theorem fold_id {w : List Nat} (hw : Lts w) (h : red w) : fold w = w := by
  have := fl_self (w := w) (k := []) (fun _ h => nomatch h) hw (by rw [List.append_nil]; exact red_rev hw h)
  unfold fold stk
  rw [this, List.append_nil, List.reverse_reverse]
theorem fold_nil : fold [] = [] := rfl
theorem fold_len (w : List Nat) : (fold w).length ≤ w.length := by
  suffices h : ∀ (w k : List Nat), (w.foldl psh k).length ≤ w.length + k.length by
    unfold fold stk
    rw [List.length_reverse]
    have := h w []
    simpa using this
  intro w
  induction w with
  | nil => intro k; simp
  | cons c w ih =>
    intro k
    have h1 := ih (psh k c)
    have h2 : (psh k c).length ≤ k.length + 1 := by
      cases k with
      | nil => simp [psh]
      | cons y r =>
        rw [psh_cons]
        split <;> simp <;> omega
    simp only [List.foldl_cons, List.length_cons]
    omega
/-! ### inverses -/
theorem inv_lts {w : List Nat} (hw : Lts w) : Lts (inv w) := fun c hc => by
  obtain ⟨x, hx, rfl⟩ := List.mem_map.mp hc
  exact sw_mem (hw x (List.mem_reverse.mp hx))
theorem inv_len (w : List Nat) : (inv w).length = w.length := by unfold inv; rw [List.length_map, List.length_reverse]
theorem inv_app (u v : List Nat) : inv (u ++ v) = inv v ++ inv u := by unfold inv; rw [List.reverse_append, List.map_append]
theorem map_sw_sw : ∀ {w : List Nat}, Lts w → (w.map sw).map sw = w
  | [], _ => rfl
  | c :: w, h => by
    rw [List.map_cons, List.map_cons, sw_sw (h c List.mem_cons_self), map_sw_sw fun x hx => h x (List.mem_cons_of_mem _ hx)]
theorem inv_inv {w : List Nat} (hw : Lts w) : inv (inv w) = w := by
  unfold inv
  rw [← List.map_reverse, List.reverse_reverse, map_sw_sw hw]
def lpsh (c : Nat) (w : List Nat) : List Nat := match w with
  | [] => [c]
  | y :: r => if y = sw c then r else c :: y :: r
theorem lpsh_cons (c y : Nat) (r : List Nat) : lpsh c (y :: r) = if y = sw c then r else c :: y :: r := rfl
theorem fold_cons {c : Nat} {w : List Nat} (hc : c ∈ LTR) (hw : Lts w) : fold (c :: w) = lpsh c (fold w) := by
  have h1 : fold ([c] ++ w) = fold ([c] ++ fold w) := (fold_app_r (fun x hx => by rw [List.mem_singleton.mp hx]; exact hc) hw).symm
  have hl := fold_lts hw
  have hr := fold_red hw
  show fold ([c] ++ w) = _
  rw [h1]
  cases e : fold w with
  | nil => rfl
  | cons y r =>
    rw [e] at hl hr
    have hy := hl y List.mem_cons_self
    rw [lpsh_cons]
    split
    · rename_i h
      have := fold_cut (u := []) (v := r) (c := c) (d := y) (fun _ z => nomatch z) hy ((sw_eq hy hc).mp h)
      show fold ([] ++ c :: y :: r) = r
      rw [this]
      exact fold_id (fun x hx => hl x (List.mem_cons_of_mem _ hx)) (red_tail hr)
    · rename_i h
      refine fold_id (fun x hx => (List.mem_cons.mp hx).elim (fun z => z ▸ hc) (hl x)) ⟨fun z => h ((sw_eq hc hy).mp z), hr⟩
theorem fold_inv {w : List Nat} (hw : Lts w) : fold (inv w) = inv (fold w) := by
  induction w with
  | nil => rfl
  | cons c w ih =>
    have hc := hw c List.mem_cons_self
    have hw' : Lts w := fun x hx => hw x (List.mem_cons_of_mem _ hx)
    have ih := ih hw'
    have hl := fold_lts hw'
    have e1 : inv (c :: w) = inv w ++ [sw c] := by
      show inv ([c] ++ w) = _
      rw [inv_app]
      rfl
    rw [e1, fold_cons hc hw']
    have e2 : fold (inv w ++ [sw c]) = fold (fold (inv w) ++ [sw c]) := (fold_app_l (inv_lts hw')).symm
    rw [e2, ih]
    have hI : Lts (inv (fold w)) := inv_lts hl
    have hR : red (inv (fold w)) := by
      rw [← ih]
      exact fold_red (inv_lts hw')
    have es : stk (inv (fold w)) = (fold w).map sw := by
      have := fold_id hI hR
      unfold fold at this
      have h2 : stk (inv (stk w).reverse) = (inv (stk w).reverse).reverse := by rw [← this, List.reverse_reverse]; rw [this]
      show stk (inv (stk w).reverse) = _
      rw [h2]
      unfold inv fold
      rw [← List.map_reverse, List.reverse_reverse]
    unfold fold
    rw [stk_app]
    have es' : stk (inv (stk w).reverse) = ((stk w).reverse).map sw := es
    rw [es']
    show (psh (((stk w).reverse).map sw) (sw c)).reverse = inv (lpsh c (stk w).reverse)
    have hl' : Lts (stk w).reverse := hl
    cases e : (stk w).reverse with
    | nil => rfl
    | cons y r =>
      rw [e] at hl'
      have hy := hl' y List.mem_cons_self
      rw [List.map_cons]
      rw [psh_cons, lpsh_cons]
      rw [sw_sw hc]
      by_cases h : y = sw c
      · rw [if_pos (by rw [h, sw_sw hc]), if_pos h]
        show (r.map sw).reverse = r.reverse.map sw
        rw [List.map_reverse]
      · rw [if_neg (fun z => h (by rw [← z, sw_sw hy])), if_neg h]
        show (sw c :: sw y :: r.map sw).reverse = (c :: y :: r).reverse.map sw
        rw [List.map_reverse]
        rfl
theorem fold_self_inv {w : List Nat} (hw : Lts w) : fold (w ++ inv w) = [] := by
  induction w with
  | nil => rfl
  | cons c w ih =>
    have hc := hw c List.mem_cons_self
    have hw' : Lts w := fun x hx => hw x (List.mem_cons_of_mem _ hx)
    have ih := ih hw'
    have e1 : inv (c :: w) = inv w ++ [sw c] := by
      show inv ([c] ++ w) = _
      rw [inv_app]
      rfl
    have hwi : Lts (w ++ inv w) := fun x hx => (List.mem_append.mp hx).elim (hw' x) (inv_lts hw' x)
    rw [e1]
    show fold ([c] ++ (w ++ (inv w ++ [sw c]))) = []
    rw [← List.append_assoc w]
    have h1 : fold ((w ++ inv w) ++ [sw c]) = [sw c] := by
      rw [← fold_app_l hwi, ih]
      rfl
    have h2 : fold ([c] ++ ((w ++ inv w) ++ [sw c])) = fold ([c] ++ fold ((w ++ inv w) ++ [sw c])) := (fold_app_r (fun x hx => by rw [List.mem_singleton.mp hx]; exact hc) fun x hx => (List.mem_append.mp hx).elim (hwi x) fun z => by rw [List.mem_singleton.mp z]; exact sw_mem hc).symm
    rw [h2, h1]
    show (psh (psh [] c) (sw c)).reverse = []
    rw [psh_psh (k := []) (fun _ z => nomatch z) hc trivial]
    rfl
section
variable {env : Nv} {post : D → Prop} {K : PySem.W.Frag}
theorem dop_ixq {l : List D} {x : D} {i : Int} {c : D} (hx : x = .tup l ∨ x = .lst l) (e : atI l i = some c) (h : post c) : Dop (rIx K) x (.int i) post := fun st M H v w h1 h2 h3 iv iw Q q => by
  rcases hx with rfl | rfl
  · exact .inr (.inl (dop_ixt e h st M H v w h1 h2 h3 iv iw Q q))
  · exact .inl (dop_ixl e h st M H v w h1 h2 h3 iv iw Q q)
end
theorem cal_mono {P : Program} {w : World} {K : PySem.W.Frag} {mg : Str → Option Value} {base : Heap} {k k' : Nat} {x : Str} {sp : Sp} {ds : List V} (c : C8.Cal P w K mg base k x sp ds) (h : k ≤ k') : C8.Cal P w K mg base k' x sp ds := by
  obtain ⟨f, fd, ps, vs, F, h1, h2, h3, h4⟩ := c.ex
  exact ⟨f, fd, ps, vs, FnOk.mono F h, h1, h2, h3, h4⟩
end DL

namespace DL
open PySem PySem.Spec PyProof.Rows L2

/-! ### where two words meet -/
theorem red_both : ∀ (w k : List Nat), Lts w → Lts k → red w → red k → (∀ x y, w.head? = some x → k.head? = some y → x ≠ sw y) → red (w.reverse ++ k) := by
  intro w
  induction w with
  | nil => intro k _ _ _ hk _; exact hk
  | cons c w ih =>
    intro k hw hk hr hrk hb
    rw [List.reverse_cons, List.append_assoc, List.singleton_append]
    refine ih (c :: k) (fun x hx => hw x (List.mem_cons_of_mem _ hx)) (fun x hx => (List.mem_cons.mp hx).elim (fun z => z ▸ hw c List.mem_cons_self) (hk x)) (red_tail hr) ?_ ?_
    · cases k with
      | nil => trivial
      | cons y t => exact ⟨hb c y rfl rfl, hrk⟩
    · intro x y hx hy
      cases hy
      cases w with
      | nil => cases hx
      | cons z t =>
        cases hx
        have h1 : c ≠ sw x := hr.1
        exact fun e => h1 ((sw_eq (hw x (List.mem_cons_of_mem _ List.mem_cons_self)) (hw c List.mem_cons_self)).mp e)
/-- how many of the one, its end first, meet their opposites -/
def met : List Nat → List Nat → Nat
  | x :: K, y :: R => if x = sw y then met K R + 1 else 0
  | _, _ => 0
theorem met_cons (x y : Nat) (K R : List Nat) : met (x :: K) (y :: R) = if x = sw y then met K R + 1 else 0 := rfl
theorem met_nil (K : List Nat) : met K [] = 0 := by cases K <;> rfl
theorem met_le : ∀ (K R : List Nat), met K R ≤ K.length ∧ met K R ≤ R.length
  | [], _ => ⟨Nat.zero_le _, Nat.zero_le _⟩
  | _ :: _, [] => ⟨Nat.zero_le _, Nat.zero_le _⟩
  | x :: K, y :: R => by
    have h := met_le K R
    rw [met_cons, List.length_cons, List.length_cons]
    split <;> omega
theorem met_step : ∀ {K R : List Nat} {i x y : Nat}, i ≤ met K R → K[i]? = some x → R[i]? = some y → (x = sw y ↔ i + 1 ≤ met K R)
  | [], _, _, _, _, _, h, _ => nomatch h
  | _ :: _, [], _, _, _, _, _, h => nomatch h
  | a :: K, b :: R, 0, x, y, _, hx, hy => by
    cases hx
    cases hy
    rw [met_cons]
    split
    · rename_i h; exact ⟨fun _ => by omega, fun _ => h⟩
    · rename_i h; exact ⟨fun z => absurd z h, fun z => absurd z (by omega)⟩
  | a :: K, b :: R, i + 1, x, y, h, hx, hy => by
    rw [met_cons] at h ⊢
    split at h
    · rename_i e
      rw [if_pos e]
      have := met_step (K := K) (R := R) (i := i) (x := x) (y := y) (by omega) hx hy
      rw [this]
      omega
    · omega
theorem met_len : ∀ (R K : List Nat), Lts K → Lts R → red K → red R → (R.foldl psh K).length + 2 * met K R = K.length + R.length
  | [], K, _, _, _, _ => by rw [met_nil]; rfl
  | y :: R, [], _, hR, _, rR => by
    have h := fl_self (w := y :: R) (k := []) (fun _ z => nomatch z) hR (by rw [List.append_nil]; exact red_rev hR rR)
    rw [h, List.append_nil, List.length_reverse]
    show _ + 2 * 0 = 0 + _
    omega
  | y :: R, x :: K, hK, hR, rK, rR => by
    have hy := hR y List.mem_cons_self
    have hx := hK x List.mem_cons_self
    have hR' : Lts R := fun z hz => hR z (List.mem_cons_of_mem _ hz)
    have hK' : Lts K := fun z hz => hK z (List.mem_cons_of_mem _ hz)
    rw [met_cons]
    by_cases h : x = sw y
    · rw [if_pos h, List.foldl_cons, psh_cons, if_pos h]
      have := met_len R K hK' hR' (red_tail rK) (red_tail rR)
      rw [List.length_cons, List.length_cons]
      omega
    · rw [if_neg h]
      have e := fl_self (w := y :: R) (k := x :: K) hK hR (red_both _ _ hR hK rR rK fun a b ha hb => by
        cases ha
        cases hb
        exact fun z => h ((sw_eq hy hx).mp z))
      rw [e, List.length_append, List.length_reverse]
      omega
theorem fold_met {u v : List Nat} (hu : Lts u) (hv : Lts v) : (fold (fold u ++ fold v)).length + 2 * met (fold u).reverse (fold v) = (fold u).length + (fold v).length := by
  have h1 := fold_lts hu
  have h2 := fold_lts hv
  have r1 := fold_red hu
  have r2 := fold_red hv
  have e : stk (fold u) = (fold u).reverse := by
    rw [stk_fold hu]
    show _ = (stk u).reverse.reverse
    rw [List.reverse_reverse]
  have := met_len (fold v) (fold u).reverse (fun x hx => h1 x (List.mem_reverse.mp hx)) h2 (red_rev h1 r1) r2
  rw [List.length_reverse] at this
  rw [← this, show fold (fold u ++ fold v) = ((fold v).foldl psh (fold u).reverse).reverse by rw [← e, ← stk_app]; rfl, List.length_reverse]
/-! ### one after the other -/
def rep (n : Int) (w : List Nat) : List Nat := (List.replicate n.toNat w).flatten
def powS (w : List Nat) (n : Int) : List Nat := if n < 0 then rep (-n) (inv w) else rep n w
theorem rep_lts {n : Int} {w : List Nat} (h : Lts w) : Lts (rep n w) := fun c hc => by
  obtain ⟨l, hl, hc⟩ := List.mem_flatten.mp hc
  rw [(List.mem_replicate.mp hl).2] at hc
  exact h c hc
theorem flat_len (w : List Nat) : ∀ n : Nat, (List.replicate n w).flatten.length = n * w.length
  | 0 => by simp
  | n + 1 => by rw [List.replicate_succ, List.flatten_cons, List.length_append, flat_len w n, Nat.add_mul]; omega
theorem rep_len {n : Int} {w : List Nat} {a b : Nat} (h : n ≤ a) (h2 : w.length ≤ b) : (rep n w).length ≤ a * b := by
  unfold rep
  rw [flat_len]
  exact Nat.mul_le_mul (by omega) h2
theorem pow_lts {n : Int} {w : List Nat} (h : Lts w) : Lts (powS w n) := by
  unfold powS
  split
  · exact rep_lts (inv_lts h)
  · exact rep_lts h
theorem pow_len {n : Int} {w : List Nat} {a b : Nat} (h0 : -(a : Int) ≤ n) (h : n ≤ a) (h2 : w.length ≤ b) : (powS w n).length ≤ a * b := by
  unfold powS
  split
  · exact rep_len (by omega) (by rw [inv_len]; exact h2)
  · exact rep_len h h2
theorem pow_0 (w : List Nat) : powS w 0 = [] := rfl
theorem pow_1 (w : List Nat) : powS w 1 = w := by
  show [w].flatten = w
  simp
theorem pow_neg {w : List Nat} {n : Int} (h : n < 0) : powS w n = (List.replicate (-n).toNat (inv w)).flatten := by unfold powS; rw [if_pos h]; rfl
theorem pow_pos {w : List Nat} {n : Int} (h : ¬ n < 0) : powS w n = (List.replicate n.toNat w).flatten := by unfold powS; rw [if_neg h]; rfl
end DL

namespace DL
open PySem PySem.Spec PyProof.Rows L2

/-! ### the core of a word, its root -/
def Jn (a b : List Nat) : Prop := ∀ x y, a.getLast? = some x → b.head? = some y → x ≠ sw y
theorem red_append : ∀ {a b : List Nat}, red (a ++ b) ↔ red a ∧ red b ∧ Jn a b
  | [], b => ⟨fun h => ⟨trivial, h, fun x y z => nomatch z⟩, fun h => h.2.1⟩
  | [x], [] => ⟨fun h => ⟨trivial, trivial, fun x y _ z => nomatch z⟩, fun h => trivial⟩
  | [x], y :: b => ⟨fun h => ⟨trivial, h.2, fun u v hu hv => by cases hu; cases hv; exact h.1⟩, fun h => ⟨h.2.2 x y rfl rfl, h.2.1⟩⟩
  | x :: y :: a, b => by
    have ih := red_append (a := y :: a) (b := b)
    have e : Jn (x :: y :: a) b ↔ Jn (y :: a) b := by
      unfold Jn
      rw [List.getLast?_cons_cons]
    constructor
    · intro h
      have h1 := ih.mp h.2
      exact ⟨⟨h.1, h1.1⟩, h1.2.1, e.mpr h1.2.2⟩
    · intro h
      exact ⟨h.1.1, ih.mpr ⟨h.1.2, h.2.1, e.mp h.2.2⟩⟩
def pw (n : Nat) (w : List Nat) : List Nat := (List.replicate n w).flatten
theorem pw_0 (w : List Nat) : pw 0 w = [] := rfl
theorem pw_s (n : Nat) (w : List Nat) : pw (n + 1) w = w ++ pw n w := by unfold pw; rw [List.replicate_succ, List.flatten_cons]
theorem pw_1 (w : List Nat) : pw 1 w = w := by rw [pw_s, pw_0, List.append_nil]
theorem pw_len (n : Nat) (w : List Nat) : (pw n w).length = n * w.length := flat_len w n
theorem pw_lts {n : Nat} {w : List Nat} (h : Lts w) : Lts (pw n w) := rep_lts (n := (n : Int)) h
theorem pw_add (a b : Nat) (w : List Nat) : pw (a + b) w = pw a w ++ pw b w := by
  induction a with
  | zero => rw [Nat.zero_add, pw_0, List.nil_append]
  | succ a ih => rw [Nat.succ_add, pw_s, pw_s, ih, List.append_assoc]
theorem pw_mul (a b : Nat) (w : List Nat) : pw a (pw b w) = pw (a * b) w := by
  induction a with
  | zero => rw [Nat.zero_mul, pw_0, pw_0]
  | succ a ih => rw [pw_s, ih, Nat.succ_mul, Nat.add_comm (a * b) b, pw_add]
theorem pw_sr (n : Nat) (w : List Nat) : pw (n + 1) w = pw n w ++ w := by rw [pw_add, pw_1]
theorem pw_head {n : Nat} {w : List Nat} (h : 1 ≤ n) : (pw n w).head? = w.head? := by
  obtain ⟨m, rfl⟩ : ∃ m, n = m + 1 := ⟨n - 1, by omega⟩
  cases w with
  | nil =>
    have : pw (m + 1) [] = [] := List.length_eq_zero_iff.mp (by rw [pw_len]; rfl)
    rw [this]
  | cons x w => rw [pw_s]; rfl
theorem pw_last {n : Nat} {w : List Nat} (h : 1 ≤ n) : (pw n w).getLast? = w.getLast? := by
  obtain ⟨m, rfl⟩ : ∃ m, n = m + 1 := ⟨n - 1, by omega⟩
  cases w with
  | nil =>
    have : pw (m + 1) [] = [] := List.length_eq_zero_iff.mp (by rw [pw_len]; rfl)
    rw [this]
  | cons x w =>
    rw [pw_sr, List.getLast?_append]
    rfl
/-- the ends do not cancel -/
def NoMeet (m : List Nat) : Prop := 1 < m.length → ∀ x y, m.head? = some x → m.getLast? = some y → x ≠ sw y
theorem nomeet_jn {m : List Nat} (hm : Lts m) (h : NoMeet m) : Jn m m := by
  intro x y hx hy
  by_cases h1 : 1 < m.length
  · have hxm : x ∈ m := List.mem_of_getLast? hx
    have hym : y ∈ m := List.mem_of_head? hy
    exact fun e => h h1 y x hy hx ((sw_eq (hm x hxm) (hm y hym)).mp e)
  · cases m with
    | nil => cases hx
    | cons c m =>
      have : m = [] := List.length_eq_zero_iff.mp (by rw [List.length_cons] at h1; omega)
      subst this
      cases hx
      cases hy
      exact fun z => sw_ne (hm _ List.mem_cons_self) z.symm
theorem jn_nomeet {m : List Nat} (hm : Lts m) (h : Jn m m) : NoMeet m := fun _ x y hx hy e =>
  h y x hy hx ((sw_eq (hm x (List.mem_of_head? hx)) (hm y (List.mem_of_getLast? hy))).mp e)
theorem pw_nomeet {m : List Nat} {n : Nat} (hn : 1 ≤ n) (hm : Lts m) (h : NoMeet m) : NoMeet (pw n m) :=
  jn_nomeet (pw_lts hm) fun x y hx hy => nomeet_jn hm h x y (by rw [← pw_last hn]; exact hx) (by rw [← pw_head hn]; exact hy)
theorem nomeet_pw {m : List Nat} {n : Nat} (hn : 1 ≤ n) (hm : Lts m) (h : NoMeet (pw n m)) : NoMeet m :=
  jn_nomeet hm fun x y hx hy => nomeet_jn (pw_lts hm) h x y (by rw [pw_last hn]; exact hx) (by rw [pw_head hn]; exact hy)
theorem pw_red {m : List Nat} (hm : Lts m) (hr : red m) (h : NoMeet m) : ∀ n : Nat, red (pw n m)
  | 0 => trivial
  | 1 => by rw [pw_1]; exact hr
  | n + 2 => by
    rw [pw_s]
    exact red_append.mpr ⟨hr, pw_red hm hr h (n + 1), fun x y hx hy => nomeet_jn hm h x y hx (by rw [← pw_head (by omega : 1 ≤ n + 1)]; exact hy)⟩
theorem head_app {a b : List Nat} (h : a ≠ []) : (a ++ b).head? = a.head? := by
  cases a with
  | nil => exact absurd rfl h
  | cons x a => rfl
theorem last_app {a b : List Nat} (h : b ≠ []) : (a ++ b).getLast? = b.getLast? := by
  rw [List.getLast?_append]
  cases b with
  | nil => exact absurd rfl h
  | cons x b => rw [List.getLast?_cons]; rfl
/-- a word around a reduced power of the same ends -/
theorem red_ends {o m r e : List Nat} (h : red (o ++ m ++ e)) (hr : red r) (h0 : m ≠ []) (r0 : r ≠ []) (hh : r.head? = m.head?) (hl : r.getLast? = m.getLast?) : red (o ++ r ++ e) := by
  have h1 := red_append.mp h
  have h2 := red_append.mp h1.1
  refine red_append.mpr ⟨red_append.mpr ⟨h2.1, hr, fun x y hx hy => h2.2.2 x y hx (by rw [← hh]; exact hy)⟩, h1.2.1, fun x y hx hy => h1.2.2 x y ?_ hy⟩
  rw [last_app h0, ← hl, ← last_app (a := o) r0]
  exact hx
/-- the ends at j are opposite -/
def okC (w : List Nat) (j : Nat) : Prop := 2 * j + 1 < w.length ∧ ∃ x y, w[j]? = some x ∧ w[w.length - 1 - j]? = some y ∧ x = sw y
theorem inv_get {o : List Nat} {k : Nat} (h : k < o.length) : (inv o)[k]? = (o[o.length - 1 - k]?).map sw := by
  unfold inv
  rw [List.getElem?_map, List.getElem?_reverse h]
theorem ok_in {o m : List Nat} (ho : Lts o) {j : Nat} (h : j < o.length) : okC (o ++ m ++ inv o) j := by
  have hl : (o ++ m ++ inv o).length = o.length + m.length + o.length := by rw [List.length_append, List.length_append, inv_len]
  refine ⟨by omega, o[j], sw o[j], ?_, ?_, (sw_sw (ho _ (List.getElem_mem h))).symm⟩
  · rw [List.append_assoc, List.getElem?_append_left h, List.getElem?_eq_getElem h]
  · rw [hl, List.getElem?_append_right (by rw [List.length_append]; omega), List.length_append, inv_get (by omega)]
    rw [show o.length - 1 - (o.length + m.length + o.length - 1 - j - (o.length + m.length)) = j by omega, List.getElem?_eq_getElem h]
    rfl
theorem ok_at {o m : List Nat} (h : NoMeet m) : ¬ okC (o ++ m ++ inv o) o.length := by
  intro hc
  have hl : (o ++ m ++ inv o).length = o.length + m.length + o.length := by rw [List.length_append, List.length_append, inv_len]
  obtain ⟨h1, x, y, hx, hy, e⟩ := hc
  have hm : 1 < m.length := by omega
  rw [List.append_assoc, List.getElem?_append_right (by omega), Nat.sub_self, List.getElem?_append_left (by omega)] at hx
  rw [hl, List.getElem?_append_left (by rw [List.length_append]; omega), List.getElem?_append_right (by omega)] at hy
  rw [show o.length + m.length + o.length - 1 - o.length - o.length = m.length - 1 by omega] at hy
  exact h hm x y (by rw [List.head?_eq_getElem?]; exact hx) (by rw [List.getLast?_eq_getElem?]; exact hy) e
theorem cut_one {o m o' m' : List Nat} (ho : Lts o) (ho' : Lts o') (h : NoMeet m) (h' : NoMeet m') (e : o ++ m ++ inv o = o' ++ m' ++ inv o') : o = o' ∧ m = m' := by
  have hlen : o.length = o'.length := by
    rcases Nat.lt_trichotomy o.length o'.length with z | z | z
    · have := ok_in (m := m') ho' z
      rw [← e] at this
      exact absurd this (ok_at h)
    · exact z
    · have := ok_in (m := m) ho z
      rw [e] at this
      exact absurd this (ok_at h')
  rw [List.append_assoc, List.append_assoc] at e
  obtain ⟨e1, e2⟩ := List.append_inj e hlen
  subst e1
  exact ⟨rfl, List.append_cancel_right e2⟩
/-- what the slices at s are, if all ends ahead of s are opposite -/
theorem cut_eq : ∀ (s : Nat) {w : List Nat}, Lts w → 2 * s ≤ w.length → (∀ j, j < s → okC w j) → w = w.take s ++ (w.drop s).take (w.length - s - s) ++ inv (w.take s)
  | 0, w, _, _, _ => by
    show w = [] ++ w.take (w.length - 0 - 0) ++ []
    rw [Nat.sub_zero, Nat.sub_zero, List.take_length, List.nil_append, List.append_nil]
  | s + 1, w, hw, hs, ha => by
    obtain ⟨h1, x, y, hx, hy, e⟩ := ha 0 (by omega)
    obtain ⟨w', rfl⟩ : ∃ w', w = x :: (w' ++ [y]) := by
      cases w with
      | nil => cases hx
      | cons a w =>
        cases hx
        have hne : w ≠ [] := fun z => by rw [z] at h1; simp at h1
        refine ⟨w.dropLast, ?_⟩
        rw [show (x :: w).length - 1 - 0 = (w.length - 1) + 1 by have := List.length_pos_iff.mpr hne; rw [List.length_cons]; omega, List.getElem?_cons_succ, ← List.getLast?_eq_getElem?, List.getLast?_eq_getLast hne] at hy
        rw [← Option.some.inj hy, List.dropLast_concat_getLast]
    have hl : (x :: (w' ++ [y])).length = w'.length + 2 := by simp
    have hw' : Lts w' := fun c hc => hw c (List.mem_cons_of_mem _ (List.mem_append_left _ hc))
    have hyl : y ∈ LTR := hw y (by simp)
    rw [hl] at hs
    have ih := cut_eq s hw' (by omega) fun j hj => by
      obtain ⟨g1, a, b, ga, gb, ge⟩ := ha (j + 1) (by omega)
      rw [hl] at g1 gb
      rw [List.getElem?_cons_succ, List.getElem?_append_left (by omega)] at ga
      rw [show w'.length + 2 - 1 - (j + 1) = (w'.length - 1 - j) + 1 by omega, List.getElem?_cons_succ, List.getElem?_append_left (by omega)] at gb
      exact ⟨by omega, a, b, ga, gb, ge⟩
    have t1 : (x :: (w' ++ [y])).take (s + 1) = x :: w'.take s := by
      rw [List.take_succ_cons, List.take_append_of_le_length (by omega)]
    have t2 : ((x :: (w' ++ [y])).drop (s + 1)).take ((x :: (w' ++ [y])).length - (s + 1) - (s + 1)) = (w'.drop s).take (w'.length - s - s) := by
      rw [hl, List.drop_succ_cons, List.drop_append_of_le_length (by omega), show w'.length + 2 - (s + 1) - (s + 1) = w'.length - s - s by omega, List.take_append_of_le_length (by rw [List.length_drop]; omega)]
    rw [t1, t2]
    have t3 : inv (x :: w'.take s) = inv (w'.take s) ++ [y] := by
      show inv ([x] ++ w'.take s) = _
      rw [inv_app, e]
      show _ ++ [sw (sw y)] = _
      rw [sw_sw hyl]
    rw [t3]
    conv => lhs; rw [ih]
    simp
/-- nothing left in the midst of what is reduced -/
theorem mid_ne {o m : List Nat} (ho : Lts o) (h : red (o ++ m ++ inv o)) (hne : o ++ m ++ inv o ≠ []) : m ≠ [] := by
  rintro rfl
  rw [List.append_nil] at h hne
  have hn : o ≠ [] := fun z => hne (by rw [z]; rfl)
  obtain ⟨u, x, rfl⟩ : ∃ u x, o = u ++ [x] := ⟨o.dropLast, o.getLast hn, (List.dropLast_concat_getLast hn).symm⟩
  rw [inv_app, List.append_assoc] at h
  have h2 : red (x :: sw x :: inv u) := red_app h
  exact h2.1 (sw_sw (ho x (by simp))).symm
theorem fold_mid {u o v : List Nat} (hu : Lts u) (ho : Lts o) (hv : Lts v) : fold (u ++ (inv o ++ o) ++ v) = fold (u ++ v) := by
  have h1 : fold (inv o ++ o) = [] := by
    have := fold_self_inv (inv_lts ho)
    rwa [inv_inv ho] at this
  have hl : Lts (inv o ++ o) := fun c hc => (List.mem_append.mp hc).elim (inv_lts ho c) (ho c)
  have e1 : fold (u ++ (inv o ++ o)) = fold u := by
    rw [← fold_app_r hu hl, h1, List.append_nil]
  have hul : Lts (u ++ (inv o ++ o)) := fun c hc => (List.mem_append.mp hc).elim (hu c) (hl c)
  rw [← fold_app_l hul, e1, fold_app_l hu]
theorem lts_ap {u v : List Nat} (hu : Lts u) (hv : Lts v) : Lts (u ++ v) := fun c hc => (List.mem_append.mp hc).elim (hu c) (hv c)
theorem fold_conj {o r : List Nat} (ho : Lts o) (hr : Lts r) : ∀ q : Nat, fold (pw q (o ++ r ++ inv o)) = fold (o ++ pw q r ++ inv o)
  | 0 => by
    rw [pw_0, pw_0, List.append_nil, fold_self_inv ho]
    rfl
  | q + 1 => by
    have hi := inv_lts ho
    have hA : Lts (o ++ r ++ inv o) := lts_ap (lts_ap ho hr) hi
    have hq := pw_lts (n := q) hr
    rw [pw_s, ← fold_app_r hA (pw_lts hA), fold_conj ho hr q, fold_app_r hA (lts_ap (lts_ap ho hq) hi)]
    have e : o ++ r ++ inv o ++ (o ++ pw q r ++ inv o) = (o ++ r) ++ (inv o ++ o) ++ (pw q r ++ inv o) := by simp
    rw [e, fold_mid (lts_ap ho hr) ho (lts_ap hq hi), pw_s]
    simp
theorem fold_pw {w : List Nat} (hw : Lts w) : ∀ n : Nat, fold (pw n w) = fold (pw n (fold w))
  | 0 => rfl
  | n + 1 => by
    have hf := fold_lts hw
    rw [pw_s, pw_s, ← fold_app_l hw, ← fold_app_r hf (pw_lts hw), fold_pw hw n, fold_app_r hf (pw_lts hf)]
/-! the least period -/
def Per (m : List Nat) (p : Nat) : Prop := pw (m.length / p) (m.take p) = m
def Lst (m : List Nat) (p : Nat) : Prop := 1 ≤ p ∧ Per m p ∧ ∀ k, 1 ≤ k → k < p → ¬ Per m k
theorem per_all {m : List Nat} (h : m ≠ []) : Per m m.length := by
  unfold Per
  rw [Nat.div_self (List.length_pos_iff.mpr h), List.take_length, pw_1]
theorem lst_le {m : List Nat} {p : Nat} (h : m ≠ []) (hp : Lst m p) : p ≤ m.length := by
  by_cases z : m.length < p
  · exact absurd (per_all h) (hp.2.2 _ (List.length_pos_iff.mpr h) z)
  · omega
theorem lst_one {m : List Nat} {p k : Nat} (hp : Lst m p) (hk : Lst m k) : p = k := by
  rcases Nat.lt_trichotomy p k with z | z | z
  · exact absurd hp.2.1 (hk.2.2 p hp.1 z)
  · exact z
  · exact absurd hk.2.1 (hp.2.2 k hk.1 z)
theorem lst_root {m : List Nat} {p : Nat} (h : m ≠ []) (hp : Lst m p) : Lst (m.take p) p := by
  have hle := lst_le h hp
  have hr : (m.take p).length = p := by rw [List.length_take]; omega
  have hne : m.take p ≠ [] := fun z => by rw [z] at hr; have := hp.1; simp at hr; omega
  refine ⟨hp.1, ?_, fun k k1 k2 hk => ?_⟩
  · have := per_all hne
    rwa [hr] at this
  · refine hp.2.2 k k1 k2 ?_
    have e := hp.2.1
    unfold Per at e hk ⊢
    rw [hr] at hk
    have et : m.take k = (m.take p).take k := by rw [List.take_take, Nat.min_eq_left (by omega)]
    rw [et]
    have l1 : m.length = (m.length / p) * p := by
      have := congrArg List.length e
      rw [pw_len, hr] at this
      exact this.symm
    have l2 : p = (p / k) * k := by
      have := congrArg List.length hk
      rw [pw_len, hr, List.length_take, hr, Nat.min_eq_left (by omega)] at this
      exact this.symm
    have l3 : m.length / k = (m.length / p) * (p / k) := by
      have : m.length = ((m.length / p) * (p / k)) * k := by
        rw [Nat.mul_assoc, ← l2]
        exact l1
      conv => lhs; rw [this]
      exact Nat.mul_div_cancel _ (by omega)
    rw [l3, ← pw_mul, hk, e]
end DL

namespace DL
open PySem PySem.Spec PyProof.Rows L2

/-! ### < and == of pairs of an int and ints -/
theorem firstLt_map (e r : Nat → Bool) (fin : Bool) (l : List Nat) : SeqAt.firstLt e r fin (l.map Nat.succ) = SeqAt.firstLt (fun j => e (j + 1)) (fun j => r (j + 1)) fin l := by
  induction l with
  | nil => rfl
  | cons j t ih =>
    show (if e (j + 1) = true then SeqAt.firstLt e r fin (t.map Nat.succ) else r (j + 1)) = (if e (j + 1) = true then SeqAt.firstLt (fun j => e (j + 1)) (fun j => r (j + 1)) fin t else r (j + 1))
    rw [ih]
theorem firstLt_lex : ∀ (ns ms : List Int), SeqAt.firstLt (fun j => decide (ns.getD j 0 = ms.getD j 0)) (fun j => decide (ns.getD j 0 < ms.getD j 0)) (decide (ns.length < ms.length)) (List.range (min ns.length ms.length)) = HT.lexLt ns ms
  | [], [] => rfl
  | [], y :: ys => by
    rw [HT.lexLt_nil_cons]
    show decide (0 < ys.length + 1) = true
    exact decide_eq_true (by omega)
  | x :: xs, [] => by
    rw [HT.lexLt_cons_nil, show min (x :: xs).length ([] : List Int).length = 0 from Nat.min_zero _]
    exact decide_eq_false (by simp)
  | x :: xs, y :: ys => by
    rw [HT.lexLt_cons, show min (x :: xs).length (y :: ys).length = min xs.length ys.length + 1 by simp only [List.length_cons]; omega, List.range_succ_eq_map]
    show (if decide (x = y) = true then SeqAt.firstLt _ _ _ (List.map Nat.succ _) else decide (x < y)) = _
    rw [firstLt_map, show decide ((x :: xs).length < (y :: ys).length) = decide (xs.length < ys.length) by simp]
    have ih := firstLt_lex xs ys
    by_cases h : x = y
    · rw [if_pos (decide_eq_true h), if_pos h]
      exact ih
    · rw [if_neg (by simpa using h), if_neg h]
theorem lex_irr : ∀ ns : List Int, HT.lexLt ns ns = false
  | [] => rfl
  | x :: xs => by rw [HT.lexLt_cons, if_pos rfl, lex_irr xs]
theorem eqv_ints : ∀ ns ms : List Int, PyData.eqvAll (ns.map PyData.int) (ms.map PyData.int) = decide (ns = ms)
  | [], [] => by simp [PyData.eqvAll]
  | [], _ :: _ => by simp [PyData.eqvAll]
  | _ :: _, [] => by simp [PyData.eqvAll]
  | x :: xs, y :: ys => by
    rw [List.map_cons, List.map_cons, PyData.eqvAll, eqv_ints xs ys, PyData.eqv]
    by_cases h : x = y
    · by_cases h2 : xs = ys <;> simp [h, h2]
    · simp [h]
theorem can_ints : ∀ ns : List Int, PyData.canLayAll0 (ns.map PyData.int) = true
  | [] => by simp [PyData.canLayAll0]
  | x :: xs => by simp [PyData.canLayAll0, PyData.canLay0, can_ints xs]
theorem depth_ints : ∀ ns : List Int, PyData.depthAll (ns.map PyData.int) = 0
  | [] => by simp [PyData.depthAll]
  | x :: xs => by simp [PyData.depthAll, PyData.depth, depth_ints xs]
theorem dp_ints {K : PySem.W.Frag} {H : Hp} : ∀ ns : List Int, DpAll K H (ns.map V.int) (ns.map PyData.int)
  | [] => .nil
  | x :: xs => .cons (.int x) (dp_ints xs)
def ltN (n : Int) (ns : List Int) (m : Int) (ms : List Int) : Bool := if n = m then HT.lexLt ns ms else decide (n < m)
def rLtN (K : PySem.W.Frag) : R2 := fun x y H Q => ∃ (a b p q : Addr) (n m : Int) (ns ms : List Int), x = .ref a ∧ y = .ref b ∧ SqT K H a [.int n, .ref p] ∧ SqT K H b [.int m, .ref q] ∧
  ((SqT K H p (ns.map V.int) ∧ SqT K H q (ms.map V.int)) ∨ (SqL K H p (ns.map V.int) ∧ SqL K H q (ms.map V.int))) ∧ Q (.bl (ltN n ns m ms)) H
theorem vals2 {n : Int} {p : Addr} {its : List Value} (r : Vals [.int n, .ref p] its) : ∃ t, its = [.int n t, .ref p] := by
  cases r with
  | cons h1 h2 =>
    cases h2 with
    | cons h3 h4 =>
      cases h4
      obtain ⟨t, rfl⟩ := h1
      cases h3
      exact ⟨t, rfl⟩
theorem op_ltN {X : Cx} (hu : X.A.units + 64 < cLine) : OpR X (compareOp .Lt) (rLtN X.K) := by
  intro pins s σ H x y v u Q I rx ry h
  obtain ⟨a, b, p, q, n, m, ns, ms, rfl, rfl, ha, hb, hin, hq⟩ := h
  cases rx
  cases ry
  obtain ⟨its, r1, p1, _⟩ := I.tuple ha
  obtain ⟨its2, r2, p2, _⟩ := I.tuple hb
  obtain ⟨t, rfl⟩ := vals2 r1
  obtain ⟨t2, rfl⟩ := vals2 r2
  have hu1 : X.A.in1.units < cLine := by show X.A.units + 1 < cLine; omega
  have he1 : SeqAt.EqAt X.A.in1 s (.ref p) (.ref q) (decide (ns = ms)) := by
    rcases hin with ⟨h1, h2⟩ | ⟨h1, h2⟩
    · obtain ⟨as, d1⟩ := Dp.reads I (.tuple (ns.map PyData.int)) (.ref p) (.ref p) (.tup h1 (dp_ints ns)) rfl
      obtain ⟨bs, d2⟩ := Dp.reads I (.tuple (ms.map PyData.int)) (.ref q) (.ref q) (.tup h2 (dp_ints ms)) rfl
      have := SeqAt.eqAt_reads _ _ X.A.in1 s _ _ _ _ d1 d2 (by simp [PyData.canLay0, can_ints]) (by simp [PyData.canLay0, can_ints]) (by
        simp only [PyData.depth, depth_ints]
        show X.A.units + 1 + _ < cLine
        omega)
      rw [← eqv_ints]
      simpa [PyData.eqv] using this
    · obtain ⟨as, d1⟩ := Dp.reads I (.list (ns.map PyData.int)) (.ref p) (.ref p) (.lst h1 (dp_ints ns)) rfl
      obtain ⟨bs, d2⟩ := Dp.reads I (.list (ms.map PyData.int)) (.ref q) (.ref q) (.lst h2 (dp_ints ms)) rfl
      have := SeqAt.eqAt_reads _ _ X.A.in1 s _ _ _ _ d1 d2 (by simp [PyData.canLay0, can_ints]) (by simp [PyData.canLay0, can_ints]) (by
        simp only [PyData.depth, depth_ints]
        show X.A.units + 1 + _ < cLine
        omega)
      rw [← eqv_ints]
      simpa [PyData.eqv] using this
  have hvals : ∀ (us us2 : List Value), Vals (ns.map V.int) us → Vals (ms.map V.int) us2 →
      (∀ j (h1 : j < us.toArray.size) (h2 : j < us2.toArray.size), SeqAt.EqAt X.A.in1.in1 s us.toArray[j] us2.toArray[j] (decide (ns.getD j 0 = ms.getD j 0))) ∧
      (∀ j (h1 : j < us.toArray.size) (h2 : j < us2.toArray.size), SeqAt.RcLt X.A.in1.in1 s us.toArray[j] us2.toArray[j] (decide (ns.getD j 0 < ms.getD j 0))) ∧
      us.toArray.size = ns.length ∧ us2.toArray.size = ms.length := fun us us2 v1 v2 => by
    have i1 : IntsAre us ns := Vals.ints v1
    have i2 : IntsAre us2 ms := Vals.ints v2
    have at1 : ∀ j (h1 : j < us.toArray.size), ∃ t, us.toArray[j] = .int (ns.getD j 0) t := fun j h1 => PyProof.Rows.IntsAre.int_at i1 _ _ (by simp at h1; simp [h1])
    have at2 : ∀ j (h1 : j < us2.toArray.size), ∃ t, us2.toArray[j] = .int (ms.getD j 0) t := fun j h1 => PyProof.Rows.IntsAre.int_at i2 _ _ (by simp at h1; simp [h1])
    refine ⟨fun j h1 h2 => ?_, fun j h1 h2 => ?_, by rw [List.size_toArray]; exact i1.length, by rw [List.size_toArray]; exact i2.length⟩
    · obtain ⟨t, et⟩ := at1 j h1
      obtain ⟨t', et'⟩ := at2 j h2
      rw [et, et']
      have z : (ns.getD j 0 == ms.getD j 0) = decide (ns.getD j 0 = ms.getD j 0) := by
        by_cases q : ns.getD j 0 = ms.getD j 0
        · rw [decide_eq_true q]; exact beq_iff_eq.mpr q
        · rw [decide_eq_false q]; exact beq_eq_false_iff_ne.mpr q
      rw [← z]
      exact SeqAt.EqAt.int_int _ _ _ _
    · obtain ⟨t, et⟩ := at1 j h1
      obtain ⟨t', et'⟩ := at2 j h2
      rw [et, et']
      exact fun prog w E Q h => PyProof.Rows.lt_int h
  have hr1 : SeqAt.RcLt X.A.in1 s (.ref p) (.ref q) (HT.lexLt ns ms) := by
    rcases hin with ⟨h1, h2⟩ | ⟨h1, h2⟩
    · obtain ⟨us, v1, q1, _⟩ := I.tuple h1
      obtain ⟨us2, v2, q2, _⟩ := I.tuple h2
      obtain ⟨e1, e2, e3, e4⟩ := hvals us us2 v1 v2
      have R := SeqAt.RcLt.tuples q1 q2 hu1 e1 (fun j g1 g2 _ => e2 j g1 g2)
      rw [e3, e4, firstLt_lex] at R
      exact R
    · obtain ⟨us, v1, q1, _⟩ := I.list h1
      obtain ⟨us2, v2, q2, _⟩ := I.list h2
      obtain ⟨e1, e2, e3, e4⟩ := hvals us us2 v1 v2
      have R := SeqAt.RcLt.lists q1.isList q2.isList hu1 e1 (fun j g1 g2 _ => e2 j g1 g2)
      rw [e3, e4, firstLt_lex] at R
      exact R
  have R := SeqAt.RcLt.tuples (A := X.A) (s := s) (e := fun j => if j = 0 then (n == m) else decide (ns = ms)) (r := fun j => if j = 0 then decide (n < m) else HT.lexLt ns ms) p1 p2 (by omega) (fun j g1 g2 => by
      match j, g1, g2 with
      | 0, _, _ => exact SeqAt.EqAt.int_int _ _ _ _
      | 1, _, _ => exact he1
      | j + 2, g1, _ => exact absurd g1 (by simp)) (fun j g1 g2 _ => by
      match j, g1, g2 with
      | 0, _, _ => exact fun prog w E Q h => PyProof.Rows.lt_int h
      | 1, _, _ => exact hr1
      | j + 2, g1, _ => exact absurd g1 (by simp))
  have hz : SeqAt.firstLt (fun j => if j = 0 then (n == m) else decide (ns = ms)) (fun j => if j = 0 then decide (n < m) else HT.lexLt ns ms) (decide (([Value.int n t, .ref p] : List Value).toArray.size < ([Value.int m t2, .ref q] : List Value).toArray.size)) (List.range (min ([Value.int n t, .ref p] : List Value).toArray.size ([Value.int m t2, .ref q] : List Value).toArray.size)) = ltN n ns m ms := by
    show (if (n == m) = true then (if decide (ns = ms) = true then decide (2 < 2) else HT.lexLt ns ms) else decide (n < m)) = ltN n ns m ms
    unfold ltN
    by_cases h : n = m
    · rw [if_pos (beq_iff_eq.mpr h), if_pos h]
      by_cases h2 : ns = ms
      · rw [if_pos (decide_eq_true h2), h2, lex_irr]
        rfl
      · rw [if_neg (by simpa using h2)]
    · rw [if_neg (by simpa using h), if_neg h]
  rw [hz] at R
  have z : wpAny (model X.prog X.w) X.A (compareOp .Lt (.ref a) (.ref b)) (EP X pins σ Q) X.xe s := R X.prog X.w X.xe (EP X pins σ Q) ⟨.bl _, H, I, rfl, hq⟩
  exact z
theorem iss_ints {st : Addr} {M : List Addr} {H : Hp} : ∀ {ns : List Int} {vs : List V}, Iss st M H vs (ns.map D.int) → vs = ns.map V.int
  | [], _, .nil => rfl
  | n :: ns, _, .cons h t => by
    cases h
    rw [iss_ints t]
    rfl
def keyT (n : Int) (ns : List Int) : D := .tup [.int n, .tup (ns.map D.int)]
def keyL (n : Int) (ns : List Int) : D := .tup [.int n, .lst (ns.map D.int)]
theorem is_keyT {K : PySem.W.Frag} {st : Addr} {M : List Addr} {H : Hp} {v : V} {n : Int} {ns : List Int} (i : Is st M H v (keyT n ns)) : ∃ a p, v = .ref a ∧ SqT K H a [.int n, .ref p] ∧ SqT K H p (ns.map V.int) := by
  cases i with
  | tup h hs =>
    cases hs with
    | cons i1 r =>
      cases r with
      | cons i2 r2 =>
        cases r2
        cases i1
        cases i2 with
        | tup h2 hs2 =>
          have := iss_ints hs2
          subst this
          exact ⟨_, _, rfl, .of h, .of h2⟩
theorem is_keyL {K : PySem.W.Frag} {st : Addr} {M : List Addr} {H : Hp} {v : V} {n : Int} {ns : List Int} (i : Is st M H v (keyL n ns)) : ∃ a p, v = .ref a ∧ SqT K H a [.int n, .ref p] ∧ SqL K H p (ns.map V.int) := by
  cases i with
  | tup h hs =>
    cases hs with
    | cons i1 r =>
      cases r with
      | cons i2 r2 =>
        cases r2
        cases i1
        cases i2 with
        | lst hm h2 hs2 =>
          have := iss_ints hs2
          subst this
          exact ⟨_, _, rfl, .of h, .of h2⟩
section
variable {env : Nv} {post : D → Prop} {K : PySem.W.Frag} {n m : Int} {ns ms : List Int}
theorem dop_ltT (h : post (.bl (ltN n ns m ms))) : Dop (rLtN K) (keyT n ns) (keyT m ms) post := fun st M H v w hst hM trk iv iw Q q => by
  obtain ⟨a, p, rfl, h1, h2⟩ := is_keyT (K := K) iv
  obtain ⟨b, p2, rfl, g1, g2⟩ := is_keyT (K := K) iw
  exact ⟨a, b, p, p2, n, m, ns, ms, rfl, rfl, h1, g1, .inl ⟨h2, g2⟩, q _ H _ h (Fx.refl _ _) (.bl _)⟩
theorem dop_ltL (h : post (.bl (ltN n ns m ms))) : Dop (rLtN K) (keyL n ns) (keyL m ms) post := fun st M H v w hst hM trk iv iw Q q => by
  obtain ⟨a, p, rfl, h1, h2⟩ := is_keyL (K := K) iv
  obtain ⟨b, p2, rfl, g1, g2⟩ := is_keyL (K := K) iw
  exact ⟨a, b, p, p2, n, m, ns, ms, rfl, rfl, h1, g1, .inr ⟨h2, g2⟩, q _ H _ h (Fx.refl _ _) (.bl _)⟩
theorem eqv_key {d e : PyData} (n m : Int) (ns ms : List Int) (h : PyData.eqv d e = decide (ns = ms)) : PyData.eqv (.tuple [.int n, d]) (.tuple [.int m, e]) = decide (n = m ∧ ns = ms) := by
  simp only [PyData.eqv, PyData.eqvAll, h, Bool.and_true]
  by_cases h1 : n = m <;> by_cases h2 : ns = ms <;> simp [h1, h2]
theorem shp_key {d : PyData} (n : Int) (h1 : d.canLay0 = true) (h2 : d.depth ≤ 2) : SeqAt.shaped (.tuple [.int n, d]) = true := by
  simp [SeqAt.shaped, PyData.canLay0, PyData.canLayAll0, h1, PyData.depth, PyData.depthAll]
  omega
theorem dop_eqT (h : post (.bl (decide (n = m ∧ ns = ms)))) : Dop (rEqD K) (keyT n ns) (keyT m ms) post := fun st M H v w hst hM trk iv iw Q q => by
  obtain ⟨a, p, rfl, h1, h2⟩ := is_keyT (K := K) iv
  obtain ⟨b, p2, rfl, g1, g2⟩ := is_keyT (K := K) iw
  refine ⟨.tuple [.int n, .tuple (ns.map PyData.int)], .tuple [.int m, .tuple (ms.map PyData.int)], .tup h1 (.cons (.int _) (.cons (.tup h2 (dp_ints _)) .nil)), .tup g1 (.cons (.int _) (.cons (.tup g2 (dp_ints _)) .nil)), shp_key _ (by simp [PyData.canLay0, can_ints]) (by simp [PyData.depth, depth_ints]), shp_key _ (by simp [PyData.canLay0, can_ints]) (by simp [PyData.depth, depth_ints]), ?_⟩
  rw [eqv_key n m ns ms (by rw [← eqv_ints]; simp [PyData.eqv])]
  exact q _ H _ h (Fx.refl _ _) (.bl _)
theorem dop_eqL (h : post (.bl (decide (n = m ∧ ns = ms)))) : Dop (rEqD K) (keyL n ns) (keyL m ms) post := fun st M H v w hst hM trk iv iw Q q => by
  obtain ⟨a, p, rfl, h1, h2⟩ := is_keyL (K := K) iv
  obtain ⟨b, p2, rfl, g1, g2⟩ := is_keyL (K := K) iw
  refine ⟨.tuple [.int n, .list (ns.map PyData.int)], .tuple [.int m, .list (ms.map PyData.int)], .tup h1 (.cons (.int _) (.cons (.lst h2 (dp_ints _)) .nil)), .tup g1 (.cons (.int _) (.cons (.lst g2 (dp_ints _)) .nil)), shp_key _ (by simp [PyData.canLay0, can_ints]) (by simp [PyData.depth, depth_ints]), shp_key _ (by simp [PyData.canLay0, can_ints]) (by simp [PyData.depth, depth_ints]), ?_⟩
  rw [eqv_key n m ns ms (by rw [← eqv_ints]; simp [PyData.eqv])]
  exact q _ H _ h (Fx.refl _ _) (.bl _)
end
/-! ### the order by length -/
theorem lex_asym : ∀ {ns ms : List Int}, HT.lexLt ns ms = true → HT.lexLt ms ns = false
  | [], [], _ => rfl
  | [], _ :: _, _ => rfl
  | _ :: _, [], h => by cases h
  | x :: xs, y :: ys, h => by
    rw [HT.lexLt_cons] at h ⊢
    by_cases e : x = y
    · rw [if_pos e] at h
      rw [if_pos e.symm]
      exact lex_asym h
    · rw [if_neg e] at h
      rw [if_neg (fun z => e z.symm)]
      have := of_decide_eq_true h
      exact decide_eq_false (by omega)
theorem lex_tot : ∀ {ns ms : List Int}, ns ≠ ms → HT.lexLt ns ms = false → HT.lexLt ms ns = true
  | [], [], h, _ => absurd rfl h
  | [], _ :: _, _, h => by cases h
  | _ :: _, [], _, _ => rfl
  | x :: xs, y :: ys, h, h2 => by
    rw [HT.lexLt_cons] at h2 ⊢
    by_cases e : x = y
    · rw [if_pos e] at h2
      rw [if_pos e.symm]
      exact lex_tot (fun z => h (by rw [e, z])) h2
    · rw [if_neg e] at h2
      rw [if_neg (fun z => e z.symm)]
      have := of_decide_eq_false h2
      exact decide_eq_true (by omega)
theorem lex_trans : ∀ {ns ms ks : List Int}, HT.lexLt ns ms = true → HT.lexLt ms ks = true → HT.lexLt ns ks = true
  | [], _, [], h, h2 => by
    rename_i ms
    cases ms with
    | nil => exact h
    | cons y ys => cases h2
  | [], _, _ :: _, _, _ => rfl
  | _ :: _, [], _, h, _ => by cases h
  | _ :: _, _ :: _, [], _, h => by cases h
  | x :: xs, y :: ys, z :: zs, h, h2 => by
    rw [HT.lexLt_cons] at h h2 ⊢
    by_cases e : x = y
    · rw [if_pos e] at h
      by_cases e2 : y = z
      · rw [if_pos e2] at h2
        rw [if_pos (e.trans e2)]
        exact lex_trans h h2
      · rw [if_neg e2] at h2
        rw [if_neg (fun q => e2 (e.symm.trans q)), e]
        exact h2
    · rw [if_neg e] at h
      have h := of_decide_eq_true h
      by_cases e2 : y = z
      · rw [if_neg (fun q => e (q.trans e2.symm)), ← e2]
        exact decide_eq_true h
      · rw [if_neg e2] at h2
        have h2 := of_decide_eq_true h2
        rw [if_neg (by omega)]
        exact decide_eq_true (by omega)
def ks (w : List Nat) : List Int := w.map fun c => (ixL c : Int)
theorem ltN_irr (n : Int) (ns : List Int) : ltN n ns n ns = false := by unfold ltN; rw [if_pos rfl, lex_irr]
theorem ltN_asym {n m : Int} {ns ms : List Int} (h : ltN n ns m ms = true) : ltN m ms n ns = false := by
  unfold ltN at h ⊢
  by_cases e : n = m
  · rw [if_pos e] at h; rw [if_pos e.symm]; exact lex_asym h
  · rw [if_neg e] at h
    rw [if_neg (fun z => e z.symm)]
    have := of_decide_eq_true h
    exact decide_eq_false (by omega)
theorem ltN_tot {n m : Int} {ns ms : List Int} (h : ¬ (n = m ∧ ns = ms)) (h2 : ltN n ns m ms = false) : ltN m ms n ns = true := by
  unfold ltN at h2 ⊢
  by_cases e : n = m
  · rw [if_pos e] at h2; rw [if_pos e.symm]; exact lex_tot (fun z => h ⟨e, z⟩) h2
  · rw [if_neg e] at h2
    rw [if_neg (fun z => e z.symm)]
    have := of_decide_eq_false h2
    exact decide_eq_true (by omega)
theorem ltN_trans {n m k : Int} {ns ms ls : List Int} (h : ltN n ns m ms = true) (h2 : ltN m ms k ls = true) : ltN n ns k ls = true := by
  unfold ltN at h h2 ⊢
  by_cases e : n = m
  · rw [if_pos e] at h
    subst e
    by_cases e2 : n = k
    · rw [if_pos e2] at h2 ⊢; exact lex_trans h h2
    · rw [if_neg e2] at h2 ⊢; exact h2
  · rw [if_neg e] at h
    have h := of_decide_eq_true h
    by_cases e2 : m = k
    · rw [← e2, if_neg e]; exact decide_eq_true h
    · rw [if_neg e2] at h2
      have h2 := of_decide_eq_true h2
      rw [if_neg (by omega)]
      exact decide_eq_true (by omega)
def sameK (u v : List Nat) : Prop := (u.length : Int) = (v.length : Int) ∧ ks u = ks v
instance (u v : List Nat) : Decidable (sameK u v) := inferInstanceAs (Decidable (_ ∧ _))
def ltW (u v : List Nat) : Bool := ltN u.length (ks u) v.length (ks v)
def cmpW (u v : List Nat) : Int := if sameK u v then 0 else if ltW u v = true then -1 else 1
theorem cmp_self (u : List Nat) : cmpW u u = 0 := if_pos ⟨rfl, rfl⟩
theorem cmp_neg (u v : List Nat) : cmpW v u = 0 - cmpW u v := by
  unfold cmpW
  by_cases h : sameK u v
  · rw [if_pos h, if_pos ⟨h.1.symm, h.2.symm⟩]; rfl
  · have h' : ¬ sameK v u := fun z => h ⟨z.1.symm, z.2.symm⟩
    rw [if_neg h, if_neg h']
    by_cases h2 : ltW u v = true
    · rw [if_pos h2, if_neg (by rw [show ltW v u = false from ltN_asym h2]; exact Bool.false_ne_true)]; rfl
    · rw [if_neg h2, if_pos (show ltW v u = true from ltN_tot h (Bool.eq_false_iff.mpr h2))]; rfl
theorem cmp_rng (u v : List Nat) : cmpW u v = 0 ∨ cmpW u v = -1 ∨ cmpW u v = 1 := by
  unfold cmpW
  split
  · exact .inl rfl
  · split
    · exact .inr (.inl rfl)
    · exact .inr (.inr rfl)
theorem cmp_congr {u u' v v' : List Nat} (h : sameK u u') (h2 : sameK v v') : cmpW u v = cmpW u' v' := by
  have e : ltW u v = ltW u' v' := by unfold ltW; rw [h.1, h.2, h2.1, h2.2]
  have e2 : sameK u v ↔ sameK u' v' := by unfold sameK; rw [h.1, h.2, h2.1, h2.2]
  unfold cmpW
  rw [e]
  by_cases z : sameK u v
  · rw [if_pos z, if_pos (e2.mp z)]
  · rw [if_neg z, if_neg (fun q => z (e2.mpr q))]
theorem cmp_0 {u v : List Nat} (h : cmpW u v = 0) : sameK u v := by
  unfold cmpW at h
  by_cases z : sameK u v
  · exact z
  · rw [if_neg z] at h
    split at h <;> cases h
theorem cmp_m {u v : List Nat} : cmpW u v = -1 ↔ ¬ sameK u v ∧ ltW u v = true := by
  unfold cmpW
  by_cases z : sameK u v
  · rw [if_pos z]; exact ⟨fun h => (by cases h), fun h => absurd z h.1⟩
  · rw [if_neg z]
    by_cases h2 : ltW u v = true
    · rw [if_pos h2]; exact ⟨fun _ => ⟨z, h2⟩, fun _ => rfl⟩
    · rw [if_neg h2]; exact ⟨fun h => (by cases h), fun h => absurd h.2 h2⟩
theorem sameK_refl (u : List Nat) : sameK u u := ⟨rfl, rfl⟩
theorem cmp_trans {u v t : List Nat} (h : cmpW u v ≤ 0) (h2 : cmpW v t ≤ 0) : cmpW u t = if cmpW u v + cmpW v t > -1 then cmpW u v + cmpW v t else -1 := by
  rcases cmp_rng u v with e | e | e
  · rw [e, cmp_congr (cmp_0 e) (sameK_refl t)]
    rcases cmp_rng v t with e2 | e2 | e2
    · rw [e2]; rfl
    · rw [e2]; rfl
    · omega
  · rcases cmp_rng v t with e2 | e2 | e2
    · rw [e, e2, ← cmp_congr (sameK_refl u) (cmp_0 e2), e]; rfl
    · rw [e, e2]
      have h1 := (cmp_m.mp e)
      have h3 := (cmp_m.mp e2)
      refine cmp_m.mpr ⟨fun z => ?_, ltN_trans h1.2 h3.2⟩
      have q : ltW v t = true := h3.2
      have q2 : ltW u v = true := h1.2
      have q3 : ltW v u = false := ltN_asym q2
      unfold ltW at q q3
      rw [← z.1, ← z.2, q3] at q
      cases q
    · omega
  · omega
theorem ixL_inj : ∀ {a b : Nat}, a ∈ LTR → b ∈ LTR → ixL a = ixL b → a = b := by
  have e : ∀ a ∈ LTR, ∀ b ∈ LTR, ixL a = ixL b → a = b := by decide
  exact fun {a b} ha hb h => e a ha b hb h
theorem ks_inj : ∀ {u v : List Nat}, Lts u → Lts v → ks u = ks v → u = v
  | [], [], _, _, _ => rfl
  | [], _ :: _, _, _, h => by cases h
  | _ :: _, [], _, _, h => by cases h
  | a :: u, b :: v, hu, hv, h => by
    have h' : (ixL a : Int) :: ks u = (ixL b : Int) :: ks v := h
    injection h' with h1 h2
    rw [ixL_inj (hu a List.mem_cons_self) (hv b List.mem_cons_self) (by omega), ks_inj (fun c hc => hu c (List.mem_cons_of_mem _ hc)) (fun c hc => hv c (List.mem_cons_of_mem _ hc)) h2]
theorem cmp_eq {u v : List Nat} (hu : Lts u) (hv : Lts v) : cmpW u v = 0 ↔ u = v :=
  ⟨fun h => ks_inj hu hv (cmp_0 h).2, fun h => by rw [h]; exact cmp_self v⟩
theorem pe_bmK {X : Cx} {K : PySem.W.Frag} {e : Expr} {T : String} {r : V → List V → Hp → VK → Prop} {to : TE} {t : TA} (hK : X.K = K) (h : PE X e (tBM X.K T r to t)) : PE X e (tBM K T r to t) := hK ▸ h
end DL

namespace DL
open PySem PySem.Spec PyProof.Rows L2

/-! ### dicts of one's own, their keys tuples of ints and texts, their values flat -/
def toKey : D → Option Key
  | .int i => some (.inl i)
  | .str l => some (.inr ⟨l.toArray⟩)
  | _ => none
def toKeys : List D → Option (List Key)
  | [] => some []
  | d :: ds => (toKey d).bind fun k => (toKeys ds).map fun ks => k :: ks
def toV : D → Option V
  | .non => some .non
  | .bl b => some (.bl b)
  | .int i => some (.int i)
  | .str l => some (.str ⟨l.toArray⟩)
  | _ => none
theorem is_key {st : Addr} {M : List Addr} {H : Hp} {v : V} {d : D} {k : Key} (i : Is st M H v d) (e : toKey d = some k) : v = kV k := by
  cases i <;> first | (cases e; done) | (cases e; rfl)
theorem is_keys {st : Addr} {M : List Addr} {H : Hp} : ∀ {vs : List V} {ds : List D} {ks : List Key}, Iss st M H vs ds → toKeys ds = some ks → vs = ks.map kV
  | _, _, _, .nil, e => by cases e; rfl
  | _, _, _, .cons h t, e => by
    unfold toKeys at e
    obtain ⟨k, hk, e⟩ := Option.bind_eq_some_iff.mp e
    obtain ⟨ks, hks, rfl⟩ := Option.map_eq_some_iff.mp e
    rw [is_key h hk, is_keys t hks]
    rfl
theorem is_flat {st : Addr} {M : List Addr} {H : Hp} {v w : V} {d : D} (i : Is st M H v d) (e : toV d = some w) : v = w := by
  cases i <;> first | (cases e; done) | (cases e; rfl)
theorem of_flat {st : Addr} {M : List Addr} {H : Hp} {w : V} {d : D} (e : toV d = some w) : Is st M H w d := by
  cases d <;> first | (cases e; done) | (cases e; constructor)
theorem flat_of {w : V} {d : D} (e : toV d = some w) : flatV w = true := by
  cases d <;> first | (cases e; done) | (cases e; rfl)
section
variable {B : Bs} {M M' : List Addr} {H H' H1 : Hp} {σ : L2.St} {env env' : Nv} {nx : Nv → Prop} {rt : D → Prop} {bk ct : Nv → Prop} {t u : TS} {c : TT} {te ta tb td ty tv : TE} {tas : TA} {post : D → Prop} {K : PySem.W.Frag}
theorem den_dnewT {postN : Ow → Prop} (h : postN (.dT [])) : DeN tDNewT env postN := fun B M σ H S Q q p hn =>
  q p _ _ _ h (S.newIn hn _) (Fx.new hn) upd_same (.dT fun kv hk => nomatch hk) hn
theorem den_dnewK {postN : Ow → Prop} (h : postN (.dK [])) : DeN tDNewK env postN := fun B M σ H S Q q p hn =>
  q p _ _ _ h (S.newIn hn _) (Fx.new hn) upd_same (.dK fun kv hk => nomatch hk) hn
/-- the dict that a slot holds -/
def dicT (env : Nv) (i : Nat) (kvs : List (List Key × V)) : Prop := env[i]? = some (.own (.dT kvs)) ∨ env[i]? = some (.dat (.dT kvs))
def dicK (env : Nv) (i : Nat) (kvs : List (Key × V)) : Prop := env[i]? = some (.own (.dK kvs)) ∨ env[i]? = some (.dat (.dK kvs))
theorem Sr.dicT {i : Nat} {kvs : List (List Key × V)} (S : Sr B M σ H env) (h : dicT env i kvs) : ∃ p, σ[i]? = some (some (.ref p)) ∧ H p = some (.dT kvs) ∧ p ≠ B.st := by
  rcases h with h | h
  · obtain ⟨p, u, h1, h2, h3, h4, h5⟩ := S.own i _ h
    cases h5
    exact ⟨p, h1, h4, fun z => h3 (z ▸ S.st0)⟩
  · obtain ⟨v, h1, h2⟩ := S.dat i _ h
    cases h2 with
    | dT hm hp hf => exact ⟨_, h1, hp, fun z => hm (z ▸ S.stM)⟩
theorem Sr.dicK {i : Nat} {kvs : List (Key × V)} (S : Sr B M σ H env) (h : dicK env i kvs) : ∃ p, σ[i]? = some (some (.ref p)) ∧ H p = some (.dK kvs) ∧ p ≠ B.st := by
  rcases h with h | h
  · obtain ⟨p, u, h1, h2, h3, h4, h5⟩ := S.own i _ h
    cases h5
    exact ⟨p, h1, h4, fun z => h3 (z ▸ S.st0)⟩
  · obtain ⟨v, h1, h2⟩ := S.dat i _ h
    cases h2 with
    | dK hm hp hf => exact ⟨_, h1, hp, fun z => hm (z ▸ S.stM)⟩
/-- y in d -/
theorem de_dinT {i : Nat} {kvs : List (List Key × V)} (hi : dicT env i kvs) (h : De ty env fun y => ∃ l ks, y = .tup l ∧ toKeys l = some ks ∧ post (.bl (valV kvs ks).isSome)) : De (tDIn ty (tVar i)) env post := fun B M σ H S Q q =>
  h B M σ H S _ fun v H1 d ⟨l, ks, e, hk, hp⟩ S1 e1 i1 => by
    subst e
    obtain ⟨b, vs, rfl, hl, hs⟩ := is_tup i1
    obtain ⟨p, h1, h2, _⟩ := S1.dicT hi
    have := is_keys hs hk
    subst this
    exact ⟨.ref p, h1, p, _, rfl, .t h2 hl, q _ H1 _ hp S1 e1 (.bl _)⟩
theorem de_dnotinT {i : Nat} {kvs : List (List Key × V)} (hi : dicT env i kvs) (h : De ty env fun y => ∃ l ks, y = .tup l ∧ toKeys l = some ks ∧ post (.bl (!(valV kvs ks).isSome))) : De (tDNotIn ty (tVar i)) env post := fun B M σ H S Q q =>
  h B M σ H S _ fun v H1 d ⟨l, ks, e, hk, hp⟩ S1 e1 i1 => by
    subst e
    obtain ⟨b, vs, rfl, hl, hs⟩ := is_tup i1
    obtain ⟨p, h1, h2, _⟩ := S1.dicT hi
    have := is_keys hs hk
    subst this
    exact ⟨.ref p, h1, p, _, rfl, .t h2 hl, q _ H1 _ hp S1 e1 (.bl _)⟩
theorem de_dinK {i : Nat} {kvs : List (Key × V)} (hi : dicK env i kvs) (h : De ty env fun y => ∃ k, toKey y = some k ∧ post (.bl (valV kvs k).isSome)) : De (tDIn ty (tVar i)) env post := fun B M σ H S Q q =>
  h B M σ H S _ fun v H1 d ⟨k, hk, hp⟩ S1 e1 i1 => by
    obtain ⟨p, h1, h2, _⟩ := S1.dicK hi
    have := is_key i1 hk
    subst this
    exact ⟨.ref p, h1, p, _, rfl, .k h2, q _ H1 _ hp S1 e1 (.bl _)⟩
theorem de_dnotinK {i : Nat} {kvs : List (Key × V)} (hi : dicK env i kvs) (h : De ty env fun y => ∃ k, toKey y = some k ∧ post (.bl (!(valV kvs k).isSome))) : De (tDNotIn ty (tVar i)) env post := fun B M σ H S Q q =>
  h B M σ H S _ fun v H1 d ⟨k, hk, hp⟩ S1 e1 i1 => by
    obtain ⟨p, h1, h2, _⟩ := S1.dicK hi
    have := is_key i1 hk
    subst this
    exact ⟨.ref p, h1, p, _, rfl, .k h2, q _ H1 _ hp S1 e1 (.bl _)⟩
/-- d[y] -/
theorem de_dgetT {i : Nat} {kvs : List (List Key × V)} (hi : dicT env i kvs) (h : De ty env fun y => ∃ l ks w d, y = .tup l ∧ toKeys l = some ks ∧ valV kvs ks = some w ∧ toV d = some w ∧ post d) : De (tDGet (tVar i) ty) env post := fun B M σ H S Q q => by
  obtain ⟨p, h1, h2, h3⟩ := S.dicT hi
  refine ⟨.ref p, h1, h B M σ H S _ fun v H1 d ⟨l, ks, w, d', e, hk, hv, hd, hp⟩ S1 e1 i1 => ?_⟩
  subst e
  obtain ⟨b, vs, rfl, hl, hs⟩ := is_tup i1
  have := is_keys hs hk
  subst this
  refine ⟨p, w, rfl, ?_, q _ H1 _ hp S1 e1 (of_flat hd)⟩
  rw [← hv]
  exact .t (e1.1 p _ h3 h2) hl
theorem de_dgetK {i : Nat} {kvs : List (Key × V)} (hi : dicK env i kvs) (h : De ty env fun y => ∃ k w d, toKey y = some k ∧ valV kvs k = some w ∧ toV d = some w ∧ post d) : De (tDGet (tVar i) ty) env post := fun B M σ H S Q q => by
  obtain ⟨p, h1, h2, h3⟩ := S.dicK hi
  refine ⟨.ref p, h1, h B M σ H S _ fun v H1 d ⟨k, w, d', hk, hv, hd, hp⟩ S1 e1 i1 => ?_⟩
  have := is_key i1 hk
  subst this
  refine ⟨p, w, rfl, ?_, q _ H1 _ hp S1 e1 (of_flat hd)⟩
  rw [← hv]
  exact .k (e1.1 p _ h3 h2)
/-- d[y] = e -/
theorem ds_dputT {i : Nat} {kvs : List (List Key × V)} (hi : env[i]? = some (.own (.dT kvs))) (hz : kvs.length < 1000000) (h : De tv env fun d => De ty env fun y => ∃ l ks w, y = .tup l ∧ toKeys l = some ks ∧ toV d = some w ∧ nx (env.set i (.own (.dT (putK kvs ks w))))) : Ds (sDPut (tVar i) ty tv) env nx rt bk ct := fun B M σ H S E q1 q2 q3 q4 =>
  h B M σ H S _ fun v H1 d hd S1 e1 i1 => by
    obtain ⟨p, u, h1, h2, h3, h4, h5⟩ := S1.own i _ hi
    refine ⟨.ref p, h1, hd B M σ H1 S1 _ fun y H2 d2 ⟨l, ks, w, e, hk, hw, hp⟩ S2 e2 i2 => ?_⟩
    subst e
    have := is_flat i1 hw
    subst this
    obtain ⟨b, vs, rfl, hl, hs⟩ := is_tup i2
    have := is_keys hs hk
    subst this
    cases h5 with
    | dT hf =>
      have h4' : H2 p = some (.dT kvs) := e2.1 p _ (fun z => h3 (z ▸ S.st0)) h4
      refine ⟨p, _, rfl, .t h4' hl (Nat.lt_of_lt_of_le hz (by decide)), q1 M σ _ _ hp (S2.mutate hi h1 h4' (.dT hf) (.dT fun kv hkv => ?_))⟩
      unfold putK at hkv
      split at hkv
      · obtain ⟨x, hx, rfl⟩ := List.mem_map.mp hkv
        split
        · exact flat_of hw
        · exact hf x hx
      · rcases List.mem_append.mp hkv with z | z
        · exact hf kv z
        · rw [List.mem_singleton.mp z]
          exact flat_of hw
theorem ds_dputK {i : Nat} {kvs : List (Key × V)} (hi : env[i]? = some (.own (.dK kvs))) (hz : kvs.length < 1000000) (h : De tv env fun d => De ty env fun y => ∃ k w, toKey y = some k ∧ toV d = some w ∧ nx (env.set i (.own (.dK (putK kvs k w))))) : Ds (sDPut (tVar i) ty tv) env nx rt bk ct := fun B M σ H S E q1 q2 q3 q4 =>
  h B M σ H S _ fun v H1 d hd S1 e1 i1 => by
    obtain ⟨p, u, h1, h2, h3, h4, h5⟩ := S1.own i _ hi
    refine ⟨.ref p, h1, hd B M σ H1 S1 _ fun y H2 d2 ⟨k, w, hk, hw, hp⟩ S2 e2 i2 => ?_⟩
    have := is_flat i1 hw
    subst this
    have := is_key i2 hk
    subst this
    cases h5 with
    | dK hf =>
      have h4' : H2 p = some (.dK kvs) := e2.1 p _ (fun z => h3 (z ▸ S.st0)) h4
      refine ⟨p, _, rfl, .k h4' (Nat.lt_of_lt_of_le hz (by decide)), q1 M σ _ _ hp (S2.mutate hi h1 h4' (.dK hf) (.dK fun kv hkv => ?_))⟩
      unfold putK at hkv
      split at hkv
      · obtain ⟨x, hx, rfl⟩ := List.mem_map.mp hkv
        split
        · exact flat_of hw
        · exact hf x hx
      · rcases List.mem_append.mp hkv with z | z
        · exact hf kv z
        · rw [List.mem_singleton.mp z]
          exact flat_of hw
end
end DL

namespace DL
open PySem PySem.Spec PyProof.Rows L2

/-! ### zip(text, tuple), enumerate(tuple): what a loop walks -/
/-- the signs of x beside the items of the tuple at b, which has n -/
def Izs (K : PySem.W.Frag) (x : Str) (b : Addr) (n : Nat) : It :=
  ⟨fun i H => i < x.cps.size ∧ i < n ∧ ∃ ys : List V, SqT K H b ys ∧ ys.length = n,
    fun i H v H' => ∃ T c y, v = .ref T ∧ H T = none ∧ H' = upd H T (.tup [.str ⟨#[c]⟩, y]) ∧ x.cps[i]? = some c ∧ ∀ ys, SqT K H b ys → ys[i]? = some y,
    fun i H => (x.cps.size ≤ i ∨ n ≤ i) ∧ ∃ ys : List V, SqT K H b ys ∧ ys.length = n⟩
theorem turn_zs {P : Program} {w : World} {K : PySem.W.Frag} {elts : List Expr} {kk : Nat} {tpos : Pos} {x : Str} {t : Tok} {b z TI TO i1 i2 : Addr} {n : Nat} (S : ZipSep2 z TI TO i1 i2 [i1] [i2, b]) :
    Turn P w K (.Tuple elts kk tpos) (Izs K x b n) [z, TI, TO, i1, i2] z (fun i h => IsZip h z TI TO .none ∧ IsTupOf2 h TI (.ref i1) (.ref i2) ∧ (∃ u v, IsTupOf2 h TO u v) ∧ h.IsStrIter i1 (strIterType x) x t i ∧ h.IsTupleIter i2 b i ∧ i ≤ x.cps.size ∧ i ≤ n) where
  mem := by simp
  obj := fun i h st c hc => by
    obtain ⟨hz, hTI, ⟨u, v, hTO⟩, ⟨o1, e1, _, d1⟩, ⟨o2, e2, _, d2⟩, _⟩ := st
    have e' : c = z ∨ c = TI ∨ c = TO ∨ c = i1 ∨ c = i2 := by simpa using hc
    rcases e' with rfl | rfl | rfl | rfl | rfl
    · exact ⟨_, hz, fun v q => nomatch q⟩
    · exact ⟨_, hTI, fun v q => nomatch q⟩
    · exact ⟨_, hTO, fun v q => nomatch q⟩
    · exact ⟨o1, e1, fun v q => by rw [d1] at q; cases q⟩
    · exact ⟨o2, e2, fun v q => by rw [d2] at q; cases q⟩
  keep := fun i h h' st k => by
    obtain ⟨hz, hTI, ⟨u, v, hTO⟩, ⟨o1, e1, r1⟩, h2, l1, l2⟩ := st
    exact ⟨k z (by simp) _ hz, k TI (by simp) _ hTI, ⟨u, v, k TO (by simp) _ hTO⟩, ⟨o1, k i1 (by simp) _ e1, r1⟩, h2.at fun o q => k i2 (by simp) o q, l1, l2⟩
  item := by
    intro X hP hw hK hc i pins s σ H E I hf st hg
    subst hP hw hK
    obtain ⟨hz, hTI, ⟨u0, v0, hTO⟩, h1, h2, _, _⟩ := st
    obtain ⟨g1, g2, ys, hq, hl⟩ := hg
    obtain ⟨its, rv, p, _⟩ := I.tuple hq
    have hlen : its.toArray.size = n := by rw [List.size_toArray, ← rv.length, hl]
    have hne : b ≠ i2 := fun q => by
      obtain ⟨_, e, c1, d1⟩ := h2
      obtain ⟨_, e2, c2, n2, d2⟩ := p
      rw [q, e] at e2
      cases e2
      rw [d1] at d2
      cases d2
    have D1 : Draws X.prog X.w X.A.in1 i1 [i1] _ _ _ := Draws.text (show X.A.in1.handled = none from I.ok.hd hc) i1 x t
    have D2 : Draws X.prog X.w X.A.in1 i2 [i2, b] _ _ _ := Draws.tuple (show X.A.in1.handled = none from I.ok.hd hc) i2 b hne its.toArray
    have hzl : z < s.heap.objs.size := Heap.lt_size hz
    refine wpAny_pyNext_zipD2_item S D1 D2 hz hTI hTO h1 ⟨h2, p⟩ g1 (by rw [hlen]; exact g2) fun x1 x2 h' tk y1 y2 hz' hTO' h1' h2' hT hsz hk => ?_
    obtain ⟨c, u, hcx, rfl⟩ := y1
    obtain ⟨y, hy, ry⟩ : ∃ y, ys[i]? = some y ∧ RelV y x2 := by
      obtain ⟨y, hy⟩ : ∃ y, ys[i]? = some y := ⟨ys[i]'(by omega), List.getElem?_eq_getElem _⟩
      obtain ⟨u2, hu2, ru2⟩ := rv.get hy
      have y2' : its[i]? = some x2 := by simpa using y2
      rw [hu2] at y2'
      cases y2'
      exact ⟨y, hy, ru2⟩
    refine ⟨_, rfl, wpAny_letOwnedTupleGo_zip (s := { s with heap := h', toks := tk }) hz' fun h'' z'' sb => ?_⟩
    have hT2 : h''.get? s.heap.objs.size = some { cls := .type "tuple", data := .seq #[.str ⟨#[c]⟩ u, x2] } := (sb.2 _ (Nat.ne_of_gt hzl)).trans hT
    have new : ObjOk X.prog X.w (upd H s.heap.objs.size (.tup [.str ⟨#[c]⟩, y])) h'' s.heap.objs.size (.tup [.str ⟨#[c]⟩, y]) :=
      ⟨by show 2 ≤ sizeLine; decide, [.str ⟨#[c]⟩ u, x2], .cons ⟨_, rfl⟩ (.cons ry .nil), ⟨_, hT2, rfl, _, rfl⟩⟩
    have I1 : L2.Inv X pins σ (upd H s.heap.objs.size (.tup [.str ⟨#[c]⟩, y])) { s with heap := h'', toks := tk } :=
      I.turnedNew (ch := [z, TI, TO, i1, i2]) (fun a o hb q => (sb.2 a (fun q' => hb (by simp [q']))).trans (hk a o (fun q' => hb (by simp [q'])) (fun q' => hb (by simp [q'])) (fun q' => hb (by simp [q'])) (fun q' => hb (by simp [q'])) q)) hf (Nat.le_refl _) new
    refine ⟨.ref s.heap.objs.size, _, I1, rfl, ⟨_, c, y, rfl, I.hok.fresh (Nat.le_refl _), rfl, hcx, fun l hl => by rw [I.tuple_inj hl hq]; exact hy⟩, ⟨z'', ?_, ⟨.str ⟨#[c]⟩ u, x2, ?_⟩, ?_, ?_, g1, g2⟩, fun a ham => ?_⟩
    · exact (sb.2 _ S.TIz).trans (hk _ _ S.TIz S.TITO S.TIi1 S.TIi2 hTI)
    · exact (sb.2 _ S.TOz).trans hTO'
    · obtain ⟨o1, e1, r1⟩ := h1'
      exact ⟨o1, (sb.2 _ S.zi1.symm).trans e1, r1⟩
    · exact h2'.1.at fun o q => (sb.2 _ S.zi2.symm).trans q
    · have hlt : a < s.heap.objs.size := by
        have e' : a = z ∨ a = TI ∨ a = TO ∨ a = i1 ∨ a = i2 := by simpa using ham
        rcases e' with rfl | rfl | rfl | rfl | rfl
        · exact hzl
        · exact Heap.lt_size hTI
        · exact Heap.lt_size hTO
        · obtain ⟨_, e1, _⟩ := h1; exact Heap.lt_size e1
        · obtain ⟨_, e2, _⟩ := h2; exact Heap.lt_size e2
      rw [upd_ne (Nat.ne_of_lt hlt)]
      exact (hf a ham).1
  done := by
    intro X hP hw hK hc i pins s σ H E I hf st hg
    subst hP hw hK
    obtain ⟨hz, hTI, ⟨u0, v0, hTO⟩, h1, h2, l1, l2⟩ := st
    obtain ⟨hend, ys, hq, hl⟩ := hg
    obtain ⟨its, rv, p, _⟩ := I.tuple hq
    have hlen : its.toArray.size = n := by rw [List.size_toArray, ← rv.length, hl]
    have hne : b ≠ i2 := fun q => by
      obtain ⟨_, e, c1, d1⟩ := h2
      obtain ⟨_, e2, c2, n2, d2⟩ := p
      rw [q, e] at e2
      cases e2
      rw [d1] at d2
      cases d2
    have D1 : Draws X.prog X.w X.A.in1 i1 [i1] _ _ _ := Draws.text (show X.A.in1.handled = none from I.ok.hd hc) i1 x t
    have D2 : Draws X.prog X.w X.A.in1 i2 [i2, b] _ _ _ := Draws.tuple (show X.A.in1.handled = none from I.ok.hd hc) i2 b hne its.toArray
    refine wpAny_pyNext_zipD2_end S D1 D2 hz hTI hTO h1 ⟨h2, p⟩ l1 (by rw [hlen]; exact l2) (by rw [hlen]; omega) fun h' tk hk => ⟨rfl, I.turnedL (t' := tk) (ch := [z, TI, TO, i1, i2]) (fun a o hb q =>
      hk a o (fun q' => hb (by simp [q'])) (fun q' => hb (by simp [q'])) (fun q' => hb (by simp [q'])) (fun q' => hb (by simp [q'])) q) hf⟩
  self := fun A i s Q E st h => wpAny_pyIter_zip st.1 h
def iZs (K : PySem.W.Frag) (ta : TA) : TI := fun σ H R => ta σ H fun vs H1 => ∃ x b ys, vs = [.str x, .ref b] ∧ SqT K H1 b ys ∧ R (Izs K x b ys.length) H1
theorem pi_zs {X : Cx} {e e2 : Expr} {ta : TA} {p pos tpos : Pos} {elts : List Expr} {kk : Nat} (hg : Gl X "zip") (hm : X.mg "zip" = none) (ha : PA X [e, e2] ta)
    (hs : starEach [e, e2] X.env = (false, eval e X.env) :: starEach [e2] X.env := by rfl) (hpl : (backTo pos (starEach [e2] X.env)).any (·.1) = false := by rfl) :
    PI X (.Tuple elts kk tpos) (.Call (.Name "zip" p) [e, e2] [] pos) (iZs X.K ta) := by
  refine ⟨fun pins s σ H R I h => ?_⟩
  refine Call_ (ld_blt I hg hm PyProof.Rows.boot_zip (PyProof.Rows.callWith_type1 (thn (ha.run pos pins s σ H _ I h) fun us s1 ⟨vs, H1, I1, r1, q1⟩ => ?_) hs hpl))
  obtain ⟨x, b, ys, ex, hq, q⟩ := q1
  subst ex
  cases r1 with
  | cons r rr =>
    cases rr with
    | cons r' rr =>
      cases rr
      obtain ⟨t, rfl⟩ := r
      cases r'
      obtain ⟨its, rv, p2, _⟩ := I1.tuple hq
      have lb : b < s1.heap.objs.size := by obtain ⟨_, e, _⟩ := p2; exact Heap.lt_size e
      refine zip_begins2 (begins_text x t) (begins_tuple b its.toArray) trivial p2 fun h' hz hTI hTO h1 h2 hsz hk => wpAny_pyIter_zip hz ?_
      have I2 : L2.Inv X pins σ H1 { s1 with heap := h' } := I1.kept (t' := s1.toks) hk
      refine ⟨s1.heap.objs.size + 4, [s1.heap.objs.size + 4, s1.heap.objs.size + 2, s1.heap.objs.size + 3, s1.heap.objs.size, s1.heap.objs.size + 1], _, _, H1, rfl, I2,
        turn_zs (t := t) (zip_sep2 (fp1 := []) (fp2 := [b]) (fun _ z => nomatch z) (fun c hc => by rw [List.mem_singleton.mp hc]; exact lb)),
        ⟨hz, hTI, ⟨_, _, hTO⟩, ⟨_, h1, rfl, rfl⟩, ⟨_, h2, rfl, rfl⟩, Nat.zero_le _, Nat.zero_le _⟩, fun c hcm => ?_, q⟩
      have e' : c = s1.heap.objs.size + 4 ∨ c = s1.heap.objs.size + 2 ∨ c = s1.heap.objs.size + 3 ∨ c = s1.heap.objs.size ∨ c = s1.heap.objs.size + 1 := by simpa using hcm
      have hle : s1.heap.objs.size ≤ c := by
        rcases e' with z | z | z | z | z <;> rw [z] <;> first | exact Nat.le_refl _ | exact Nat.le_add_right _ _
      exact I1.fpOk hle (I1.hok.fresh hle)
/-- the items of the tuple at a, each behind its place -/
def Ien (K : PySem.W.Frag) (a : Addr) (n : Nat) : It :=
  ⟨fun i H => i < n ∧ ∃ xs : List V, SqT K H a xs ∧ xs.length = n,
    fun i H v H' => ∃ T x, v = .ref T ∧ H T = none ∧ H' = upd H T (.tup [.int (i : Nat), x]) ∧ ∀ xs, SqT K H a xs → xs[i]? = some x,
    fun i H => n ≤ i ∧ ∃ xs : List V, SqT K H a xs ∧ xs.length = n⟩
theorem turn_en {P : Program} {w : World} {K : PySem.W.Frag} {elts : List Expr} {kk : Nat} {tpos : Pos} {a e it : Addr} {n : Nat} (hae : a ≠ e) :
    Turn P w K (.Tuple elts kk tpos) (Ien K a n) [e, it] e (fun i h => (∃ old, IsEnum h e it ((i : Nat) : Int) old) ∧ h.IsTupleIter it a i ∧ e ≠ it ∧ i ≤ n) where
  mem := by simp
  obj := fun i h st b hb => by
    obtain ⟨⟨old, he⟩, ⟨o, ho, hc, hd⟩, _⟩ := st
    have e' : b = e ∨ b = it := by simpa using hb
    rcases e' with rfl | rfl
    · exact ⟨_, he, fun v q => nomatch q⟩
    · exact ⟨o, ho, fun v q => by rw [hd] at q; cases q⟩
  keep := fun i h h' st k => by
    obtain ⟨⟨old, he⟩, hi, hne, hn⟩ := st
    exact ⟨⟨old, k e (by simp) _ he⟩, hi.at fun o q => k it (by simp) o q, hne, hn⟩
  item := by
    intro X hP hw hK hc i pins s σ H E I hf st hg
    subst hP hw hK
    obtain ⟨⟨old, he⟩, hit, hne, _⟩ := st
    obtain ⟨g1, xs, hq, hl⟩ := hg
    obtain ⟨its, rv, p, _⟩ := I.tuple hq
    have hlen : its.toArray.size = n := by rw [List.size_toArray, ← rv.length, hl]
    have hai : a ≠ it := fun q => by
      obtain ⟨_, e1, c1, d1⟩ := hit
      obtain ⟨_, e2, c2, n2, d2⟩ := p
      rw [q, e1] at e2
      cases e2
      rw [d1] at d2
      cases d2
    have D : Draws X.prog X.w X.A.in1 it [it, a] _ _ _ := Draws.tuple (show X.A.in1.handled = none from I.ok.hd hc) it a hai its.toArray
    have hel : e < s.heap.objs.size := Heap.lt_size he
    have hil : it < s.heap.objs.size := by obtain ⟨_, q, _⟩ := hit; exact Heap.lt_size q
    refine wpAny_pyNext_enum_itemD D he ⟨hit, p⟩ (by rw [hlen]; exact g1) hne (fun z => by simp [hne, hae.symm] at z) fun x2 h' tk y2 ho hst hT hsz hk => ?_
    obtain ⟨y, hy, ry⟩ : ∃ y, xs[i]? = some y ∧ RelV y x2 := by
      obtain ⟨y, hy⟩ : ∃ y, xs[i]? = some y := ⟨xs[i]'(by omega), List.getElem?_eq_getElem _⟩
      obtain ⟨u2, hu2, ru2⟩ := rv.get hy
      have y2' : its[i]? = some x2 := by simpa using y2
      rw [hu2] at y2'
      cases y2'
      exact ⟨y, hy, ru2⟩
    refine ⟨_, rfl, wpAny_letOwnedTupleGo_enum (s := { s with heap := h', toks := tk + 1 }) ho fun h'' he' sb => ?_⟩
    have hT2 : h''.get? s.heap.objs.size = some { cls := .type "tuple", data := .seq #[.int i tk, x2] } := (sb.2 _ (Nat.ne_of_gt hel)).trans hT
    have new : ObjOk X.prog X.w (upd H s.heap.objs.size (.tup [.int (i : Nat), y])) h'' s.heap.objs.size (.tup [.int (i : Nat), y]) :=
      ⟨by show 2 ≤ sizeLine; decide, [.int i tk, x2], .cons ⟨_, rfl⟩ (.cons ry .nil), ⟨_, hT2, rfl, _, rfl⟩⟩
    have I1 : L2.Inv X pins σ (upd H s.heap.objs.size (.tup [.int (i : Nat), y])) { s with heap := h'', toks := tk + 1 } :=
      I.turnedNew (ch := [e, it]) (fun b ob hb q => (sb.2 b (fun z => hb (by simp [z]))).trans (hk b ob (fun z => hb (by simp [z])) (fun z => hb (by simp [z])) q)) hf (Nat.le_refl _) new
    refine ⟨.ref s.heap.objs.size, _, I1, rfl, ⟨_, y, rfl, I.hok.fresh (Nat.le_refl _), rfl, fun l hl => by rw [I.tuple_inj hl hq]; exact hy⟩, ⟨⟨x2, ?_⟩, hst.1.at fun o q => (sb.2 it (Ne.symm hne)).trans q, hne, g1⟩, fun b hb => ?_⟩
    · have e1 : ((i + 1 : Nat) : Int) = (i : Int) + 1 := by omega
      rw [e1]; exact he'
    · have hb' : b < s.heap.objs.size := by
        have e' : b = e ∨ b = it := by simpa using hb
        rcases e' with rfl | rfl
        · exact hel
        · exact hil
      rw [upd_ne (Nat.ne_of_lt hb')]
      exact (hf b hb).1
  done := by
    intro X hP hw hK hc i pins s σ H E I hf st hg
    subst hP hw hK
    obtain ⟨⟨old, he⟩, hit, hne, hn⟩ := st
    obtain ⟨g1, xs, hq, hl⟩ := hg
    obtain ⟨its, rv, p, _⟩ := I.tuple hq
    have hlen : its.toArray.size = n := by rw [List.size_toArray, ← rv.length, hl]
    have hai : a ≠ it := fun q => by
      obtain ⟨_, e1, c1, d1⟩ := hit
      obtain ⟨_, e2, c2, n2, d2⟩ := p
      rw [q, e1] at e2
      cases e2
      rw [d1] at d2
      cases d2
    have D : Draws X.prog X.w X.A.in1 it [it, a] _ _ _ := Draws.tuple (show X.A.in1.handled = none from I.ok.hd hc) it a hai its.toArray
    obtain ⟨f0, f1, f2, f3, f4, f5⟩ := hf it (by simp)
    have hni : i = its.toArray.size := by omega
    refine wpAny_pyNext_enum_endD D he ⟨hni ▸ hit, p⟩ fun h' eb => ⟨rfl, I.turned (t' := s.toks) (fun b o hb q => eb b o hb q) f0 f1 f3 f4 f5⟩
  self := fun A i s Q E st h => by
    obtain ⟨⟨_, he⟩, _⟩ := st
    exact wpAny_pyIter_enum he h
open AutoSeq1 (wpAny_loadPart') in
theorem meets_en {v : Value} {o : Obj} {Hv : Heap → Prop} (Bg : Begins v o Hv) :
    Meets (Builtin.«enumerate.__new__» ⟨[.type "enumerate", v], []⟩) (fun _ R s => Hv s.heap ∧
      R (.ok (.ret (.ref (s.heap.push o).objs.size))) { s with heap := (s.heap.push o).push { cls := .type "enumerate", data := .fields #[.none, .bool false, .ref s.heap.objs.size, rawInt 0, .none, .none] } }) :=
  .of_wp fun prog w A R s h => by
    obtain ⟨hp, g, d, tk, os⟩ := s
    obtain ⟨h1, h⟩ := h
    have hsub := sub_enumerate
    have q1 : ∀ {A' : Around} {E : Value → Shared → Prop} {Q : Value → Shared → Prop}, Q (.ref hp.objs.size) ⟨hp.push o, g, d, tk, os⟩ → wpAny (model prog w) A' (pyIter v) Q E ⟨hp, g, d, tk, os⟩ := fun q => Bg.iter prog w _ _ _ _ h1 q
    wp_walk using q1
    refine wpAny_stack_any fun st => wpAny_pure ?_
    split
    · rename_i c _ _ _ _ _
      cases (c == Value.type "enumerate") <;> (wp_walk using q1; exact ⟨_, rfl, h⟩)
    · wp_walk using q1
      exact ⟨_, rfl, h⟩
theorem call_en {prog : Program} {w : World} {A : Around} {E : Value → Shared → Prop} {s : Shared} {v : Value} {o : Obj} {Hv : Heap → Prop} {Q : Value → Shared → Prop} (Bg : Begins v o Hv) (h1 : Hv s.heap)
    (h : ∀ h', IsEnum h' (s.heap.objs.size + 1) s.heap.objs.size 0 .none → h'.get? s.heap.objs.size = some o → (∀ b o, s.heap.get? b = some o → h'.get? b = some o) → Q (.ref (s.heap.objs.size + 1)) { s with heap := h' }) :
    wpAny (model prog w) A (call (.type "enumerate") [v]) Q E s := by
  refine callType_new F.called_enumerate (by decide) (F.typeCall_enumerate_1 _) (F.newCall_enumerate_1 _) (fun obj => F.args_object_init_2 obj _) F.entry_enumerate_new (meets_en Bg) ⟨h1, ?_⟩
  have hz : (s.heap.push o).objs.size = s.heap.objs.size + 1 := Heap.size_push ..
  have he := Heap.get?_push_size (s.heap.push o) (o := { cls := .type "enumerate", data := .fields #[.none, .bool false, .ref s.heap.objs.size, rawInt 0, .none, .none] }) rfl
  show _ ∧ _
  rw [hz] at he ⊢
  exact ⟨⟨_, he, rfl⟩, h _ he (Heap.get?_push_of_some _ (Heap.get?_push_size _ Bg.free)) fun b o x => Heap.get?_push_of_some _ (Heap.get?_push_of_some _ x)⟩
def iEn (K : PySem.W.Frag) (ta : TA) : TI := fun σ H R => ta σ H fun vs H1 => ∃ a xs, vs = [.ref a] ∧ SqT K H1 a xs ∧ R (Ien K a xs.length) H1
theorem pi_en {X : Cx} {e : Expr} {ta : TA} {p pos tpos : Pos} {elts : List Expr} {kk : Nat} (hg : Gl X "enumerate") (hm : X.mg "enumerate" = none) (ha : PA X [e] ta) (hs : starEach [e] X.env = [(false, eval e X.env)] := by rfl) :
    PI X (.Tuple elts kk tpos) (.Call (.Name "enumerate" p) [e] [] pos) (iEn X.K ta) := by
  refine ⟨fun pins s σ H R I h => ?_⟩
  refine Call_ (ld_blt I hg hm boot_enumerate (PyProof.Rows.callWith_type1 (thn (ha.run pos pins s σ H _ I h) fun us s1 ⟨vs, H1, I1, r1, q1⟩ => ?_) hs rfl))
  obtain ⟨a, xs, ex, hq, q⟩ := q1
  subst ex
  cases r1 with
  | cons r rr =>
    cases rr
    cases r
    obtain ⟨its, rv, p', _⟩ := I1.tuple hq
    have la : a < s1.heap.objs.size := by obtain ⟨_, e, _⟩ := p'; exact Heap.lt_size e
    refine call_en (begins_tuple a its.toArray) p' fun h' he hi hk => wpAny_pyIter_enum he ?_
    have I2 : L2.Inv X pins σ H1 { s1 with heap := h' } := I1.kept (t' := s1.toks) hk
    refine ⟨s1.heap.objs.size + 1, [s1.heap.objs.size + 1, s1.heap.objs.size], _, _, H1, rfl, I2, turn_en (e := s1.heap.objs.size + 1) (it := s1.heap.objs.size) (fun z => by rw [z] at la; exact absurd la (by show ¬ ((s1.heap.objs.size + 1 : Nat) < s1.heap.objs.size); omega)), ⟨⟨.none, he⟩, ⟨_, hi, rfl, rfl⟩, Nat.succ_ne_self _, Nat.zero_le _⟩, fun b hb => ?_, q⟩
    have e' : b = s1.heap.objs.size + 1 ∨ b = s1.heap.objs.size := by simpa using hb
    have hle : s1.heap.objs.size ≤ b := by
      rcases e' with z | z <;> rw [z] <;> first | exact Nat.le_refl _ | exact Nat.le_add_right _ _
    exact I1.fpOk hle (I1.hok.fresh hle)
end DL

namespace DL
open PySem PySem.Spec PyProof.Rows L2

section
variable {B : Bs} {M M' : List Addr} {H H' H1 : Hp} {σ : L2.St} {env env' : Nv} {nx : Nv → Prop} {rt : D → Prop} {bk ct : Nv → Prop} {t u : TS} {c : TT} {te ta tb td ty tv : TE} {tas : TA} {K : PySem.W.Frag}
theorem is_sign (st : Addr) (M : List Addr) (H : Hp) (c : Nat) : Is st M H (.str ⟨#[c]⟩) (sign c) := .str [c]
theorem is_pair {st : Addr} {M : List Addr} {H : Hp} {p T : Addr} {v w : V} {d e : D} (hT : H T = none) (i : Is st M H v d) (j : Is st M H w e) (hs : st ∈ M) (hst : Stm st M H) : Is st M (upd H T (.tup [v, w])) (.ref T) (.tup [d, e]) := by
  have nt : ∀ vs, H st ≠ some (.tup vs) := fun vs z => by
    obtain ⟨a, ns, c, k, h1, h2, h3, _⟩ := hst
    rw [h3] at z
    cases z
  exact .tup upd_same (.cons (i.mono (fun _ z => z) hs (Fx.new hT) nt) (.cons (j.mono (fun _ z => z) hs (Fx.new hT) nt) .nil))
def zsD (l : List Nat) (rows : List D) : List D := (l.zip rows).map fun p => .tup [sign p.1, p.2]
theorem zsD_len (l : List Nat) (rows : List D) : (zsD l rows).length = min l.length rows.length := by unfold zsD; rw [List.length_map, List.length_zip]
theorem zsD_get {l : List Nat} {rows : List D} {i : Nat} {d : D} (h : (zsD l rows)[i]? = some d) : ∃ c r, l[i]? = some c ∧ rows[i]? = some r ∧ d = .tup [sign c, r] := by
  unfold zsD at h
  rw [List.getElem?_map] at h
  obtain ⟨p, hp, rfl⟩ := Option.map_eq_some_iff.mp h
  have := List.getElem?_zip_eq_some.mp hp
  exact ⟨_, _, this.1, this.2, rfl⟩
theorem di_zs {post : List D → Prop} (h : Da tas env fun ds => ∃ l rows, ds = [.str l, .tup rows] ∧ post (zsD l rows)) : Di (iZs K tas) env post := fun B M σ H S R q =>
  h B M σ H S _ fun vs H1 d ⟨l, rows, e, hp⟩ S1 e1 i1 => by
    subst e
    cases i1 with
    | cons a r =>
      cases r with
      | cons b r =>
        cases r
        cases is_str a
        obtain ⟨p, ws, rfl, hl, hs⟩ := is_tup b
        have len : ws.length = rows.length := hs.length
        refine ⟨⟨l.toArray⟩, p, ws, rfl, .of hl, q _ H1 [(.ref p, .tup rows)] _ hp S1 e1 (fun x hx => ?_) ⟨fun M2 H2 hst hM hh => ?_⟩⟩
        · rw [List.mem_singleton.mp hx]
          exact b
        · obtain ⟨p2, ws2, e2, hl2, hs2⟩ := is_tup (hh _ (List.mem_singleton.mpr rfl))
          cases e2
          have len2 : ws2.length = rows.length := hs2.length
          have sz : (⟨l.toArray⟩ : Str).cps.size = l.length := by show l.toArray.size = l.length; simp
          refine ⟨fun i hi => ?_, fun i hi => ?_, fun i d x H' hd hy => ?_⟩
          · rw [zsD_len] at hi
            exact ⟨by rw [sz]; omega, by omega, ws2, .of hl2, by omega⟩
          · rw [zsD_len] at hi
            exact ⟨by rw [sz]; omega, ws2, .of hl2, by omega⟩
          · obtain ⟨T, c, y, rfl, hT, rfl, hc, hy⟩ := hy
            obtain ⟨c', r, h1, h2, rfl⟩ := zsD_get hd
            have : c = c' := by
              have hc' : l[i]? = some c := by rw [← hc]; simp
              rw [h1] at hc'
              exact (Option.some.inj hc').symm
            subst this
            obtain ⟨v, hv, iv⟩ := hs2.get h2
            have := hy ws2 (.of hl2)
            rw [hv] at this
            cases this
            exact ⟨.inr ⟨T, _, hT, rfl⟩, is_pair (p := p) hT (is_sign _ _ _ c) iv hM hst⟩
def enD (xs : List D) : List D := xs.mapIdx fun i x => .tup [.int (i : Nat), x]
theorem enD_len (xs : List D) : (enD xs).length = xs.length := by unfold enD; rw [List.length_mapIdx]
theorem enD_get {xs : List D} {i : Nat} {d : D} (h : (enD xs)[i]? = some d) : ∃ x, xs[i]? = some x ∧ d = .tup [.int (i : Nat), x] := by
  unfold enD at h
  rw [List.getElem?_mapIdx] at h
  obtain ⟨x, hx, rfl⟩ := Option.map_eq_some_iff.mp h
  exact ⟨x, hx, rfl⟩
theorem di_en {post : List D → Prop} (h : Da tas env fun ds => ∃ xs, ds = [.tup xs] ∧ post (enD xs)) : Di (iEn K tas) env post := fun B M σ H S R q =>
  h B M σ H S _ fun vs H1 d ⟨xs, e, hp⟩ S1 e1 i1 => by
    subst e
    cases i1 with
    | cons b r =>
      cases r
      obtain ⟨p, ws, rfl, hl, hs⟩ := is_tup b
      have len : ws.length = xs.length := hs.length
      refine ⟨p, ws, rfl, .of hl, q _ H1 [(.ref p, .tup xs)] _ hp S1 e1 (fun x hx => ?_) ⟨fun M2 H2 hst hM hh => ?_⟩⟩
      · rw [List.mem_singleton.mp hx]
        exact b
      · obtain ⟨p2, ws2, e2, hl2, hs2⟩ := is_tup (hh _ (List.mem_singleton.mpr rfl))
        cases e2
        have len2 : ws2.length = xs.length := hs2.length
        refine ⟨fun i hi => ?_, fun i hi => ?_, fun i d x H' hd hy => ?_⟩
        · rw [enD_len] at hi
          exact ⟨by omega, ws2, .of hl2, by omega⟩
        · rw [enD_len] at hi
          exact ⟨by omega, ws2, .of hl2, by omega⟩
        · obtain ⟨T, y, rfl, hT, rfl, hy⟩ := hy
          obtain ⟨r, h2, rfl⟩ := enD_get hd
          obtain ⟨v, hv, iv⟩ := hs2.get h2
          have := hy ws2 (.of hl2)
          rw [hv] at this
          cases this
          exact ⟨.inr ⟨T, _, hT, rfl⟩, is_pair (p := p) hT (.int _) iv hM hst⟩
theorem di_enq {post : List D → Prop} (h : Da tas env fun ds => ∃ x xs, ds = [x] ∧ SqD x xs ∧ post (enD xs)) : Di (iEn K tas) env post := fun B M σ H S R q =>
  h B M σ H S _ fun vs H1 d ⟨x0, xs, e, hx0, hp⟩ S1 e1 i1 => by
    subst e
    cases i1 with
    | cons b r =>
      cases r
      obtain ⟨p, ws, rfl, hl, hs⟩ := is_sq (K := K) hx0 b
      have len : ws.length = xs.length := hs.length
      refine ⟨p, ws, rfl, hl, q _ H1 [(.ref p, x0)] _ hp S1 e1 (fun x hx => ?_) ⟨fun M2 H2 hst hM hh => ?_⟩⟩
      · rw [List.mem_singleton.mp hx]
        exact b
      · obtain ⟨p2, ws2, e2, hl2, hs2⟩ := is_sq (K := K) hx0 (hh _ (List.mem_singleton.mpr rfl))
        cases e2
        have len2 : ws2.length = xs.length := hs2.length
        refine ⟨fun i hi => ?_, fun i hi => ?_, fun i d x H' hd hy => ?_⟩
        · rw [enD_len] at hi
          exact ⟨by omega, ws2, hl2, by omega⟩
        · rw [enD_len] at hi
          exact ⟨by omega, ws2, hl2, by omega⟩
        · obtain ⟨T, y, rfl, hT, rfl, hy⟩ := hy
          obtain ⟨r, h2, rfl⟩ := enD_get hd
          obtain ⟨v, hv, iv⟩ := hs2.get h2
          have := hy ws2 (hl2)
          rw [hv] at this
          cases this
          exact ⟨.inr ⟨T, _, hT, rfl⟩, is_pair (p := p) hT (.int _) iv hM hst⟩
end
end DL

namespace DL
open PySem PySem.Spec PyProof.Rows L2

theorem iss_map {α : Type} {st : Addr} {M : List Addr} {H : Hp} {f : α → V} {g : α → D} (h : ∀ a, Is st M H (f a) (g a)) : ∀ l : List α, Iss st M H (l.map f) (l.map g)
  | [] => .nil
  | a :: l => .cons (h a) (iss_map h l)
section
variable {B : Bs} {M M' : List Addr} {H H' H1 : Hp} {σ : L2.St} {env env' : Nv} {nx : Nv → Prop} {rt : D → Prop} {bk ct : Nv → Prop} {t u : TS} {c : TT} {te ta tb td ty tv : TE} {tas : TA} {post : D → Prop} {K : PySem.W.Frag}
/-- list(range(n)) -/
theorem den_listRg {postN : Ow → Prop} (h : De te env fun d => ∃ n : Int, d = .int n ∧ 0 ≤ n ∧ n ≤ 1000000 ∧ postN (.lst (rgI 0 n.toNat))) : DeN (tLstRg (tRg1 te)) env postN := fun B M σ H S Q q =>
  h B M σ H S _ fun v H1 d ⟨n, e, h1, h2, hp⟩ S1 e1 i1 => by
    subst e
    cases is_int i1
    refine ⟨n, rfl, .of_le (by omega) (by omega) (by omega) (by omega), fun p hn => ?_⟩
    refine q p _ _ _ hp (S1.newIn (fresh_back (Fx.refl _ _) (S1.nst hn) hn) _) (e1.trans (Fx.new hn)) upd_same (.lst ?_) (fresh_back e1 (S1.nst hn) hn)
    unfold rgV rgI
    rw [Int.sub_zero]
    exact iss_map (fun i => .int _) _
/-- xs.append(ys.pop(e)) -/
theorem ds_appendPop {i j : Nat} {ds es : List D} (hi : env[i]? = some (.own (.lst ds))) (hj : env[j]? = some (.own (.lst es))) (ne : i ≠ j) (hz : ds.length < 1000000)
    (h : De te env fun k => ∃ (n : Nat) (d : D), k = .int (n : Int) ∧ n < 1000000 ∧ es[n]? = some d ∧ nx ((env.set j (.own (.lst (es.eraseIdx n)))).set i (.own (.lst (ds ++ [d]))))) :
    Ds (tDrop (tBM K "list" rAppend (tVar i) (tCons (tBM K "list" rPopAt (tVar j) (tCons te tNil)) tNil))) env nx rt bk ct := fun B M σ H S E q1 q2 q3 q4 => by
  obtain ⟨p, u, h1, h2, h3, h4, h5⟩ := S.own i _ hi
  obtain ⟨p2, u2, g1, g2, g3, g4, g5⟩ := S.own j _ hj
  cases h5 with
  | @lst vs _ hs =>
    cases g5 with
    | @lst ws _ gs =>
      refine ⟨.ref p, h1, .inl ⟨rfl, vs, .of h4⟩, .ref p2, g1, .inl ⟨rfl, ws, .of g4⟩, h B M σ H S _ fun v H1 k ⟨n, d, e, hn, hd, hp⟩ S1 e1 i1 => ?_⟩
      subst e
      cases is_int i1
      have h4' : H1 p = some (.lst vs) := e1.1 p _ (fun z => h3 (z ▸ S.st0)) h4
      have g4' : H1 p2 = some (.lst ws) := e1.1 p2 _ (fun z => g3 (z ▸ S.st0)) g4
      have hs' : Iss B.st M H1 vs ds := S.iss e1 hs
      have gs' : Iss B.st M H1 ws es := S.iss e1 gs
      obtain ⟨y, hy, iy⟩ := gs'.get hd
      have hlt : n < ws.length := (List.getElem?_eq_some_iff.mp hy).1
      have er : ∀ (n : Nat) {vs : List V} {ds : List D}, Iss B.st M H1 vs ds → Iss B.st M H1 (vs.eraseIdx n) (ds.eraseIdx n) := by
        intro n
        induction n with
        | zero => intro vs ds h; cases h with | nil => exact .nil | cons a b => exact b
        | succ n ih => intro vs ds h; cases h with | nil => exact .nil | cons a b => exact .cons a (ih b)
      refine ⟨p2, ws, n, n, y, rfl, rfl, g4', by omega, by omega, ?_, hy, ?_⟩
      · unfold seqIndex?
        simp
        omega
      have S2 := S1.mutate hj g1 g4' (.lst gs') (.lst (er n gs'))
      have np : p ≠ p2 := fun z => ne (S1.inj i j p _ _ hi hj h1 (z ▸ g1))
      have hi2 : (env.set j (.own (.lst (es.eraseIdx n))))[i]? = some (.own (.lst ds)) := by rw [List.getElem?_set_ne (fun z => ne z.symm)]; exact hi
      have h4'' : upd H1 p2 (.lst (ws.eraseIdx n)) p = some (.lst vs) := by rw [upd_ne np]; exact h4'
      have nt : ∀ vs, H1 p2 ≠ some (.tup vs) := fun vs z => by rw [g4'] at z; cases z
      have hs2 : Iss B.st M (upd H1 p2 (.lst (ws.eraseIdx n))) vs ds := hs'.upd g2 nt
      have iy2 : Is B.st M (upd H1 p2 (.lst (ws.eraseIdx n))) y d := iy.upd g2 nt
      exact ⟨p, vs, y, rfl, rfl, h4'', Nat.lt_of_lt_of_le (by rw [hs'.length]; exact hz) (by decide), q1 M σ _ _ hp (S2.mutate hi2 h1 h4'' (.lst hs2) (.lst (hs2.append (.cons iy2 .nil))))⟩
/-! ### targets that are written into lists of one's own -/
def Dh (g : TG) (d : D) (env : Nv) (post : Nv → Prop) : Prop := ∀ B M σ H v, Sr B M σ H env → Is B.st M H v d → ∀ Q : L2.St → Hp → Prop, (∀ σ' H' env', post env' → Sr B M σ' H' env' → (∀ v d, Is B.st M H v d → Is B.st M H' v d) → Q σ' H') → g v σ H Q
def Dhs (g : TGs) (ds : List D) (env : Nv) (post : Nv → Prop) : Prop := ∀ B M σ H vs, Sr B M σ H env → Iss B.st M H vs ds → ∀ Q : L2.St → Hp → Prop, (∀ σ' H' env', post env' → Sr B M σ' H' env' → (∀ v d, Is B.st M H v d → Is B.st M H' v d) → Q σ' H') → g vs σ H Q
theorem iss_of {st : Addr} {M : List Addr} {H H' : Hp} (h : ∀ v d, Is st M H v d → Is st M H' v d) : ∀ {vs : List V} {ds : List D}, Iss st M H vs ds → Iss st M H' vs ds
  | _, _, .nil => .nil
  | _, _, .cons a b => .cons (h _ _ a) (iss_of h b)
theorem dh_name {i : Nat} {d : D} {post : Nv → Prop} (h : post (env.set i (.dat d))) : Dh (gName i) d env post := fun B M σ H v S iv Q q => q _ _ _ h (S.set iv) fun _ _ z => z
theorem dhs_nil {post : Nv → Prop} (h : post env) : Dhs gNil [] env post := fun B M σ H v S iv Q q => by
  cases iv
  exact ⟨rfl, q _ _ _ h S fun _ _ z => z⟩
theorem dhs_cons {g : TG} {gs : TGs} {d : D} {ds : List D} {post : Nv → Prop} (h : Dh g d env fun e => Dhs gs ds e post) : Dhs (gCons g gs) (d :: ds) env post := fun B M σ H v S iv Q q => by
  cases iv with
  | cons a b => exact ⟨_, _, rfl, h B M σ H _ S a _ fun σ' H' env' h' S' k => h' B M σ' H' _ S' (iss_of k b) Q fun σ2 H2 e2 p2 S2 k2 => q σ2 H2 e2 p2 S2 fun v d z => k2 v d (k v d z)⟩
theorem dh_tup {n : Nat} {gs : TGs} {ds : List D} {post : Nv → Prop} (hn : ds.length = n) (h : Dhs gs ds env post) : Dh (gTup K n gs) (.tup ds) env post := fun B M σ H v S iv Q q => by
  obtain ⟨p, vs, rfl, hl, hs⟩ := is_tup iv
  exact ⟨p, vs, rfl, .of hl, by rw [hs.length]; exact hn, h B M σ H vs S hs Q q⟩
/-- xs[j] = .., j a name that holds an int -/
theorem dh_sub {i k : Nat} {ds : List D} {n : Nat} {d : D} {post : Nv → Prop} (hi : env[i]? = some (.own (.lst ds))) (hk : env[k]? = some (.dat (.int (n : Int)))) (hn : n < ds.length) (h : post (env.set i (.own (.lst (ds.set n d))))) : Dh (gSub (tVar i) (tVar k) rSetL) d env post := fun B M σ H v S iv Q q => by
  obtain ⟨p, u, h1, h2, h3, h4, h5⟩ := S.own i _ hi
  obtain ⟨w, g1, g2⟩ := S.dat k _ hk
  cases is_int g2
  cases h5 with
  | @lst vs _ hs =>
    have nt : ∀ vs, H p ≠ some (.tup vs) := fun vs z => by rw [h4] at z; cases z
    refine ⟨.ref p, h1, .int n, g1, p, vs, n, n, rfl, rfl, h4, ?_, q σ _ _ h (S.mutate hi h1 h4 (.lst hs) (.lst (hs.set iv n))) fun v d z => z.upd h2 nt⟩
    unfold ixN
    rw [if_pos (Int.natCast_nonneg n), if_pos (by rw [hs.length]; omega), Int.toNat_natCast]
theorem ds_asgH {g : TG} (h : De te env fun d => Dh g d env nx) : Ds (tAsg te g) env nx rt bk ct := fun B M σ H S E q1 q2 q3 q4 =>
  h B M σ H S _ fun v H1 d hd S1 e1 i1 => hd B M σ H1 v S1 i1 _ fun σ' H' env' h' S' _ => q1 M σ' H' env' h' S'
/-! ### == and != of lists and tuples of ints -/
theorem shp_ints {d : PyData} (h1 : d.canLay0 = true) (h2 : d.depth ≤ 2) : SeqAt.shaped d = true := by
  simp [SeqAt.shaped, h1]
  omega
theorem dop_eqLI {ns ms : List Int} (h : post (.bl (decide (ns = ms)))) : Dop (rEqD K) (.lst (ns.map D.int)) (.lst (ms.map D.int)) post := fun st M H v w hst hM trk iv iw Q q => by
  obtain ⟨p, vs, rfl, _, h1, hs⟩ := is_lst iv
  obtain ⟨p2, vs2, rfl, _, h2, hs2⟩ := is_lst iw
  have := iss_ints hs
  subst this
  have := iss_ints hs2
  subst this
  refine ⟨.list (ns.map PyData.int), .list (ms.map PyData.int), .lst (.of h1) (dp_ints _), .lst (.of h2) (dp_ints _), shp_ints (by simp [PyData.canLay0, can_ints]) (by simp [PyData.depth, depth_ints]), shp_ints (by simp [PyData.canLay0, can_ints]) (by simp [PyData.depth, depth_ints]), ?_⟩
  rw [show PyData.eqv (.list (ns.map PyData.int)) (.list (ms.map PyData.int)) = decide (ns = ms) by rw [← eqv_ints]; simp [PyData.eqv]]
  exact q _ H _ h (Fx.refl _ _) (.bl _)
theorem dop_neLI {ns ms : List Int} (h : post (.bl (!decide (ns = ms)))) : Dop (rNeD K) (.lst (ns.map D.int)) (.lst (ms.map D.int)) post := fun st M H v w hst hM trk iv iw Q q => by
  obtain ⟨p, vs, rfl, _, h1, hs⟩ := is_lst iv
  obtain ⟨p2, vs2, rfl, _, h2, hs2⟩ := is_lst iw
  have := iss_ints hs
  subst this
  have := iss_ints hs2
  subst this
  refine ⟨.list (ns.map PyData.int), .list (ms.map PyData.int), .lst (.of h1) (dp_ints _), .lst (.of h2) (dp_ints _), shp_ints (by simp [PyData.canLay0, can_ints]) (by simp [PyData.depth, depth_ints]), shp_ints (by simp [PyData.canLay0, can_ints]) (by simp [PyData.depth, depth_ints]), ?_⟩
  rw [show PyData.eqv (.list (ns.map PyData.int)) (.list (ms.map PyData.int)) = decide (ns = ms) by rw [← eqv_ints]; simp [PyData.eqv]]
  exact q _ H _ h (Fx.refl _ _) (.bl _)
end
end DL

namespace DL
open PySem PySem.Spec PyProof.Rows L2

/-! ### actions: rows of points, and the moves along their edges -/
def kk (p c : Nat) : List Key := [.inl (p : Int), .inr ⟨#[c]⟩]
theorem kk_inj {p c p' c' : Nat} : kk p c = kk p' c' ↔ p = p' ∧ c = c' := by
  constructor
  · intro h
    simp [kk] at h
    exact ⟨by omega, h.2⟩
  · rintro ⟨rfl, rfl⟩; rfl
abbrev Ed := Nat × Nat × Nat
def edD (e : Ed) : D := .tup [.int (e.1 : Int), sign e.2.1, .int (e.2.2 : Int)]
def put2 (kvs : List (List Key × V)) (e : Ed) : List (List Key × V) := putK (putK kvs (kk e.1 e.2.1) (.int (e.2.2 : Int))) (kk e.2.2 (sw e.2.1)) (.int (e.1 : Int))
def mvs (es : List Ed) : List (List Key × V) := es.foldl put2 []
theorem put_len {κ : Type} [DecidableEq κ] (kvs : List (κ × V)) (k : κ) (v : V) : (putK kvs k v).length ≤ kvs.length + 1 := by
  unfold putK
  split
  · rw [List.length_map]; omega
  · rw [List.length_append, List.length_singleton]; omega
theorem put2_len (kvs : List (List Key × V)) (e : Ed) : (put2 kvs e).length ≤ kvs.length + 2 := by
  unfold put2
  have h1 := put_len (putK kvs (kk e.1 e.2.1) (.int (e.2.2 : Int))) (kk e.2.2 (sw e.2.1)) (.int (e.1 : Int))
  have h2 := put_len kvs (kk e.1 e.2.1) (.int (e.2.2 : Int))
  omega
theorem fl_put_len : ∀ (es : List Ed) (kvs : List (List Key × V)), (es.foldl put2 kvs).length ≤ kvs.length + 2 * es.length
  | [], kvs => Nat.le_add_right _ _
  | e :: es, kvs => by
    have h1 := fl_put_len es (put2 kvs e)
    have h2 := put2_len kvs e
    rw [List.foldl_cons, List.length_cons]
    omega
theorem mvs_len (es : List Ed) : (mvs es).length ≤ 2 * es.length := by
  have := fl_put_len es []
  unfold mvs
  simpa using this
theorem put_last : ∀ (es : List Ed) {kvs : List (List Key × V)} {k : List Key} {v : Nat}, (∀ e ∈ es, (kk e.1 e.2.1 = k → e.2.2 = v) ∧ (kk e.2.2 (sw e.2.1) = k → e.1 = v)) →
    ((∃ e ∈ es, kk e.1 e.2.1 = k ∨ kk e.2.2 (sw e.2.1) = k) ∨ valV kvs k = some (.int (v : Int))) → valV (es.foldl put2 kvs) k = some (.int (v : Int))
  | [], kvs, k, v, _, h => by
    rcases h with ⟨e, he, _⟩ | h
    · cases he
    · exact h
  | e :: es, kvs, k, v, ha, h => by
    rw [List.foldl_cons]
    refine put_last es (fun e' he' => ha e' (List.mem_cons_of_mem _ he')) ?_
    have h0 := ha e List.mem_cons_self
    have hv : valV (put2 kvs e) k = if k = kk e.2.2 (sw e.2.1) then some (V.int (e.1 : Int)) else if k = kk e.1 e.2.1 then some (V.int (e.2.2 : Int)) else valV kvs k := by
      unfold put2
      rw [valV_put, valV_put]
    by_cases z1 : kk e.2.2 (sw e.2.1) = k
    · right
      rw [hv, if_pos z1.symm, h0.2 z1]
    · by_cases z2 : kk e.1 e.2.1 = k
      · right
        rw [hv, if_neg (fun q => z1 q.symm), if_pos z2.symm, h0.1 z2]
      · rcases h with ⟨e', he', hk⟩ | h
        · rcases List.mem_cons.mp he' with rfl | he'
          · exact absurd hk (fun q => q.elim z2 z1)
          · exact .inl ⟨e', he', hk⟩
        · right
          rw [hv, if_neg (fun q => z1 q.symm), if_neg (fun q => z2 q.symm)]
          exact h
def SM : List Nat := [97, 98, 99]
def edRow (c : Nat) (r : List Nat) : List Ed := r.mapIdx fun p x => (p, c, x)
def edgesOf (rows : List (List Nat)) : List Ed := (SM.zip rows).flatMap fun q => edRow q.1 q.2
theorem mem_edRow {c : Nat} {r : List Nat} {e : Ed} : e ∈ edRow c r ↔ e.2.1 = c ∧ r[e.1]? = some e.2.2 := by
  unfold edRow
  rw [List.mem_mapIdx]
  constructor
  · rintro ⟨i, hi, rfl⟩
    exact ⟨rfl, List.getElem?_eq_getElem hi⟩
  · rintro ⟨rfl, h⟩
    obtain ⟨hi, e2⟩ := List.getElem?_eq_some_iff.mp h
    exact ⟨e.1, hi, by rw [e2]⟩
theorem mem_edges {rows : List (List Nat)} {e : Ed} : e ∈ edgesOf rows ↔ ∃ (j : Nat) (c : Nat) (r : List Nat), SM[j]? = some c ∧ rows[j]? = some r ∧ e.2.1 = c ∧ r[e.1]? = some e.2.2 := by
  unfold edgesOf
  rw [List.mem_flatMap]
  constructor
  · rintro ⟨q, hq, he⟩
    obtain ⟨j, hj⟩ := List.mem_iff_getElem?.mp hq
    have := List.getElem?_zip_eq_some.mp hj
    exact ⟨j, q.1, q.2, this.1, this.2, mem_edRow.mp he⟩
  · rintro ⟨j, c, r, h1, h2, he⟩
    exact ⟨(c, r), List.mem_iff_getElem?.mpr ⟨j, List.getElem?_zip_eq_some.mpr ⟨h1, h2⟩⟩, mem_edRow.mpr he⟩
theorem SM_inj {i j c : Nat} (h1 : SM[i]? = some c) (h2 : SM[j]? = some c) : i = j := by
  have hi := (List.getElem?_eq_some_iff.mp h1).1
  have hj := (List.getElem?_eq_some_iff.mp h2).1
  have e : ∀ i, i < 3 → ∀ j, j < 3 → SM[i]? = SM[j]? → i = j := by decide
  exact e i hi j hj (h1.trans h2.symm)
theorem SM_sw {c : Nat} (h : c ∈ SM) : sw c ∉ SM := by
  have e : ∀ c ∈ SM, sw c ∉ SM := by decide
  exact e c h
theorem SM_LTR {c : Nat} (h : c ∈ SM) : c ∈ LTR := by
  have e : ∀ c ∈ SM, c ∈ LTR := by decide
  exact e c h
def perm (n : Nat) (r : List Nat) : Prop := r.Perm (List.range n)
theorem mv_both {rows : List (List Nat)} {n j c p x : Nat} {r : List Nat} (hp : ∀ r ∈ rows, perm n r) (h1 : SM[j]? = some c) (h2 : rows[j]? = some r) (h3 : r[p]? = some x) :
    valV (mvs (edgesOf rows)) (kk p c) = some (.int (x : Int)) ∧ valV (mvs (edgesOf rows)) (kk x (sw c)) = some (.int (p : Int)) := by
  have hc : c ∈ SM := List.mem_of_getElem? h1
  have he : (p, c, x) ∈ edgesOf rows := mem_edges.mpr ⟨j, c, r, h1, h2, rfl, h3⟩
  have nd : r.Nodup := (hp r (List.mem_of_getElem? h2)).nodup_iff.mpr List.nodup_range
  constructor
  · refine put_last _ (fun e he => ⟨fun hk => ?_, fun hk => ?_⟩) (.inl ⟨_, he, .inl rfl⟩)
    · obtain ⟨a, b⟩ := kk_inj.mp hk
      obtain ⟨j', c', r', g1, g2, g3, g4⟩ := mem_edges.mp he
      rw [← g3, b] at g1
      have := SM_inj g1 h1
      subst this
      rw [h2] at g2
      cases g2
      rw [a, h3] at g4
      exact (Option.some.inj g4).symm
    · obtain ⟨a, b⟩ := kk_inj.mp hk
      obtain ⟨j', c', r', g1, g2, g3, g4⟩ := mem_edges.mp he
      have hc' : c' ∈ SM := List.mem_of_getElem? g1
      rw [g3] at b
      exact absurd (b ▸ hc) (SM_sw hc')
  · refine put_last _ (fun e he => ⟨fun hk => ?_, fun hk => ?_⟩) (.inl ⟨_, he, .inr rfl⟩)
    · obtain ⟨a, b⟩ := kk_inj.mp hk
      obtain ⟨j', c', r', g1, g2, g3, g4⟩ := mem_edges.mp he
      have hc' : c' ∈ SM := List.mem_of_getElem? g1
      rw [← g3, b] at hc'
      exact absurd hc' (SM_sw hc)
    · obtain ⟨a, b⟩ := kk_inj.mp hk
      obtain ⟨j', c', r', g1, g2, g3, g4⟩ := mem_edges.mp he
      have hc' : c' ∈ SM := List.mem_of_getElem? g1
      have : c' = c := by
        rw [g3] at b
        rw [← sw_sw (SM_LTR hc'), b, sw_sw (SM_LTR hc)]
      subst this
      have := SM_inj g1 h1
      subst this
      rw [h2] at g2
      cases g2
      rw [a] at g4
      obtain ⟨i1, e1⟩ := List.getElem?_eq_some_iff.mp g4
      obtain ⟨i2, e2⟩ := List.getElem?_eq_some_iff.mp h3
      have pw := List.pairwise_iff_getElem.mp nd
      rcases Nat.lt_trichotomy e.1 p with z | z | z
      · exact absurd (e1.trans e2.symm) (pw _ _ i1 i2 z)
      · exact z
      · exact absurd (e2.trans e1.symm) (pw _ _ i2 i1 z)
def stp (kvs : List (List Key × V)) (p c : Nat) : Nat := match valV kvs (kk p c) with
  | some (.int q) => q.toNat
  | _ => 0
def wk (kvs : List (List Key × V)) (p : Nat) (w : List Nat) : Nat := w.foldl (stp kvs) p
/-- an action of the letters ls on the points below n -/
def Act (n : Nat) (ls : List Nat) (kvs : List (List Key × V)) : Prop := ∀ p, p < n → ∀ c ∈ ls, valV kvs (kk p c) = some (.int (stp kvs p c : Int)) ∧ stp kvs p c < n ∧ stp kvs (stp kvs p c) (sw c) = p
theorem stp_eq {kvs : List (List Key × V)} {p c q : Nat} (h : valV kvs (kk p c) = some (.int (q : Int))) : stp kvs p c = q := by
  unfold stp
  rw [h]
  exact Int.toNat_natCast q
theorem perm_lt {n x : Nat} {r : List Nat} (h : perm n r) : x ∈ r ↔ x < n := by rw [h.mem_iff, List.mem_range]
theorem perm_len {n : Nat} {r : List Nat} (h : perm n r) : r.length = n := by rw [h.length_eq, List.length_range]
theorem act_of {rows : List (List Nat)} {n : Nat} {ls : List Nat} (hp : ∀ r ∈ rows, perm n r) (hl : ∀ c ∈ ls, ∃ j c0, j < rows.length ∧ SM[j]? = some c0 ∧ (c = c0 ∨ c = sw c0)) : Act n ls (mvs (edgesOf rows)) := fun p hpn c hc => by
  obtain ⟨j, c0, hj, hs, hcc⟩ := hl c hc
  have h2 : rows[j]? = some rows[j] := List.getElem?_eq_getElem hj
  have hr := hp rows[j] (List.getElem_mem hj)
  rcases hcc with rfl | rfl
  · have h3 : rows[j][p]? = some (rows[j][p]'(by rw [perm_len hr]; exact hpn)) := List.getElem?_eq_getElem _
    obtain ⟨a, b⟩ := mv_both hp hs h2 h3
    rw [stp_eq a]
    exact ⟨a, (perm_lt hr).mp (List.getElem_mem _), stp_eq b⟩
  · obtain ⟨q, hq⟩ := List.mem_iff_getElem?.mp ((perm_lt hr).mpr hpn)
    obtain ⟨a, b⟩ := mv_both hp hs h2 hq
    have hqn : q < n := by rw [← perm_len hr]; exact (List.getElem?_eq_some_iff.mp hq).1
    rw [stp_eq b, sw_sw (SM_LTR (List.mem_of_getElem? hs))]
    exact ⟨b, hqn, stp_eq a⟩
section
variable {n p : Nat} {ls : List Nat} {kvs : List (List Key × V)}
theorem wk_lt (A : Act n ls kvs) : ∀ {w : List Nat} {p : Nat}, p < n → (∀ c ∈ w, c ∈ ls) → wk kvs p w < n
  | [], p, h, _ => h
  | c :: w, p, h, hw => wk_lt A (w := w) (A p h c (hw c List.mem_cons_self)).2.1 fun x hx => hw x (List.mem_cons_of_mem _ hx)
theorem wk_app (kvs : List (List Key × V)) (p : Nat) (u v : List Nat) : wk kvs p (u ++ v) = wk kvs (wk kvs p u) v := List.foldl_append ..
theorem wk_psh (A : Act n ls kvs) (hls : ∀ c ∈ ls, c ∈ LTR) (hsw : ∀ c ∈ ls, sw c ∈ ls) {k : List Nat} {c : Nat} (h : p < n) (hk : ∀ c ∈ k, c ∈ ls) (hc : c ∈ ls) : wk kvs p (psh k c).reverse = stp kvs (wk kvs p k.reverse) c := by
  cases k with
  | nil => rfl
  | cons x k =>
    rw [psh_cons]
    split
    · rename_i hx
      rw [List.reverse_cons, wk_app]
      have hk' : ∀ c ∈ k.reverse, c ∈ ls := fun y hy => hk y (List.mem_cons_of_mem _ (List.mem_reverse.mp hy))
      have := (A _ (wk_lt A h hk') x (hk x List.mem_cons_self)).2.2
      show _ = stp kvs (stp kvs (wk kvs p k.reverse) x) c
      rw [hx, sw_sw (hls c hc)] at this
      rw [hx, this]
    · rw [List.reverse_cons, wk_app]
      rfl
theorem wk_stk (A : Act n ls kvs) (hls : ∀ c ∈ ls, c ∈ LTR) (hsw : ∀ c ∈ ls, sw c ∈ ls) (h : p < n) : ∀ (w k : List Nat), (∀ c ∈ w, c ∈ ls) → (∀ c ∈ k, c ∈ ls) → wk kvs p (w.foldl psh k).reverse = wk kvs (wk kvs p k.reverse) w
  | [], _, _, _ => rfl
  | c :: w, k, hw, hk => by
    have hc := hw c List.mem_cons_self
    rw [List.foldl_cons, wk_stk A hls hsw h w (psh k c) (fun x hx => hw x (List.mem_cons_of_mem _ hx)) ?_, wk_psh A hls hsw h hk hc]
    · rfl
    · intro x hx
      cases k with
      | nil => rw [List.mem_singleton.mp hx]; exact hc
      | cons y k =>
        rw [psh_cons] at hx
        split at hx
        · exact hk x (List.mem_cons_of_mem _ hx)
        · rcases List.mem_cons.mp hx with rfl | hx
          · exact hc
          · exact hk x hx
theorem wk_fold (A : Act n ls kvs) (hls : ∀ c ∈ ls, c ∈ LTR) (hsw : ∀ c ∈ ls, sw c ∈ ls) (h : p < n) {w : List Nat} (hw : ∀ c ∈ w, c ∈ ls) : wk kvs p (fold w) = wk kvs p w :=
  wk_stk A hls hsw h w [] hw fun _ z => nomatch z
theorem wk_inv (A : Act n ls kvs) (hls : ∀ c ∈ ls, c ∈ LTR) (hsw : ∀ c ∈ ls, sw c ∈ ls) (h : p < n) {w : List Nat} (hw : ∀ c ∈ w, c ∈ ls) : wk kvs (wk kvs p w) (inv w) = p := by
  have hi : ∀ c ∈ inv w, c ∈ ls := fun c hc => by
    obtain ⟨x, hx, rfl⟩ := List.mem_map.mp hc
    exact hsw x (hw x (List.mem_reverse.mp hx))
  rw [← wk_app, ← wk_fold A hls hsw h (fun c hc => (List.mem_append.mp hc).elim (hw c) (hi c)), fold_self_inv (fun c hc => hls c (hw c hc))]
  rfl
end
def rowI (r : List Nat) : List Int := r.map fun x : Nat => (x : Int)
def rowD (r : List Nat) : D := .ptp ((rowI r).map D.int)
def actD (rows : List (List Nat)) : D := .tup (rows.map rowD)
theorem rgI_ints (n : Nat) : rgI 0 n = (rowI (List.range n)).map D.int := by
  unfold rgI rowI
  rw [List.map_map]
  refine List.map_congr_left fun i _ => ?_
  show D.int (0 + (i : Int)) = D.int (i : Int)
  rw [Int.zero_add]
theorem rows_sorted {n : Nat} {r : List Nat} {ns : List Int} (h : perm n r) (hp : ns.Perm (rowI r)) (hs : ns.Pairwise (· ≤ ·)) : ns = rowI (List.range n) := by
  refine List.Perm.eq_of_pairwise (le := (· ≤ ·)) (fun a b _ _ h1 h2 => Int.le_antisymm h1 h2) hs ?_ (hp.trans (h.map _))
  unfold rowI
  rw [List.pairwise_map]
  exact List.Pairwise.imp (fun {a b} h => by omega) (List.pairwise_lt_range (n := n))
theorem allT (n : Nat) : (List.replicate n true).all id = true := by
  rw [List.all_eq_true]
  intro x hx
  rw [(List.mem_replicate.mp hx).2]
  rfl
/-- an action: rows, each of the same points -/
def okA (n : Nat) (rows : List (List Nat)) : Prop := 1 ≤ rows.length ∧ rows.length ≤ 3 ∧ 1 ≤ n ∧ n ≤ 60 ∧ ∀ r ∈ rows, perm n r
theorem rowD_len {n : Nat} {r : List Nat} (h : perm n r) : lenD (rowD r) = some n := by
  show some ((rowI r).map D.int).length = some n
  unfold rowI
  rw [List.length_map, List.length_map, perm_len h]
theorem okA_0 {n : Nat} {rows : List (List Nat)} (h : okA n rows) : ∃ r, rows[0]? = some r ∧ perm n r :=
  ⟨rows[0]'(by have := h.1; omega), List.getElem?_eq_getElem _, h.2.2.2.2 _ (List.getElem_mem _)⟩
def lsR (k : Nat) : List Nat := [97, 65, 98, 66, 99, 67].take (2 * k)
theorem lsR_ok {k : Nat} (h1 : 1 ≤ k) (h2 : k ≤ 3) : ∀ c ∈ lsR k, c ∈ LTR ∧ sw c ∈ lsR k ∧ ∃ j c0, j < k ∧ SM[j]? = some c0 ∧ (c = c0 ∨ c = sw c0) := by
  have h : k = 1 ∨ k = 2 ∨ k = 3 := by omega
  rcases h with rfl | rfl | rfl
  · intro c hc
    have hc : c ∈ [97, 65] := hc
    simp only [List.mem_cons, List.not_mem_nil, or_false] at hc
    rcases hc with rfl | rfl
    · exact ⟨by decide, by decide, 0, 97, by decide, rfl, by decide⟩
    · exact ⟨by decide, by decide, 0, 97, by decide, rfl, by decide⟩
  · intro c hc
    have hc : c ∈ [97, 65, 98, 66] := hc
    simp only [List.mem_cons, List.not_mem_nil, or_false] at hc
    rcases hc with rfl | rfl | rfl | rfl
    · exact ⟨by decide, by decide, 0, 97, by decide, rfl, by decide⟩
    · exact ⟨by decide, by decide, 0, 97, by decide, rfl, by decide⟩
    · exact ⟨by decide, by decide, 1, 98, by decide, rfl, by decide⟩
    · exact ⟨by decide, by decide, 1, 98, by decide, rfl, by decide⟩
  · intro c hc
    have hc : c ∈ [97, 65, 98, 66, 99, 67] := hc
    simp only [List.mem_cons, List.not_mem_nil, or_false] at hc
    rcases hc with rfl | rfl | rfl | rfl | rfl | rfl
    · exact ⟨by decide, by decide, 0, 97, by decide, rfl, by decide⟩
    · exact ⟨by decide, by decide, 0, 97, by decide, rfl, by decide⟩
    · exact ⟨by decide, by decide, 1, 98, by decide, rfl, by decide⟩
    · exact ⟨by decide, by decide, 1, 98, by decide, rfl, by decide⟩
    · exact ⟨by decide, by decide, 2, 99, by decide, rfl, by decide⟩
    · exact ⟨by decide, by decide, 2, 99, by decide, rfl, by decide⟩
theorem okA_act {n : Nat} {rows : List (List Nat)} (h : okA n rows) : Act n (lsR rows.length) (mvs (edgesOf rows)) :=
  act_of h.2.2.2.2 fun c hc => (lsR_ok h.1 h.2.1 c hc).2.2
theorem edRow_len (c : Nat) (r : List Nat) : (edRow c r).length = r.length := by unfold edRow; rw [List.length_mapIdx]
theorem edges_len {n : Nat} {rows : List (List Nat)} (h : okA n rows) : (edgesOf rows).length ≤ 180 := by
  have e : ∀ (qs : List (Nat × List Nat)), (∀ q ∈ qs, q.2.length ≤ 60) → (qs.flatMap fun q => edRow q.1 q.2).length ≤ 60 * qs.length := by
    intro qs
    induction qs with
    | nil => intro _; exact Nat.le_refl _
    | cons q qs ih =>
      intro hq
      have h1 := ih fun x hx => hq x (List.mem_cons_of_mem _ hx)
      have h2 := hq q List.mem_cons_self
      rw [List.flatMap_cons, List.length_append, edRow_len, List.length_cons]
      omega
  have h1 := e (SM.zip rows) fun q hq => by
    have := List.of_mem_zip hq
    rw [perm_len (h.2.2.2.2 _ this.2)]
    exact h.2.2.2.1
  have h2 : (SM.zip rows).length ≤ 3 := by rw [List.length_zip]; exact Nat.min_le_left _ _
  unfold edgesOf
  omega
theorem edges_let {rows : List (List Nat)} : ∀ e ∈ edgesOf rows, e.2.1 ∈ LTR := fun e he => by
  obtain ⟨j, c, r, h1, _, h3, _⟩ := mem_edges.mp he
  rw [h3]
  exact SM_LTR (List.mem_of_getElem? h1)
end DL

namespace DL
open PySem PySem.Spec PyProof.Rows L2

/-! ### t.index(k), t a tuple of ints -/
def isI (z : Int) : Value → Bool
  | .int k _ => k == z
  | _ => false
def rTIndexI (K : PySem.W.Frag) : V → List V → Hp → VK → Prop := fun x xs H Q => ∃ (p : Addr) (ns : List Int) (z : Int) (j : Nat), x = .ref p ∧ xs = [.int z] ∧ SqT K H p (ns.map V.int) ∧ ns[j]? = some z ∧ (∀ m, m < j → ns[m]? ≠ some z) ∧ Q (.int (j : Nat)) H
theorem mt_tindexI {X : Cx} : MtR X "tuple.index" (rTIndexI X.K) := by
  intro pins s σ H x xs v us Q I rx rs h
  obtain ⟨p, ns, z, j, rfl, rfl, hq, hz, hno, q⟩ := h
  cases rx
  obtain ⟨u, rfl, t, rfl⟩ := vals1 rs
  obtain ⟨its, r, pl, _⟩ := I.tuple hq
  obtain ⟨⟨cls, dd, dt, sl⟩, ho, hc, n, hd⟩ := pl
  simp only at hc hd
  subst hc hd
  have hi : IntsAre its ns := Vals.ints r
  have hl : its.toArray.size = ns.length := by rw [List.size_toArray]; exact hi.length
  have hj : j < its.toArray.size := by rw [hl]; exact (List.getElem?_eq_some_iff.mp hz).1
  have at' : ∀ (m : Nat) (hm : m < its.toArray.size), ∃ k t', ns[m]? = some k ∧ its.toArray[m] = Value.int k t' := fun m hm => by
    have hm' : m < ns.length := by rw [← hl]; exact hm
    obtain ⟨t', e⟩ : ∃ t', its.toArray[m] = Value.int (ns.getD m 0) t' := PyProof.Rows.IntsAre.int_at hi m _ (by rw [← List.getElem?_toArray]; exact Array.getElem?_eq_getElem hm)
    exact ⟨ns.getD m 0, t', by simp [hm'], e⟩
  refine call_meets PySem.F.slot_tuple_index ⟨_, ho, rfl⟩ PySem.F.entry_tuple_index (PySem.F.args_tuple_index_2 _ _) (TI.tuple_indexAt p its.toArray n dd sl (.int z t) (isI z) j hj ?_ ?_)
    ⟨ho, fun w hw => ?_, ⟨.int (j : Nat), H, I.tok _, ⟨_, rfl⟩, q⟩⟩
  · obtain ⟨k, t', h1, h2⟩ := at' j hj
    rw [hz] at h1
    cases h1
    rw [h2]
    exact beq_self_eq_true z
  · intro m hm hmj
    obtain ⟨k, t', h1, h2⟩ := at' m hm
    rw [h2]
    exact beq_eq_false_iff_ne.mpr fun e => hno m hmj (e ▸ h1)
  · obtain ⟨m, hm, rfl⟩ := Array.getElem_of_mem hw
    obtain ⟨k, t', h1, h2⟩ := at' m hm
    rw [h2]
    exact SeqAt.EqAt.int_int k t' z t
theorem dmt_tindexI {K : PySem.W.Frag} {post : D → Prop} {ns : List Int} {z : Int} {j : Nat} (hz : ns[j]? = some z) (hno : ∀ m, m < j → ns[m]? ≠ some z) (h : post (.int (j : Nat))) : Dmt K "tuple" (rTIndexI K) (.tup (ns.map D.int)) [.int z] post := fun st M H v vs hst hM trk iv ivs Q q => by
  obtain ⟨p, ws, rfl, hl, hs⟩ := is_tup iv
  have := iss_ints hs
  subst this
  cases ivs with
  | cons i r =>
    cases r
    cases is_int i
    exact ⟨p, ns, z, j, rfl, rfl, .of hl, hz, hno, q _ H _ h (Fx.refl _ _) (.int _)⟩
theorem dmt_tindexQ {K : PySem.W.Frag} {post : D → Prop} {x : D} {ns : List Int} {z : Int} {j : Nat} (hx : SqD x (ns.map D.int)) (hz : ns[j]? = some z) (hno : ∀ m, m < j → ns[m]? ≠ some z) (h : post (.int (j : Nat))) : Dmt K "tuple" (rTIndexI K) x [.int z] post := fun st M H v vs hst hM trk iv ivs Q q => by
  obtain ⟨p, ws, rfl, hl, hs⟩ := is_sq (K := K) hx iv
  have := iss_ints hs
  subst this
  cases ivs with
  | cons i r =>
    cases r
    cases is_int i
    exact ⟨p, ns, z, j, rfl, rfl, hl, hz, hno, q _ H _ h (Fx.refl _ _) (.int _)⟩
/-! ### a method of a tuple whose object is known -/
def tBMT (T : String) (r : V → List V → Hp → VK → Prop) (to : TE) (t : TA) : TE := fun σ H Q => to σ H fun x H1 => (∃ (p : Addr) (o : Obj) (u : HO), x = .ref p ∧ H1 p = some (.frz o u) ∧ o.cls = .type T ∧ o.dict = none) ∧ t σ H1 fun xs H2 => r x xs H2 Q
section
variable {X : Cx} {o e : Expr} {es : List Expr} {to : TE} {t : TA} {name : Str} {apos cpos : Pos} {T id : String} {r : V → List V → Hp → VK → Prop}
theorem pe_bmT (pa : PlainAttrs T) (slot : Slot T name id) (hty : typeOf (.builtin id) = pure (.type "method_descriptor")) (hm : MtR X id r) (ho : PE X o to) (ha : PA X (e :: es) t)
    (hbase : attributeBase o name X.env (eval o X.env) = eval o X.env := by rfl)
    (hfew : ((backTo cpos (starEach (e :: es) X.env)).all (fun x => !x.1) && (backToKw cpos (keywordEach [] X.env)).all (fun x => x.1.isSome)
      && decide ((e :: es).length + ([] : List Keyword).length + (if ([] : List Keyword).isEmpty then 0 else 1) < 30)) = true := by rfl)
    (hline : (apos.endLine == cpos.line) = true := by rfl) (hs : starEach (e :: es) X.env = (false, eval e X.env) :: starEach es X.env := by rfl) (hplain : (backTo cpos (starEach es X.env)).any (·.1) = false := by rfl) :
    PE X (.Call (.Attribute o name apos) (e :: es) [] cpos) (tBMT T r to t) := by
  refine ⟨fun pins s σ H Q I h => ?_⟩
  refine wpAny_Call_method_late hbase hfew hline rfl (thn (ho.run pins s σ H _ I h) fun v s1 ⟨x, H1, I1, r1, ty, q1⟩ => ?_)
  obtain ⟨p, ob, u, rfl, hp, hc, hd⟩ := ty
  cases r1
  obtain ⟨g, _⟩ := (show ObjOk X.prog X.w H1 s1.heap p (.frz ob u) from I1.hok p _ hp)
  refine ⟨T, id, pa, slot, hty, ⟨ob, g, hc⟩, fun a ea => by cases ea; exact ⟨ob, g, hd⟩, ?_⟩
  have hA := ha.run cpos pins s1 σ H1 _ I1 q1
  rw [hs] at hA ⊢
  refine Calls.callWith_builtin (by show (false || (backTo cpos (starEach es X.env)).any (·.1)) = false; rw [hplain] <;> rfl) (Calls.evalArgs_plain ?_)
  exact thn hA fun us s2 ⟨vs, H2, I2, r2, q2⟩ => hm pins s2 σ H2 (.ref p) vs (.ref p) us Q I2 rfl r2 q2
end
theorem de_bmT {env : Nv} {post : D → Prop} {K : PySem.W.Frag} {te : TE} {tas : TA} {r : V → List V → Hp → VK → Prop} (h : De te env fun x => ∃ ds, x = .ptp ds ∧ Da tas env fun xs => Dmt K "tuple" r x xs post) : De (tBMT "tuple" r te tas) env post := fun B M σ H S Q q =>
  h B M σ H S _ fun v H1 x ⟨ds, hx, hy⟩ S1 e1 i1 => by
    subst hx
    obtain ⟨p, vs, o, rfl, hl, hc, hs⟩ := is_ptp i1
    exact ⟨⟨p, o, _, rfl, hl, hc.1, hc.2⟩, hy B M σ H1 S1 _ fun vs H2 xs hy S2 e2 i2 => hy B.st M H2 _ vs S2.stm S2.stM S2.trk (S1.is e2 i1) i2 Q fun z H3 d hd e3 i3 => q z H3 d hd (S2.fx e3) ((e1.trans e2).trans e3) i3⟩
/-! ### letters in small -/
def rLower : V → List V → Hp → VK → Prop := fun x xs H Q => ∃ a : Str, x = .str a ∧ xs = [] ∧ a.length ≤ 5592405 ∧ Q (.str (Txt.lower a)) H
theorem md_lower {X : Cx} : MtR X "str.lower" rLower := mt_lower
def lw (c : Nat) : Nat := if c ∈ SM then c else sw c
theorem lw_SM {c : Nat} (h : c ∈ SM) : lw c = c := if_pos h
theorem lw_sw {c : Nat} (h : c ∈ SM) : lw (sw c) = c := by
  unfold lw
  rw [if_neg (SM_sw h), sw_sw (SM_LTR h)]
end DL

namespace DL
open PySem PySem.Spec PyProof.Rows L2

/-! ### zip(text, text) -/
def Itss (x y : Str) : It :=
  ⟨fun i H => i < x.cps.size ∧ i < y.cps.size,
    fun i H v H' => ∃ T c d, v = .ref T ∧ H T = none ∧ H' = upd H T (.tup [.str ⟨#[c]⟩, .str ⟨#[d]⟩]) ∧ x.cps[i]? = some c ∧ y.cps[i]? = some d,
    fun i H => x.cps.size ≤ i ∨ y.cps.size ≤ i⟩
theorem turn_ss {P : Program} {w : World} {K : PySem.W.Frag} {elts : List Expr} {kk : Nat} {tpos : Pos} {x y : Str} {t t' : Tok} {z TI TO i1 i2 : Addr} (S : ZipSep2 z TI TO i1 i2 [i1] [i2]) :
    Turn P w K (.Tuple elts kk tpos) (Itss x y) [z, TI, TO, i1, i2] z (fun i h => IsZip h z TI TO .none ∧ IsTupOf2 h TI (.ref i1) (.ref i2) ∧ (∃ u v, IsTupOf2 h TO u v) ∧ h.IsStrIter i1 (strIterType x) x t i ∧ h.IsStrIter i2 (strIterType y) y t' i ∧ i ≤ x.cps.size ∧ i ≤ y.cps.size) where
  mem := by simp
  obj := fun i h st c hc => by
    obtain ⟨hz, hTI, ⟨u, v, hTO⟩, ⟨o1, e1, _, d1⟩, ⟨o2, e2, _, d2⟩, _⟩ := st
    have e' : c = z ∨ c = TI ∨ c = TO ∨ c = i1 ∨ c = i2 := by simpa using hc
    rcases e' with rfl | rfl | rfl | rfl | rfl
    · exact ⟨_, hz, fun v q => nomatch q⟩
    · exact ⟨_, hTI, fun v q => nomatch q⟩
    · exact ⟨_, hTO, fun v q => nomatch q⟩
    · exact ⟨o1, e1, fun v q => by rw [d1] at q; cases q⟩
    · exact ⟨o2, e2, fun v q => by rw [d2] at q; cases q⟩
  keep := fun i h h' st k => by
    obtain ⟨hz, hTI, ⟨u, v, hTO⟩, ⟨o1, e1, r1⟩, ⟨o2, e2, r2⟩, l1, l2⟩ := st
    exact ⟨k z (by simp) _ hz, k TI (by simp) _ hTI, ⟨u, v, k TO (by simp) _ hTO⟩, ⟨o1, k i1 (by simp) _ e1, r1⟩, ⟨o2, k i2 (by simp) _ e2, r2⟩, l1, l2⟩
  item := by
    intro X hP hw hK hc i pins s σ H E I hf st hg
    subst hP hw hK
    obtain ⟨hz, hTI, ⟨u0, v0, hTO⟩, h1, h2, _, _⟩ := st
    obtain ⟨g1, g2⟩ := hg
    have D1 : Draws X.prog X.w X.A.in1 i1 [i1] _ _ _ := Draws.text (show X.A.in1.handled = none from I.ok.hd hc) i1 x t
    have D2 : Draws X.prog X.w X.A.in1 i2 [i2] _ _ _ := Draws.text (show X.A.in1.handled = none from I.ok.hd hc) i2 y t'
    have hzl : z < s.heap.objs.size := Heap.lt_size hz
    refine wpAny_pyNext_zipD2_item S D1 D2 hz hTI hTO h1 h2 g1 g2 fun x1 x2 h' tk y1 y2 hz' hTO' h1' h2' hT hsz hk => ?_
    obtain ⟨c, u, hcx, rfl⟩ := y1
    obtain ⟨d, u2, hdy, rfl⟩ := y2
    refine ⟨_, rfl, wpAny_letOwnedTupleGo_zip (s := { s with heap := h', toks := tk }) hz' fun h'' z'' sb => ?_⟩
    have hT2 : h''.get? s.heap.objs.size = some { cls := .type "tuple", data := .seq #[.str ⟨#[c]⟩ u, .str ⟨#[d]⟩ u2] } := (sb.2 _ (Nat.ne_of_gt hzl)).trans hT
    have new : ObjOk X.prog X.w (upd H s.heap.objs.size (.tup [.str ⟨#[c]⟩, .str ⟨#[d]⟩])) h'' s.heap.objs.size (.tup [.str ⟨#[c]⟩, .str ⟨#[d]⟩]) :=
      ⟨by show 2 ≤ sizeLine; decide, [.str ⟨#[c]⟩ u, .str ⟨#[d]⟩ u2], .cons ⟨_, rfl⟩ (.cons ⟨_, rfl⟩ .nil), ⟨_, hT2, rfl, _, rfl⟩⟩
    have I1 : L2.Inv X pins σ (upd H s.heap.objs.size (.tup [.str ⟨#[c]⟩, .str ⟨#[d]⟩])) { s with heap := h'', toks := tk } :=
      I.turnedNew (ch := [z, TI, TO, i1, i2]) (fun a o hb q => (sb.2 a (fun q' => hb (by simp [q']))).trans (hk a o (fun q' => hb (by simp [q'])) (fun q' => hb (by simp [q'])) (fun q' => hb (by simp [q'])) (fun q' => hb (by simp [q'])) q)) hf (Nat.le_refl _) new
    refine ⟨.ref s.heap.objs.size, _, I1, rfl, ⟨_, c, d, rfl, I.hok.fresh (Nat.le_refl _), rfl, hcx, hdy⟩, ⟨z'', ?_, ⟨.str ⟨#[c]⟩ u, .str ⟨#[d]⟩ u2, ?_⟩, ?_, ?_, g1, g2⟩, fun a ham => ?_⟩
    · exact (sb.2 _ S.TIz).trans (hk _ _ S.TIz S.TITO S.TIi1 S.TIi2 hTI)
    · exact (sb.2 _ S.TOz).trans hTO'
    · obtain ⟨o1, e1, r1⟩ := h1'
      exact ⟨o1, (sb.2 _ S.zi1.symm).trans e1, r1⟩
    · obtain ⟨o2, e2, r2⟩ := h2'
      exact ⟨o2, (sb.2 _ S.zi2.symm).trans e2, r2⟩
    · have hlt : a < s.heap.objs.size := by
        have e' : a = z ∨ a = TI ∨ a = TO ∨ a = i1 ∨ a = i2 := by simpa using ham
        rcases e' with rfl | rfl | rfl | rfl | rfl
        · exact hzl
        · exact Heap.lt_size hTI
        · exact Heap.lt_size hTO
        · obtain ⟨_, e1, _⟩ := h1; exact Heap.lt_size e1
        · obtain ⟨_, e2, _⟩ := h2; exact Heap.lt_size e2
      rw [upd_ne (Nat.ne_of_lt hlt)]
      exact (hf a ham).1
  done := by
    intro X hP hw hK hc i pins s σ H E I hf st hg
    subst hP hw hK
    obtain ⟨hz, hTI, ⟨u0, v0, hTO⟩, h1, h2, l1, l2⟩ := st
    have D1 : Draws X.prog X.w X.A.in1 i1 [i1] _ _ _ := Draws.text (show X.A.in1.handled = none from I.ok.hd hc) i1 x t
    have D2 : Draws X.prog X.w X.A.in1 i2 [i2] _ _ _ := Draws.text (show X.A.in1.handled = none from I.ok.hd hc) i2 y t'
    refine wpAny_pyNext_zipD2_end S D1 D2 hz hTI hTO h1 h2 l1 l2 (by have : x.cps.size ≤ i ∨ y.cps.size ≤ i := hg; omega) fun h' tk hk => ⟨rfl, I.turnedL (t' := tk) (ch := [z, TI, TO, i1, i2]) (fun a o hb q =>
      hk a o (fun q' => hb (by simp [q'])) (fun q' => hb (by simp [q'])) (fun q' => hb (by simp [q'])) (fun q' => hb (by simp [q'])) q) hf⟩
  self := fun A i s Q E st h => wpAny_pyIter_zip st.1 h
def iSs (ta : TA) : TI := fun σ H R => ta σ H fun vs H1 => ∃ x y, vs = [.str x, .str y] ∧ R (Itss x y) H1
theorem pi_ss {X : Cx} {e e2 : Expr} {ta : TA} {p pos tpos : Pos} {elts : List Expr} {kk : Nat} (hg : Gl X "zip") (hm : X.mg "zip" = none) (ha : PA X [e, e2] ta)
    (hs : starEach [e, e2] X.env = (false, eval e X.env) :: starEach [e2] X.env := by rfl) (hpl : (backTo pos (starEach [e2] X.env)).any (·.1) = false := by rfl) :
    PI X (.Tuple elts kk tpos) (.Call (.Name "zip" p) [e, e2] [] pos) (iSs ta) := by
  refine ⟨fun pins s σ H R I h => ?_⟩
  refine Call_ (ld_blt I hg hm PyProof.Rows.boot_zip (PyProof.Rows.callWith_type1 (thn (ha.run pos pins s σ H _ I h) fun us s1 ⟨vs, H1, I1, r1, q1⟩ => ?_) hs hpl))
  obtain ⟨x, y, ex, q⟩ := q1
  subst ex
  cases r1 with
  | cons r rr =>
    cases rr with
    | cons r' rr =>
      cases rr
      obtain ⟨t, rfl⟩ := r
      obtain ⟨t', rfl⟩ := r'
      refine zip_begins2 (begins_text x t) (begins_text y t') trivial trivial fun h' hz hTI hTO h1 h2 hsz hk => wpAny_pyIter_zip hz ?_
      have I2 : L2.Inv X pins σ H1 { s1 with heap := h' } := I1.kept (t' := s1.toks) hk
      refine ⟨s1.heap.objs.size + 4, [s1.heap.objs.size + 4, s1.heap.objs.size + 2, s1.heap.objs.size + 3, s1.heap.objs.size, s1.heap.objs.size + 1], _, _, H1, rfl, I2,
        turn_ss (t := t) (t' := t') (zip_sep2 (fp1 := []) (fp2 := []) (fun _ z => nomatch z) (fun _ z => nomatch z)),
        ⟨hz, hTI, ⟨_, _, hTO⟩, ⟨_, h1, rfl, rfl⟩, ⟨_, h2, rfl, rfl⟩, Nat.zero_le _, Nat.zero_le _⟩, fun c hcm => ?_, q⟩
      have e' : c = s1.heap.objs.size + 4 ∨ c = s1.heap.objs.size + 2 ∨ c = s1.heap.objs.size + 3 ∨ c = s1.heap.objs.size ∨ c = s1.heap.objs.size + 1 := by simpa using hcm
      have hle : s1.heap.objs.size ≤ c := by
        rcases e' with z | z | z | z | z <;> rw [z] <;> first | exact Nat.le_refl _ | exact Nat.le_add_right _ _
      exact I1.fpOk hle (I1.hok.fresh hle)
section
variable {env : Nv} {tas : TA}
def ssD (l m : List Nat) : List D := (l.zip m).map fun p => .tup [sign p.1, sign p.2]
theorem ssD_len (l m : List Nat) : (ssD l m).length = min l.length m.length := by unfold ssD; rw [List.length_map, List.length_zip]
theorem ssD_get {l m : List Nat} {i : Nat} {d : D} (h : (ssD l m)[i]? = some d) : ∃ c r, l[i]? = some c ∧ m[i]? = some r ∧ d = .tup [sign c, sign r] := by
  unfold ssD at h
  rw [List.getElem?_map] at h
  obtain ⟨p, hp, rfl⟩ := Option.map_eq_some_iff.mp h
  have := List.getElem?_zip_eq_some.mp hp
  exact ⟨_, _, this.1, this.2, rfl⟩
theorem di_ss {post : List D → Prop} (h : Da tas env fun ds => ∃ l m, ds = [.str l, .str m] ∧ post (ssD l m)) : Di (iSs tas) env post := fun B M σ H S R q =>
  h B M σ H S _ fun vs H1 d ⟨l, m, e, hp⟩ S1 e1 i1 => by
    subst e
    cases i1 with
    | cons a r =>
      cases r with
      | cons b r =>
        cases r
        cases is_str a
        cases is_str b
        refine ⟨⟨l.toArray⟩, ⟨m.toArray⟩, rfl, q _ H1 [] _ hp S1 e1 (fun x hx => nomatch hx) ⟨fun M2 H2 hst hM hh => ?_⟩⟩
        have sz : (⟨l.toArray⟩ : Str).cps.size = l.length := by show l.toArray.size = l.length; simp
        have sz2 : (⟨m.toArray⟩ : Str).cps.size = m.length := by show m.toArray.size = m.length; simp
        refine ⟨fun i hi => ?_, fun i hi => ?_, fun i d x H' hd hy => ?_⟩
        · rw [ssD_len] at hi
          exact ⟨by rw [sz]; omega, by rw [sz2]; omega⟩
        · rw [ssD_len] at hi
          show _ ∨ _
          rw [sz, sz2]
          omega
        · obtain ⟨T, c, y, rfl, hT, rfl, hc, hy⟩ := hy
          obtain ⟨c', r, h1, h2, rfl⟩ := ssD_get hd
          have e1 : c = c' := by
            have hc' : l[i]? = some c := by rw [← hc]; simp
            rw [h1] at hc'
            exact (Option.some.inj hc').symm
          have e2 : y = r := by
            have hc' : m[i]? = some y := by rw [← hy]; simp
            rw [h2] at hc'
            exact (Option.some.inj hc').symm
          subst e1
          subst e2
          exact ⟨.inr ⟨T, _, hT, rfl⟩, is_pair (p := T) hT (is_sign _ _ _ c) (is_sign _ _ _ y) hM hst⟩
end
end DL

namespace DL
open PySem PySem.Spec PyProof.Rows L2

/-! ### x in xs, xs.index(x): ints, texts -/
theorem inV_ints (z : Int) : ∀ ns : List Int, inV (.int z) (ns.map V.int) = decide (z ∈ ns)
  | [] => rfl
  | n :: ns => by
    have ih := inV_ints z ns
    unfold inV at ih ⊢
    rw [List.map_cons, List.any_cons, ih]
    show ((n == z) || decide (z ∈ ns)) = decide (z ∈ n :: ns)
    by_cases h : n = z
    · subst h; simp
    · have h' : z ≠ n := fun q => h q.symm
      rw [beq_eq_false_iff_ne.mpr h]; simp [h']
theorem inV_strs (z : List Nat) : ∀ ns : List (List Nat), inV (.str ⟨z.toArray⟩) (ns.map fun l => V.str ⟨l.toArray⟩) = decide (z ∈ ns)
  | [] => rfl
  | n :: ns => by
    have ih := inV_strs z ns
    unfold inV at ih ⊢
    rw [List.map_cons, List.any_cons, ih]
    show (((⟨n.toArray⟩ : Str) == ⟨z.toArray⟩) || decide (z ∈ ns)) = decide (z ∈ n :: ns)
    by_cases h : n = z
    · subst h; simp
    · have h' : z ≠ n := fun q => h q.symm
      have e : ((⟨n.toArray⟩ : Str) == ⟨z.toArray⟩) = false := beq_eq_false_iff_ne.mpr (fun q => h (by injection q with q; simpa using q))
      rw [e]; simp [h']
theorem flat_ints (ns : List Int) : (ns.map V.int).all flatV = true := by rw [List.all_eq_true]; intro x hx; obtain ⟨i, _, rfl⟩ := List.mem_map.mp hx; rfl
theorem flat_strs (ns : List (List Nat)) : (ns.map fun l => V.str ⟨l.toArray⟩).all flatV = true := by rw [List.all_eq_true]; intro x hx; obtain ⟨i, _, rfl⟩ := List.mem_map.mp hx; rfl
theorem iss_strs' {st : Addr} {M : List Addr} {H : Hp} {vs : List V} {ls : List (List Nat)} (h : Iss st M H vs (ls.map D.str)) : vs = ls.map fun l => V.str ⟨l.toArray⟩ := by
  rw [iss_strs h, List.map_map]; rfl
section
variable {K : PySem.W.Frag} {post : D → Prop}
theorem dop_inI {neg : Bool} {x : D} {z : Int} {ns : List Int} (hx : seqD x = some (ns.map D.int)) (h : post (.bl (if neg then !decide (z ∈ ns) else decide (z ∈ ns)))) : Dop (rIn K neg) (.int z) x post := fun st M H v w _ _ _ iv iw Q q => by
  cases is_int iv
  obtain ⟨p, vs, rfl, hl, hs⟩ := seqD_ok (K := K) iw hx
  have := iss_ints hs
  subst this
  refine ⟨p, _, rfl, hl, rfl, flat_ints ns, ?_⟩
  rw [inV_ints]
  exact q _ H _ h (Fx.refl _ _) (.bl _)
theorem dop_inS {neg : Bool} {x : D} {z : List Nat} {ns : List (List Nat)} (hx : seqD x = some (ns.map D.str)) (h : post (.bl (if neg then !decide (z ∈ ns) else decide (z ∈ ns)))) : Dop (rIn K neg) (.str z) x post := fun st M H v w _ _ _ iv iw Q q => by
  cases is_str iv
  obtain ⟨p, vs, rfl, hl, hs⟩ := seqD_ok (K := K) iw hx
  have := iss_strs' hs
  subst this
  refine ⟨p, _, rfl, hl, rfl, flat_strs ns, ?_⟩
  rw [inV_strs]
  exact q _ H _ h (Fx.refl _ _) (.bl _)
theorem dmt_indexI {ns : List Int} {z : Int} {j : Nat} (hz : ns[j]? = some z) (hno : ∀ m, m < j → ns[m]? ≠ some z) (h : post (.int (j : Nat))) : Dmt K "list" (rIndex K) (.lst (ns.map D.int)) [.int z] post := fun st M H v vs hst hM trk iv ivs Q q => by
  obtain ⟨p, ws, rfl, hm, hl, hs⟩ := is_lst iv
  have := iss_ints hs
  subst this
  cases ivs with
  | cons i r =>
    cases r
    cases is_int i
    refine ⟨p, _, .int z, j, .int z, rfl, rfl, .of hl, rfl, flat_ints ns, by rw [List.getElem?_map, hz]; rfl, beq_self_eq_true z, fun m z' hm hz' => ?_, q _ H _ h (Fx.refl _ _) (.int _)⟩
    rw [List.getElem?_map] at hz'
    obtain ⟨k, hk, rfl⟩ := Option.map_eq_some_iff.mp hz'
    exact beq_eq_false_iff_ne.mpr fun e => hno m hm (e ▸ hk)
theorem at_first {α : Type} [DecidableEq α] {l : List α} (nd : l.Nodup) {j : Nat} {z : α} (hz : l[j]? = some z) : ∀ m, m < j → l[m]? ≠ some z := fun m hm e => by
  obtain ⟨i1, e1⟩ := List.getElem?_eq_some_iff.mp e
  obtain ⟨i2, e2⟩ := List.getElem?_eq_some_iff.mp hz
  exact List.pairwise_iff_getElem.mp nd _ _ i1 i2 hm (e1.trans e2.symm)
end

theorem map_snoc {α β : Type} (f : α → β) (l : List α) (a : α) : l.map f ++ [f a] = (l ++ [a]).map f := by rw [List.map_append]; rfl
/-! ### the points that are found from 0 letter by letter, and their words -/
abbrev Fd := List Nat × List (List Nat)
def fnL (kvs : List (List Key × V)) (t : Nat) (s : Fd) (c : Nat) : Fd :=
  if stp kvs (s.1.getD t 0) c ∈ s.1 then s else (s.1 ++ [stp kvs (s.1.getD t 0) c], s.2 ++ [s.2.getD t [] ++ [c]])
def fnT (kvs : List (List Key × V)) (ls : List Nat) (s : Fd) (t : Nat) : Fd := if t < s.1.length then ls.foldl (fnL kvs t) s else s
def fnd (kvs : List (List Key × V)) (ls : List Nat) (n : Nat) : Fd := (List.range n).foldl (fnT kvs ls) ([0], [[]])
structure FI (kvs : List (List Key × V)) (ls : List Nat) (n : Nat) (s : Fd) : Prop where
  len : s.2.length = s.1.length
  zero : s.1[0]? = some 0
  nd : s.1.Nodup
  lt : ∀ x ∈ s.1, x < n
  way : ∀ i w, s.2[i]? = some w → s.1[i]? = some (wk kvs 0 w) ∧ (∀ c ∈ w, c ∈ ls) ∧ w.length ≤ i
section
variable {kvs : List (List Key × V)} {ls : List Nat} {n : Nat}
theorem FI.init (h : 0 < n) : FI kvs ls n ([0], [[]]) := ⟨rfl, rfl, by simp, fun x hx => by rw [List.mem_singleton.mp hx]; exact h, fun i w hw => by
  cases i with
  | zero => cases hw; exact ⟨rfl, (fun _ z => nomatch z), Nat.le_refl _⟩
  | succ i => simp at hw⟩
theorem FI.stepL (A : Act n ls kvs) {s : Fd} (h : FI kvs ls n s) {t c : Nat} (ht : t < s.1.length) (hc : c ∈ ls) :
    FI kvs ls n (fnL kvs t s c) ∧ s.1 <+: (fnL kvs t s c).1 ∧ s.2 <+: (fnL kvs t s c).2 ∧ stp kvs (s.1.getD t 0) c ∈ (fnL kvs t s c).1 := by
  unfold fnL
  split
  · rename_i hm
    exact ⟨h, List.prefix_rfl, List.prefix_rfl, hm⟩
  · rename_i hm
    have hp : s.1[t]? = some (s.1.getD t 0) := by simp [List.getD_eq_getElem?_getD, ht]
    have hpn : s.1.getD t 0 < n := h.lt _ (List.mem_of_getElem? hp)
    have h2 : t < s.2.length := by rw [h.len]; exact ht
    have hw : s.2[t]? = some (s.2.getD t []) := by simp [List.getD_eq_getElem?_getD, h2]
    obtain ⟨w1, w2, w3⟩ := h.way t _ hw
    have e0 : wk kvs 0 (s.2.getD t []) = s.1.getD t 0 := by rw [w1] at hp; exact Option.some.inj hp
    refine ⟨⟨by simp [h.len], ?_, ?_, fun x hx => ?_, fun i w hi => ?_⟩, List.prefix_append _ _, List.prefix_append _ _, by simp⟩
    · show (s.1 ++ _)[0]? = _
      rw [List.getElem?_append_left (by omega)]
      exact h.zero
    · rw [List.nodup_append]
      exact ⟨h.nd, by simp, fun a ha b hb e => hm (by rw [← List.mem_singleton.mp hb, ← e]; exact ha)⟩
    · rcases List.mem_append.mp hx with z | z
      · exact h.lt x z
      · rw [List.mem_singleton.mp z]
        exact (A _ hpn c hc).2.1
    · have hi : (s.2 ++ [s.2.getD t [] ++ [c]])[i]? = some w := hi
      by_cases hl : i < s.2.length
      · rw [List.getElem?_append_left hl] at hi
        obtain ⟨g1, g2, g3⟩ := h.way i w hi
        refine ⟨?_, g2, g3⟩
        show (s.1 ++ _)[i]? = _
        rw [List.getElem?_append_left (by rw [← h.len]; exact hl)]
        exact g1
      · have hil : i = s.2.length := by
          have := (List.getElem?_eq_some_iff.mp hi).1
          rw [List.length_append, List.length_singleton] at this
          omega
        subst hil
        rw [List.getElem?_append_right (Nat.le_refl _), Nat.sub_self] at hi
        obtain rfl : s.2.getD t [] ++ [c] = w := Option.some.inj hi
        refine ⟨?_, fun x hx => ?_, ?_⟩
        · show (s.1 ++ _)[s.2.length]? = _
          rw [h.len, List.getElem?_append_right (Nat.le_refl _), Nat.sub_self, wk_app, e0]
          rfl
        · rcases List.mem_append.mp hx with z | z
          · exact w2 x z
          · rw [List.mem_singleton.mp z]; exact hc
        · rw [List.length_append, List.length_singleton]
          omega
theorem pre_getD {l m : List Nat} (h : l <+: m) {t : Nat} (ht : t < l.length) : m.getD t 0 = l.getD t 0 := by
  obtain ⟨r, rfl⟩ := h
  rw [List.getD_eq_getElem?_getD, List.getD_eq_getElem?_getD, List.getElem?_append_left ht]
theorem FI.stepLs (A : Act n ls kvs) {t : Nat} : ∀ (cs : List Nat) {s : Fd}, FI kvs ls n s → t < s.1.length → (∀ c ∈ cs, c ∈ ls) →
    FI kvs ls n (cs.foldl (fnL kvs t) s) ∧ s.1 <+: (cs.foldl (fnL kvs t) s).1 ∧ ∀ c ∈ cs, stp kvs (s.1.getD t 0) c ∈ (cs.foldl (fnL kvs t) s).1
  | [], s, h, _, _ => ⟨h, List.prefix_rfl, (fun _ z => nomatch z)⟩
  | c :: cs, s, h, ht, hc => by
    obtain ⟨a, b, _, d⟩ := h.stepL A ht (hc c List.mem_cons_self)
    have ht' : t < (fnL kvs t s c).1.length := Nat.lt_of_lt_of_le ht b.length_le
    obtain ⟨a2, b2, d2⟩ := FI.stepLs A cs a ht' fun x hx => hc x (List.mem_cons_of_mem _ hx)
    refine ⟨a2, b.trans b2, fun x hx => ?_⟩
    rcases List.mem_cons.mp hx with rfl | hx
    · exact b2.subset d
    · have := d2 x hx
      rw [pre_getD b ht] at this
      exact this
/-- what has been gone through is closed -/
def Cl (kvs : List (List Key × V)) (ls : List Nat) (s : Fd) (k : Nat) : Prop := ∀ i, i < k → ∀ p, s.1[i]? = some p → ∀ c ∈ ls, stp kvs p c ∈ s.1
theorem FI.stepT (A : Act n ls kvs) {t : Nat} {s : Fd} (h : FI kvs ls n s) (hc : Cl kvs ls s t) : FI kvs ls n (fnT kvs ls s t) ∧ Cl kvs ls (fnT kvs ls s t) (t + 1) := by
  unfold fnT
  split
  · rename_i ht
    obtain ⟨a, b, d⟩ := h.stepLs A ls ht fun _ z => z
    refine ⟨a, fun i hi p hp c hcl => ?_⟩
    have hil : i < s.1.length := by omega
    obtain ⟨r, hr⟩ := b
    rw [← hr, List.getElem?_append_left hil] at hp
    by_cases e : i = t
    · subst e
      have : s.1.getD i 0 = p := by rw [List.getD_eq_getElem?_getD, hp]; rfl
      rw [← this]
      exact d c hcl
    · rw [← hr]
      exact List.mem_append_left _ (hc i (by omega) p hp c hcl)
  · rename_i ht
    refine ⟨h, fun i hi p hp c hcl => ?_⟩
    have := (List.getElem?_eq_some_iff.mp hp).1
    exact hc i (by omega) p hp c hcl
theorem FI.range (A : Act n ls kvs) (h0 : 0 < n) : ∀ m, FI kvs ls n (fnd kvs ls m) ∧ Cl kvs ls (fnd kvs ls m) m
  | 0 => ⟨.init h0, fun _ z => absurd z (Nat.not_lt_zero _)⟩
  | m + 1 => by
    have := FI.range A h0 m
    unfold fnd at this ⊢
    rw [List.range_succ, List.foldl_append]
    exact FI.stepT A this.1 this.2
theorem FI.len_le {s : Fd} (h : FI kvs ls n s) : s.1.length ≤ n := by
  have := List.Nodup.length_le_of_subset h.nd (l₂ := List.range n) fun x hx => List.mem_range.mpr (h.lt x hx)
  rwa [List.length_range] at this
/-- all points to which words lead are found -/
theorem fnd_all (A : Act n ls kvs) (h0 : 0 < n) : ∀ (w : List Nat), (∀ c ∈ w, c ∈ ls) → wk kvs 0 w ∈ (fnd kvs ls n).1 := by
  obtain ⟨h, hc⟩ := FI.range A h0 n
  have cl : ∀ p ∈ (fnd kvs ls n).1, ∀ c ∈ ls, stp kvs p c ∈ (fnd kvs ls n).1 := fun p hp c hcl => by
    obtain ⟨i, hi⟩ := List.mem_iff_getElem?.mp hp
    have hil := (List.getElem?_eq_some_iff.mp hi).1
    exact hc i (Nat.lt_of_lt_of_le hil h.len_le) p hi c hcl
  have all : ∀ (w : List Nat) p, p ∈ (fnd kvs ls n).1 → (∀ c ∈ w, c ∈ ls) → wk kvs p w ∈ (fnd kvs ls n).1 := by
    intro w
    induction w with
    | nil => intro p hp _; exact hp
    | cons c w ih => intro p hp hw; exact ih _ (cl p hp c (hw c List.mem_cons_self)) fun x hx => hw x (List.mem_cons_of_mem _ hx)
  exact fun w hw => all w 0 (List.mem_of_getElem? h.zero) hw
end
end DL

namespace DL
open PySem PySem.Spec PyProof.Rows L2

/-! ### tuple(d), tuple(d.values()), list(d.values()) -/
section
variable {prog : Program} {w : World} {A : Around} {E : Value → Shared → Prop} {s : Shared} {T : String} {r d : Addr} {n : Nat} {P : Nat → Value → Prop} {OK : Heap → Prop}
theorem collect_kdl {Q : List Value → Shared → Prop} (K : PySem.W.KdlSrc prog w T r d n P OK) (hh : A.handled = none) (hok : OK s.heap) (hn : n ≤ sizeLine)
    (hQ : ∀ (h' : Heap) (tk : Nat) (acc : Array Value), (∀ b o, s.heap.get? b = some o → h'.get? b = some o) → ItemsOf P acc n → Q acc.toList { s with heap := h', toks := tk }) :
    wpAny (model prog w) A (collect (.ref r)) Q E s := by
  unfold collect
  refine wpAny_bind (wpAny_runValue (codeAny_builtin F.entry_proto_collect ?_))
  rw [Around.under_plainId F.plain_proto_collect _]
  show wpAny _ A.in1 (newList [] >>= fun l => again (.builtin "list.__iadd__" ⟨[l, .ref r], []⟩)) _ _ s
  refine wpAny_bind (wpAny_newObj_type ?_)
  refine wpAny_pure ⟨plainId_quiet F.plain_list_iadd _, codeAny_builtin F.entry_list_iadd ?_⟩
  rw [Around.under_plainId F.plain_list_iadd _]
  show wpAny _ A.in1 (Builtin.List.listExtendWith (.ref s.heap.objs.size) (.ref r) (.ref s.heap.objs.size)) _ _ _
  have hS : (s.heap.push { cls := .type "list", data := .seq ([] : List Value).toArray }).get? s.heap.objs.size = some { cls := .type "list", data := .seq #[] 0 } := Heap.get?_push_size _ rfl
  have hlt := K.there _ hok
  refine wpAny_mono (PySem.W.kdl_extend (A := A) (R := fun rr s' => rr = .ok (.ret (.ref s.heap.objs.size)) ∧ ∃ (h' : Heap) (tk : Nat) (acc : Array Value) (c' : Nat), s' = { s with heap := h', toks := tk } ∧
      (∀ b o, s.heap.get? b = some o → h'.get? b = some o) ∧ h'.get? s.heap.objs.size = some { cls := .type "list", dict := none, data := .seq acc c', slots := #[] } ∧ ItemsOf P acc n)
    (s := { s with heap := s.heap.push { cls := .type "list", data := .seq ([] : List Value).toArray } }) K hh (K.keep _ _ hok fun b _ o e => Heap.get?_push_of_some _ e) _ (Nat.ne_of_gt hlt.1) (Nat.ne_of_gt hlt.2) _ 0 hS
    (fun h' tk acc c' hk e hi => ⟨rfl, h', tk, acc, c', rfl, fun b o q => hk b o (Nat.ne_of_lt (Heap.lt_size q)) (Heap.get?_push_of_some _ q), e, hi⟩) hn) (fun fin s' h => ?_) (fun e s' h => ?_)
  · cases fin with
    | done f =>
      obtain ⟨e, h', tk, acc, c', rfl, hk, hS', hi⟩ := h
      cases e
      show wpAny _ A (load s.heap.objs.size >>= _) _ _ _
      exact wpAny_bind (wpAny_load hS' (wpAny_pure (hQ h' tk acc hk hi)))
    | again c' =>
      refine ⟨h.1, codeAny_mono h.2 fun rr s'' hr' => ?_⟩
      obtain ⟨rfl, h', tk, acc, c', rfl, hk, hS', hi⟩ := hr'
      show wpAny _ A (load s.heap.objs.size >>= _) _ _ _
      exact wpAny_bind (wpAny_load hS' (wpAny_pure (hQ h' tk acc hk hi)))
  · exact absurd h.1 (by simp)
theorem code_tuple_new_kdl {Q₁ : Value → Shared → Prop} (K : PySem.W.KdlSrc prog w T r d n P OK) (hh : A.handled = none) (hok : OK s.heap) (hn : n ≤ sizeLine)
    (h : ∀ (h' : Heap) (tk : Nat) (acc : Array Value), (∀ b o, s.heap.get? b = some o → h'.get? b = some o) → ItemsOf P acc n →
      Q₁ (.ref h'.objs.size) { s with heap := h'.push { cls := .type "tuple", data := .seq acc }, toks := tk }) :
    codeAny (model prog w) A (.call (.builtin "tuple.__new__") ⟨[.type "tuple", .ref r], []⟩) (wants Q₁ E) s := by
  refine codeAny_of_tree ?_
  show wpAny _ A.in1 (do checkBuiltinCall "tuple.__new__" ⟨[.type "tuple", .ref r], []⟩; again (.builtin "tuple.__new__" ⟨[.type "tuple", .ref r], []⟩)) _ _ s
  refine wpAny_bind (wpAny_of_eq (F.newCall_tuple_1 _) (wpAny_pure ⟨plainId_quiet F.plain_tuple_new _, codeAny_builtin F.entry_tuple_new ?_⟩))
  rw [Around.under_plainId F.plain_tuple_new _]
  have hsub := sub_tuple_self
  have hinit := init_tuple_lookup
  have hmh := madeHere_tuple
  have hTI : s.TypeIs (.ref r) T := K.type s hok
  have hnt := K.notTuple
  have hh1 : A.in1.handled = none := hh
  wp_walk using wpAny_typeOf hTI, collect_kdl (A := A.in1) K hh1 hok hn
  intro h' tk acc hk hacc
  show wpAny _ _ (Builtin.Tuple.tupleExact acc.toList.toArray >>= fun v => ret v) _ _ _
  unfold Builtin.Tuple.tupleExact
  refine wpAny_bind (wpAny_newObj_type ?_ (by show acc.toList.toArray.size ≤ sizeLine; simp only [Array.toArray_toList]; rw [hacc.1]; exact hn))
  refine wpAny_pure ?_
  have e : acc.toList.toArray = acc := by simp
  rw [e]
  exact h h' tk acc hk hacc
theorem call_tuple_kdl {Q : Value → Shared → Prop} (K : PySem.W.KdlSrc prog w T r d n P OK) (hh : A.handled = none) (hok : OK s.heap) (hn : n ≤ sizeLine)
    (hQ : ∀ (h' : Heap) (tk : Nat) (acc : Array Value), (∀ b o, s.heap.get? b = some o → h'.get? b = some o) → ItemsOf P acc n →
      Q (.ref h'.objs.size) { s with heap := h'.push { cls := .type "tuple", data := .seq acc }, toks := tk }) :
    wpAny (model prog w) A (call (.type "tuple") [.ref r]) Q E s := by
  refine callType_codes (Q₁ := fun obj s₁ => s₁.TypeIs obj "tuple" ∧ Q obj s₁) F.called_tuple (F.typeCall_tuple_1 _) F.entry_object_init
    (code_tuple_new_kdl (A := A.in1) K hh hok hn fun h' tk acc hk hacc => ⟨⟨_, Heap.get?_push_size _ rfl, rfl⟩, hQ h' tk acc hk hacc⟩) fun obj s₁ h₁ => ?_
  exact ⟨h₁.1, F.args_object_init_2 obj _, object_init_meets F.called_tuple.init.lookup F.called_tuple.made (by decide) prog w A.in1 _ s₁ ⟨h₁.1, rfl, h₁.2⟩⟩
end
end DL

namespace DL
open PySem PySem.Spec PyProof.Rows L2

def rTupD : List V → Hp → VK → Prop := fun xs H Q => ∃ p kvs, xs = [.ref p] ∧ H p = some (.dK kvs) ∧ ∀ (q : Addr) (o : Obj), H q = none → o.cls = .type "tuple" → o.dict = none → Q (.ref q) (upd H q (.frz o (.tup (kvs.map fun kv => kV kv.1))))
theorem cd_tupD {X : Cx} (hc : X.calm = true) : CallR X (.type "tuple") rTupD := by
  intro pins s σ H xs us Q I r h
  obtain ⟨p, kvs, e, hk, q⟩ := h
  subst e
  obtain ⟨u, eu, rx⟩ := vals1 r
  subst eu
  obtain rfl : u = Value.ref p := rx
  obtain ⟨z, lo, vs, rk, hd⟩ := (show ObjOk X.prog X.w H s.heap p (.dK kvs) from I.hok p _ hk)
  obtain ⟨ep, hat⟩ := hd.dictAt
  have hl : kvs.length = vs.length := Paired.length rk
  refine call_tuple_kdl (PySem.W.kdl_dict (knd := mixKind X.prog X.w) (kvs := vs) (ep := ep) lo) (I.ok.hd hc) hat (by rw [← hl]; exact z) fun h' tk acc hk' hacc => ?_
  have I1 : Inv X pins σ H { s with heap := h', toks := tk } := I.kept (t' := tk) hk'
  refine ⟨.ref h'.objs.size, upd H h'.objs.size (.frz { cls := .type "tuple", data := .seq acc } (.tup (kvs.map fun kv => kV kv.1))), I1.laid (t' := tk) (fun b o e => Heap.get?_push_of_some _ e) (Nat.le_refl _) (show ObjOk X.prog X.w _ _ _ (.frz _ (.tup _)) from ⟨Heap.get?_push_size _ rfl, ?_, acc.toList, ?_, ?_⟩), rfl, q _ _ (I1.hok.fresh (Nat.le_refl _)) rfl rfl⟩
  · rw [List.length_map]; exact z
  · have el : acc.toList.length = acc.size := by simp
    refine vals_of_at (by rw [List.length_map, el, hacc.1, hl]) fun j x w h1 h2 => ?_
    obtain ⟨k, y, hky, hi⟩ := hacc.2 j w (by rw [← Array.getElem?_toList]; exact h2)
    have e1 : (kvs.map (·.1))[j]? = some k := by
      rw [KV.keys rk, List.getElem?_map, hky] <;> rfl
    have e2 : (kvs.map fun kv => kV kv.1)[j]? = some (kV k) := by
      have e3 : (kvs.map fun kv => kV kv.1) = (kvs.map (·.1)).map kV := by rw [List.map_map] <;> rfl
      rw [e3, List.getElem?_map, e1] <;> rfl
    rw [e2] at h1
    cases h1
    exact keyIs_rel hi
  · rw [Array.toArray_toList]
    exact IsTup.new _ _
/-- d.values(), an object that shows them -/
def tVals (td : TE) : TE := fun σ H Q => td σ H fun x H1 => ∃ d kvs, x = .ref d ∧ H1 d = some (.dK kvs) ∧ ∀ v, H1 v = none → Q (.ref v) (upd H1 v (.ext fun h => h.IsValuesView v d))
section
variable {X : Cx} {e : Expr} {td : TE} {apos cpos : Pos}
theorem pe_vals (he : PE X e td) (hbase : attributeBase e "values" X.env (eval e X.env) = eval e X.env := by rfl) (hline : (apos.endLine == cpos.line) = true := by rfl) : PE X (.Call (.Attribute e "values" apos) [] [] cpos) (tVals td) := by
  refine ⟨fun pins s σ H Q I h => ?_⟩
  refine wpAny_Call_method (T := "dict") (id := "dict.values") hbase rfl hline F.plainAttrs_dict F.slot_dict_values F.type_dict_values (thn (he.run pins s σ H _ I h) fun u s1 ⟨x, H1, I1, rx, d, kvs, ex, hk, q⟩ => ?_)
  subst ex
  obtain rfl : u = Value.ref d := rx
  obtain ⟨z, lo, vs, rk, hd⟩ := (show ObjOk X.prog X.w H1 s1.heap d (.dK kvs) from I1.hok d _ hk)
  refine ⟨hd.typeIs, hd.mapOf.noDict, ?_⟩
  have hv : (s1.heap.push { cls := .type "dict_values", data := .fields #[.ref d] }).IsValuesView s1.heap.objs.size d := ⟨_, Heap.get?_push_size _ rfl, rfl, rfl⟩
  have I2 : Inv X pins σ (upd H1 s1.heap.objs.size (.ext fun h => h.IsValuesView s1.heap.objs.size d)) { s1 with heap := s1.heap.push { cls := .type "dict_values", data := .fields #[.ref d] } } :=
    I1.laid (t' := s1.toks) (fun b ob q => Heap.get?_push_of_some _ q) (Nat.le_refl _) (show ObjOk X.prog X.w _ _ _ (.ext _) from ⟨hv, ⟨_, Heap.get?_push_size _ rfl⟩, fun h1 h2 a b => let ⟨o, ho, c⟩ := a; ⟨o, b o ho, c⟩⟩)
  show wpAny _ _ (callWith cpos (.builtin "dict.values") [.ref d] [] []) _ X.xe s1
  exact method_meetsIn F.slot_dict_values F.entry_dict_values rfl (PySem.evalArgs_none ⟨rfl, hd.typeIs, F.args_dict_values_1 _, _, meets_dict_values (mixKind X.prog X.w) d lo, ⟨vs, hd⟩, ⟨.ref s1.heap.objs.size, _, I2, rfl, q _ (I1.hok.fresh (Nat.le_refl _))⟩⟩)
end
def isView (H : Hp) (x : V) (kvs : List (Key × V)) : Prop := ∃ v d, x = .ref v ∧ H v = some (.ext fun h => h.IsValuesView v d) ∧ H d = some (.dK kvs)
def rTupW : List V → Hp → VK → Prop := fun xs H Q => ∃ x kvs, xs = [x] ∧ isView H x kvs ∧ ∀ q, H q = none → Q (.ref q) (upd H q (.tup (kvs.map (·.2))))
def rLstW : List V → Hp → VK → Prop := fun xs H Q => ∃ x kvs, xs = [x] ∧ isView H x kvs ∧ ∀ q, H q = none → Q (.ref q) (upd H q (.lst (kvs.map (·.2))))
theorem vals_view {P : Program} {w : World} {kvs : List (Key × V)} {vs : List (Key × Value)} {acc : Array Value} (rk : KV kvs vs) (hacc : ItemsOf (fun i v => ∃ k, vs[i]? = some (k, v)) acc vs.length) : Vals (kvs.map (·.2)) acc.toList := by
  have hl : kvs.length = vs.length := Paired.length rk
  have el : acc.toList.length = acc.size := by simp
  refine vals_of_at (by rw [List.length_map, el, hacc.1, hl]) fun j x w h1 h2 => ?_
  obtain ⟨k, hk⟩ := hacc.2 j w (by rw [← Array.getElem?_toList]; exact h2)
  rw [List.getElem?_map] at h1
  obtain ⟨kv, hkv, rfl⟩ := Option.map_eq_some_iff.mp h1
  have go : ∀ {kvs : List (Key × V)} {vs : List (Key × Value)} {j : Nat} {a : Key × V} {b : Key × Value}, KV kvs vs → kvs[j]? = some a → vs[j]? = some b → RelV a.2 b.2 := by
    intro kvs vs j a b r
    induction r generalizing j with
    | nil => intro h; simp at h
    | cons p q ih =>
      intro h1 h2
      cases j with
      | zero => simp at h1 h2; subst h1; subst h2; exact p.2
      | succ j => simp at h1 h2; exact ih h1 h2
  exact go rk hkv hk
theorem cd_tupW {X : Cx} (hc : X.calm = true) : CallR X (.type "tuple") rTupW := by
  intro pins s σ H xs us Q I r h
  obtain ⟨x, kvs, e, ⟨v, d, ex, hv, hk⟩, q⟩ := h
  subst ex
  subst e
  obtain ⟨u, eu, rx⟩ := vals1 r
  subst eu
  obtain rfl : u = Value.ref v := rx
  obtain ⟨z, lo, vs, rk, hd⟩ := (show ObjOk X.prog X.w H s.heap d (.dK kvs) from I.hok d _ hk)
  obtain ⟨hw, _⟩ := (show ObjOk X.prog X.w H s.heap v (.ext fun h => h.IsValuesView v d) from I.hok v _ hv)
  obtain ⟨ep, hat⟩ := hd.dictAt
  have hl : kvs.length = vs.length := Paired.length rk
  refine call_tuple_kdl (PySem.W.kdl_values (knd := mixKind X.prog X.w) (kvs := vs) (ep := ep)) (I.ok.hd hc) ⟨hw, hat⟩ (by rw [← hl]; exact z) fun h' tk acc hk' hacc => ?_
  have I1 : Inv X pins σ H { s with heap := h', toks := tk } := I.kept (t' := tk) hk'
  exact ⟨.ref h'.objs.size, upd H h'.objs.size (.tup (kvs.map (·.2))), I1.laid (t' := tk) (fun b o e => Heap.get?_push_of_some _ e) (Nat.le_refl _) (show ObjOk X.prog X.w _ _ _ (.tup _) from ⟨by rw [List.length_map]; exact z, acc.toList, vals_view (P := X.prog) (w := X.w) rk hacc, by rw [Array.toArray_toList]; exact IsTup.new _ _⟩), rfl, q _ (I1.hok.fresh (Nat.le_refl _))⟩
theorem cd_lstW {X : Cx} (hc : X.calm = true) : CallR X (.type "list") rLstW := by
  intro pins s σ H xs us Q I r h
  obtain ⟨x, kvs, e, ⟨v, d, ex, hv, hk⟩, q⟩ := h
  subst ex
  subst e
  obtain ⟨u, eu, rx⟩ := vals1 r
  subst eu
  obtain rfl : u = Value.ref v := rx
  obtain ⟨z, lo, vs, rk, hd⟩ := (show ObjOk X.prog X.w H s.heap d (.dK kvs) from I.hok d _ hk)
  obtain ⟨hw, _⟩ := (show ObjOk X.prog X.w H s.heap v (.ext fun h => h.IsValuesView v d) from I.hok v _ hv)
  obtain ⟨ep, hat⟩ := hd.dictAt
  have hl : kvs.length = vs.length := Paired.length rk
  refine PySem.W.kdl_call (PySem.W.kdl_values (knd := mixKind X.prog X.w) (kvs := vs) (ep := ep)) (I.ok.hd hc) ⟨hw, hat⟩ (by rw [← hl]; exact z) fun h' tk acc c' hkeep hS hacc => ?_
  exact ⟨.ref s.heap.objs.size, upd H s.heap.objs.size (.lst (kvs.map (·.2))), I.laid hkeep (Nat.le_refl _) (show ObjOk X.prog X.w _ _ _ (.lst _) from ⟨by rw [List.length_map]; exact z, acc.toList, c', vals_view (P := X.prog) (w := X.w) rk hacc, by rw [Array.toArray_toList]; exact hS⟩), rfl, q _ (I.hok.fresh (Nat.le_refl _))⟩
/-- len(d) -/
def rLenD : List V → Hp → VK → Prop := fun xs H Q => ∃ a kvs, xs = [V.ref a] ∧ H a = some (.dK kvs) ∧ Q (.int kvs.length) H
theorem cd_lenD {X : Cx} : CallR X (.builtin "len") rLenD := call_lenD
/-- list(d) -/
theorem cd_lstD {X : Cx} (hc : X.calm = true) : CallR X (.type "list") rListD := call_list_dK hc

/-! ### over data -/
def keyD : Key → D
  | .inl i => .int i
  | .inr x => .str x.cps.toList
theorem is_keyD {st : Addr} {M : List Addr} {H : Hp} (k : Key) : Is st M H (kV k) (keyD k) := by
  cases k with
  | inl i => exact .int i
  | inr x => exact is_strS _ _ _ x
theorem iss_keys {st : Addr} {M : List Addr} {H : Hp} : ∀ kvs : List (Key × V), Iss st M H (kvs.map fun kv => kV kv.1) (kvs.map fun kv => keyD kv.1)
  | [] => .nil
  | kv :: kvs => .cons (is_keyD kv.1) (iss_keys kvs)
def valD : V → D
  | .bl b => .bl b
  | .int i => .int i
  | .str x => .str x.cps.toList
  | _ => .non
theorem is_valD {st : Addr} {M : List Addr} {H : Hp} {v : V} (h : flatV v = true) : Is st M H v (valD v) := by
  cases v <;> first | (cases h; done) | exact .non | exact .bl _ | exact .int _ | exact is_strS _ _ _ _
theorem iss_vals {st : Addr} {M : List Addr} {H : Hp} : ∀ {kvs : List (Key × V)}, (∀ kv ∈ kvs, flatV kv.2 = true) → Iss st M H (kvs.map (·.2)) (kvs.map fun kv => valD kv.2)
  | [], _ => .nil
  | kv :: kvs, h => .cons (is_valD (h kv List.mem_cons_self)) (iss_vals fun x hx => h x (List.mem_cons_of_mem _ hx))
section
variable {B : Bs} {M M' : List Addr} {H H' H1 : Hp} {σ : L2.St} {env env' : Nv} {nx : Nv → Prop} {rt : D → Prop} {bk ct : Nv → Prop} {t u : TS} {c : TT} {te ta tb td ty tv tk : TE} {tas : TA} {post : D → Prop} {K : PySem.W.Frag}
theorem is_dK {st : Addr} {M : List Addr} {H : Hp} {v : V} {kvs : List (Key × V)} (h : Is st M H v (.dK kvs)) : ∃ p, v = .ref p ∧ p ∉ M ∧ H p = some (.dK kvs) ∧ ∀ kv ∈ kvs, flatV kv.2 = true := by
  cases h with | dK hm hp hf => exact ⟨_, rfl, hm, hp, hf⟩
theorem dcl_tupD {kvs : List (Key × V)} (h : post (.ptp (kvs.map fun kv => keyD kv.1))) : Dcl rTupD [.dK kvs] post := fun st M H vs hst hM trk iv Q q => by
  cases iv with
  | cons a r =>
    cases r
    obtain ⟨p, rfl, hm, hp, hf⟩ := is_dK a
    exact ⟨p, kvs, rfl, hp, fun l o hn hc hd => q _ _ _ h (Fx.new hn) (.ptp (fresh_ne (st := st) trk hn) upd_same ⟨hc, hd⟩ (iss_keys kvs))⟩
theorem dcl_lenD {kvs : List (Key × V)} (h : post (.int (kvs.length : Nat))) : Dcl rLenD [.dK kvs] post := fun st M H vs hst hM trk iv Q q => by
  cases iv with
  | cons a r =>
    cases r
    obtain ⟨p, rfl, hm, hp, hf⟩ := is_dK a
    exact ⟨p, kvs, rfl, hp, q _ _ _ h (Fx.refl _ _) (.int _)⟩
theorem dcl_lstD {kvs : List (Key × V)} (h : post (.lst (kvs.map fun kv => keyD kv.1))) : Dcl rListD [.dK kvs] post := fun st M H vs hst hM trk iv Q q => by
  cases iv with
  | cons a r =>
    cases r
    obtain ⟨p, rfl, hm, hp, hf⟩ := is_dK a
    exact ⟨p, kvs, rfl, hp, fun l hn => q _ _ _ h (Fx.new hn) (.lst (fresh_ne (st := st) trk hn) upd_same (iss_keys kvs))⟩
/-- tuple(d.values()) -/
theorem de_tupW (h : De td env fun d => ∃ kvs, d = .dK kvs ∧ post (.tup (kvs.map fun kv => valD kv.2))) : De (tCB rTupW (tCons (tVals td) tNil)) env post := fun B M σ H S Q q =>
  h B M σ H S _ fun v H1 d ⟨kvs, e, hp⟩ S1 e1 i1 => by
    subst e
    obtain ⟨p, rfl, hm, hp1, hf⟩ := is_dK i1
    refine ⟨p, kvs, rfl, hp1, fun w hw => ?_⟩
    have hpw : p ≠ w := ne_of_none hp1 hw
    refine ⟨.ref w, kvs, rfl, ⟨w, p, rfl, upd_same, by rw [upd_ne hpw]; exact hp1⟩, fun l hl => ?_⟩
    have S2 := S1.new (o := .ext fun h => h.IsValuesView w p) hw
    exact q _ _ _ hp (S2.new hl) ((e1.trans (Fx.new hw)).trans (Fx.new hl)) (.tup upd_same (iss_vals hf))
/-- list(d.values()) -/
theorem de_lstW (h : De td env fun d => ∃ kvs, d = .dK kvs ∧ post (.lst (kvs.map fun kv => valD kv.2))) : De (tCB rLstW (tCons (tVals td) tNil)) env post := fun B M σ H S Q q =>
  h B M σ H S _ fun v H1 d ⟨kvs, e, hp⟩ S1 e1 i1 => by
    subst e
    obtain ⟨p, rfl, hm, hp1, hf⟩ := is_dK i1
    refine ⟨p, kvs, rfl, hp1, fun w hw => ?_⟩
    have hpw : p ≠ w := ne_of_none hp1 hw
    refine ⟨.ref w, kvs, rfl, ⟨w, p, rfl, upd_same, by rw [upd_ne hpw]; exact hp1⟩, fun l hl => ?_⟩
    have S2 := S1.new (o := .ext fun h => h.IsValuesView w p) hw
    exact q _ _ _ hp (S2.new hl) ((e1.trans (Fx.new hw)).trans (Fx.new hl)) (.lst (S2.newM hl) upd_same (iss_vals hf))
/-- d.get(k) -/
theorem de_dget1T {i : Nat} {kvs : List (List Key × V)} (hi : dicT env i kvs) (h : De ty env fun y => ∃ l ks d, y = .tup l ∧ toKeys l = some ks ∧ toV d = some ((valV kvs ks).getD .non) ∧ post d) : De (tDGet1 (tVar i) ty) env post := fun B M σ H S Q q => by
  obtain ⟨p, h1, h2, h3⟩ := S.dicT hi
  refine ⟨.ref p, h1, p, rfl, .inr ⟨kvs, .inl h2⟩, h B M σ H S _ fun v H1 d ⟨l, ks, d', e, hk, hd, hp⟩ S1 e1 i1 => ?_⟩
  subst e
  obtain ⟨b, vs, rfl, hl, hs⟩ := is_tup i1
  have := is_keys hs hk
  subst this
  exact ⟨valV kvs ks, .t (e1.1 p _ h3 h2) hl, q _ H1 _ hp S1 e1 (of_flat hd)⟩
/-- {k: v}, one's own -/
theorem den_disp1 {postN : Ow → Prop} (h : De tk env fun k => De tv env fun v => ∃ kk w, toKey k = some kk ∧ toV v = some w ∧ postN (.dK [(kk, w)])) : DeN (tDisp [(tk, tv)]) env postN := fun B M σ H S Q q p hn => by
  have np : p ≠ B.st := S.nst hn
  have S0 : Sr B M σ (upd H p (.dK [])) env := S.new hn
  refine h B M σ _ S0 _ fun x H1 k hk S1 e1 i1 => hk B M σ H1 S1 _ fun y H2 v ⟨kk, w, h1, h2, hp⟩ S2 e2 i2 => ?_
  have f : Fx B.st H H2 := ((Fx.new hn).trans e1).trans e2
  have hp2 : H2 p = some (.dK []) := e2.1 _ _ np (e1.1 _ _ np upd_same)
  have ex : x = kV kk := is_key i1 h1
  have ey : y = w := is_flat i2 h2
  subst ex
  subst ey
  refine ⟨hp2, [(kk, y)], rfl, by simp, ?_⟩
  have hm : mergeK [] [(kk, y)] = [(kk, y)] := rfl
  rw [hm]
  have hf : ∀ kv ∈ [(kk, y)], flatV kv.2 = true := fun kv hkv => by rw [List.mem_singleton.mp hkv]; exact flat_of h2
  exact q p _ (.dK [(kk, y)]) (.dK [(kk, y)]) hp (S.newIn' hn (f.mut hn np) upd_same) (f.mut hn np) upd_same (.dK hf) hn
end
end DL

namespace DL
open PySem PySem.Spec PyProof.Rows L2

/-! ### the places that are found from a start along moves that may lack, and their words -/
def stO (kvs : List (List Key × V)) (p c : Nat) : Option Nat := match valV kvs (kk p c) with
  | some (.int q) => some q.toNat
  | _ => none
def wkO (kvs : List (List Key × V)) (p : Nat) (w : List Nat) : Option Nat := w.foldl (fun o c => o.bind fun p => stO kvs p c) (some p)
theorem wkO_snoc (kvs : List (List Key × V)) (p : Nat) (w : List Nat) (c : Nat) : wkO kvs p (w ++ [c]) = (wkO kvs p w).bind fun q => stO kvs q c := by
  unfold wkO
  rw [List.foldl_append]
  rfl
/-- the values are places below N -/
def Mv (kvs : List (List Key × V)) (N : Nat) : Prop := ∀ p c v, valV kvs (kk p c) = some v → ∃ q : Nat, v = .int (q : Int) ∧ q < N
def fwL (kvs : List (List Key × V)) (t : Nat) (s : Fd) (c : Nat) : Fd := match stO kvs (s.1.getD t 0) c with
  | none => s
  | some q => if q ∈ s.1 then s else (s.1 ++ [q], s.2 ++ [s.2.getD t [] ++ [c]])
def fwT (kvs : List (List Key × V)) (ls : List Nat) (s : Fd) (t : Nat) : Fd := if t < s.1.length then ls.foldl (fwL kvs t) s else s
def fw (kvs : List (List Key × V)) (ls : List Nat) (p0 m : Nat) : Fd := (List.range m).foldl (fwT kvs ls) ([p0], [[]])
theorem fw_succ (kvs : List (List Key × V)) (ls : List Nat) (p0 t : Nat) : fw kvs ls p0 (t + 1) = fwT kvs ls (fw kvs ls p0 t) t := by
  unfold fw
  rw [List.range_succ, List.foldl_append]
  rfl
structure WI (kvs : List (List Key × V)) (ls : List Nat) (p0 N : Nat) (s : Fd) : Prop where
  len : s.2.length = s.1.length
  zero : s.1[0]? = some p0
  nd : s.1.Nodup
  lt : ∀ x ∈ s.1, x < N
  way : ∀ i w, s.2[i]? = some w → wkO kvs p0 w = s.1[i]? ∧ (∀ c ∈ w, c ∈ ls) ∧ w.length ≤ i
section
variable {kvs : List (List Key × V)} {ls : List Nat} {p0 N : Nat}
theorem stO_lt (M : Mv kvs N) {p c q : Nat} (h : stO kvs p c = some q) : q < N ∧ valV kvs (kk p c) = some (.int (q : Int)) := by
  unfold stO at h
  cases e : valV kvs (kk p c) with
  | none => rw [e] at h; cases h
  | some v =>
    rw [e] at h
    obtain ⟨r, rfl, hr⟩ := M p c v e
    have : r = q := by simpa using h
    subst this
    exact ⟨hr, rfl⟩
theorem stO_none (M : Mv kvs N) {p c : Nat} (h : stO kvs p c = none) : valV kvs (kk p c) = none := by
  unfold stO at h
  cases e : valV kvs (kk p c) with
  | none => rfl
  | some v =>
    rw [e] at h
    obtain ⟨r, rfl, hr⟩ := M p c v e
    cases h
theorem WI.init (h : p0 < N) : WI kvs ls p0 N ([p0], [[]]) := ⟨rfl, rfl, by simp, fun x hx => by rw [List.mem_singleton.mp hx]; exact h, fun i w hw => by
  cases i with
  | zero => cases hw; exact ⟨rfl, (fun _ z => nomatch z), Nat.le_refl _⟩
  | succ i => simp at hw⟩
theorem WI.at {s : Fd} (h : WI kvs ls p0 N s) {t : Nat} (ht : t < s.1.length) : s.1[t]? = some (s.1.getD t 0) ∧ s.2[t]? = some (s.2.getD t []) ∧ s.1.getD t 0 < N ∧ (s.2.getD t []).length ≤ t := by
  have h2 : t < s.2.length := by rw [h.len]; exact ht
  have a : s.1[t]? = some (s.1.getD t 0) := by simp [List.getD_eq_getElem?_getD, ht]
  have b : s.2[t]? = some (s.2.getD t []) := by simp [List.getD_eq_getElem?_getD, h2]
  exact ⟨a, b, h.lt _ (List.mem_of_getElem? a), (h.way t _ b).2.2⟩
theorem WI.stepL (M : Mv kvs N) {s : Fd} (h : WI kvs ls p0 N s) {t c : Nat} (ht : t < s.1.length) (hc : c ∈ ls) :
    WI kvs ls p0 N (fwL kvs t s c) ∧ s.1 <+: (fwL kvs t s c).1 ∧ s.2 <+: (fwL kvs t s c).2 ∧ ∀ q, stO kvs (s.1.getD t 0) c = some q → q ∈ (fwL kvs t s c).1 := by
  obtain ⟨hp, hw, hpn, hwl⟩ := h.at ht
  unfold fwL
  cases e : stO kvs (s.1.getD t 0) c with
  | none => exact ⟨h, List.prefix_rfl, List.prefix_rfl, fun q hq => nomatch hq⟩
  | some q =>
    dsimp only
    split
    · rename_i hm
      exact ⟨h, List.prefix_rfl, List.prefix_rfl, fun r hr => by cases hr; exact hm⟩
    · rename_i hm
      obtain ⟨w1, w2, w3⟩ := h.way t _ hw
      have e0 : wkO kvs p0 (s.2.getD t [] ++ [c]) = some q := by rw [wkO_snoc, w1, hp]; exact e
      refine ⟨⟨by simp [h.len], ?_, ?_, fun x hx => ?_, fun i w hi => ?_⟩, List.prefix_append _ _, List.prefix_append _ _, fun r hr => by cases hr; simp⟩
      · show (s.1 ++ _)[0]? = _
        rw [List.getElem?_append_left (by omega)]
        exact h.zero
      · rw [List.nodup_append]
        exact ⟨h.nd, by simp, fun a ha b hb e => hm (by rw [← List.mem_singleton.mp hb, ← e]; exact ha)⟩
      · rcases List.mem_append.mp hx with z | z
        · exact h.lt x z
        · rw [List.mem_singleton.mp z]
          exact (stO_lt M e).1
      · have hi : (s.2 ++ [s.2.getD t [] ++ [c]])[i]? = some w := hi
        by_cases hl : i < s.2.length
        · rw [List.getElem?_append_left hl] at hi
          obtain ⟨g1, g2, g3⟩ := h.way i w hi
          refine ⟨?_, g2, g3⟩
          show _ = (s.1 ++ _)[i]?
          rw [List.getElem?_append_left (by rw [← h.len]; exact hl)]
          exact g1
        · have hil : i = s.2.length := by
            have := (List.getElem?_eq_some_iff.mp hi).1
            rw [List.length_append, List.length_singleton] at this
            omega
          subst hil
          rw [List.getElem?_append_right (Nat.le_refl _), Nat.sub_self] at hi
          obtain rfl : s.2.getD t [] ++ [c] = w := Option.some.inj hi
          refine ⟨?_, fun x hx => ?_, ?_⟩
          · show _ = (s.1 ++ _)[s.2.length]?
            rw [h.len, List.getElem?_append_right (Nat.le_refl _), Nat.sub_self, e0]
            rfl
          · rcases List.mem_append.mp hx with z | z
            · exact w2 x z
            · rw [List.mem_singleton.mp z]; exact hc
          · rw [List.length_append, List.length_singleton]
            have := h.len
            omega
theorem WI.stepLs (M : Mv kvs N) {t : Nat} : ∀ (cs : List Nat) {s : Fd}, WI kvs ls p0 N s → t < s.1.length → (∀ c ∈ cs, c ∈ ls) →
    WI kvs ls p0 N (cs.foldl (fwL kvs t) s) ∧ s.1 <+: (cs.foldl (fwL kvs t) s).1 ∧ s.2 <+: (cs.foldl (fwL kvs t) s).2 ∧ ∀ c ∈ cs, ∀ q, stO kvs (s.1.getD t 0) c = some q → q ∈ (cs.foldl (fwL kvs t) s).1
  | [], s, h, _, _ => ⟨h, List.prefix_rfl, List.prefix_rfl, (fun _ z => nomatch z)⟩
  | c :: cs, s, h, ht, hc => by
    obtain ⟨a, b, b', d⟩ := h.stepL M ht (hc c List.mem_cons_self)
    have ht' : t < (fwL kvs t s c).1.length := Nat.lt_of_lt_of_le ht b.length_le
    obtain ⟨a2, b2, b2', d2⟩ := WI.stepLs M cs a ht' fun x hx => hc x (List.mem_cons_of_mem _ hx)
    refine ⟨a2, b.trans b2, b'.trans b2', fun x hx q hq => ?_⟩
    rcases List.mem_cons.mp hx with rfl | hx
    · exact b2.subset (d q hq)
    · refine d2 x hx q ?_
      rw [pre_getD b ht]
      exact hq
def ClO (kvs : List (List Key × V)) (ls : List Nat) (s : Fd) (k : Nat) : Prop := ∀ i, i < k → ∀ p, s.1[i]? = some p → ∀ c ∈ ls, ∀ q, stO kvs p c = some q → q ∈ s.1
theorem WI.stepT (M : Mv kvs N) {t : Nat} {s : Fd} (h : WI kvs ls p0 N s) (hc : ClO kvs ls s t) : WI kvs ls p0 N (fwT kvs ls s t) ∧ ClO kvs ls (fwT kvs ls s t) (t + 1) ∧ s.1 <+: (fwT kvs ls s t).1 := by
  unfold fwT
  split
  · rename_i ht
    obtain ⟨a, b, _, d⟩ := h.stepLs M ls ht fun _ z => z
    refine ⟨a, fun i hi p hp c hcl q hq => ?_, b⟩
    have hil : i < s.1.length := by omega
    obtain ⟨r, hr⟩ := b
    rw [← hr, List.getElem?_append_left hil] at hp
    by_cases e : i = t
    · subst e
      have : s.1.getD i 0 = p := by rw [List.getD_eq_getElem?_getD, hp]; rfl
      exact d c hcl q (by rw [this]; exact hq)
    · rw [← hr]
      exact List.mem_append_left _ (hc i (by omega) p hp c hcl q hq)
  · rename_i ht
    refine ⟨h, fun i hi p hp c hcl q hq => ?_, List.prefix_rfl⟩
    have := (List.getElem?_eq_some_iff.mp hp).1
    exact hc i (by omega) p hp c hcl q hq
theorem WI.range (M : Mv kvs N) (h0 : p0 < N) : ∀ m, WI kvs ls p0 N (fw kvs ls p0 m) ∧ ClO kvs ls (fw kvs ls p0 m) m
  | 0 => ⟨.init h0, fun _ z => absurd z (Nat.not_lt_zero _)⟩
  | m + 1 => by
    have := WI.range M h0 m
    rw [fw_succ]
    obtain ⟨a, b, _⟩ := WI.stepT M this.1 this.2
    exact ⟨a, b⟩
theorem WI.len_le {s : Fd} (h : WI kvs ls p0 N s) : s.1.length ≤ N := by
  have := List.Nodup.length_le_of_subset h.nd (l₂ := List.range N) fun x hx => List.mem_range.mpr (h.lt x hx)
  rwa [List.length_range] at this
/-- gone through: nothing changes any more -/
theorem fw_stop {t : Nat} (h : (fw kvs ls p0 t).1.length ≤ t) : ∀ k, fw kvs ls p0 (t + k) = fw kvs ls p0 t
  | 0 => rfl
  | k + 1 => by
    rw [← Nat.add_assoc, fw_succ, fw_stop h k]
    unfold fwT
    rw [if_neg (by omega)]
theorem fw_end (M : Mv kvs N) (h0 : p0 < N) {t : Nat} (h : (fw kvs ls p0 t).1.length ≤ t) (ht : t ≤ N) : fw kvs ls p0 t = fw kvs ls p0 N := by
  have := fw_stop h (N - t)
  rw [show t + (N - t) = N by omega] at this
  exact this.symm
theorem fw_any (M : Mv kvs N) (h0 : p0 < N) {m : Nat} (hm : N ≤ m) : fw kvs ls p0 m = fw kvs ls p0 N := by
  have := fw_stop (kvs := kvs) (ls := ls) (p0 := p0) (t := N) (WI.range M h0 N).1.len_le (m - N)
  rwa [show N + (m - N) = m by omega] at this
/-- all places to which words lead are found -/
theorem fw_all (M : Mv kvs N) (h0 : p0 < N) {w : List Nat} {q : Nat} (hw : ∀ c ∈ w, c ∈ ls) (hq : wkO kvs p0 w = some q) : q ∈ (fw kvs ls p0 N).1 := by
  obtain ⟨h, hc⟩ := WI.range (ls := ls) M h0 N
  have cl : ∀ p ∈ (fw kvs ls p0 N).1, ∀ c ∈ ls, ∀ q, stO kvs p c = some q → q ∈ (fw kvs ls p0 N).1 := fun p hp c hcl q hq => by
    obtain ⟨i, hi⟩ := List.mem_iff_getElem?.mp hp
    have hil := (List.getElem?_eq_some_iff.mp hi).1
    exact hc i (Nat.lt_of_lt_of_le hil h.len_le) p hi c hcl q hq
  have all : ∀ (w : List Nat) (o : Option Nat), (∀ p, o = some p → p ∈ (fw kvs ls p0 N).1) → (∀ c ∈ w, c ∈ ls) → ∀ q, w.foldl (fun o c => o.bind fun p => stO kvs p c) o = some q → q ∈ (fw kvs ls p0 N).1 := by
    intro w
    induction w with
    | nil => intro o ho _ q hq; exact ho q hq
    | cons c w ih =>
      intro o ho hw q hq
      refine ih _ (fun p hp => ?_) (fun x hx => hw x (List.mem_cons_of_mem _ hx)) q hq
      obtain ⟨p1, e1, e2⟩ := Option.bind_eq_some_iff.mp hp
      exact cl p1 (ho p1 e1) c (hw c List.mem_cons_self) p e2
  exact all w (some p0) (fun p hp => by cases hp; exact List.mem_of_getElem? h.zero) hw q hq
/-- of an action: as the law finds them -/
theorem fwL_act {n : Nat} (A : Act n ls kvs) {s : Fd} {t c : Nat} (hp : s.1.getD t 0 < n) (hc : c ∈ ls) : fwL kvs t s c = fnL kvs t s c := by
  have : stO kvs (s.1.getD t 0) c = some (stp kvs (s.1.getD t 0) c) := by
    unfold stO
    rw [(A _ hp c hc).1]
    simp
  unfold fwL fnL
  rw [this]
theorem Act.mv {n : Nat} (A : Act n ls kvs) (h : ∀ p c v, valV kvs (kk p c) = some v → p < n ∧ c ∈ ls) : Mv kvs n := fun p c v hv => by
  obtain ⟨h1, h2⟩ := h p c v hv
  obtain ⟨a, b, _⟩ := A p h1 c h2
  rw [a] at hv
  exact ⟨_, (Option.some.inj hv).symm, b⟩
theorem fwT_act {n : Nat} (A : Act n ls kvs) {s : Fd} (h : FI kvs ls n s) {t : Nat} : fwT kvs ls s t = fnT kvs ls s t := by
  unfold fwT fnT
  split
  · rename_i ht
    have go : ∀ (cs : List Nat) (s : Fd), FI kvs ls n s → t < s.1.length → (∀ c ∈ cs, c ∈ ls) → cs.foldl (fwL kvs t) s = cs.foldl (fnL kvs t) s := by
      intro cs
      induction cs with
      | nil => intro s _ _ _; rfl
      | cons c cs ih =>
        intro s h ht hc
        have hpn : s.1.getD t 0 < n := h.lt _ (by rw [List.getD_eq_getElem?_getD, List.getElem?_eq_getElem ht]; exact List.getElem_mem ht)
        obtain ⟨a, b, _⟩ := h.stepL A ht (hc c List.mem_cons_self)
        rw [List.foldl_cons, List.foldl_cons, fwL_act A hpn (hc c List.mem_cons_self)]
        exact ih _ a (Nat.lt_of_lt_of_le ht b.length_le) fun x hx => hc x (List.mem_cons_of_mem _ hx)
    exact go ls s h ht fun _ z => z
  · rfl
theorem fw_act {n : Nat} (A : Act n ls kvs) (h0 : 0 < n) : ∀ m, fw kvs ls 0 m = fnd kvs ls m
  | 0 => rfl
  | m + 1 => by
    have e : fnd kvs ls (m + 1) = fnT kvs ls (fnd kvs ls m) m := by
      unfold fnd
      rw [List.range_succ, List.foldl_append]
      rfl
    rw [fw_succ, e, fw_act A h0 m]
    exact fwT_act A (FI.range A h0 m).1
end
/-! ### kept in a dict -/
def wd (s : Fd) : List (Key × V) := (s.1.zip s.2).map fun x => (.inl (x.1 : Int), .str ⟨x.2.toArray⟩)
theorem wd_len {s : Fd} (h : s.2.length = s.1.length) : (wd s).length = s.1.length := by
  unfold wd
  rw [List.length_map, List.length_zip, h, Nat.min_self]
theorem wd_snoc {s : Fd} (h : s.2.length = s.1.length) (q : Nat) (w : List Nat) : wd (s.1 ++ [q], s.2 ++ [w]) = wd s ++ [(.inl (q : Int), .str ⟨w.toArray⟩)] := by
  unfold wd
  rw [List.zip_append h.symm, List.map_append]
  rfl
theorem wd_look : ∀ {ps : List Nat} {ws : List (List Nat)} {q : Nat}, ws.length = ps.length → (q ∉ ps → valV (wd (ps, ws)) (.inl (q : Int)) = none) ∧ ∀ (i : Nat) (w : List Nat), ps.Nodup → ps[i]? = some q → ws[i]? = some w → valV (wd (ps, ws)) (.inl (q : Int)) = some (.str ⟨w.toArray⟩)
  | [], [], q, _ => ⟨fun _ => rfl, fun i w _ h => by simp at h⟩
  | p :: ps, w0 :: ws, q, h => by
    have ih := wd_look (ps := ps) (ws := ws) (q := q) (by simpa using h)
    have e : wd (p :: ps, w0 :: ws) = (.inl (p : Int), .str ⟨w0.toArray⟩) :: wd (ps, ws) := rfl
    rw [e]
    constructor
    · intro hq
      rw [valV_neg (by
        show ¬ (Sum.inl (p : Int) : Key) = .inl (q : Int)
        intro z
        injection z with z
        exact hq (by rw [show q = p by omega]; exact List.mem_cons_self))]
      exact ih.1 fun z => hq (List.mem_cons_of_mem _ z)
    · intro i w nd hi hw
      cases i with
      | zero =>
        simp at hi hw
        subst hi
        subst hw
        exact valV_pos rfl
      | succ i =>
        simp at hi hw
        have hn := List.nodup_cons.mp nd
        rw [valV_neg (by
          show ¬ (Sum.inl (p : Int) : Key) = .inl (q : Int)
          intro z
          injection z with z
          exact hn.1 (by rw [show p = q by omega]; exact List.mem_of_getElem? hi))]
        exact ih.2 i w hn.2 hi hw
theorem wd_put {s : Fd} (h : s.2.length = s.1.length) {q : Nat} (hq : q ∉ s.1) (w : List Nat) : putK (wd s) (.inl (q : Int)) (.str ⟨w.toArray⟩) = wd (s.1 ++ [q], s.2 ++ [w]) := by
  unfold putK
  rw [valV_any, (wd_look (ps := s.1) (ws := s.2) (q := q) h).1 hq, wd_snoc h]
  rfl
theorem wd_keys {s : Fd} (h : s.2.length = s.1.length) : (wd s).map (fun kv => keyD kv.1) = (rowI s.1).map D.int := by
  unfold wd rowI
  rw [List.map_map, List.map_map]
  have : ∀ (ps : List Nat) (ws : List (List Nat)), ws.length = ps.length → (ps.zip ws).map ((fun kv : Key × V => keyD kv.1) ∘ fun x : Nat × List Nat => ((Sum.inl (x.1 : Int) : Key), V.str ⟨x.2.toArray⟩)) = ps.map (D.int ∘ fun x : Nat => (x : Int)) := by
    intro ps
    induction ps with
    | nil => intro ws _; rfl
    | cons p ps ih =>
      intro ws hw
      cases ws with
      | nil => simp at hw
      | cons w ws =>
        rw [List.zip_cons_cons, List.map_cons, List.map_cons, ih ws (by simpa using hw)]
        rfl
  exact this _ _ h
theorem wd_vals {s : Fd} (h : s.2.length = s.1.length) : (wd s).map (fun kv => valD kv.2) = s.2.map D.str := by
  unfold wd
  rw [List.map_map]
  have : ∀ (ps : List Nat) (ws : List (List Nat)), ws.length = ps.length → (ps.zip ws).map ((fun kv : Key × V => valD kv.2) ∘ fun x : Nat × List Nat => ((Sum.inl (x.1 : Int) : Key), V.str ⟨x.2.toArray⟩)) = ws.map D.str := by
    intro ps
    induction ps with
    | nil => intro ws hw; cases ws with | nil => rfl | cons _ _ => simp at hw
    | cons p ps ih =>
      intro ws hw
      cases ws with
      | nil => simp at hw
      | cons w ws =>
        rw [List.zip_cons_cons, List.map_cons, List.map_cons, ih ws (by simpa using hw)]
        show valD (.str ⟨w.toArray⟩) :: _ = _
        unfold valD
        simp
  exact this _ _ h
end DL

namespace DL
open PySem PySem.Spec PyProof.Rows L2

/-! ### the moves of an action, no others; a word again and again -/
theorem put_some : ∀ (es : List Ed) {kvs : List (List Key × V)} {k : List Key} {v : V}, valV (es.foldl put2 kvs) k = some v → (∃ e ∈ es, kk e.1 e.2.1 = k ∨ kk e.2.2 (sw e.2.1) = k) ∨ valV kvs k = some v
  | [], _, _, _, h => .inr h
  | e :: es, kvs, k, v, h => by
    rcases put_some es (kvs := put2 kvs e) h with ⟨x, hx, hk⟩ | h
    · exact .inl ⟨x, List.mem_cons_of_mem _ hx, hk⟩
    · unfold put2 at h
      rw [valV_put, valV_put] at h
      by_cases z1 : k = kk e.2.2 (sw e.2.1)
      · exact .inl ⟨e, List.mem_cons_self, .inr z1.symm⟩
      · by_cases z2 : k = kk e.1 e.2.1
        · exact .inl ⟨e, List.mem_cons_self, .inl z2.symm⟩
        · rw [if_neg z1, if_neg z2] at h
          exact .inr h
theorem SM_lsR {j k c : Nat} (h1 : 1 ≤ k) (h2 : k ≤ 3) (hj : j < k) (hs : SM[j]? = some c) : c ∈ lsR k ∧ sw c ∈ lsR k := by
  have h : k = 1 ∨ k = 2 ∨ k = 3 := by omega
  have hc : c ∈ SM := List.mem_of_getElem? hs
  rcases h with rfl | rfl | rfl
  · obtain rfl : j = 0 := by omega
    cases hs
    decide
  · have hj : j = 0 ∨ j = 1 := by omega
    rcases hj with rfl | rfl <;> (cases hs; decide)
  · have hj : j = 0 ∨ j = 1 ∨ j = 2 := by omega
    rcases hj with rfl | rfl | rfl <;> (cases hs; decide)
theorem mvs_dom {n : Nat} {rows : List (List Nat)} (h : okA n rows) {p c : Nat} {v : V} (hv : valV (mvs (edgesOf rows)) (kk p c) = some v) : p < n ∧ c ∈ lsR rows.length := by
  rcases put_some (edgesOf rows) hv with ⟨e, he, hk⟩ | z
  · obtain ⟨j, c0, r, g1, g2, g3, g4⟩ := mem_edges.mp he
    have hj := (List.getElem?_eq_some_iff.mp g2).1
    have hr := h.2.2.2.2 r (List.mem_of_getElem? g2)
    obtain ⟨l1, l2⟩ := SM_lsR h.1 h.2.1 hj g1
    rcases hk with hk | hk
    · obtain ⟨rfl, rfl⟩ := kk_inj.mp hk
      refine ⟨?_, by rw [g3]; exact l1⟩
      rw [← perm_len hr]
      exact (List.getElem?_eq_some_iff.mp g4).1
    · obtain ⟨rfl, rfl⟩ := kk_inj.mp hk
      exact ⟨(perm_lt hr).mp (List.mem_of_getElem? g4), by rw [g3]; exact l2⟩
  · cases z
theorem okA_mv {n : Nat} {rows : List (List Nat)} (h : okA n rows) : Mv (mvs (edgesOf rows)) n := (okA_act h).mv fun _ _ _ hv => mvs_dom h hv
def itw (kvs : List (List Key × V)) (w : List Nat) (p : Nat) : Nat → Nat
  | 0 => p
  | k + 1 => wk kvs (itw kvs w p k) w
/-- the least number of times to come back to 0 -/
def LP (kvs : List (List Key × V)) (w : List Nat) (m : Nat) : Prop := 1 ≤ m ∧ itw kvs w 0 m = 0 ∧ ∀ j, 1 ≤ j → j < m → itw kvs w 0 j ≠ 0
section
variable {kvs : List (List Key × V)} {ls : List Nat} {n : Nat} {w : List Nat}
theorem itw_lt (A : Act n ls kvs) (hw : ∀ c ∈ w, c ∈ ls) {p : Nat} (h : p < n) : ∀ k, itw kvs w p k < n
  | 0 => h
  | k + 1 => wk_lt A (itw_lt A hw h k) hw
theorem itw_add (p a : Nat) : ∀ b, itw kvs w p (a + b) = itw kvs w (itw kvs w p a) b
  | 0 => rfl
  | b + 1 => by
    show wk kvs (itw kvs w p (a + b)) w = wk kvs _ w
    rw [itw_add p a b]
theorem itw_succ' (p : Nat) (k : Nat) : itw kvs w p (k + 1) = itw kvs w (wk kvs p w) k := by
  rw [Nat.add_comm, itw_add]
  rfl
theorem wk_inj (A : Act n ls kvs) (hls : ∀ c ∈ ls, c ∈ LTR) (hsw : ∀ c ∈ ls, sw c ∈ ls) (hw : ∀ c ∈ w, c ∈ ls) {p q : Nat} (hp : p < n) (hq : q < n) (h : wk kvs p w = wk kvs q w) : p = q := by
  have e1 := wk_inv A hls hsw hp hw
  have e2 := wk_inv A hls hsw hq hw
  rw [h, e2] at e1
  exact e1.symm
theorem itw_inj (A : Act n ls kvs) (hls : ∀ c ∈ ls, c ∈ LTR) (hsw : ∀ c ∈ ls, sw c ∈ ls) (hw : ∀ c ∈ w, c ∈ ls) : ∀ (k : Nat) {p q : Nat}, p < n → q < n → itw kvs w p k = itw kvs w q k → p = q
  | 0, _, _, _, _, h => h
  | k + 1, p, q, hp, hq, h => itw_inj A hls hsw hw k hp hq (wk_inj A hls hsw hw (itw_lt A hw hp k) (itw_lt A hw hq k) h)
theorem itw_word (p : Nat) : ∀ k, itw kvs w p k = wk kvs p (List.replicate k w).flatten
  | 0 => rfl
  | k + 1 => by
    rw [itw_succ', itw_word (wk kvs p w) k, List.replicate_succ, List.flatten_cons, wk_app]
theorem rep_mem {ls : List Nat} (hw : ∀ c ∈ w, c ∈ ls) : ∀ k, ∀ c ∈ (List.replicate k w).flatten, c ∈ ls
  | 0 => fun _ h => by cases h
  | k + 1 => fun c h => by
    rw [List.replicate_succ, List.flatten_cons] at h
    exact (List.mem_append.mp h).elim (hw c) (rep_mem hw k c)
/-- it comes back, within as many times as points are found -/
theorem itw_back (A : Act n ls kvs) (h0 : 0 < n) (hls : ∀ c ∈ ls, c ∈ LTR) (hsw : ∀ c ∈ ls, sw c ∈ ls) (hw : ∀ c ∈ w, c ∈ ls) : ∃ m, 1 ≤ m ∧ m ≤ (fnd kvs ls n).1.length ∧ itw kvs w 0 m = 0 := by
  have all : ∀ k, itw kvs w 0 k ∈ (fnd kvs ls n).1 := fun k => by rw [itw_word]; exact fnd_all A h0 _ (rep_mem hw k)
  have key : ¬ ((List.range ((fnd kvs ls n).1.length + 1)).map (itw kvs w 0)).Nodup := fun nd => by
    have := List.Nodup.length_le_of_subset nd (l₂ := (fnd kvs ls n).1) fun x hx => by
      obtain ⟨k, _, rfl⟩ := List.mem_map.mp hx
      exact all k
    rw [List.length_map, List.length_range] at this
    omega
  obtain ⟨i, j, hij, hj, he⟩ : ∃ i j, i < j ∧ j ≤ (fnd kvs ls n).1.length ∧ itw kvs w 0 i = itw kvs w 0 j := by
    refine Classical.byContradiction fun hno => key ?_
    unfold List.Nodup
    rw [List.pairwise_iff_getElem]
    intro a b ha hb hab e
    rw [List.getElem_map, List.getElem_map, List.getElem_range, List.getElem_range] at e
    rw [List.length_map, List.length_range] at hb
    exact hno ⟨a, b, hab, by omega, e⟩
  refine ⟨j - i, by omega, by omega, ?_⟩
  have e2 : itw kvs w 0 j = itw kvs w (itw kvs w 0 (j - i)) i := by rw [← itw_add]; congr 1; omega
  rw [e2] at he
  exact (itw_inj A hls hsw hw i h0 (itw_lt A hw h0 _) he).symm
theorem LP.uniq {m m' : Nat} (h : LP kvs w m) (h' : LP kvs w m') : m = m' := by
  rcases Nat.lt_trichotomy m m' with z | z | z
  · exact absurd h.2.1 (h'.2.2 m h.1 z)
  · exact z
  · exact absurd h'.2.1 (h.2.2 m' h'.1 z)
theorem LP.mul {m : Nat} (h : LP kvs w m) : ∀ q, itw kvs w 0 (m * q) = 0
  | 0 => rfl
  | q + 1 => by
    rw [Nat.mul_succ, itw_add, h.mul q]
    exact h.2.1
theorem LP.dvd {m : Nat} (h : LP kvs w m) (k : Nat) : itw kvs w 0 k = 0 ↔ k % m = 0 := by
  have e : itw kvs w 0 k = itw kvs w 0 (k % m) := by
    conv => lhs; rw [← Nat.div_add_mod k m]
    rw [itw_add, h.mul]
  rw [e]
  constructor
  · intro hz
    by_cases hk : k % m = 0
    · exact hk
    · exact absurd hz (h.2.2 _ (by omega) (Nat.mod_lt _ h.1))
  · intro hz
    rw [hz]
    rfl
theorem itw_inv (A : Act n ls kvs) (hls : ∀ c ∈ ls, c ∈ LTR) (hsw : ∀ c ∈ ls, sw c ∈ ls) (hw : ∀ c ∈ w, c ∈ ls) : ∀ (k : Nat) {p : Nat}, p < n → itw kvs (inv w) (itw kvs w p k) k = p
  | 0, _, _ => rfl
  | k + 1, p, hp => by
    rw [itw_succ']
    show itw kvs (inv w) (wk kvs (wk kvs (itw kvs w p k) w) (inv w)) k = p
    rw [wk_inv A hls hsw (itw_lt A hw hp k) hw]
    exact itw_inv A hls hsw hw k hp
theorem itw_inv0 (A : Act n ls kvs) (hls : ∀ c ∈ ls, c ∈ LTR) (hsw : ∀ c ∈ ls, sw c ∈ ls) (hw : ∀ c ∈ w, c ∈ ls) (h0 : 0 < n) {k : Nat} (h : itw kvs w 0 k = 0) : itw kvs (inv w) 0 k = 0 := by
  have := itw_inv A hls hsw hw k h0
  rwa [h] at this
theorem LP.inv (A : Act n ls kvs) (hls : ∀ c ∈ ls, c ∈ LTR) (hsw : ∀ c ∈ ls, sw c ∈ ls) (hw : ∀ c ∈ w, c ∈ ls) (h0 : 0 < n) {m : Nat} (h : LP kvs w m) : LP kvs (inv w) m := by
  refine ⟨h.1, itw_inv0 A hls hsw hw h0 h.2.1, fun j h1 h2 hz => h.2.2 j h1 h2 ?_⟩
  have hi : ∀ c ∈ DL.inv w, c ∈ ls := fun c hc => by
    obtain ⟨x, hx, rfl⟩ := List.mem_map.mp hc
    exact hsw x (hw x (List.mem_reverse.mp hx))
  have := itw_inv0 A hls hsw hi h0 hz
  rwa [inv_inv fun c hc => hls c (hw c hc)] at this
end
end DL

namespace DL
open PySem PySem.Spec PyProof.Rows L2

/-! ### data as they are compared: ==, !=, <, > of any depth -/
mutual
def pyD : D → PyData
  | .non => .none
  | .bl b => .bool b
  | .int i => .int i
  | .str s => .str ⟨s.toArray⟩
  | .tup ds => .tuple (pyDs ds)
  | .ptp ds => .tuple (pyDs ds)
  | .lst ds => .list (pyDs ds)
  | .ty _ => .none
  | .stm => .none
  | .exc .. => .none
  | .cls _ => .none
  | .dK _ => .none
  | .dT _ => .none
  | .dKx .. => .none
  | .dTx .. => .none
def pyDs : List D → List PyData
  | [] => []
  | d :: ds => pyD d :: pyDs ds
end
mutual
/-- what can be compared, of depth n at most -/
def plD : Nat → D → Bool
  | _, .non => true
  | _, .bl _ => true
  | _, .int _ => true
  | _, .str s => s.all fun c => decide (c < 0x110000)
  | n, .tup ds => decide (0 < n) && plDs (n - 1) ds
  | n, .ptp ds => decide (0 < n) && plDs (n - 1) ds
  | n, .lst ds => decide (0 < n) && plDs (n - 1) ds
  | _, .ty _ => false
  | _, .stm => false
  | _, .exc .. => false
  | _, .cls _ => false
  | _, .dK _ => false
  | _, .dT _ => false
  | _, .dKx .. => false
  | _, .dTx .. => false
def plDs : Nat → List D → Bool
  | _, [] => true
  | n, d :: ds => plD n d && plDs n ds
end
theorem pyDs_map (ds : List D) : pyDs ds = ds.map pyD := by
  induction ds with
  | nil => rfl
  | cons d ds ih => rw [pyDs, ih, List.map_cons]
theorem plDs_all (n : Nat) (ds : List D) : plDs n ds = ds.all (plD n) := by
  induction ds with
  | nil => rfl
  | cons d ds ih => rw [plDs, ih, List.all_cons]
mutual
theorem dp_of {K : PySem.W.Frag} {st : Addr} {M : List Addr} {H : Hp} : ∀ {n : Nat} {d : D} {v : V}, plD n d = true → Is st M H v d → Dp K H v (pyD d)
  | _, .non, _, _, .non => by rw [pyD]; exact .non
  | _, .bl b, _, _, .bl _ => by rw [pyD]; exact .bl b
  | _, .int i, _, _, .int _ => by rw [pyD]; exact .int i
  | _, .str s, _, _, .str _ => by rw [pyD]; exact .str _
  | n, .tup ds, _, h, .tup hl hs => by
    rw [pyD]
    rw [plD, Bool.and_eq_true] at h
    exact .tup (.of hl) (dps_of h.2 hs)
  | n, .ptp ds, _, h, .ptp hm hl hc hs => by
    rw [pyD]
    rw [plD, Bool.and_eq_true] at h
    exact .tup (.ofF hl) (dps_of h.2 hs)
  | n, .lst ds, _, h, .lst hm hl hs => by
    rw [pyD]
    rw [plD, Bool.and_eq_true] at h
    exact .lst (.of hl) (dps_of h.2 hs)
  | _, .ty _, _, h, _ => by rw [plD] at h; cases h
  | _, .stm, _, h, _ => by rw [plD] at h; cases h
  | _, .exc .., _, h, _ => by rw [plD] at h; cases h
  | _, .cls _, _, h, _ => by rw [plD] at h; cases h
  | _, .dK _, _, h, _ => by rw [plD] at h; cases h
  | _, .dT _, _, h, _ => by rw [plD] at h; cases h
  | _, .dKx .., _, h, _ => by rw [plD] at h; cases h
  | _, .dTx .., _, h, _ => by rw [plD] at h; cases h
theorem dps_of {K : PySem.W.Frag} {st : Addr} {M : List Addr} {H : Hp} : ∀ {n : Nat} {ds : List D} {vs : List V}, plDs n ds = true → Iss st M H vs ds → DpAll K H vs (pyDs ds)
  | _, [], _, _, .nil => by rw [pyDs]; exact .nil
  | n, d :: ds, _, h, .cons a b => by
    rw [pyDs]
    rw [plDs, Bool.and_eq_true] at h
    exact .cons (dp_of h.1 a) (dps_of h.2 b)
end
theorem strOk_of {s : List Nat} (h : (s.all fun c => decide (c < 0x110000)) = true) : PyData.strOk ⟨s.toArray⟩ = true := by
  unfold PyData.strOk
  simpa using h
mutual
theorem can_of : ∀ {n : Nat} {d : D}, plD n d = true → (pyD d).canLay0 = true ∧ (pyD d).depth ≤ n
  | n, .non, _ => by rw [pyD]; exact ⟨by simp [PyData.canLay0], by simp [PyData.depth]⟩
  | n, .bl b, _ => by rw [pyD]; exact ⟨by simp [PyData.canLay0], by simp [PyData.depth]⟩
  | n, .int i, _ => by rw [pyD]; exact ⟨by simp [PyData.canLay0], by simp [PyData.depth]⟩
  | n, .str s, h => by
    rw [pyD]
    rw [plD] at h
    exact ⟨by simp [PyData.canLay0, strOk_of h], by simp [PyData.depth]⟩
  | n, .tup ds, h => by
    rw [pyD]
    rw [plD, Bool.and_eq_true] at h
    have h0 : 0 < n := of_decide_eq_true h.1
    obtain ⟨a, b⟩ := cans_of h.2
    exact ⟨by simp [PyData.canLay0, a], by simp only [PyData.depth]; omega⟩
  | n, .ptp ds, h => by
    rw [pyD]
    rw [plD, Bool.and_eq_true] at h
    have h0 : 0 < n := of_decide_eq_true h.1
    obtain ⟨a, b⟩ := cans_of h.2
    exact ⟨by simp [PyData.canLay0, a], by simp only [PyData.depth]; omega⟩
  | n, .lst ds, h => by
    rw [pyD]
    rw [plD, Bool.and_eq_true] at h
    have h0 : 0 < n := of_decide_eq_true h.1
    obtain ⟨a, b⟩ := cans_of h.2
    exact ⟨by simp [PyData.canLay0, a], by simp only [PyData.depth]; omega⟩
  | _, .ty _, h => by rw [plD] at h; cases h
  | _, .stm, h => by rw [plD] at h; cases h
  | _, .exc .., h => by rw [plD] at h; cases h
  | _, .cls _, h => by rw [plD] at h; cases h
  | _, .dK _, h => by rw [plD] at h; cases h
  | _, .dT _, h => by rw [plD] at h; cases h
  | _, .dKx .., h => by rw [plD] at h; cases h
  | _, .dTx .., h => by rw [plD] at h; cases h
theorem cans_of : ∀ {n : Nat} {ds : List D}, plDs n ds = true → PyData.canLayAll0 (pyDs ds) = true ∧ PyData.depthAll (pyDs ds) ≤ n
  | n, [], _ => by rw [pyDs]; exact ⟨by simp [PyData.canLayAll0], by simp [PyData.depthAll]⟩
  | n, d :: ds, h => by
    rw [pyDs]
    rw [plDs, Bool.and_eq_true] at h
    obtain ⟨a, b⟩ := can_of h.1
    obtain ⟨a2, b2⟩ := cans_of h.2
    exact ⟨by simp [PyData.canLayAll0, a, a2], by simp only [PyData.depthAll]; omega⟩
end
theorem shp_of {n : Nat} (hn : n ≤ 40) {d : D} (h : plD n d = true) : SeqAt.shaped (pyD d) = true := by
  obtain ⟨a, b⟩ := can_of h
  unfold SeqAt.shaped
  rw [a, decide_eq_true (by omega)]
  rfl
section
variable {K : PySem.W.Frag} {post : D → Prop} {a b : D}
theorem dop_eqG (n : Nat) (hn : n ≤ 40) (ha : plD n a = true) (hb : plD n b = true) (h : post (.bl (PyData.eqv (pyD a) (pyD b)))) : Dop (rEqD K) a b post := fun st M H v w hst hM trk iv iw Q q =>
  ⟨_, _, dp_of ha iv, dp_of hb iw, shp_of hn ha, shp_of hn hb, q _ H _ h (Fx.refl _ _) (.bl _)⟩
theorem dop_neG (n : Nat) (hn : n ≤ 40) (ha : plD n a = true) (hb : plD n b = true) (h : post (.bl (!PyData.eqv (pyD a) (pyD b)))) : Dop (rNeD K) a b post := fun st M H v w hst hM trk iv iw Q q =>
  ⟨_, _, dp_of ha iv, dp_of hb iw, shp_of hn ha, shp_of hn hb, q _ H _ h (Fx.refl _ _) (.bl _)⟩
theorem eqv_same (n : Nat) (ha : plD n a = true) : PyData.eqv (pyD a) (pyD a) = true := PySem.SeqAt.eqv_refl _ (can_of ha).1
/-- <, > of data that are alike -/
def rLtG (K : PySem.W.Frag) (sw : Bool) : R2 := fun x y H Q => ∃ d e, Dp K H x d ∧ Dp K H y e ∧ PySem.W.alike d e = true ∧ d ≠ .none ∧ d.depth ≤ 40 ∧ Q (.bl (if sw then PySem.W.dataLt e d else PySem.W.dataLt d e)) H
theorem od_gtG {X : Cx} (hu : X.A.units + 64 < cLine) : OpR X (compareOp .Gt) (rLtG X.K true) := by
  intro pins s σ H x y v u Q I rx ry h
  obtain ⟨d, e, hd, he, al, dn, dp, q⟩ := h
  obtain ⟨as, r1⟩ := Dp.reads I d x v hd rx
  obtain ⟨bs, r2⟩ := Dp.reads I e y u he ry
  exact PySem.W.gt_data r1 r2 al dn (by omega) ⟨.bl _, H, I, rfl, q⟩
theorem od_ltG {X : Cx} (hu : X.A.units + 64 < cLine) : OpR X (compareOp .Lt) (rLtG X.K false) := by
  intro pins s σ H x y v u Q I rx ry h
  obtain ⟨d, e, hd, he, al, dn, dp, q⟩ := h
  obtain ⟨as, r1⟩ := Dp.reads I d x v hd rx
  obtain ⟨bs, r2⟩ := Dp.reads I e y u he ry
  exact PySem.W.lt_data r1 r2 al dn (by omega) ⟨.bl _, H, I, rfl, q⟩
theorem dop_ltG {sw : Bool} (n : Nat) (hn : n ≤ 40) (ha : plD n a = true) (hb : plD n b = true) (hal : PySem.W.alike (pyD a) (pyD b) = true) (hnn : pyD a ≠ .none) (h : post (.bl (if sw then PySem.W.dataLt (pyD b) (pyD a) else PySem.W.dataLt (pyD a) (pyD b)))) : Dop (rLtG K sw) a b post := fun st M H v w hst hM trk iv iw Q q =>
  ⟨_, _, dp_of ha iv, dp_of hb iw, hal, hnn, by have := (can_of ha).2; omega, q _ H _ h (Fx.refl _ _) (.bl _)⟩
end
/-- x[i], x a list or a tuple -/
theorem dop_ixg {K : PySem.W.Frag} {post : D → Prop} {l : List D} {x : D} {i : Int} {c : D} (hx : seqD x = some l) (e : atI l i = some c) (h : post c) : Dop (rIx K) x (.int i) post := by
  cases x with
  | tup ds => cases hx; exact dop_ixq (.inl rfl) e h
  | lst ds => cases hx; exact dop_ixq (.inr rfl) e h
  | ptp ds =>
    cases hx
    exact fun st M H v w h1 h2 h3 iv iw Q q => .inr (.inl (dop_ixz (x := .ptp l) rfl e h st M H v w h1 h2 h3 iv iw Q q))
  | _ => cases hx
/-! ### keys of words -/
theorem pl_ints (n : Nat) (ns : List Int) : plDs n (ns.map D.int) = true := by
  rw [plDs_all, List.all_eq_true]
  intro x hx
  obtain ⟨i, _, rfl⟩ := List.mem_map.mp hx
  rfl
theorem pl_keyL (k : Int) (ns : List Int) : plD 2 (keyL k ns) = true := by
  unfold keyL
  simp [plD, plDs, pl_ints]
theorem pyDs_ints (ns : List Int) : pyDs (ns.map D.int) = ns.map PyData.int := by
  rw [pyDs_map, List.map_map]
  refine List.map_congr_left fun i _ => ?_
  show pyD (.int i) = _
  rw [pyD]
theorem py_keyL (k : Int) (ns : List Int) : pyD (keyL k ns) = .tuple [.int k, .list (ns.map PyData.int)] := by
  unfold keyL
  simp only [pyD, pyDs, pyDs_ints]
theorem alike_ints : ∀ ns ms : List Int, PySem.W.alikeAll (ns.map PyData.int) (ms.map PyData.int) = true
  | [], _ => by rw [List.map_nil, PySem.W.alikeAll]
  | _ :: _, [] => by rw [List.map_nil, List.map_cons, PySem.W.alikeAll]
  | x :: xs, y :: ys => by
    rw [List.map_cons, List.map_cons, PySem.W.alikeAll, alike_ints xs ys, PySem.W.alike]
    rfl
theorem toks_ints : ∀ ns ms : List Int, PyProof.Rows.lexLt itemOrd (PySem.W.keyToksAll (ns.map PyData.int)) (PySem.W.keyToksAll (ms.map PyData.int)) = HT.lexLt ns ms
  | [], [] => by
    rw [List.map_nil, PySem.W.keyToksAll, PySem.W.lex_one]
    rfl
  | [], y :: ys => by
    rw [List.map_nil, List.map_cons, PySem.W.keyToksAll, PySem.W.keyToksAll, HT.lexLt_nil_cons]
    exact PyProof.Rows.lex_diff (O := itemOrd) (by intro z; cases z)
  | x :: xs, [] => by
    rw [List.map_nil, List.map_cons, PySem.W.keyToksAll, PySem.W.keyToksAll, HT.lexLt_cons_nil]
    exact PyProof.Rows.lex_diff (O := itemOrd) (by intro z; cases z)
  | x :: xs, y :: ys => by
    rw [List.map_cons, List.map_cons, HT.lexLt_cons]
    have hal : PySem.W.alike (.int x) (.int y) = true := by rw [PySem.W.alike]
    by_cases h : x = y
    · rw [if_pos h, PySem.W.dataLt_all_yes hal (by rw [PyData.eqv, h]; exact beq_self_eq_true y)]
      exact toks_ints xs ys
    · rw [if_neg h, PySem.W.dataLt_all_no hal (by rw [PyData.eqv]; exact beq_eq_false_iff_ne.mpr h), PySem.W.dataLt_int]
theorem dataLt_key (n m : Int) (ns ms : List Int) : PySem.W.dataLt (pyD (keyL n ns)) (pyD (keyL m ms)) = ltN n ns m ms := by
  rw [py_keyL, py_keyL, PySem.W.dataLt_tuple]
  have hal : PySem.W.alike (.int n) (.int m) = true := by rw [PySem.W.alike]
  have hal2 : PySem.W.alike (.list (ns.map PyData.int)) (.list (ms.map PyData.int)) = true := by rw [PySem.W.alike]; exact alike_ints ns ms
  unfold ltN
  by_cases h : n = m
  · rw [if_pos h, PySem.W.dataLt_all_yes hal (by rw [PyData.eqv, h]; exact beq_self_eq_true m)]
    by_cases h2 : ns = ms
    · rw [PySem.W.dataLt_all_yes hal2 (by rw [PyData.eqv, eqv_ints, h2]; exact decide_eq_true rfl), h2, lex_irr, PySem.W.keyToksAll, PySem.W.lex_one]
      rfl
    · rw [PySem.W.dataLt_all_no hal2 (by rw [PyData.eqv, eqv_ints]; exact decide_eq_false h2), PySem.W.dataLt_list, toks_ints]
  · rw [if_neg h, PySem.W.dataLt_all_no hal (by rw [PyData.eqv]; exact beq_eq_false_iff_ne.mpr h), PySem.W.dataLt_int]
theorem dop_gtKey {K : PySem.W.Frag} {post : D → Prop} {n m : Int} {ns ms : List Int} (h : post (.bl (ltN m ms n ns))) : Dop (rLtG K true) (keyL n ns) (keyL m ms) post := by
  refine dop_ltG 2 (by decide) (pl_keyL _ _) (pl_keyL _ _) ?_ ?_ ?_
  · rw [py_keyL, py_keyL, PySem.W.alike, PySem.W.alikeAll, PySem.W.alikeAll, PySem.W.alikeAll, PySem.W.alike, PySem.W.alike, alike_ints]
    rfl
  · rw [py_keyL]
    intro z
    cases z
  · rw [if_pos rfl, dataLt_key]
    exact h
end DL

namespace DL
open PySem PySem.Spec PyProof.Rows L2

/-! ### the words found are in order by length, and the first that lead there -/
theorem lex_app : ∀ {ns ms : List Int} (a b : List Int), ns.length = ms.length → HT.lexLt ns ms = true → HT.lexLt (ns ++ a) (ms ++ b) = true
  | [], [], _, _, _, h => by rw [lex_irr] at h; cases h
  | [], _ :: _, _, _, hl, _ => by simp at hl
  | _ :: _, [], _, _, hl, _ => by simp at hl
  | x :: xs, y :: ys, a, b, hl, h => by
    rw [HT.lexLt_cons] at h
    rw [List.cons_append, List.cons_append, HT.lexLt_cons]
    by_cases e : x = y
    · rw [if_pos e] at h ⊢
      exact lex_app a b (by simpa using hl) h
    · rw [if_neg e] at h ⊢
      exact h
theorem lex_same (a b : List Int) : ∀ ns : List Int, HT.lexLt (ns ++ a) (ns ++ b) = HT.lexLt a b
  | [] => rfl
  | x :: xs => by rw [List.cons_append, List.cons_append, HT.lexLt_cons, if_pos rfl, lex_same a b xs]
theorem ks_app (u v : List Nat) : ks (u ++ v) = ks u ++ ks v := List.map_append ..
theorem ks_len (u : List Nat) : (ks u).length = u.length := List.length_map ..
theorem ltW_iff {u v : List Nat} : ltW u v = true ↔ u.length < v.length ∨ (u.length = v.length ∧ HT.lexLt (ks u) (ks v) = true) := by
  unfold ltW ltN
  by_cases h : (u.length : Int) = (v.length : Int)
  · rw [if_pos h]
    constructor
    · intro z; exact .inr ⟨by omega, z⟩
    · rintro (z | ⟨_, z⟩)
      · omega
      · exact z
  · rw [if_neg h]
    constructor
    · intro z; exact .inl (by have := of_decide_eq_true z; omega)
    · rintro (z | ⟨z, _⟩)
      · exact decide_eq_true (by omega)
      · omega
theorem ltW_snoc {u v : List Nat} (c d : Nat) (h : ltW u v = true) : ltW (u ++ [c]) (v ++ [d]) = true := by
  rw [ltW_iff] at h ⊢
  rw [List.length_append, List.length_append, List.length_singleton, List.length_singleton, ks_app, ks_app]
  rcases h with h | ⟨h, h2⟩
  · exact .inl (by omega)
  · exact .inr ⟨by omega, lex_app _ _ (by rw [ks_len, ks_len]; exact h) h2⟩
theorem ltW_last {u : List Nat} {c d : Nat} (h : ixL c < ixL d) : ltW (u ++ [c]) (u ++ [d]) = true := by
  rw [ltW_iff]
  refine .inr ⟨by simp, ?_⟩
  rw [ks_app, ks_app, lex_same]
  show HT.lexLt [(ixL c : Int)] [(ixL d : Int)] = true
  rw [HT.lexLt_cons, if_neg (by omega)]
  exact decide_eq_true (by omega)
theorem ltW_nil (u : List Nat) (c : Nat) : ltW [] (u ++ [c]) = true := by
  rw [ltW_iff]
  exact .inl (by simp)
theorem ltW_asym {u v : List Nat} (h : ltW u v = true) : ltW v u = false := ltN_asym h
theorem ltW_irr (u : List Nat) : ltW u u = false := ltN_irr _ _
theorem ltW_trans {u v t : List Nat} (h : ltW u v = true) (h2 : ltW v t = true) : ltW u t = true := ltN_trans h h2
/-- not behind: u ≤ v -/
theorem leW_trans {u v t : List Nat} (h : ltW v u = false) (h2 : ltW t v = false) : ltW t u = false := by
  cases e : ltW t u with
  | false => rfl
  | true =>
    by_cases k : sameK u v
    · unfold ltW at e h2
      rw [k.1, k.2, h2] at e
      cases e
    · have huv : ltW u v = true := by
        cases z : ltW u v with
        | true => rfl
        | false => exact absurd (ltN_tot k z) (by intro y; exact absurd (h.symm.trans y) (by decide))
      rw [ltW_trans e huv] at h2
      cases h2
theorem leW_snoc {u v : List Nat} (c : Nat) (h : ltW v u = false) : ltW (v ++ [c]) (u ++ [c]) = false := by
  by_cases k : sameK u v
  · unfold ltW
    have e1 : ((u ++ [c]).length : Int) = ((v ++ [c]).length : Int) := by
      have := k.1
      rw [List.length_append, List.length_append]
      omega
    rw [e1, ks_app, ks_app, k.2]
    exact ltN_irr _ _
  · have huv : ltW u v = true := by
      cases z : ltW u v with
      | true => rfl
      | false => exact absurd (ltN_tot k z) (by intro y; exact absurd (h.symm.trans y) (by decide))
    exact ltW_asym (ltW_snoc c c huv)
theorem snoc_ind {α : Type} {P : List α → Prop} (h0 : P []) (hs : ∀ u c, P u → P (u ++ [c])) (w : List α) : P w := by
  have : ∀ r : List α, P r.reverse := by
    intro r
    induction r with
    | nil => exact h0
    | cons c r ih => rw [List.reverse_cons]; exact hs _ _ ih
  have := this w.reverse
  rwa [List.reverse_reverse] at this
structure OI (kvs : List (List Key × V)) (ls : List Nat) (s : Fd) (t i : Nat) : Prop where
  srt : s.2.Pairwise fun u v => ltW u v = true
  form : ∀ w ∈ s.2, w = [] ∨ ∃ (t' c' : Nat) (u : List Nat), (t' < t ∨ (t' = t ∧ c' ∈ ls.take i)) ∧ s.2[t']? = some u ∧ w = u ++ [c']
  min : ∀ (t' p : Nat) (u : List Nat) (c' : Nat), (t' < t ∨ (t' = t ∧ c' ∈ ls.take i)) → c' ∈ ls → s.1[t']? = some p → s.2[t']? = some u → ∀ q, stO kvs p c' = some q → ∃ (k : Nat) (v : List Nat), s.1[k]? = some q ∧ s.2[k]? = some v ∧ ltW (u ++ [c']) v = false
def Asc (ls : List Nat) : Prop := ls.Pairwise fun a b => ixL a < ixL b
section
variable {kvs : List (List Key × V)} {ls : List Nat} {p0 N : Nat}
theorem OI.init : OI kvs ls ([p0], [[]]) 0 0 := ⟨by simp, fun w hw => .inl (List.mem_singleton.mp hw), fun t' p u c' h => by
  rcases h with h | ⟨_, h⟩
  · omega
  · simp at h⟩
theorem OI.stepL (M : Mv kvs N) (hA : Asc ls) {s : Fd} {t i c : Nat} (W : WI kvs ls p0 N s) (h : OI kvs ls s t i) (ht : t < s.1.length) (hc : ls[i]? = some c) : OI kvs ls (fwL kvs t s c) t (i + 1) := by
  obtain ⟨hp, hw, hpn, hwl⟩ := W.at ht
  have htk : ls.take (i + 1) = ls.take i ++ [c] := by rw [List.take_add_one, hc]; rfl
  have hcl : c ∈ ls := List.mem_of_getElem? hc
  have more : ∀ {t' c'}, (t' < t ∨ (t' = t ∧ c' ∈ ls.take i)) → (t' < t ∨ (t' = t ∧ c' ∈ ls.take (i + 1))) := fun {t' c'} z => z.imp_right fun z => ⟨z.1, by rw [htk]; exact List.mem_append_left _ z.2⟩
  have less : ∀ w ∈ s.2, ltW w (s.2.getD t [] ++ [c]) = true := fun w hwm => by
    rcases h.form w hwm with rfl | ⟨t', c', u, hh, hu, rfl⟩
    · exact ltW_nil _ _
    · rcases hh with hh | ⟨rfl, hh⟩
      · refine ltW_snoc _ _ ?_
        obtain ⟨j1, e1⟩ := List.getElem?_eq_some_iff.mp hu
        obtain ⟨j2, e2⟩ := List.getElem?_eq_some_iff.mp hw
        have := List.pairwise_iff_getElem.mp h.srt t' t j1 j2 hh
        rwa [e1, e2] at this
      · rw [hw] at hu
        obtain rfl := Option.some.inj hu
        refine ltW_last ?_
        obtain ⟨j, hj⟩ := List.mem_iff_getElem?.mp hh
        have hji : j < i := by
          have := (List.getElem?_eq_some_iff.mp hj).1
          rw [List.length_take] at this
          omega
        rw [List.getElem?_take, if_pos hji] at hj
        obtain ⟨j1, e1⟩ := List.getElem?_eq_some_iff.mp hj
        obtain ⟨j2, e2⟩ := List.getElem?_eq_some_iff.mp hc
        have := List.pairwise_iff_getElem.mp hA j i j1 j2 hji
        rwa [e1, e2] at this
  unfold fwL
  cases e : stO kvs (s.1.getD t 0) c with
  | none =>
    refine ⟨h.srt, fun w hwm => (h.form w hwm).imp_right fun ⟨t', c', u, a, b⟩ => ⟨t', c', u, more a, b⟩, fun t' p u c' hh hc' h1 h2 q hq => ?_⟩
    rcases hh with hh | ⟨rfl, hh⟩
    · exact h.min t' p u c' (.inl hh) hc' h1 h2 q hq
    · rw [htk] at hh
      rcases List.mem_append.mp hh with hh | hh
      · exact h.min t' p u c' (.inr ⟨rfl, hh⟩) hc' h1 h2 q hq
      · rw [List.mem_singleton.mp hh] at hq
        rw [hp] at h1
        rw [← Option.some.inj h1, e] at hq
        cases hq
  | some q0 =>
    dsimp only
    split
    · rename_i hm
      refine ⟨h.srt, fun w hwm => (h.form w hwm).imp_right fun ⟨t', c', u, a, b⟩ => ⟨t', c', u, more a, b⟩, fun t' p u c' hh hc' h1 h2 q hq => ?_⟩
      rcases hh with hh | ⟨rfl, hh⟩
      · exact h.min t' p u c' (.inl hh) hc' h1 h2 q hq
      · rw [htk] at hh
        rcases List.mem_append.mp hh with hh | hh
        · exact h.min t' p u c' (.inr ⟨rfl, hh⟩) hc' h1 h2 q hq
        · obtain rfl := List.mem_singleton.mp hh
          rw [hp] at h1
          rw [hw] at h2
          rw [← Option.some.inj h1, e] at hq
          obtain rfl := Option.some.inj hq
          obtain ⟨k, hk⟩ := List.mem_iff_getElem?.mp hm
          have hk2 : k < s.2.length := by rw [W.len]; exact (List.getElem?_eq_some_iff.mp hk).1
          refine ⟨k, _, hk, List.getElem?_eq_getElem hk2, ?_⟩
          rw [← Option.some.inj h2]
          exact ltW_asym (less _ (List.getElem_mem hk2))
    · rename_i hm
      have pre1 : ∀ {k x}, s.1[k]? = some x → (s.1 ++ [q0])[k]? = some x := fun {k x} z => by
        rw [List.getElem?_append_left (List.getElem?_eq_some_iff.mp z).1]; exact z
      have pre2 : ∀ {k x}, s.2[k]? = some x → (s.2 ++ [s.2.getD t [] ++ [c]])[k]? = some x := fun {k x} z => by
        rw [List.getElem?_append_left (List.getElem?_eq_some_iff.mp z).1]; exact z
      have htl : ∀ {t' c'}, (t' < t ∨ (t' = t ∧ c' ∈ ls.take (i + 1))) → t' < s.1.length := fun {t' c'} z => by
        rcases z with z | ⟨z, _⟩ <;> omega
      refine ⟨?_, fun w hwm => ?_, fun t' p u c' hh hc' h1 h2 q hq => ?_⟩
      · rw [List.pairwise_append]
        exact ⟨h.srt, by simp, fun a ha b hb => by rw [List.mem_singleton.mp hb]; exact less a ha⟩
      · rcases List.mem_append.mp hwm with z | z
        · exact (h.form w z).imp_right fun ⟨t', c', u, a, b, b2⟩ => ⟨t', c', u, more a, pre2 b, b2⟩
        · refine .inr ⟨t, c, s.2.getD t [], .inr ⟨rfl, by rw [htk]; simp⟩, pre2 hw, List.mem_singleton.mp z⟩
      · have hlt := htl hh
        have h1' : s.1[t']? = some p := by
          have h1 : (s.1 ++ [q0])[t']? = some p := h1
          rwa [List.getElem?_append_left hlt] at h1
        have h2' : s.2[t']? = some u := by
          have h2 : (s.2 ++ [s.2.getD t [] ++ [c]])[t']? = some u := h2
          rwa [List.getElem?_append_left (by rw [W.len]; exact hlt)] at h2
        have old : (t' < t ∨ (t' = t ∧ c' ∈ ls.take i)) → ∃ (k : Nat) (v : List Nat), (s.1 ++ [q0])[k]? = some q ∧ (s.2 ++ [s.2.getD t [] ++ [c]])[k]? = some v ∧ ltW (u ++ [c']) v = false := fun z => by
          obtain ⟨k, v, a, b, d⟩ := h.min t' p u c' z hc' h1' h2' q hq
          exact ⟨k, v, pre1 a, pre2 b, d⟩
        rcases hh with hh | ⟨rfl, hh⟩
        · exact old (.inl hh)
        · rw [htk] at hh
          rcases List.mem_append.mp hh with hh | hh
          · exact old (.inr ⟨rfl, hh⟩)
          · obtain rfl := List.mem_singleton.mp hh
            rw [hp] at h1'
            rw [hw] at h2'
            rw [← Option.some.inj h1', e] at hq
            obtain rfl := Option.some.inj hq
            refine ⟨s.1.length, s.2.getD t' [] ++ [c'], ?_, ?_, ?_⟩
            · show (s.1 ++ [q0])[s.1.length]? = _
              rw [List.getElem?_append_right (Nat.le_refl _), Nat.sub_self]
              rfl
            · show (s.2 ++ [_])[s.1.length]? = _
              rw [List.getElem?_append_right (by rw [W.len]; exact Nat.le_refl _), W.len, Nat.sub_self]
              rfl
            · rw [← Option.some.inj h2']
              exact ltW_irr _
theorem OI.stepLs (M : Mv kvs N) (hA : Asc ls) {s : Fd} {t : Nat} (W : WI kvs ls p0 N s) (h : OI kvs ls s t 0) (ht : t < s.1.length) : ∀ i, i ≤ ls.length → WI kvs ls p0 N ((ls.take i).foldl (fwL kvs t) s) ∧ OI kvs ls ((ls.take i).foldl (fwL kvs t) s) t i ∧ t < ((ls.take i).foldl (fwL kvs t) s).1.length
  | 0, _ => ⟨W, h, ht⟩
  | i + 1, hi => by
    obtain ⟨a, b, c⟩ := OI.stepLs M hA W h ht i (by omega)
    have hc : ls[i]? = some (ls[i]'(by omega)) := List.getElem?_eq_getElem _
    have e : (ls.take (i + 1)).foldl (fwL kvs t) s = fwL kvs t ((ls.take i).foldl (fwL kvs t) s) (ls[i]'(by omega)) := by
      rw [List.take_add_one, hc, List.foldl_append]
      rfl
    rw [e]
    obtain ⟨a2, b2, _⟩ := a.stepL M c (List.getElem_mem (by omega : i < ls.length))
    exact ⟨a2, b.stepL M hA a c hc, Nat.lt_of_lt_of_le c b2.length_le⟩
theorem OI.next {s : Fd} {t : Nat} (h : OI kvs ls s t ls.length) : OI kvs ls s (t + 1) 0 := by
  have tk : ls.take ls.length = ls := List.take_length
  refine ⟨h.srt, fun w hw => (h.form w hw).imp_right fun ⟨t', c', u, a, b⟩ => ⟨t', c', u, .inl (by rcases a with a | ⟨a, _⟩ <;> omega), b⟩, fun t' p u c' hh hc' h1 h2 q hq => ?_⟩
  refine h.min t' p u c' ?_ hc' h1 h2 q hq
  rcases hh with hh | ⟨_, hh⟩
  · by_cases e : t' = t
    · exact .inr ⟨e, by rw [tk]; exact hc'⟩
    · exact .inl (by omega)
  · simp at hh
theorem OI.range (M : Mv kvs N) (hA : Asc ls) (h0 : p0 < N) : ∀ m, OI kvs ls (fw kvs ls p0 m) m 0
  | 0 => .init
  | m + 1 => by
    have h := OI.range M hA h0 m
    have W := (WI.range (ls := ls) M h0 m).1
    rw [fw_succ]
    unfold fwT
    split
    · rename_i ht
      obtain ⟨_, b, _⟩ := OI.stepLs M hA W h ht ls.length (Nat.le_refl _)
      rw [List.take_length] at b
      exact b.next
    · rename_i ht
      refine ⟨h.srt, fun w hw => (h.form w hw).imp_right fun ⟨t', c', u, a, b⟩ => ⟨t', c', u, .inl (by rcases a with a | ⟨a, _⟩ <;> omega), b⟩, fun t' p u c' hh hc' h1 h2 q hq => ?_⟩
      have := (List.getElem?_eq_some_iff.mp h1).1
      exact h.min t' p u c' (.inl (by omega)) hc' h1 h2 q hq
theorem fw_sorted (M : Mv kvs N) (hA : Asc ls) (h0 : p0 < N) (m : Nat) : (fw kvs ls p0 m).2.Pairwise fun u v => ltW u v = true := (OI.range M hA h0 m).srt
theorem fw_min (M : Mv kvs N) (hA : Asc ls) (h0 : p0 < N) (w : List Nat) : (∀ c ∈ w, c ∈ ls) → ∀ q, wkO kvs p0 w = some q → ∃ (k : Nat) (v : List Nat), (fw kvs ls p0 N).1[k]? = some q ∧ (fw kvs ls p0 N).2[k]? = some v ∧ ltW w v = false := by
  have O := OI.range M hA h0 N
  have W := (WI.range (ls := ls) M h0 N).1
  refine snoc_ind (P := fun w => (∀ c ∈ w, c ∈ ls) → ∀ q, wkO kvs p0 w = some q → ∃ (k : Nat) (v : List Nat), (fw kvs ls p0 N).1[k]? = some q ∧ (fw kvs ls p0 N).2[k]? = some v ∧ ltW w v = false) ?_ ?_ w
  · intro _ q hq
    cases hq
    have h2 : 0 < (fw kvs ls p0 N).2.length := by rw [W.len]; exact (List.getElem?_eq_some_iff.mp W.zero).1
    have e := (W.way 0 _ (List.getElem?_eq_getElem h2)).2.2
    have e2 : (fw kvs ls p0 N).2[0] = [] := List.length_eq_zero_iff.mp (by omega)
    exact ⟨0, [], W.zero, by rw [List.getElem?_eq_getElem h2, e2], ltW_irr _⟩
  · intro u c ih hw q hq
    rw [wkO_snoc] at hq
    obtain ⟨p, hp, hpq⟩ := Option.bind_eq_some_iff.mp hq
    obtain ⟨k, v, k1, k2, k3⟩ := ih (fun x hx => hw x (List.mem_append_left _ hx)) p hp
    have hc : c ∈ ls := hw c (by simp)
    have hkN : k < N := Nat.lt_of_lt_of_le (List.getElem?_eq_some_iff.mp k1).1 W.len_le
    obtain ⟨k', v', g1, g2, g3⟩ := O.min k p v c (.inl hkN) hc k1 k2 q hpq
    exact ⟨k', v', g1, g2, leW_trans g3 (leW_snoc c k3)⟩
end
theorem asc_lsR (k : Nat) : Asc (lsR k) := by
  have h : Asc [97, 65, 98, 66, 99, 67] := by unfold Asc; decide
  exact List.Pairwise.sublist (List.take_sublist _ _) h
theorem wkO_act {n : Nat} {ls : List Nat} {kvs : List (List Key × V)} (A : Act n ls kvs) : ∀ (w : List Nat) (p : Nat), p < n → (∀ c ∈ w, c ∈ ls) → wkO kvs p w = some (wk kvs p w)
  | [], _, _, _ => rfl
  | c :: w, p, hp, hw => by
    obtain ⟨a, b, _⟩ := A p hp c (hw c List.mem_cons_self)
    have e : stO kvs p c = some (stp kvs p c) := by unfold stO; rw [a]; simp
    show w.foldl _ ((some p).bind fun p => stO kvs p c) = _
    rw [Option.bind_some, e]
    exact wkO_act A w _ b fun x hx => hw x (List.mem_cons_of_mem _ hx)
end DL

namespace DL
open PySem PySem.Spec PyProof.Rows L2

/-! ### points identified: a list tells for each point the least one of its class -/
theorem getD_mapN {f : Nat → Nat} {l : List Nat} {p : Nat} (h : p < l.length) : (l.map f).getD p 0 = f (l.getD p 0) := by
  simp [List.getD_eq_getElem?_getD, h]
def idf (l : List Nat) (a b : Nat) : List Nat :=
  l.map fun p => if p = max (l.getD a 0) (l.getD b 0) then min (l.getD a 0) (l.getD b 0) else p
def ker (l : List Nat) (a b : Nat) : Prop := l.getD a 0 = l.getD b 0
instance (l : List Nat) (a b : Nat) : Decidable (ker l a b) := inferInstanceAs (Decidable (_ = _))
structure Lp (n : Nat) (l : List Nat) : Prop where
  len : l.length = n
  le : ∀ p, p < n → l.getD p 0 ≤ p
  id : ∀ p, p < n → l.getD (l.getD p 0) 0 = l.getD p 0
theorem idf_len (l : List Nat) (a b : Nat) : (idf l a b).length = l.length := by unfold idf; rw [List.length_map]
theorem idf_at {l : List Nat} {a b p : Nat} (h : p < l.length) : (idf l a b).getD p 0 = if l.getD p 0 = max (l.getD a 0) (l.getD b 0) then min (l.getD a 0) (l.getD b 0) else l.getD p 0 := getD_mapN h
theorem idf_lp {n : Nat} {l : List Nat} {a b : Nat} (h : Lp n l) (ha : a < n) (hb : b < n) : Lp n (idf l a b) := by
  have hl := h.len
  have la := h.le a ha
  have lb := h.le b hb
  have ia := h.id a ha
  have ib := h.id b hb
  refine ⟨by rw [idf_len, hl], fun p hp => ?_, fun p hp => ?_⟩
  · have := h.le p hp
    rw [idf_at (by omega)]
    split <;> omega
  · have lp := h.le p hp
    have ip := h.id p hp
    rw [idf_at (p := p) (by omega)]
    by_cases c : l.getD p 0 = max (l.getD a 0) (l.getD b 0)
    · rw [if_pos c]
      rw [idf_at (by omega)]
      rcases Nat.le_total (l.getD a 0) (l.getD b 0) with z | z
      · rw [Nat.min_eq_left z, ia]
        split <;> omega
      · rw [Nat.min_eq_right z, ib]
        split <;> omega
    · rw [if_neg c, idf_at (by omega), ip, if_neg c]
theorem idf_ker {l : List Nat} {a b p q : Nat} (hp : p < l.length) (hq : q < l.length) (h : ker l p q) : ker (idf l a b) p q := by
  unfold ker at *
  rw [idf_at hp, idf_at hq, h]
theorem idf_joins {n : Nat} {l : List Nat} {a b : Nat} (h : Lp n l) (ha : a < n) (hb : b < n) : ker (idf l a b) a b := by
  have hl := h.len
  unfold ker
  rw [idf_at (by omega), idf_at (by omega)]
  split <;> split <;> omega
theorem idf_same {l : List Nat} {a b : Nat} (h : ker l a b) : idf l a b = l := by
  unfold idf
  rw [show l.getD a 0 = l.getD b 0 from h, Nat.max_self, Nat.min_self]
  conv => rhs; rw [← List.map_id l]
  refine List.map_congr_left fun p _ => ?_
  split
  · rename_i e
    exact e.symm
  · rfl
theorem sum_map_le {f : Nat → Nat} : ∀ (l : List Nat), (∀ x ∈ l, f x ≤ x) → (l.map f).sum ≤ l.sum
  | [], _ => Nat.le_refl _
  | x :: l, h => by
    have h1 := h x List.mem_cons_self
    have h2 := sum_map_le l fun y hy => h y (List.mem_cons_of_mem _ hy)
    simp only [List.map_cons, List.sum_cons]
    omega
theorem sum_map_lt {f : Nat → Nat} : ∀ (l : List Nat), (∀ x ∈ l, f x ≤ x) → (∃ x ∈ l, f x < x) → (l.map f).sum < l.sum
  | [], _, h => by obtain ⟨_, z, _⟩ := h; cases z
  | x :: l, h, h3 => by
    have h1 := h x List.mem_cons_self
    have h2 := sum_map_le l fun y hy => h y (List.mem_cons_of_mem _ hy)
    obtain ⟨y, hy, hlt⟩ := h3
    simp only [List.map_cons, List.sum_cons]
    rcases List.mem_cons.mp hy with rfl | hy
    · omega
    · have := sum_map_lt l (fun y hy => h y (List.mem_cons_of_mem _ hy)) ⟨y, hy, hlt⟩
      omega
theorem getD_mem {l : List Nat} {a : Nat} (h : a < l.length) : l.getD a 0 ∈ l := by
  rw [List.getD_eq_getElem?_getD, List.getElem?_eq_getElem h]
  exact List.getElem_mem h
theorem idf_sum (l : List Nat) (a b : Nat) : (idf l a b).sum ≤ l.sum := sum_map_le l fun x _ => by split <;> omega
theorem idf_sum_lt {l : List Nat} {a b : Nat} (ha : a < l.length) (hb : b < l.length) (h : ¬ ker l a b) : (idf l a b).sum < l.sum := by
  refine sum_map_lt l (fun x _ => by split <;> omega) ⟨max (l.getD a 0) (l.getD b 0), ?_, ?_⟩
  · rcases Nat.le_total (l.getD a 0) (l.getD b 0) with z | z
    · rw [Nat.max_eq_right z]; exact getD_mem hb
    · rw [Nat.max_eq_left z]; exact getD_mem ha
  · rw [if_pos rfl]
    have h' : l.getD a 0 ≠ l.getD b 0 := h
    omega
/-- what has to hold of any identifying that keeps the rules -/
structure Cong (es : List Ed) (ends : List Nat) (R : Nat → Nat → Prop) : Prop where
  refl : ∀ a, R a a
  symm : ∀ {a b}, R a b → R b a
  trans : ∀ {a b c}, R a b → R b c → R a c
  ends : ∀ e ∈ ends, R e 0
  fwd : ∀ e ∈ es, ∀ f ∈ es, e.2.1 = f.2.1 → R e.1 f.1 → R e.2.2 f.2.2
  bwd : ∀ e ∈ es, ∀ f ∈ es, e.2.1 = f.2.1 → R e.2.2 f.2.2 → R e.1 f.1
def Snd (es : List Ed) (ends : List Nat) (l : List Nat) : Prop := ∀ R, Cong es ends R → ∀ p, p < l.length → R p (l.getD p 0)
structure Clo (es : List Ed) (ends : List Nat) (l : List Nat) : Prop where
  ends : ∀ e ∈ ends, ker l e 0
  fwd : ∀ e ∈ es, ∀ f ∈ es, e.2.1 = f.2.1 → ker l e.1 f.1 → ker l e.2.2 f.2.2
  bwd : ∀ e ∈ es, ∀ f ∈ es, e.2.1 = f.2.1 → ker l e.2.2 f.2.2 → ker l e.1 f.1
theorem Clo.cong {es : List Ed} {ends l : List Nat} (h : Clo es ends l) : Cong es ends (ker l) :=
  ⟨fun _ => rfl, fun h => Eq.symm h, fun h1 h2 => Eq.trans h1 h2, h.ends, h.fwd, h.bwd⟩
structure Lsq (es : List Ed) (ends : List Nat) (n : Nat) (l : List Nat) : Prop where
  lp : Lp n l
  snd : Snd es ends l
  clo : Clo es ends l
theorem Lsq.uniq {es : List Ed} {ends : List Nat} {n : Nat} {l m : List Nat} (h : Lsq es ends n l) (k : Lsq es ends n m) : l = m := by
  have half : ∀ {l m : List Nat}, Lsq es ends n l → Lsq es ends n m → ∀ p, p < n → m.getD p 0 ≤ l.getD p 0 := fun {l m} h k p hp => by
    have e : m.getD p 0 = m.getD (l.getD p 0) 0 := h.snd _ k.clo.cong p (by rw [h.lp.len]; exact hp)
    have := h.lp.le p hp
    rw [e]
    exact k.lp.le _ (by omega)
  refine List.ext_getElem (h.lp.len.trans k.lp.len.symm) fun p h1 h2 => ?_
  have hp : p < n := by rw [← h.lp.len]; exact h1
  have a := half h k p hp
  have b := half k h p hp
  have e1 : l.getD p 0 = l[p] := by simp [List.getD_eq_getElem?_getD, h1]
  have e2 : m.getD p 0 = m[p] := by simp [List.getD_eq_getElem?_getD, h2]
  omega
theorem idf_snd {es : List Ed} {ends : List Nat} {n : Nat} {l : List Nat} {a b : Nat} (hl : Lp n l) (ha : a < n) (hb : b < n) (h : Snd es ends l) (hR : ∀ R, Cong es ends R → R a b) : Snd es ends (idf l a b) := fun R C p hp => by
  rw [idf_len] at hp
  have hn := hl.len
  have r0 := h R C p hp
  rw [idf_at hp]
  split
  · rename_i c
    have ra := h R C a (by omega)
    have rb := h R C b (by omega)
    have rab := hR R C
    rw [c] at r0
    rcases Nat.le_total (l.getD a 0) (l.getD b 0) with z | z
    · rw [Nat.max_eq_right z] at r0
      rw [Nat.min_eq_left z]
      exact C.trans r0 (C.trans (C.symm rb) (C.trans (C.symm rab) ra))
    · rw [Nat.max_eq_left z] at r0
      rw [Nat.min_eq_right z]
      exact C.trans r0 (C.trans (C.symm ra) (C.trans rab rb))
  · exact r0
theorem lp_range (n : Nat) : Lp n (List.range n) := by
  have e : ∀ p, p < n → (List.range n).getD p 0 = p := fun p hp => by simp [List.getD_eq_getElem?_getD, hp]
  exact ⟨List.length_range, fun p hp => by rw [e p hp]; exact Nat.le_refl _, fun p hp => by rw [e p hp, e p hp]⟩
theorem snd_range (es : List Ed) (ends : List Nat) (n : Nat) : Snd es ends (List.range n) := fun R C p hp => by
  rw [List.length_range] at hp
  have e : (List.range n).getD p 0 = p := by simp [List.getD_eq_getElem?_getD, hp]
  rw [e]
  exact C.refl p

/-! ### one pass over the moves -/
def rev2 (e : Ed) : Ed := (e.2.2, sw e.2.1, e.1)
def mvl (es : List Ed) : List Ed := es.flatMap fun e => [e, rev2 e]
abbrev Fs := List Nat × List (List Key × V)
def stepF (s : Fs) (m : Ed) : Fs := match stO s.2 (s.1.getD m.1 0) m.2.1 with
  | some g => (idf s.1 g m.2.2, s.2)
  | none => (s.1, putK s.2 (kk (s.1.getD m.1 0) m.2.1) (.int (m.2.2 : Int)))
def foldM (s : Fs) (ms : List Ed) : Fs := ms.foldl stepF s
def fo (l : List Nat) (es : List Ed) : List Nat := (foldM (l, []) (mvl es)).1
theorem stO_put (kvs : List (List Key × V)) (c k g c' k' : Nat) : stO (putK kvs (kk c k) (.int (g : Int))) c' k' = if c' = c ∧ k' = k then some g else stO kvs c' k' := by
  unfold stO
  rw [valV_put]
  by_cases h : kk c' k' = kk c k
  · rw [if_pos h, if_pos (kk_inj.mp h)]
    rfl
  · rw [if_neg h, if_neg (fun z => h (kk_inj.mpr z))]
theorem mv_nil (n : Nat) : Mv [] n := fun p c v h => by simp [valV] at h
theorem mv_put {kvs : List (List Key × V)} {n c k g : Nat} (h : Mv kvs n) (hg : g < n) : Mv (putK kvs (kk c k) (.int (g : Int))) n := fun p s v e => by
  rw [valV_put] at e
  split at e
  · cases e
    exact ⟨g, rfl, hg⟩
  · exact h p s v e
theorem mem_mvl {es : List Ed} {m : Ed} : m ∈ mvl es ↔ ∃ e ∈ es, m = e ∨ m = rev2 e := by
  unfold mvl
  rw [List.mem_flatMap]
  constructor
  · rintro ⟨e, he, hm⟩
    refine ⟨e, he, ?_⟩
    simpa using hm
  · rintro ⟨e, he, hm⟩
    exact ⟨e, he, by simpa using hm⟩
theorem sw_inj {c d : Nat} (hc : c ∈ SM) (hd : d ∈ SM) (h : sw c = sw d) : c = d := by
  have e : ∀ c ∈ SM, ∀ d ∈ SM, sw c = sw d → c = d := by decide
  exact e c hc d hd h
theorem Cong.mv {es : List Ed} {ends : List Nat} {R : Nat → Nat → Prop} (C : Cong es ends R) (hs : ∀ e ∈ es, e.2.1 ∈ SM) {m m' : Ed} (hm : m ∈ mvl es) (hm' : m' ∈ mvl es) (hk : m.2.1 = m'.2.1) (h : R m.1 m'.1) : R m.2.2 m'.2.2 := by
  obtain ⟨e, he, q⟩ := mem_mvl.mp hm
  obtain ⟨f, hf, q'⟩ := mem_mvl.mp hm'
  have se := hs e he
  have sf := hs f hf
  rcases q with rfl | rfl <;> rcases q' with rfl | rfl
  · exact C.fwd _ he _ hf hk h
  · exact absurd (by have := se; rw [show m.2.1 = sw f.2.1 from hk] at this; exact this) (SM_sw sf)
  · exact absurd (by have := sf; rw [show m'.2.1 = sw e.2.1 from hk.symm] at this; exact this) (SM_sw se)
  · exact C.bwd _ he _ hf (sw_inj se sf hk) h
/-- edges between points below n -/
def Ebd (n : Nat) (es : List Ed) : Prop := ∀ e ∈ es, e.1 < n ∧ e.2.2 < n ∧ e.2.1 ∈ SM
theorem Ebd.mv {n : Nat} {es : List Ed} (h : Ebd n es) {m : Ed} (hm : m ∈ mvl es) : m.1 < n ∧ m.2.2 < n ∧ m.2.1 ∈ LTR := by
  obtain ⟨e, he, q⟩ := mem_mvl.mp hm
  obtain ⟨a, b, c⟩ := h e he
  have hsw : ∀ c ∈ SM, sw c ∈ LTR := by decide
  rcases q with rfl | rfl
  · exact ⟨a, b, SM_LTR c⟩
  · exact ⟨b, a, hsw _ c⟩
structure Fi (es : List Ed) (ends : List Nat) (n : Nat) (s : Fs) : Prop where
  lp : Lp n s.1
  snd : Snd es ends s.1
  mv : Mv s.2 n
  why : ∀ c k g, stO s.2 c k = some g → ∃ p, (p, k, g) ∈ mvl es ∧ ∀ R, Cong es ends R → R p c
theorem Fi.step {es : List Ed} {ends : List Nat} {n : Nat} {s : Fs} {m : Ed} (hE : Ebd n es) (h : Fi es ends n s) (hm : m ∈ mvl es) : Fi es ends n (stepF s m) := by
  obtain ⟨b1, b2, b3⟩ := hE.mv hm
  have hs : ∀ e ∈ es, e.2.1 ∈ SM := fun e he => (hE e he).2.2
  have hl := h.lp.len
  unfold stepF
  cases e : stO s.2 (s.1.getD m.1 0) m.2.1 with
  | some g =>
    obtain ⟨hg, _⟩ := stO_lt h.mv e
    obtain ⟨p, hp, hR⟩ := h.why _ _ _ e
    refine ⟨idf_lp h.lp hg b2, idf_snd h.lp hg b2 h.snd fun R C => ?_, h.mv, h.why⟩
    exact C.mv hs hp hm rfl (C.trans (hR R C) (C.symm (h.snd R C m.1 (by omega))))
  | none =>
    refine ⟨h.lp, h.snd, mv_put h.mv b2, fun c k g q => ?_⟩
    rw [stO_put] at q
    split at q
    · rename_i z
      cases q
      obtain ⟨rfl, rfl⟩ := z
      exact ⟨m.1, hm, fun R C => h.snd R C m.1 (by omega)⟩
    · exact h.why c k g q
theorem Fi.run {es : List Ed} {ends : List Nat} {n : Nat} (hE : Ebd n es) : ∀ (ms : List Ed) {s : Fs}, Fi es ends n s → (∀ m ∈ ms, m ∈ mvl es) → Fi es ends n (foldM s ms)
  | [], _, h, _ => h
  | m :: ms, s, h, hm => Fi.run hE ms (h.step hE (hm m List.mem_cons_self)) fun x hx => hm x (List.mem_cons_of_mem _ hx)
theorem stepF_len (s : Fs) (m : Ed) : (stepF s m).1.length = s.1.length := by
  unfold stepF
  split
  · exact idf_len _ _ _
  · rfl
theorem stepF_sum (s : Fs) (m : Ed) : (stepF s m).1.sum ≤ s.1.sum := by
  unfold stepF
  split
  · exact idf_sum _ _ _
  · exact Nat.le_refl _
theorem stepF_ker (s : Fs) (m : Ed) {p q : Nat} (hp : p < s.1.length) (hq : q < s.1.length) (h : ker s.1 p q) : ker (stepF s m).1 p q := by
  unfold stepF
  split
  · exact idf_ker hp hq h
  · exact h
theorem foldM_len : ∀ (ms : List Ed) (s : Fs), (foldM s ms).1.length = s.1.length
  | [], _ => rfl
  | m :: ms, s => (foldM_len ms (stepF s m)).trans (stepF_len s m)
theorem foldM_sum : ∀ (ms : List Ed) (s : Fs), (foldM s ms).1.sum ≤ s.1.sum
  | [], _ => Nat.le_refl _
  | m :: ms, s => Nat.le_trans (foldM_sum ms (stepF s m)) (stepF_sum s m)
theorem foldM_ker : ∀ (ms : List Ed) (s : Fs) {p q : Nat}, p < s.1.length → q < s.1.length → ker s.1 p q → ker (foldM s ms).1 p q
  | [], _, _, _, _, _, h => h
  | m :: ms, s, p, q, hp, hq, h => foldM_ker ms (stepF s m) (by rw [stepF_len]; exact hp) (by rw [stepF_len]; exact hq) (stepF_ker s m hp hq h)
/-- a pass that changes nothing in the end changed nothing on its way -/
theorem foldM_fix {n : Nat} : ∀ (ms : List Ed) (s : Fs), s.1.length = n → Mv s.2 n → (∀ m ∈ ms, m.1 < n ∧ m.2.2 < n) → (foldM s ms).1.sum = s.1.sum →
    (foldM s ms).1 = s.1 ∧ (∀ c k g, stO s.2 c k = some g → stO (foldM s ms).2 c k = some g) ∧
    ∀ m ∈ ms, ∃ g, stO (foldM s ms).2 (s.1.getD m.1 0) m.2.1 = some g ∧ ker s.1 g m.2.2
  | [], s, _, _, _, _ => ⟨rfl, fun _ _ _ h => h, fun _ z => nomatch z⟩
  | m :: ms, s, hl, hM, hb, hsum => by
    obtain ⟨b1, b2⟩ := hb m List.mem_cons_self
    have s1 := foldM_sum ms (stepF s m)
    have s2 := stepF_sum s m
    have hsum' : (foldM (stepF s m) ms).1.sum = s.1.sum := hsum
    have key : (stepF s m).1 = s.1 ∧ Mv (stepF s m).2 n ∧ (∀ c k g, stO s.2 c k = some g → stO (stepF s m).2 c k = some g) ∧ ∃ g, stO (stepF s m).2 (s.1.getD m.1 0) m.2.1 = some g ∧ ker s.1 g m.2.2 := by
      cases e : stO s.2 (s.1.getD m.1 0) m.2.1 with
      | some g =>
        have e' : stepF s m = (idf s.1 g m.2.2, s.2) := by unfold stepF; rw [e]
        obtain ⟨hg, _⟩ := stO_lt hM e
        have hk : ker s.1 g m.2.2 := Decidable.byContradiction fun z => by
          have := idf_sum_lt (l := s.1) (a := g) (b := m.2.2) (by omega) (by omega) z
          rw [e'] at s1
          rw [e'] at hsum'
          have s1' : (foldM (idf s.1 g m.2.2, s.2) ms).1.sum ≤ (idf s.1 g m.2.2).sum := s1
          omega
        rw [e']
        exact ⟨idf_same hk, hM, fun _ _ _ z => z, g, e, hk⟩
      | none =>
        have e' : stepF s m = (s.1, putK s.2 (kk (s.1.getD m.1 0) m.2.1) (.int (m.2.2 : Int))) := by unfold stepF; rw [e]
        rw [e']
        refine ⟨rfl, mv_put hM b2, fun c k g z => ?_, m.2.2, ?_, rfl⟩
        · rw [stO_put]
          split
          · rename_i q
            obtain ⟨rfl, rfl⟩ := q
            rw [e] at z
            cases z
          · exact z
        · rw [stO_put, if_pos ⟨rfl, rfl⟩]
    obtain ⟨k1, k2, k3, g, k4, k5⟩ := key
    obtain ⟨i1, i2, i3⟩ := foldM_fix ms (stepF s m) (by rw [stepF_len]; exact hl) k2 (fun x hx => hb x (List.mem_cons_of_mem _ hx)) (by rw [k1]; exact hsum')
    rw [k1] at i1 i3
    refine ⟨i1, fun c k g z => i2 _ _ _ (k3 _ _ _ z), fun x hx => ?_⟩
    rcases List.mem_cons.mp hx with rfl | hx
    · exact ⟨g, i2 _ _ _ k4, k5⟩
    · exact i3 x hx
theorem fo_sum (l : List Nat) (es : List Ed) : (fo l es).sum ≤ l.sum := foldM_sum (mvl es) (l, [])
theorem fo_len (l : List Nat) (es : List Ed) : (fo l es).length = l.length := foldM_len (mvl es) (l, [])
theorem fo_lt {n : Nat} {l : List Nat} {es : List Ed} (hl : l.length = n) (hE : Ebd n es) (h : fo l es ≠ l) : (fo l es).sum < l.sum := by
  have h1 := fo_sum l es
  rcases Nat.lt_or_ge (fo l es).sum l.sum with z | z
  · exact z
  · exact absurd (foldM_fix (mvl es) (l, []) hl (mv_nil n) (fun m hm => ⟨(hE.mv hm).1, (hE.mv hm).2.1⟩) (Nat.le_antisymm h1 z)).1 h
/-- what is kept from pass to pass -/
structure Li (es : List Ed) (ends : List Nat) (n : Nat) (l : List Nat) : Prop where
  lp : Lp n l
  snd : Snd es ends l
  ends : ∀ e ∈ ends, ker l e 0
theorem Li.fo {es : List Ed} {ends : List Nat} {n : Nat} {l : List Nat} (hE : Ebd n es) (he : ∀ e ∈ ends, e < n) (h0 : 0 < n) (h : Li es ends n l) : Li es ends n (fo l es) := by
  have F := Fi.run hE (mvl es) (s := (l, [])) ⟨h.lp, h.snd, mv_nil n, fun c k g z => by simp [stO, valV] at z⟩ fun _ z => z
  refine ⟨F.lp, F.snd, fun e q => foldM_ker (mvl es) (l, []) ?_ ?_ (h.ends e q)⟩
  · show e < l.length
    rw [h.lp.len]; exact he e q
  · show 0 < l.length
    rw [h.lp.len]; exact h0
theorem Li.done {es : List Ed} {ends : List Nat} {n : Nat} {l : List Nat} (hE : Ebd n es) (h : Li es ends n l) (hf : DL.fo l es = l) : Lsq es ends n l := by
  obtain ⟨_, _, i3⟩ := foldM_fix (mvl es) (l, []) h.lp.len (mv_nil n) (fun m hm => ⟨(hE.mv hm).1, (hE.mv hm).2.1⟩) (by show (DL.fo l es).sum = _; rw [hf])
  have key : ∀ m ∈ mvl es, ∀ m' ∈ mvl es, m.2.1 = m'.2.1 → ker l m.1 m'.1 → ker l m.2.2 m'.2.2 := fun m hm m' hm' hk hq => by
    obtain ⟨g, a1, a2⟩ := i3 m hm
    obtain ⟨g', b1, b2⟩ := i3 m' hm'
    have hq' : l.getD m.1 0 = l.getD m'.1 0 := hq
    rw [hk] at a1
    rw [show (l, ([] : List (List Key × V))).1.getD m.1 0 = l.getD m'.1 0 from hq'] at a1
    rw [a1] at b1
    cases b1
    exact Eq.trans (Eq.symm a2) b2
  refine ⟨h.lp, h.snd, h.ends, fun e he f hf hk hq => ?_, fun e he f hf hk hq => ?_⟩
  · exact key e (mem_mvl.mpr ⟨e, he, .inl rfl⟩) f (mem_mvl.mpr ⟨f, hf, .inl rfl⟩) hk hq
  · exact key (rev2 e) (mem_mvl.mpr ⟨e, he, .inr rfl⟩) (rev2 f) (mem_mvl.mpr ⟨f, hf, .inr rfl⟩) (by show sw _ = sw _; rw [hk]) hq
theorem foldM_dlen : ∀ (ms : List Ed) (s : Fs), (foldM s ms).2.length ≤ s.2.length + ms.length
  | [], _ => Nat.le_refl _
  | m :: ms, s => by
    have h := foldM_dlen ms (stepF s m)
    have h2 : (stepF s m).2.length ≤ s.2.length + 1 := by
      unfold stepF
      split
      · exact Nat.le_succ _
      · exact put_len _ _ _
    show (foldM (stepF s m) ms).2.length ≤ _
    rw [List.length_cons]
    omega

/-! ### the points and edges of petals -/
def edB (p c q : Nat) : Ed := if c ∈ SM then (p, c, q) else (q, sw c, p)
abbrev Ps := List Ed × Nat × Nat
def ptS (s : Ps) (c : Nat) : Ps := (s.1 ++ [edB s.2.1 c s.2.2], s.2.2, s.2.2 + 1)
def ptW (s : List Ed × List Nat × Nat) (w : List Nat) : List Ed × List Nat × Nat :=
  ((w.foldl ptS (s.1, 0, s.2.2)).1, s.2.1 ++ [(w.foldl ptS (s.1, 0, s.2.2)).2.1], (w.foldl ptS (s.1, 0, s.2.2)).2.2)
def ptl (ws : List (List Nat)) : List Ed × List Nat × Nat := (ws.map fold).foldl ptW ([], [], 1)
structure Pi1 (s : Ps) : Prop where
  len : s.2.2 = s.1.length + 1
  pl : s.2.1 < s.2.2
  eb : Ebd s.2.2 s.1
theorem Ebd.more {n m : Nat} {es : List Ed} (h : Ebd n es) (hm : n ≤ m) : Ebd m es := fun e he => by
  obtain ⟨a, b, c⟩ := h e he
  exact ⟨by omega, by omega, c⟩
theorem Pi1.step {s : Ps} (h : Pi1 s) {c : Nat} (hc : c ∈ LTR) : Pi1 (ptS s c) := by
  have h1 := h.len
  have h2 := h.pl
  refine ⟨by show s.2.2 + 1 = _; rw [show (ptS s c).1 = s.1 ++ [edB s.2.1 c s.2.2] from rfl, List.length_append, List.length_singleton]; omega, by show s.2.2 < s.2.2 + 1; omega, fun e he => ?_⟩
  rcases List.mem_append.mp he with z | z
  · exact h.eb.more (Nat.le_succ _) e z
  · rw [List.mem_singleton.mp z]
    have hsw : ∀ c ∈ LTR, c ∉ SM → sw c ∈ SM := by decide
    show (edB s.2.1 c s.2.2).1 < s.2.2 + 1 ∧ (edB s.2.1 c s.2.2).2.2 < s.2.2 + 1 ∧ _
    unfold edB
    split
    · rename_i q
      exact ⟨by show s.2.1 < _; omega, by show s.2.2 < _; omega, q⟩
    · rename_i q
      exact ⟨by show s.2.2 < _; omega, by show s.2.1 < _; omega, hsw c hc q⟩
theorem Pi1.run : ∀ (w : List Nat) {s : Ps}, Pi1 s → (∀ c ∈ w, c ∈ LTR) → Pi1 (w.foldl ptS s)
  | [], _, h, _ => h
  | c :: w, s, h, hw => Pi1.run w (h.step (hw c List.mem_cons_self)) fun x hx => hw x (List.mem_cons_of_mem _ hx)
theorem ptS_len : ∀ (w : List Nat) (s : Ps), (w.foldl ptS s).1.length = s.1.length + w.length
  | [], _ => rfl
  | c :: w, s => by
    rw [List.foldl_cons, ptS_len w, show (ptS s c).1 = s.1 ++ [edB s.2.1 c s.2.2] from rfl, List.length_append, List.length_singleton, List.length_cons]
    omega
structure Pi2 (s : List Ed × List Nat × Nat) : Prop where
  len : s.2.2 = s.1.length + 1
  eb : Ebd s.2.2 s.1
  ends : ∀ x ∈ s.2.1, x < s.2.2
theorem Pi2.step {s : List Ed × List Nat × Nat} (h : Pi2 s) {w : List Nat} (hw : ∀ c ∈ w, c ∈ LTR) : Pi2 (ptW s w) := by
  have h0 := h.len
  have P := Pi1.run w (s := (s.1, 0, s.2.2)) ⟨h.len, by show 0 < s.2.2; omega, h.eb⟩ hw
  have L := ptS_len w (s.1, 0, s.2.2)
  have P1 := P.len
  refine ⟨P.len, P.eb, fun x hx => ?_⟩
  rcases List.mem_append.mp hx with z | z
  · have := h.ends x z
    show x < (w.foldl ptS (s.1, 0, s.2.2)).2.2
    rw [P1, L]
    show x < s.1.length + w.length + 1
    omega
  · rw [List.mem_singleton.mp z]
    exact P.pl
theorem Pi2.run : ∀ (ws : List (List Nat)) {s : List Ed × List Nat × Nat}, Pi2 s → (∀ w ∈ ws, ∀ c ∈ w, c ∈ LTR) → Pi2 (ws.foldl ptW s)
  | [], _, h, _ => h
  | w :: ws, s, h, hw => Pi2.run ws (h.step (hw w List.mem_cons_self)) fun x hx => hw x (List.mem_cons_of_mem _ hx)
theorem pi2_nil : Pi2 ([], [], 1) := ⟨rfl, (fun _ z => nomatch z), (fun _ z => nomatch z)⟩
theorem ptW_lens : ∀ (ws : List (List Nat)) (s : List Ed × List Nat × Nat) (k : Nat), (∀ w ∈ ws, w.length ≤ k) → (ws.foldl ptW s).1.length ≤ s.1.length + ws.length * k ∧ (ws.foldl ptW s).2.1.length = s.2.1.length + ws.length
  | [], _, _, _ => ⟨by simp, rfl⟩
  | w :: ws, s, k, h => by
    obtain ⟨a, b⟩ := ptW_lens ws (ptW s w) k fun x hx => h x (List.mem_cons_of_mem _ hx)
    have hw := h w List.mem_cons_self
    have L : (ptW s w).1.length = s.1.length + w.length := ptS_len w (s.1, 0, s.2.2)
    have L2 : (ptW s w).2.1.length = s.2.1.length + 1 := by show (s.2.1 ++ [_]).length = _; rw [List.length_append, List.length_singleton]
    rw [List.foldl_cons, List.length_cons, Nat.add_mul, Nat.one_mul]
    exact ⟨by omega, by omega⟩

/-! ### rows of points as data -/
theorem rowI_len (l : List Nat) : ((rowI l).map D.int).length = l.length := by unfold rowI; rw [List.length_map, List.length_map]
theorem rowI_at {l : List Nat} {a : Nat} (h : a < l.length) : atI ((rowI l).map D.int) (a : Int) = some (.int ((l.getD a 0 : Nat) : Int)) := by
  refine atI_at (by omega) ?_
  rw [show ((a : Int)).toNat = a by omega]
  unfold rowI
  rw [List.map_map, List.getElem?_map, List.getElem?_eq_getElem h, List.getD_eq_getElem?_getD, List.getElem?_eq_getElem h]
  rfl
theorem rowI_get {l : List Nat} {i : Nat} {d : D} (h : ((rowI l).map D.int)[i]? = some d) : ∃ x : Nat, l[i]? = some x ∧ d = .int (x : Int) := by
  unfold rowI at h
  rw [List.map_map, List.getElem?_map] at h
  obtain ⟨x, hx, rfl⟩ := Option.map_eq_some_iff.mp h
  exact ⟨x, hx, rfl⟩
theorem row_inj {l m : List Nat} (h : rowI l = rowI m) : l = m := by
  unfold rowI at h
  exact (List.map_inj_right (fun a b e => by omega)).mp h
theorem row_take_snoc {l : List Nat} {i : Nat} {x : Nat} (h : l[i]? = some x) (g : Nat → Nat) : (rowI ((l.take i).map g)).map D.int ++ [.int ((g x : Nat) : Int)] = (rowI ((l.take (i + 1)).map g)).map D.int := by
  rw [List.take_add_one, h]
  unfold rowI
  simp
theorem eqvAll_row : ∀ (l m : List Nat), PyData.eqvAll (pyDs ((rowI l).map D.int)) (pyDs ((rowI m).map D.int)) = decide (l = m)
  | [], [] => by simp [rowI, pyDs, PyData.eqvAll]
  | [], b :: m => by simp [rowI, pyDs, PyData.eqvAll]
  | a :: l, [] => by simp [rowI, pyDs, PyData.eqvAll]
  | a :: l, b :: m => by
    have ih := eqvAll_row l m
    unfold rowI at ih ⊢
    simp only [List.map_cons, pyDs, pyD, PyData.eqvAll, PyData.eqv] at ih ⊢
    rw [ih]
    by_cases h : a = b
    · subst h
      by_cases h2 : l = m
      · subst h2; simp
      · simp [h2]
    · have : ¬ ((a : Int) = (b : Int)) := by omega
      simp [h, this]
theorem eqv_row (l m : List Nat) : PyData.eqv (pyD (.lst ((rowI l).map D.int))) (pyD (.lst ((rowI m).map D.int))) = decide (l = m) := by
  rw [pyD, pyD, PyData.eqv]
  exact eqvAll_row l m
theorem plDs_row (n : Nat) (l : List Nat) : plDs n ((rowI l).map D.int) = true := by
  rw [plDs_all, List.all_eq_true]
  intro d hd
  obtain ⟨i, _, rfl⟩ := List.mem_map.mp hd
  cases n <;> rfl
theorem plD_row (l : List Nat) : plD 1 (.lst ((rowI l).map D.int)) = true := by
  rw [plD, plDs_row]
  rfl
theorem row_snoc (l : List Nat) (x : Nat) : (rowI l).map D.int ++ [.int (x : Int)] = (rowI (l ++ [x])).map D.int := by unfold rowI; rw [List.map_append, List.map_append]; rfl
theorem min_int (x y : Nat) : (if (y : Int) < (x : Int) then (y : Int) else x) = ((min x y : Nat) : Int) := by split <;> omega
theorem max_int (x y : Nat) : (if (y : Int) > (x : Int) then (y : Int) else x) = ((max x y : Nat) : Int) := by split <;> omega
theorem rgI_row (n : Nat) : rgI 0 n = (rowI (List.range n)).map D.int := by
  refine List.ext_getElem? fun i => ?_
  by_cases h : i < n
  · rw [rgI_get _ _ _ h]
    unfold rowI
    rw [List.map_map, List.getElem?_map, List.getElem?_range h]
    simp
  · rw [List.getElem?_eq_none (by rw [rgI_len]; omega), List.getElem?_eq_none (by rw [rowI_len, List.length_range]; omega)]

/-! ### the law's way to the same points -/
def wantE (l : List Nat) (e f : Ed) : List (Nat × Nat) :=
  if e.2.1 = f.2.1 then (if ker l e.1 f.1 then [(e.2.2, f.2.2)] else []) ++ (if ker l e.2.2 f.2.2 then [(e.1, f.1)] else []) else []
def want (l : List Nat) (es : List Ed) (ends : List Nat) : List (Nat × Nat) := (ends.map fun e => (e, 0)) ++ es.flatMap fun e => es.flatMap fun f => wantE l e f
def ltS (s : List Nat × Bool) (x : Nat × Nat) : List Nat × Bool := if ker s.1 x.1 x.2 then s else (idf s.1 x.1 x.2, true)
def ltR (l : List Nat) (ws : List (Nat × Nat)) : List Nat × Bool := ws.foldl ltS (l, false)
theorem mem_wantE {l : List Nat} {e f : Ed} {x : Nat × Nat} : x ∈ wantE l e f ↔ e.2.1 = f.2.1 ∧ ((ker l e.1 f.1 ∧ x = (e.2.2, f.2.2)) ∨ (ker l e.2.2 f.2.2 ∧ x = (e.1, f.1))) := by
  unfold wantE
  by_cases h : e.2.1 = f.2.1
  · rw [if_pos h, List.mem_append]
    by_cases a : ker l e.1 f.1 <;> by_cases b : ker l e.2.2 f.2.2 <;> simp [a, b, h]
  · rw [if_neg h]
    simp [h]
theorem mem_want {l : List Nat} {es : List Ed} {ends : List Nat} {x : Nat × Nat} : x ∈ want l es ends ↔ (∃ e ∈ ends, x = (e, 0)) ∨ ∃ e ∈ es, ∃ f ∈ es, x ∈ wantE l e f := by
  unfold want
  rw [List.mem_append, List.mem_map, List.mem_flatMap]
  constructor
  · rintro (⟨e, he, rfl⟩ | ⟨e, he, h⟩)
    · exact .inl ⟨e, he, rfl⟩
    · obtain ⟨f, hf, h⟩ := List.mem_flatMap.mp h
      exact .inr ⟨e, he, f, hf, h⟩
  · rintro (⟨e, he, rfl⟩ | ⟨e, he, f, hf, h⟩)
    · exact .inl ⟨e, he, rfl⟩
    · exact .inr ⟨e, he, List.mem_flatMap.mpr ⟨f, hf, h⟩⟩
theorem ltS_lp {n : Nat} {s : List Nat × Bool} {x : Nat × Nat} (h : Lp n s.1) (h1 : x.1 < n) (h2 : x.2 < n) : Lp n (ltS s x).1 := by
  unfold ltS
  split
  · exact h
  · exact idf_lp h h1 h2
theorem ltF_lp {n : Nat} : ∀ (ws : List (Nat × Nat)) {s : List Nat × Bool}, Lp n s.1 → (∀ x ∈ ws, x.1 < n ∧ x.2 < n) → Lp n (ws.foldl ltS s).1
  | [], _, h, _ => h
  | x :: ws, s, h, hb => ltF_lp ws (ltS_lp h (hb x List.mem_cons_self).1 (hb x List.mem_cons_self).2) fun y hy => hb y (List.mem_cons_of_mem _ hy)
theorem ltF_snd {es : List Ed} {ends : List Nat} {n : Nat} : ∀ (ws : List (Nat × Nat)) {s : List Nat × Bool}, Lp n s.1 → Snd es ends s.1 → (∀ x ∈ ws, x.1 < n ∧ x.2 < n) → (∀ x ∈ ws, ∀ R, Cong es ends R → R x.1 x.2) → Snd es ends (ws.foldl ltS s).1
  | [], _, _, h, _, _ => h
  | x :: ws, s, hl, h, hb, hR => by
    have b := hb x List.mem_cons_self
    refine ltF_snd ws (ltS_lp hl b.1 b.2) ?_ (fun y hy => hb y (List.mem_cons_of_mem _ hy)) fun y hy => hR y (List.mem_cons_of_mem _ hy)
    unfold ltS
    split
    · exact h
    · exact idf_snd hl b.1 b.2 h (hR x List.mem_cons_self)
theorem ltF_sum {n : Nat} : ∀ (ws : List (Nat × Nat)) {s : List Nat × Bool}, Lp n s.1 → (∀ x ∈ ws, x.1 < n ∧ x.2 < n) →
    ((ws.foldl ltS s = s ∧ ∀ x ∈ ws, ker s.1 x.1 x.2) ∨ ((ws.foldl ltS s).2 = true ∧ (ws.foldl ltS s).1.sum < s.1.sum))
  | [], s, _, _ => .inl ⟨rfl, fun _ z => nomatch z⟩
  | x :: ws, s, hl, hb => by
    have b := hb x List.mem_cons_self
    have hn := hl.len
    have ih := ltF_sum ws (ltS_lp hl b.1 b.2) fun y hy => hb y (List.mem_cons_of_mem _ hy)
    rw [List.foldl_cons]
    by_cases k : ker s.1 x.1 x.2
    · have e : ltS s x = s := if_pos k
      rw [e] at ih ⊢
      rcases ih with ⟨i1, i2⟩ | ih
      · exact .inl ⟨i1, fun y hy => (List.mem_cons.mp hy).elim (fun z => z ▸ k) (i2 y)⟩
      · exact .inr ih
    · have e : ltS s x = (idf s.1 x.1 x.2, true) := if_neg k
      have hlt := idf_sum_lt (l := s.1) (a := x.1) (b := x.2) (by omega) (by omega) k
      rw [e] at ih ⊢
      rcases ih with ⟨i1, i2⟩ | ⟨i1, i2⟩
      · exact .inr ⟨by rw [i1], by rw [i1]; exact hlt⟩
      · exact .inr ⟨i1, Nat.lt_trans i2 hlt⟩
theorem want_bd {n : Nat} {l : List Nat} {es : List Ed} {ends : List Nat} (hE : Ebd n es) (he : ∀ e ∈ ends, e < n) (h0 : 0 < n) {x : Nat × Nat} (h : x ∈ want l es ends) : x.1 < n ∧ x.2 < n := by
  rcases mem_want.mp h with ⟨e, q, rfl⟩ | ⟨e, q, f, r, h⟩
  · exact ⟨he e q, h0⟩
  · obtain ⟨_, z⟩ := mem_wantE.mp h
    rcases z with ⟨_, rfl⟩ | ⟨_, rfl⟩
    · exact ⟨(hE e q).2.1, (hE f r).2.1⟩
    · exact ⟨(hE e q).1, (hE f r).1⟩
theorem want_R {n : Nat} {l : List Nat} {es : List Ed} {ends : List Nat} (hl : l.length = n) (hE : Ebd n es) (hs : Snd es ends l) {x : Nat × Nat} (h : x ∈ want l es ends) (R : Nat → Nat → Prop) (C : Cong es ends R) : R x.1 x.2 := by
  have up : ∀ {a b : Nat}, a < n → b < n → ker l a b → R a b := fun {a b} ha hb k => by
    have r1 := hs R C a (by omega)
    have r2 := hs R C b (by omega)
    rw [show l.getD a 0 = l.getD b 0 from k] at r1
    exact C.trans r1 (C.symm r2)
  rcases mem_want.mp h with ⟨e, q, rfl⟩ | ⟨e, q, f, r, h⟩
  · exact C.ends e q
  · obtain ⟨hk, z⟩ := mem_wantE.mp h
    rcases z with ⟨k, rfl⟩ | ⟨k, rfl⟩
    · exact C.fwd e q f r hk (up (hE e q).1 (hE f r).1 k)
    · exact C.bwd e q f r hk (up (hE e q).2.1 (hE f r).2.1 k)
/-- turn by turn -/
structure Lt (es : List Ed) (ends : List Nat) (n t : Nat) (l : List Nat) (ch : Bool) : Prop where
  lp : Lp n l
  snd : Snd es ends l
  off : ch = false → Clo es ends l
  on : ch = true → l.sum + t ≤ n * n
theorem sum_le_range {n : Nat} {l : List Nat} (hl : l.length = n) (h : ∀ x ∈ l, x ≤ n) : l.sum ≤ n * n := by
  have : ∀ l : List Nat, (∀ x ∈ l, x ≤ n) → l.sum ≤ l.length * n := by
    intro l
    induction l with
    | nil => intro _; simp
    | cons x l ih =>
      intro h
      have h1 := h x List.mem_cons_self
      have h2 := ih fun y hy => h y (List.mem_cons_of_mem _ hy)
      rw [List.sum_cons, List.length_cons, Nat.add_mul, Nat.one_mul]
      omega
  have := this l h
  rwa [hl] at this
theorem Lt.init (es : List Ed) (ends : List Nat) (n : Nat) : Lt es ends n 0 (List.range n) true :=
  ⟨lp_range n, snd_range es ends n, (fun z => nomatch z), fun _ => sum_le_range List.length_range fun x hx => Nat.le_of_lt (List.mem_range.mp hx)⟩
theorem Lt.stay {es : List Ed} {ends : List Nat} {n t : Nat} {l : List Nat} (h : Lt es ends n t l false) : Lt es ends n (t + 1) l false := ⟨h.lp, h.snd, h.off, (fun z => nomatch z)⟩
theorem Lt.turn {es : List Ed} {ends : List Nat} {n t : Nat} {l : List Nat} (hE : Ebd n es) (he : ∀ e ∈ ends, e < n) (h0 : 0 < n) (h : Lt es ends n t l true) : Lt es ends n (t + 1) (ltR l (want l es ends)).1 (ltR l (want l es ends)).2 := by
  have hb : ∀ x ∈ want l es ends, x.1 < n ∧ x.2 < n := fun x hx => want_bd hE he h0 hx
  have hs := h.on rfl
  unfold ltR
  refine ⟨ltF_lp _ h.lp hb, ltF_snd _ h.lp h.snd hb fun x hx R C => want_R h.lp.len hE h.snd hx R C, fun z => ?_, fun z => ?_⟩
  · rcases ltF_sum (want l es ends) (s := (l, false)) h.lp hb with ⟨a, b⟩ | ⟨a, _⟩
    · rw [a]
      refine ⟨fun e q => b (e, 0) (mem_want.mpr (.inl ⟨e, q, rfl⟩)), fun e q f r hk k => b (e.2.2, f.2.2) (mem_want.mpr (.inr ⟨e, q, f, r, mem_wantE.mpr ⟨hk, .inl ⟨k, rfl⟩⟩⟩)), fun e q f r hk k => b (e.1, f.1) (mem_want.mpr (.inr ⟨e, q, f, r, mem_wantE.mpr ⟨hk, .inr ⟨k, rfl⟩⟩⟩))⟩
    · rw [z] at a
      cases a
  · rcases ltF_sum (want l es ends) (s := (l, false)) h.lp hb with ⟨a, b⟩ | ⟨_, b⟩
    · rw [a] at z
      cases z
    · have b' : ((want l es ends).foldl ltS (l, false)).1.sum < l.sum := b
      omega
theorem Lt.done {es : List Ed} {ends : List Nat} {n t : Nat} {l : List Nat} {ch : Bool} (h : Lt es ends n t l ch) (ht : n * n < t) : Lsq es ends n l := by
  refine ⟨h.lp, h.snd, ?_⟩
  cases ch with
  | false => exact h.off rfl
  | true =>
    have := h.on rfl
    omega

/-- a family as data -/
def famD (r : Int) (ws : List (List Nat)) : D := .tup [.int r, .tup (ws.map D.str)]

section
variable {env : Nv} {tas : TA} {K : PySem.W.Frag}
/-- list(x), one's own -/
theorem den_listof {postN : Ow → Prop} (h : Da tas env fun xs => ∃ x l, xs = [x] ∧ seqD x = some l ∧ postN (.lst l)) : DeN (tCB (rListOf K) tas) env postN := fun B M σ H S Q q =>
  h B M σ H S _ fun vs H2 xs ⟨x, l, e1, e2, hp⟩ S2 f2 i2 => by
    subst e1
    cases i2 with
    | cons i r =>
      cases r
      obtain ⟨p, us, rfl, hl, hs⟩ := seqD_ok (K := K) i e2
      exact ⟨p, us, rfl, hl, fun a hn => q a _ (.lst us) (.lst l) hp (S2.newIn hn _) (f2.trans (Fx.new hn)) upd_same (.lst (S2.newIs hn _ hs)) (fresh_back f2 (S2.nst hn) hn)⟩
end
theorem foldM_mv {n : Nat} : ∀ (ms : List Ed) {s : Fs}, Mv s.2 n → (∀ m ∈ ms, m.2.2 < n) → Mv (foldM s ms).2 n
  | [], _, h, _ => h
  | m :: ms, s, h, hb => by
    refine foldM_mv ms (s := stepF s m) ?_ fun x hx => hb x (List.mem_cons_of_mem _ hx)
    unfold stepF
    split
    · exact h
    · exact mv_put h (hb m List.mem_cons_self)
theorem foldM_app (s : Fs) (a b : List Ed) : foldM s (a ++ b) = foldM (foldM s a) b := by unfold foldM; rw [List.foldl_append]
theorem mvl_take {es : List Ed} {i : Nat} {e : Ed} (h : es[i]? = some e) : mvl (es.take (i + 1)) = mvl (es.take i) ++ [e, rev2 e] := by
  unfold mvl
  rw [List.take_add_one, h, List.flatMap_append]
  rfl
theorem mvl_len (es : List Ed) : (mvl es).length = 2 * es.length := by
  induction es with
  | nil => rfl
  | cons e es ih =>
    show (e :: rev2 e :: mvl es).length = _
    rw [List.length_cons, List.length_cons, ih, List.length_cons]
    omega
theorem mvl_sub {es : List Ed} {i : Nat} {m : Ed} (h : m ∈ mvl (es.take i)) : m ∈ mvl es := by
  obtain ⟨e, he, q⟩ := mem_mvl.mp h
  exact mem_mvl.mpr ⟨e, List.mem_of_mem_take he, q⟩
/-- the ends are identified with the beginning -/
def endsF (l : List Nat) (xs : List Nat) : List Nat := xs.foldl (fun l e => idf l 0 e) l
theorem endsF_inv {es : List Ed} {ends : List Nat} {n : Nat} (he : ∀ e ∈ ends, e < n) (h0 : 0 < n) : ∀ (xs : List Nat) {l : List Nat}, Lp n l → Snd es ends l → (∀ x ∈ xs, x ∈ ends) →
    Lp n (endsF l xs) ∧ Snd es ends (endsF l xs) ∧ (∀ p q, p < n → q < n → ker l p q → ker (endsF l xs) p q) ∧ ∀ x ∈ xs, ker (endsF l xs) x 0
  | [], l, hl, hs, _ => ⟨hl, hs, fun _ _ _ _ h => h, fun _ z => nomatch z⟩
  | x :: xs, l, hl, hs, hx => by
    have hxe := hx x List.mem_cons_self
    have hxn := he x hxe
    obtain ⟨a, b, c, d⟩ := endsF_inv he h0 xs (l := idf l 0 x) (idf_lp hl h0 hxn) (idf_snd hl h0 hxn hs fun R C => C.symm (C.ends x hxe)) fun y hy => hx y (List.mem_cons_of_mem _ hy)
    have e : endsF l (x :: xs) = endsF (idf l 0 x) xs := rfl
    rw [e]
    refine ⟨a, b, fun p q hp hq h => c p q hp hq (idf_ker (by rw [hl.len]; exact hp) (by rw [hl.len]; exact hq) h), fun y hy => ?_⟩
    rcases List.mem_cons.mp hy with rfl | hy
    · exact c _ _ hxn h0 (Eq.symm (idf_joins hl h0 hxn))
    · exact d y hy
theorem endsF_li {es : List Ed} {ends : List Nat} {n : Nat} (he : ∀ e ∈ ends, e < n) (h0 : 0 < n) : Li es ends n (endsF (List.range n) ends) := by
  obtain ⟨a, b, _, d⟩ := endsF_inv (es := es) he h0 ends (lp_range n) (snd_range es ends n) fun _ z => z
  exact ⟨a, b, d⟩
theorem endsF_len (xs : List Nat) : ∀ l : List Nat, (endsF l xs).length = l.length := by
  induction xs with
  | nil => intro l; rfl
  | cons x xs ih =>
    intro l
    show (endsF (idf l 0 x) xs).length = _
    rw [ih, idf_len]
theorem endsF_take {l xs : List Nat} {i x : Nat} (h : xs[i]? = some x) : endsF l (xs.take (i + 1)) = idf (endsF l (xs.take i)) 0 x := by
  unfold endsF
  rw [List.take_add_one, h, List.foldl_append]
  rfl
/-- what is known of the points of petals -/
theorem ptl_ok {ws : List (List Nat)} (h : ∀ w ∈ ws, Lts w) : Pi2 (ptl ws) := Pi2.run (ws.map fold) pi2_nil fun w hw => by
  obtain ⟨v, hv, rfl⟩ := List.mem_map.mp hw
  exact fold_lts (h v hv)
theorem ptl_lens {ws : List (List Nat)} {k : Nat} (h : ∀ w ∈ ws, w.length ≤ k) : (ptl ws).1.length ≤ ws.length * k ∧ (ptl ws).2.1.length = ws.length := by
  obtain ⟨a, b⟩ := ptW_lens (ws.map fold) ([], [], 1) k fun w q => by
    obtain ⟨v, hv, rfl⟩ := List.mem_map.mp q
    exact Nat.le_trans (fold_len v) (h v hv)
  rw [List.length_map] at a b
  exact ⟨by simpa [ptl] using a, by simpa [ptl] using b⟩
end DL

namespace DL
open PySem PySem.Spec PyProof.Rows L2

/-! ### t + u, both with items, the new tuple's object known -/
def rCatF (K : PySem.W.Frag) : R2 := fun x y H Q => ∃ p q us ws, x = .ref p ∧ y = .ref q ∧ (SqT K H p us ∧ SqT K H q ws) ∧ (us ≠ [] ∧ ws ≠ []) ∧ us.length + ws.length ≤ sizeLine ∧
  ∀ (l : Addr) (o : Obj), H l = none → o.cls = .type "tuple" → o.dict = none → Q (.ref l) (upd H l (.frz o (.tup (us ++ ws))))
theorem op_catF {X : Cx} : OpR X (binaryOp .Add) (rCatF X.K) := by
  intro pins s σ H x y v u Q inv hx hy hh
  obtain ⟨p, q, us, ws, rfl, rfl, ⟨tp, tq⟩, ⟨n1, n2⟩, hsz, go⟩ := hh
  cases hx
  cases hy
  obtain ⟨a1, b1, c1, _⟩ := inv.tuple tp
  obtain ⟨a2, b2, c2, _⟩ := inv.tuple tq
  have hlen : a1.length + a2.length ≤ sizeLine := by rw [← b1.length, ← b2.length]; exact hsz
  refine HT.cat_tup c1 c2 (fun z => n1 (b1.nil_iff.mp z)) (fun z => absurd (b2.nil_iff.mp z) n2) (fun _ => ?_) hlen
  have J := inv.laid (t' := s.toks) (a := s.heap.objs.size) (o := .frz { cls := .type "tuple", data := .seq (a1 ++ a2).toArray } (.tup (us ++ ws))) (fun b ob z => Heap.get?_push_of_some _ z) (Nat.le_refl _)
    (show ObjOk X.prog X.w _ _ _ (.frz _ (.tup (us ++ ws))) from ⟨Heap.get?_push_size _ rfl, by rw [List.length_append]; exact hsz, _, b1.append b2, IsTup.new _ _⟩)
  exact ⟨.ref s.heap.objs.size, _, J, rfl, go _ _ (inv.hok.fresh (Nat.le_refl _)) rfl rfl⟩
section
variable {K : PySem.W.Frag} {post : D → Prop}
theorem dop_catF {x y : D} {a b : List D} (hx : SqD x a) (hy : SqD y b) (h0 : a ≠ []) (h1 : b ≠ []) (hz : a.length + b.length ≤ 1000000) (h : post (.ptp (a ++ b))) : Dop (rCatF K) x y post := fun st M H v w hst hM trk iv iw Q q => by
  obtain ⟨p, vs, rfl, hl, hs⟩ := is_sq (K := K) hx iv
  obtain ⟨p2, vs2, rfl, hl2, hs2⟩ := is_sq (K := K) hy iw
  refine ⟨p, p2, vs, vs2, rfl, rfl, ⟨hl, hl2⟩, ⟨fun z => ?_, fun z => ?_⟩, by rw [hs.length, hs2.length]; exact le_line hz, fun l o hn hc hd => q _ _ _ h (Fx.new hn) (.ptp (fresh_ne (st := st) trk hn) upd_same ⟨hc, hd⟩ ((hs.append hs2).mono (fun _ z => z) hM (Fx.new hn) hst.notup))⟩
  · subst z; cases hs; exact h0 rfl
  · subst z; cases hs2; exact h1 rfl
end

/-! ### y = {k: v for ..}, on one row, y a local -/
theorem sw_dict {ek ev : Expr} {gens : List Comprehension} {sc : Scope} {p pn : Pos} {nm : Str} {row : Nat} {en : Env} (h1 : en.scope.kind = .function) (h2 : en.scope.names.lookup nm = some .local) (h3 : (pn.line == p.line) = true)
    (h4 : (sc.names.any fun (n, k) => n == nm && (k == .local || k == .cell)) = false) : swapsWith (.DictComp ek ev gens sc p) (some (.Name nm pn)) row en = pure true := by
  have q1 : en.kindOf nm = some .local := h2
  have q2 : en.blockKind = .function := by unfold Env.blockKind; rw [h1]; rfl
  unfold swapsWith
  simp only [q1, q2, h4, Expr.pos, h3]
  rfl
section
variable {X : Cx}
theorem ps_setDc {i : Nat} {nm : Str} {pn p sp : Pos} {ek ev tgt src : Expr} {conds : List Expr} {sc : Scope} {own : List (Str × Nat)} {wi : TI} {g : TG} {tt : TT} {tk tv : TE}
    (h1 : X.calm = true) (h2 : X.N.Nodup) (h3 : X.N[i]? = some nm) (h4 : X.env.scope.names.lookup nm = some .local)
    (h5 : swapsWith (.DictComp ek ev [⟨tgt, src, conds, 0⟩] sc p) (some (.Name nm pn)) sp.line X.env = pure true)
    (h6 : PI X tgt src wi) (h7 : BlkOk X.N X.env.scope sc own)
    (h8 : ∀ (s : Shared) (H : Hp) (c : Addr) (ce : List (Str × Addr)) (fs : List Addr), PG (X.blk s H sc (compEnvC sc ce c X.env) fs) tgt g)
    (h9 : ∀ (s : Shared) (H : Hp) (c : Addr) (ce : List (Str × Addr)) (fs : List Addr), PTs (X.blk s H sc (compEnvC sc ce c X.env) fs) conds tt)
    (hA : ∀ (s : Shared) (H : Hp) (c : Addr) (ce : List (Str × Addr)) (fs : List Addr), PE (X.blk s H sc (compEnvC sc ce c X.env) fs) ek tk)
    (hB : ∀ (s : Shared) (H : Hp) (c : Addr) (ce : List (Str × Addr)) (fs : List Addr), PE (X.blk s H sc (compEnvC sc ce c X.env) fs) ev tv)
    (hC : ∀ z, foldedSetIterable src X.env z = pure z := by intro _; rfl) :
    PS X (.Assign [.Name nm pn] (.DictComp ek ev [⟨tgt, src, conds, 0⟩] sc p) sp) (tAsg (tDc wi g tt tk tv (own.map (·.2))) (gName i)) := by
  refine ⟨fun pins s σ H D inv hh => ?_⟩
  rw [exec_Assign_Name_used _ _ _ _ h5]
  refine wpAny_bind (wpAny_standAt (wpAny_bind ?_))
  have hh : tDc wi g tt tk tv (own.map (·.2)) σ H (fun x H1 => gName i x σ H1 D.nx) := hh
  show wpAny _ X.A (do let _ ← comprehension (.DictComp ek ev [⟨tgt, src, conds, 0⟩] sc p) sc X.env (firstIterPos [⟨tgt, src, conds, 0⟩] p) newDict false (eval src X.env) (some (assign (.Name nm pn) X.env))) _ _ s
  refine wpAny_bind (thn (dc_core (Qf := fun _ s' => SP X pins D .next s') h1 h2 inv h6 h7 h8 h9 hA hB hC hh fun at' c s' m H' inv' got hns fp => ?_) fun _ s' z => wpAny_pure (wpAny_pure z))
  show wpAny _ _ (assign (.Name nm pn) X.env (.ref at')) _ _ _
  obtain ⟨e0, e1, e2, e3, e4, e5⟩ := fp
  refine wpAny_assign_Name (store_ok2 (v := V.ref at') inv' h2 h3 (.inl h4) rfl (fun s2 inv2 ⟨a, sb, ha⟩ => ?_) (.inr h4))
  have ne : c ≠ a := ha.elim (fun z => by rw [z]; exact e1) (fun z e => e4 nm a z e.symm)
  exact ⟨m, hns.sameBut sb ne, fun h3' sb3 => ⟨_, H', inv2.turned (t' := s2.toks) (fun b o hb e => (sb3.2 b hb).trans e) e0 e1 e3 e4 e5, got⟩⟩
end

/-! ### .. over data -/
def wipeE (env : Nv) : List Nat → Nv
  | [] => env
  | i :: is => (wipeE env is).set i .any
theorem Sr.wipes {B : Bs} {M : List Addr} {H : Hp} {σ : L2.St} {env : Nv} (S : Sr B M σ H env) : ∀ is : List Nat, Sr B M (wipe σ is) H (wipeE env is)
  | [] => S
  | i :: is => (Sr.wipes S is).any
/-- a target that writes these slots alone -/
def Only (g : TG) (is : List Nat) : Prop := ∀ x σ H (Q : L2.St → Hp → Prop), g x σ H Q → g x σ H fun σ2 H2 => wipe σ2 is = wipe σ is ∧ Q σ2 H2
theorem wipe_set {σ : L2.St} {i : Nat} {v : Option V} : ∀ {is : List Nat}, i ∈ is → wipe (σ.set i v) is = wipe σ is
  | j :: is, h => by
    unfold wipe
    by_cases q : i ∈ is
    · rw [wipe_set q]
    · have e : i = j := (List.mem_cons.mp h).resolve_right q
      subst e
      have key : ∀ (is : List Nat) (σ : L2.St), (wipe (σ.set i v) is).set i none = (wipe σ is).set i none := by
        intro is
        induction is with
        | nil => intro σ; unfold wipe; rw [List.set_set]
        | cons k ks ih =>
          intro σ
          unfold wipe
          by_cases z : k = i
          · subst z
            rw [List.set_set, List.set_set]
            exact ih σ
          · rw [List.set_comm _ _ z, List.set_comm _ _ z, ih σ]
      exact key is σ
theorem wipe_wipe {σ : L2.St} {is : List Nat} : ∀ {js : List Nat}, (∀ j ∈ js, j ∈ is) → wipe (wipe σ js) is = wipe σ is
  | [], _ => rfl
  | j :: js, h => by
    show wipe ((wipe σ js).set j none) is = _
    rw [wipe_set (h j List.mem_cons_self), wipe_wipe fun k hk => h k (List.mem_cons_of_mem _ hk)]
theorem only_name {i : Nat} {is : List Nat} (h : i ∈ is) : Only (gName i) is := fun x σ H Q q => ⟨wipe_set h, q⟩
theorem only_two {K : PySem.W.Frag} {i j : Nat} {is : List Nat} (hi : i ∈ is) (hj : j ∈ is) : Only (gTup K 2 (gCons (gName i) (gCons (gName j) gNil))) is := fun x σ H Q ⟨a, xs, e, hs, hl, v, r, e2, v2, r2, e3, e4, q⟩ =>
  ⟨a, xs, e, hs, hl, v, r, e2, v2, r2, e3, e4, by rw [wipe_set hj, wipe_set hi], q⟩
section
variable {B : Bs} {M : List Addr} {H : Hp} {σ : L2.St} {env : Nv} {K : PySem.W.Frag}
theorem den_dc {wi : TI} {g : TG} {tt : TT} {tk tv : TE} {is : List Nat} {postN : Ow → Prop} (hg : Only g is) (h : Di wi env fun ds => ds.length ≤ 1000000 ∧ ∃ Iv : Nat → List (Key × V) → Prop, Iv 0 [] ∧
      (∀ i d kvs, ds[i]? = some d → kvs.length ≤ i → Iv i kvs → Dg g d (wipeE env is) fun e2 => Dt tt e2 fun b => if b = true then De tk e2 fun y => De tv e2 fun z => ∃ k w, toKey y = some k ∧ toV z = some w ∧ Iv (i + 1) (putK kvs k w) else Iv (i + 1) kvs) ∧
      ∀ kvs, Iv ds.length kvs → postN (.dK kvs)) : DeN (tDc wi g tt tk tv is) env postN := fun B M σ H S Q q => by
  refine h B M σ H S _ fun J H1 hv ds ⟨hz, Iv, h0, hs, hd⟩ S1 e1 hh T Dl hn => ?_
  have ne : Dl ≠ B.st := S1.nst hn
  refine ⟨fun i m H' => m = ds.length - i ∧ i ≤ ds.length ∧ ∃ kvs, kvs.length ≤ i ∧ Iv i kvs ∧ (∀ kv ∈ kvs, flatV kv.2 = true) ∧ Fx B.st H1 H' ∧ H' Dl = some (.dK kvs), ⟨_, rfl, Nat.zero_le _, [], Nat.le_refl _, h0, (fun _ z => nomatch z), Fx.new hn, upd_same⟩, ?_⟩
  rintro i m H2 ⟨rfl, hi, kvs, hkl, hI, hfl, f2, hD⟩
  have S2 : Sr { B with hid := hv ++ B.hid } (Dl :: M) (wipe σ is) H2 (wipeE env is) := ((S1.hide hh).newIn' (B := { B with hid := hv ++ B.hid }) hn f2 hD).wipes is
  obtain ⟨t1, t2, t3⟩ := T.run _ H2 S2.stm S2.stM S2.hv
  by_cases hlt : i < ds.length
  · refine .inr ⟨t1 i hlt, fun H' => ∃ kvs, kvs.length ≤ i + 1 ∧ Iv (i + 1) kvs ∧ (∀ kv ∈ kvs, flatV kv.2 = true) ∧ Fx B.st H1 H' ∧ H' Dl = some (.dK kvs), fun H' hN => ⟨_, by omega, rfl, hlt, hN⟩, fun x H3 hy => ?_⟩
    obtain ⟨hH, ix⟩ := t3 i _ x H3 (List.getElem?_eq_getElem hlt) hy
    have e3 : Fx B.st H2 H3 := by
      rcases hH with z | ⟨T, o, hT, z⟩
      · rw [z]; exact Fx.refl _ _
      · rw [z]; exact Fx.new hT
    have hw0 : wipe (wipe σ is) is = wipe σ is := wipe_wipe fun _ z => z
    have go := hg x (wipe σ is) H3
    rw [hw0] at go
    refine go _ (hs i _ kvs (List.getElem?_eq_getElem hlt) hkl hI _ _ _ H3 _ (S2.fx e3) ix _ fun σ4 env4 h4 S4 => ?_)
    refine h4 _ _ _ H3 S4 _ fun b H4 hb S5 e4 => ?_
    have f4 : Fx B.st H1 H4 := (f2.trans e3).trans e4
    have D4 : H4 Dl = some (.dK kvs) := e4.1 _ _ ne (e3.1 _ _ ne hD)
    cases b with
    | true =>
      refine hb _ _ _ H4 S5 _ fun y H5 d5 h5 S6 e5 i5 => h5 _ _ _ H5 S6 _ fun z H6 d6 ⟨k, w, hk, hw, hI6⟩ S7 e6 i6 => ?_
      have D6 : H6 Dl = some (.dK kvs) := e6.1 _ _ ne (e5.1 _ _ ne D4)
      have hzw := is_flat i6 hw
      subst hzw
      refine ⟨kvs, k, is_key i5 hk, D6, Nat.lt_of_le_of_lt hkl (Nat.lt_of_lt_of_le (Nat.lt_of_lt_of_le hlt hz) (by decide)), putK kvs k z, ?_, hI6, fun kv hkv => ?_, ((f4.trans e5).trans e6).mut hn ne, upd_same⟩
      · have := put_len kvs k z
        omega
      · unfold putK at hkv
        split at hkv
        · obtain ⟨x, hx, rfl⟩ := List.mem_map.mp hkv
          split
          · exact flat_of hw
          · exact hfl x hx
        · rcases List.mem_append.mp hkv with c | c
          · exact hfl kv c
          · rw [List.mem_singleton.mp c]
            exact flat_of hw
    | false => exact ⟨kvs, by omega, hb, hfl, f4, D4⟩
  · have e : i = ds.length := by omega
    subst e
    refine .inl ⟨t2 _ (Nat.le_refl _), q Dl H2 (.dK kvs) (.dK kvs) (hd kvs hI) (S1.newIn' hn f2 hD) (e1.trans f2) hD (.dK hfl) (fresh_back e1 ne hn)⟩
end
end DL

namespace DL
open PySem PySem.Spec PyProof.Rows L2

/-! ### tuple(range(n)) -/
theorem de_tupRg {env : Nv} {te : TE} {post : D → Prop} (h : De te env fun d => ∃ n : Int, d = .int n ∧ 0 ≤ n ∧ n ≤ 1000000 ∧ post (.tup (rgI 0 n.toNat))) : De (tTupRg (tRg1 te)) env post := fun B M σ H S Q q =>
  h B M σ H S _ fun v H1 d ⟨n, e, h1, h2, hp⟩ S1 e1 i1 => by
    subst e
    cases is_int i1
    refine ⟨n, rfl, .of_le (by omega) (by omega) (by omega) (by omega), fun p hn => q _ _ _ hp (S1.new hn) (e1.trans (Fx.new hn)) (.tup upd_same ?_)⟩
    unfold rgV rgI
    rw [Int.sub_zero]
    exact iss_map (fun i => .int _) _

/-! ### one action's points taken to those of another one -/
theorem perm_full : ∀ (k : Nat) (l : List Nat), l.Nodup → (∀ x ∈ l, x < k) → l.length = k → l.Perm (List.range k)
  | 0, l, _, _, hl => by rw [List.eq_nil_of_length_eq_zero hl]; exact .refl _
  | k + 1, l, nd, hb, hl => by
    by_cases h : k ∈ l
    · have ih := perm_full k (l.erase k) (nd.erase k) (fun x hx => by
        obtain ⟨a, b⟩ := nd.mem_erase_iff.mp hx
        have := hb x b
        omega) (by rw [List.length_erase_of_mem h, hl]; rfl)
      rw [List.range_succ]
      exact ((List.perm_cons_erase h).trans (ih.cons k)).trans (List.perm_append_singleton _ _).symm
    · have := List.Nodup.length_le_of_subset nd (l₂ := List.range k) fun x hx => List.mem_range.mpr (by
        have h1 := hb x hx
        have h2 : x ≠ k := fun z => h (z ▸ hx)
        omega)
      rw [List.length_range] at this
      omega
structure Mor (ls : List Nat) (kvs kvs' : List (List Key × V)) (P : Nat → Prop) (f : Nat → Nat) : Prop where
  zero : P 0
  f0 : f 0 = 0
  clo : ∀ p c, P p → c ∈ ls → P (stp kvs p c)
  step : ∀ p c, P p → c ∈ ls → stp kvs' (f p) c = f (stp kvs p c)
  inj : ∀ p q, P p → P q → f p = f q → p = q
section
variable {ls : List Nat} {kvs kvs' : List (List Key × V)} {P : Nat → Prop} {f : Nat → Nat}
theorem Mor.wk (m : Mor ls kvs kvs' P f) : ∀ (w : List Nat) {p : Nat}, P p → (∀ c ∈ w, c ∈ ls) → DL.wk kvs' (f p) w = f (DL.wk kvs p w) ∧ P (DL.wk kvs p w)
  | [], p, h, _ => ⟨rfl, h⟩
  | c :: w, p, h, hw => by
    have hc := hw c List.mem_cons_self
    have ih := Mor.wk m w (m.clo p c h hc) fun x hx => hw x (List.mem_cons_of_mem _ hx)
    refine ⟨?_, ih.2⟩
    show DL.wk kvs' (stp kvs' (f p) c) w = _
    rw [m.step p c h hc]
    exact ih.1
def mapF (f : Nat → Nat) (s : Fd) : Fd := (s.1.map f, s.2)
theorem Mor.fnL (m : Mor ls kvs kvs' P f) {s : Fd} {t c : Nat} (hs : ∀ x ∈ s.1, P x) (ht : t < s.1.length) (hc : c ∈ ls) : fnL kvs' t (mapF f s) c = mapF f (DL.fnL kvs t s c) ∧ (∀ x ∈ (DL.fnL kvs t s c).1, P x) ∧ s.1.length ≤ (DL.fnL kvs t s c).1.length := by
  have hp : P (s.1.getD t 0) := hs _ (getD_mem ht)
  have e0 : (mapF f s).1.getD t 0 = f (s.1.getD t 0) := getD_mapN ht
  have hq := m.clo _ c hp hc
  have e1 : (stp kvs' ((mapF f s).1.getD t 0) c ∈ (mapF f s).1) ↔ stp kvs (s.1.getD t 0) c ∈ s.1 := by
    rw [e0, m.step _ c hp hc]
    show f _ ∈ s.1.map f ↔ _
    rw [List.mem_map]
    constructor
    · rintro ⟨x, hx, e⟩
      rw [← m.inj _ _ (hs x hx) hq e]
      exact hx
    · exact fun h => ⟨_, h, rfl⟩
  unfold DL.fnL
  by_cases h : stp kvs (s.1.getD t 0) c ∈ s.1
  · rw [if_pos h, if_pos (e1.mpr h)]
    exact ⟨rfl, hs, Nat.le_refl _⟩
  · rw [if_neg h, if_neg (fun z => h (e1.mp z)), e0, m.step _ c hp hc]
    refine ⟨?_, fun x hx => ?_, by rw [List.length_append]; omega⟩
    · unfold mapF
      rw [List.map_append]
      rfl
    · rcases List.mem_append.mp hx with z | z
      · exact hs x z
      · rw [List.mem_singleton.mp z]; exact hq
theorem Mor.fnLs (m : Mor ls kvs kvs' P f) {t : Nat} : ∀ (cs : List Nat) {s : Fd}, (∀ x ∈ s.1, P x) → t < s.1.length → (∀ c ∈ cs, c ∈ ls) → cs.foldl (DL.fnL kvs' t) (mapF f s) = mapF f (cs.foldl (DL.fnL kvs t) s) ∧ ∀ x ∈ (cs.foldl (DL.fnL kvs t) s).1, P x
  | [], s, hs, _, _ => ⟨rfl, hs⟩
  | c :: cs, s, hs, ht, hc => by
    obtain ⟨a, b, d⟩ := m.fnL hs ht (hc c List.mem_cons_self)
    rw [List.foldl_cons, List.foldl_cons, a]
    exact Mor.fnLs m cs b (by omega) fun x hx => hc x (List.mem_cons_of_mem _ hx)
theorem Mor.fnd (m : Mor ls kvs kvs' P f) : ∀ n : Nat, DL.fnd kvs' ls n = mapF f (DL.fnd kvs ls n) ∧ ∀ x ∈ (DL.fnd kvs ls n).1, P x
  | 0 => ⟨by show ([0], [[]]) = (([f 0], [[]]) : Fd); rw [m.f0], fun x hx => by rw [List.mem_singleton.mp hx]; exact m.zero⟩
  | n + 1 => by
    obtain ⟨a, b⟩ := Mor.fnd m n
    have e : ∀ kvs, DL.fnd kvs ls (n + 1) = fnT kvs ls (DL.fnd kvs ls n) n := fun kvs => by unfold DL.fnd; rw [List.range_succ, List.foldl_append]; rfl
    rw [e, e, a]
    unfold fnT
    have hl : (mapF f (DL.fnd kvs ls n)).1.length = (DL.fnd kvs ls n).1.length := List.length_map ..
    by_cases h : n < (DL.fnd kvs ls n).1.length
    · rw [if_pos h, if_pos (by rw [hl]; exact h)]
      exact m.fnLs ls b h fun _ z => z
    · rw [if_neg h, if_neg (by rw [hl]; exact h)]
      exact ⟨rfl, b⟩
end
/-- further turns find nothing more -/
theorem fnd_more {k : Nat} {ls : List Nat} {kvs : List (List Key × V)} (A : Act k ls kvs) (h0 : 0 < k) : ∀ j : Nat, fnd kvs ls (k + j) = fnd kvs ls k
  | 0 => rfl
  | j + 1 => by
    have ih := fnd_more A h0 j
    have e : fnd kvs ls (k + (j + 1)) = fnT kvs ls (fnd kvs ls (k + j)) (k + j) := by unfold fnd; rw [show k + (j + 1) = (k + j) + 1 from rfl, List.range_succ, List.foldl_append]; rfl
    rw [e, ih]
    have := (FI.range A h0 k).1.len_le
    exact if_neg (by omega)

/-! ### an action restricted to its orbit -/
def orbP (n : Nat) (rows : List (List Nat)) : List Nat := (fnd (mvs (edgesOf rows)) (lsR rows.length) n).1
def rsW (ps : List Nat) (r : List Nat) : List Nat := ps.map fun p => ps.idxOf (r.getD p 0)
def rsR (n : Nat) (rows : List (List Nat)) : List (List Nat) := rows.map (rsW (orbP n rows))
theorem idx_at {ps : List Nat} {x : Nat} (h : x ∈ ps) : ps[ps.idxOf x]? = some x := by
  rw [List.getElem?_eq_getElem (List.idxOf_lt_length_of_mem h), List.getElem_idxOf]
theorem idx_inj {ps : List Nat} {x y : Nat} (hx : x ∈ ps) (hy : y ∈ ps) (h : ps.idxOf x = ps.idxOf y) : x = y := by
  have a := idx_at hx
  rw [h, idx_at hy] at a
  exact (Option.some.inj a).symm
theorem idx_of {ps : List Nat} (nd : ps.Nodup) {i x : Nat} (h : ps[i]? = some x) : ps.idxOf x = i := by
  obtain ⟨hi, e⟩ := List.getElem?_eq_some_iff.mp h
  rw [← e]
  exact nd.idxOf_getElem i hi
theorem map_idx {ps : List Nat} (nd : ps.Nodup) : ps.map ps.idxOf = List.range ps.length := by
  refine List.ext_getElem (by simp) fun i h1 h2 => ?_
  rw [List.getElem_map, List.getElem_range]
  exact nd.idxOf_getElem i (by simpa using h1)
theorem row_val {n p : Nat} {r : List Nat} (h : perm n r) (hp : p < n) : r[p]? = some (r.getD p 0) ∧ r.getD p 0 < n := by
  have hl : p < r.length := by rw [perm_len h]; exact hp
  have e : r[p]? = some (r.getD p 0) := by rw [List.getD_eq_getElem?_getD, List.getElem?_eq_getElem hl]; rfl
  exact ⟨e, (perm_lt h).mp (List.mem_of_getElem? e)⟩
theorem row_inj2 {n p q : Nat} {r : List Nat} (h : perm n r) (hp : p < n) (hq : q < n) (e : r.getD p 0 = r.getD q 0) : p = q := by
  have nd : r.Nodup := h.nodup_iff.mpr List.nodup_range
  obtain ⟨i1, e1⟩ := List.getElem?_eq_some_iff.mp (row_val h hp).1
  obtain ⟨i2, e2⟩ := List.getElem?_eq_some_iff.mp (row_val h hq).1
  have pw := List.pairwise_iff_getElem.mp nd
  rcases Nat.lt_trichotomy p q with z | z | z
  · exact absurd ((e1.trans e).trans e2.symm) (pw _ _ i1 i2 z)
  · exact z
  · exact absurd ((e2.trans e.symm).trans e1.symm) (pw _ _ i2 i1 z)
section
variable {n : Nat} {rows : List (List Nat)}
/-- what is known of the orbit -/
structure Orb (n : Nat) (rows : List (List Nat)) (ps : List Nat) : Prop where
  nd : ps.Nodup
  lt : ∀ x ∈ ps, x < n
  zero : ps[0]? = some 0
  clo : ∀ p ∈ ps, ∀ c ∈ lsR rows.length, stp (mvs (edgesOf rows)) p c ∈ ps
theorem orb_ok (h : okA n rows) : Orb n rows (orbP n rows) := by
  have A := okA_act h
  have h0 : 0 < n := h.2.2.1
  have F := (FI.range A h0 n).1
  refine ⟨F.nd, F.lt, F.zero, fun p hp c hc => ?_⟩
  obtain ⟨i, hi⟩ := List.mem_iff_getElem?.mp hp
  have hil := (List.getElem?_eq_some_iff.mp hi).1
  have hiw : i < (fnd (mvs (edgesOf rows)) (lsR rows.length) n).2.length := by rw [F.len]; exact hil
  obtain ⟨w1, w2, _⟩ := F.way i _ (List.getElem?_eq_getElem hiw)
  generalize (fnd (mvs (edgesOf rows)) (lsR rows.length) n).2[i] = w at w1 w2
  have e : p = wk (mvs (edgesOf rows)) 0 w := Option.some.inj (hi.symm.trans w1)
  have := fnd_all A h0 (w ++ [c]) fun x hx => (List.mem_append.mp hx).elim (w2 x) fun z => by rw [List.mem_singleton.mp z]; exact hc
  rw [wk_app, ← e] at this
  exact this
theorem orb_row (h : okA n rows) {j p : Nat} {r : List Nat} (hr : rows[j]? = some r) (hp : p ∈ orbP n rows) : r.getD p 0 ∈ orbP n rows := by
  have O := orb_ok h
  have hjl := (List.getElem?_eq_some_iff.mp hr).1
  have hj3 : j < 3 := by have := h.2.1; omega
  have hs : SM[j]? = some SM[j] := List.getElem?_eq_getElem _
  have hpr := h.2.2.2.2 r (List.mem_of_getElem? hr)
  have hc : SM[j] ∈ lsR rows.length := by
    have e : ∀ k, k ≤ 3 → ∀ j (q : j < 3), j < k → SM[j] ∈ lsR k := by decide
    exact e _ h.2.1 j hj3 hjl
  have := O.clo p hp _ hc
  rwa [stp_eq (mv_both h.2.2.2.2 hs hr (row_val hpr (O.lt p hp)).1).1] at this
theorem rsW_at {ps r : List Nat} {p : Nat} (hp : p ∈ ps) : (rsW ps r)[ps.idxOf p]? = some (ps.idxOf (r.getD p 0)) := by
  unfold rsW
  rw [List.getElem?_map, idx_at hp]
  rfl
theorem rsR_get {j : Nat} {r : List Nat} (hr : rows[j]? = some r) : (rsR n rows)[j]? = some (rsW (orbP n rows) r) := by
  unfold rsR
  rw [List.getElem?_map, hr]
  rfl
theorem rsR_ok (h : okA n rows) : okA (orbP n rows).length (rsR n rows) := by
  have O := orb_ok h
  have F := (FI.range (okA_act h) h.2.2.1 n).1.len_le
  have h1 : 0 < (orbP n rows).length := (List.getElem?_eq_some_iff.mp O.zero).1
  have hF : (orbP n rows).length ≤ n := F
  have hlen : (rsR n rows).length = rows.length := List.length_map ..
  refine ⟨by rw [hlen]; exact h.1, by rw [hlen]; exact h.2.1, h1, by have := h.2.2.2.1; omega, fun r' hr' => ?_⟩
  obtain ⟨r, hr, rfl⟩ := List.mem_map.mp hr'
  obtain ⟨j, hj⟩ := List.mem_iff_getElem?.mp hr
  have hpr := h.2.2.2.2 r hr
  refine perm_full _ _ ?_ (fun x hx => ?_) (List.length_map ..)
  · unfold rsW
    refine List.pairwise_map.mpr (List.Pairwise.imp_of_mem (fun {a b} ha hb hne e => hne ?_) O.nd)
    exact row_inj2 hpr (O.lt a ha) (O.lt b hb) (idx_inj (orb_row h hj ha) (orb_row h hj hb) e)
  · obtain ⟨p, hp, rfl⟩ := List.mem_map.mp hx
    exact List.idxOf_lt_length_of_mem (orb_row h hj hp)
theorem rsR_mor (h : okA n rows) : Mor (lsR rows.length) (mvs (edgesOf rows)) (mvs (edgesOf (rsR n rows))) (· ∈ orbP n rows) (orbP n rows).idxOf := by
  have O := orb_ok h
  have k := rsR_ok h
  refine ⟨List.mem_of_getElem? O.zero, idx_of O.nd O.zero, fun p c hp hc => O.clo p hp c hc, fun p c hp hc => ?_, fun p q hp hq => idx_inj hp hq⟩
  obtain ⟨hcl, hcs, j, c0, hj, hs, hcc⟩ := lsR_ok h.1 h.2.1 c hc
  have hr : rows[j]? = some rows[j] := List.getElem?_eq_getElem hj
  have hpr := h.2.2.2.2 rows[j] (List.getElem_mem hj)
  generalize rows[j] = r at hr hpr
  have hr' := rsR_get (n := n) hr
  rcases hcc with rfl | rfl
  · rw [stp_eq (mv_both h.2.2.2.2 hs hr (row_val hpr (O.lt p hp)).1).1]
    exact stp_eq (mv_both k.2.2.2.2 hs hr' (rsW_at hp)).1
  · have hq := O.clo p hp _ hc
    have A := okA_act h p (O.lt p hp) _ hc
    generalize hqq : stp (mvs (edgesOf rows)) p (sw c0) = q at hq A
    have hqn := O.lt q hq
    have e1 := stp_eq (mv_both h.2.2.2.2 hs hr (row_val hpr hqn).1).2
    have e2 : r.getD q 0 = p := by
      have := A.2.2
      rw [sw_sw (SM_LTR (List.mem_of_getElem? hs)), stp_eq (mv_both h.2.2.2.2 hs hr (row_val hpr hqn).1).1] at this
      exact this
    have := rsW_at (r := r) hq
    rw [e2] at this
    exact stp_eq (mv_both k.2.2.2.2 hs hr' this).2
/-- the orbit of the restricted action: all its points in order -/
theorem rsR_orb (h : okA n rows) : orbP (orbP n rows).length (rsR n rows) = List.range (orbP n rows).length := by
  have O := orb_ok h
  have k := rsR_ok h
  have m := rsR_mor h
  have hlen : (rsR n rows).length = rows.length := List.length_map ..
  have A' := okA_act k
  rw [hlen] at A'
  have F : (orbP n rows).length ≤ n := (FI.range (okA_act h) h.2.2.1 n).1.len_le
  have e1 := fnd_more A' k.2.2.1 (n - (orbP n rows).length)
  rw [show (orbP n rows).length + (n - (orbP n rows).length) = n by omega] at e1
  show (fnd (mvs (edgesOf (rsR n rows))) (lsR (rsR n rows).length) (orbP n rows).length).1 = _
  rw [hlen, ← e1, (m.fnd n).1]
  exact map_idx O.nd
theorem rsR_again (h : okA n rows) : rsR (orbP n rows).length (rsR n rows) = rsR n rows := by
  have k := rsR_ok h
  conv => lhs; unfold rsR
  rw [show orbP (orbP n rows).length (List.map (rsW (orbP n rows)) rows) = List.range (orbP n rows).length from rsR_orb h]
  conv => rhs; rw [← List.map_id (rsR n rows)]
  refine List.map_congr_left fun r' hr' => ?_
  have hp := k.2.2.2.2 r' hr'
  have hl := perm_len hp
  show rsW (List.range _) r' = r'
  unfold rsW
  refine List.ext_getElem (by simp [hl]) fun i h1 h2 => ?_
  have hi : i < (orbP n rows).length := by rw [← hl]; exact h2
  obtain ⟨a, b⟩ := row_val hp hi
  have e : r'[i] = r'.getD i 0 := Option.some.inj ((List.getElem?_eq_getElem h2).symm.trans a)
  rw [List.getElem_map, List.getElem_range, e]
  exact idx_of List.nodup_range (by rw [List.getElem?_range b])
/-- a further point that is in no orbit -/
def moreR (n : Nat) (rows : List (List Nat)) : List (List Nat) := rows.map fun r => r ++ [n]
theorem moreR_ok (h : okA n rows) (hn : n < 60) : okA (n + 1) (moreR n rows) := by
  have hlen : (moreR n rows).length = rows.length := List.length_map ..
  refine ⟨by rw [hlen]; exact h.1, by rw [hlen]; exact h.2.1, by omega, by omega, fun r' hr' => ?_⟩
  obtain ⟨r, hr, rfl⟩ := List.mem_map.mp hr'
  show (r ++ [n]).Perm (List.range (n + 1))
  rw [List.range_succ]
  exact (h.2.2.2.2 r hr).append_right _
theorem more_at {r : List Nat} {p : Nat} (hr : perm n r) (hp : p < n) : (r ++ [n])[p]? = r[p]? := List.getElem?_append_left (by rw [perm_len hr]; exact hp)
theorem moreR_mor (h : okA n rows) (hn : n < 60) : Mor (lsR rows.length) (mvs (edgesOf rows)) (mvs (edgesOf (moreR n rows))) (· < n) id := by
  have k := moreR_ok h hn
  refine ⟨h.2.2.1, rfl, fun p c hp hc => (okA_act h p hp c hc).2.1, fun p c hp hc => ?_, fun p q _ _ e => e⟩
  obtain ⟨hcl, hcs, j, c0, hj, hs, hcc⟩ := lsR_ok h.1 h.2.1 c hc
  have hr : rows[j]? = some rows[j] := List.getElem?_eq_getElem hj
  have hpr := h.2.2.2.2 rows[j] (List.getElem_mem hj)
  generalize rows[j] = r at hr hpr
  have hr' : (moreR n rows)[j]? = some (r ++ [n]) := by unfold moreR; rw [List.getElem?_map, hr]; rfl
  show stp _ p c = stp _ p c
  rcases hcc with rfl | rfl
  · rw [stp_eq (mv_both h.2.2.2.2 hs hr (row_val hpr hp).1).1]
    exact stp_eq (mv_both k.2.2.2.2 hs hr' (by rw [more_at hpr hp]; exact (row_val hpr hp).1)).1
  · have A := okA_act h p hp _ hc
    generalize hqq : stp (mvs (edgesOf rows)) p (sw c0) = q at A
    have e2 : r.getD q 0 = p := by
      have := A.2.2
      rw [sw_sw (SM_LTR (List.mem_of_getElem? hs)), stp_eq (mv_both h.2.2.2.2 hs hr (row_val hpr A.2.1).1).1] at this
      exact this
    exact stp_eq (mv_both k.2.2.2.2 hs hr' (by rw [more_at hpr A.2.1, (row_val hpr A.2.1).1, e2])).2
theorem moreR_rs (h : okA n rows) (hn : n < 60) : rsR (n + 1) (moreR n rows) = rsR n rows := by
  have hlen : (moreR n rows).length = rows.length := List.length_map ..
  have m := moreR_mor h hn
  have O := orb_ok h
  have eo : orbP (n + 1) (moreR n rows) = orbP n rows := by
    show (fnd (mvs (edgesOf (moreR n rows))) (lsR (moreR n rows).length) (n + 1)).1 = _
    rw [hlen, (m.fnd (n + 1)).1, fnd_more (okA_act h) h.2.2.1 1]
    exact List.map_id _
  unfold rsR
  rw [eo]
  unfold moreR
  rw [List.map_map]
  refine List.map_congr_left fun r hr => ?_
  show rsW _ (r ++ [n]) = rsW _ r
  unfold rsW
  refine List.map_congr_left fun p hp => ?_
  rw [List.getD_eq_getElem?_getD, more_at (h.2.2.2.2 r hr) (O.lt p hp), ← List.getD_eq_getElem?_getD]
end

/-! ### a dict of numbers: each point's place -/
def nbD (ps : List Nat) : List (Key × V) := ps.mapIdx fun (i p : Nat) => (.inl (p : Int), .int (i : Int))
theorem nbD_snoc (ps : List Nat) (p : Nat) : nbD (ps ++ [p]) = nbD ps ++ [(.inl (p : Int), .int (ps.length : Int))] := by
  unfold nbD
  rw [List.mapIdx_append]
  show _ ++ [((Sum.inl (p : Int) : Key), V.int ((0 + ps.length : Nat) : Int))] = _
  rw [Nat.zero_add]
theorem nbD_len (ps : List Nat) : (nbD ps).length = ps.length := by unfold nbD; rw [List.length_mapIdx]
theorem nbD_put {ps : List Nat} {p : Nat} (h : p ∉ ps) : putK (nbD ps) (.inl (p : Int)) (.int (ps.length : Int)) = nbD (ps ++ [p]) := by
  unfold putK
  rw [if_neg, nbD_snoc]
  intro z
  obtain ⟨kv, hkv, e⟩ := List.any_eq_true.mp z
  have e' := of_decide_eq_true e
  unfold nbD at hkv
  obtain ⟨i, hi, rfl⟩ := List.mem_mapIdx.mp hkv
  have : (Sum.inl ((ps[i] : Nat) : Int) : Key) = .inl (p : Int) := e'
  injection this with this
  have e2 : ps[i] = p := by omega
  exact h (e2 ▸ List.getElem_mem hi)
theorem nbD_at : ∀ {ps : List Nat}, ps.Nodup → ∀ {p : Nat}, p ∈ ps → valV (nbD ps) (.inl (p : Int)) = some (.int (ps.idxOf p : Nat)) := fun {ps} nd {p} hp => by
  have key : ∀ (ps : List Nat) (b : Nat), p ∈ ps → valV (ps.mapIdx fun (i p : Nat) => ((Sum.inl (p : Int) : Key), V.int ((b + i : Nat) : Int))) (.inl (p : Int)) = some (.int ((b + ps.idxOf p : Nat) : Int)) := by
    intro ps
    induction ps with
    | nil => intro b h; cases h
    | cons q ps ih =>
      intro b h
      rw [List.mapIdx_cons]
      by_cases e : q = p
      · subst e
        rw [valV_pos rfl, List.idxOf_cons_self]
      · rw [valV_neg (by
          show ¬ (Sum.inl (q : Int) : Key) = .inl (p : Int)
          intro z
          injection z with z
          exact e (by omega))]
        have := ih (b + 1) ((List.mem_cons.mp h).resolve_left fun z => e z.symm)
        rw [show (q :: ps).idxOf p = (ps.idxOf p).succ by rw [List.idxOf_cons, show (q == p) = false by simpa using e]; rfl]
        rw [show b + (ps.idxOf p).succ = b + 1 + ps.idxOf p by omega, ← this]
        have ef : (fun (i p : Nat) => ((Sum.inl (p : Int) : Key), V.int ((b + (i + 1) : Nat) : Int))) = fun (i p : Nat) => ((Sum.inl (p : Int) : Key), V.int ((b + 1 + i : Nat) : Int)) := by
          funext i x
          rw [show b + (i + 1) = b + 1 + i by omega]
        rw [ef]
  have := key ps 0 hp
  rw [Nat.zero_add] at this
  rw [← this]
  unfold nbD
  simp

theorem eqv_rowQ {x y : D} (l m : List Nat) (hx : SqD x ((rowI l).map D.int)) (hy : SqD y ((rowI m).map D.int)) : PyData.eqv (pyD x) (pyD y) = decide (l = m) := by
  cases x <;> first | (cases hx; done) | skip
  all_goals (cases y <;> first | (cases hy; done) | skip)
  all_goals
    cases hx
    cases hy
    rw [pyD, pyD, PyData.eqv]
    exact eqvAll_row l m
theorem plD_rowD (n : Nat) (r : List Nat) : plD (n + 1) (rowD r) = true := by
  show plD (n + 1) (.ptp ((rowI r).map D.int)) = true
  rw [plD, show n + 1 - 1 = n from rfl, plDs_row]
  simp
theorem plD_act (rows : List (List Nat)) : plD 2 (actD rows) = true := by
  show plD 2 (.tup (rows.map rowD)) = true
  rw [plD, plDs_all]
  simp only [Nat.add_one_sub_one, Bool.and_eq_true, List.all_eq_true]
  refine ⟨by decide, fun d hd => ?_⟩
  obtain ⟨r, _, rfl⟩ := List.mem_map.mp hd
  exact plD_rowD 0 r
end DL

/-! sets of tuples whose items are carried by value, the items' kind any -/
namespace TK
open PySem PySem.Spec PyProof.Rows L2
section
variable {P : Program} {w : World} {A : Around} {E : Value → Shared → Prop} {s : Shared} {κ : Type} [DecidableEq κ] {knd : PySem.KeyKind P w κ}
theorem class_no {v : Value} (hv : carriedByValue v = true) (n : Nat) : ofAClassStatement n v = pure false := by
  cases v with
  | ref a => simp [carriedByValue] at hv
  | _ => cases n <;> rfl
theorem hash_some {v : Value} (hv : carriedByValue v = true) (n : Nat) : ∃ b, hashByValue n v = pure b := by
  cases v with
  | ref a => simp [carriedByValue] at hv
  | _ => cases n <;> exact ⟨_, rfl⟩
theorem class_tup {key : List κ} {at' : Addr} {Q : Bool → Shared → Prop} (hk : IsTupleKey knd s.heap key at') (go : Q false s) : wpAny (model P w) A (ofAClassStatement 8 (.ref at')) Q E s := by
  have ty := hk.typeIs
  obtain ⟨ob, its, cnt, hob, _, hdat, hits⟩ := hk
  unfold ofAClassStatement
  refine wpAny_bind (wpAny_typeOf ty ?_)
  dsimp only
  simp only [show (("tuple" : String) == "tuple") = true by decide, if_true, Bool.not_true, Bool.false_eq_true, if_false]
  first | refine wpAny_bind (wpAny_pure ?_) | skip
  first | simp only [Bool.not_true, Bool.false_eq_true, if_false] | skip
  show wpAny _ _ (seqItems? (.ref at') >>= _) _ _ s
  refine wpAny_bind (wpAny_seqItems hob hdat ?_)
  dsimp only
  refine wpAny_bind ?_
  show wpAny _ _ (forIn its _ _) _ _ s
  rw [← Array.forIn_toList]
  refine wpAny_forIn_list _ (fun left st s2 => s2 = s ∧ st.1 = none ∧ ∀ v ∈ left, carriedByValue v = true) _ ?_ ?_ _ _ ⟨rfl, rfl, hits.byValue⟩
  · rintro v left st s2 ⟨rfl, hst, hall⟩
    rw [class_no (hall v List.mem_cons_self)]
    refine wpAny_bind (wpAny_pure ?_)
    simp only [Bool.false_eq_true, if_false]
    exact wpAny_pure ⟨rfl, rfl, fun u hu => hall u (List.mem_cons_of_mem _ hu)⟩
  · rintro ⟨u1, u2⟩ s2 ⟨rfl, hst, _⟩
    dsimp only at hst
    subst hst
    exact wpAny_pure go
theorem hash_tup {key : List κ} {at' : Addr} {Q : Bool → Shared → Prop} (hk : IsTupleKey knd s.heap key at') (go : ∀ b, Q b s) : wpAny (model P w) A (hashByValue 8 (.ref at')) Q E s := by
  have ty := hk.typeIs
  obtain ⟨ob, its, cnt, hob, _, hdat, hits⟩ := hk
  unfold hashByValue
  refine wpAny_bind (wpAny_specialOf ty F.slot_tuple_hash.lookup ?_)
  show wpAny _ _ (seqItems? (.ref at') >>= _) _ _ s
  refine wpAny_bind (wpAny_seqItems hob hdat ?_)
  refine wpAny_bind ?_
  show wpAny _ _ (forIn its _ _) _ _ s
  rw [← Array.forIn_toList]
  refine wpAny_forIn_list _ (fun left st s2 => s2 = s ∧ st.1 = none ∧ ∀ v ∈ left, carriedByValue v = true) _ ?_ ?_ _ _ ⟨rfl, rfl, hits.byValue⟩
  · rintro v left st s2 ⟨rfl, hst, hall⟩
    obtain ⟨b, hb⟩ := hash_some (hall v List.mem_cons_self) 7
    rw [hb]
    refine wpAny_bind (wpAny_pure ?_)
    cases b with
    | true =>
      simp only [Bool.not_true, Bool.false_eq_true, if_false]
      exact wpAny_pure ⟨rfl, rfl, fun u hu => hall u (List.mem_cons_of_mem _ hu)⟩
    | false =>
      simp only [Bool.not_false, if_true]
      exact wpAny_pure (wpAny_pure (go false))
  · rintro ⟨u1, u2⟩ s2 ⟨rfl, hst, _⟩
    dsimp only at hst
    subst hst
    exact wpAny_pure (go true)
theorem quiet {key : List κ} {at' : Addr} {Q : Bool → Shared → Prop} (hk : IsTupleKey knd s.heap key at') {vs : List Value} (hvs : ∀ v ∈ vs, ∃ k2 a2, v = Value.ref a2 ∧ IsTupleKey knd s.heap k2 a2) (go : Q false s) :
    wpAny (model P w) A (searchCouldBeSeen (.ref at') vs) Q E s := by
  unfold searchCouldBeSeen
  refine wpAny_bind ?_
  refine wpAny_forIn_list _ (fun left st s2 => s2 = s ∧ st.1 = none ∧ ∀ v ∈ left, ∃ k2 a2, v = Value.ref a2 ∧ IsTupleKey knd s.heap k2 a2) _ ?_ ?_ _ _ ⟨rfl, rfl, hvs⟩
  · rintro v left st s2 ⟨rfl, hst, hall⟩
    obtain ⟨k2, a2, rfl, h2⟩ := hall v List.mem_cons_self
    have hleft := fun u hu => hall u (List.mem_cons_of_mem _ hu)
    dsimp only
    by_cases c : (at' == a2 || (carriedByValue (.ref at') && carriedByValue (.ref a2))) = true
    · exact wp_if_pos c (wpAny_pure ⟨rfl, rfl, hleft⟩)
    · refine wp_if_neg c (wpAny_bind (wpAny_eqIsQuiet_tuple hk ?_))
      simp only [Bool.not_true, Bool.false_eq_true, if_false]
      refine wpAny_bind (wpAny_eqIsQuiet_tuple h2 ?_)
      simp only [Bool.not_true, Bool.false_eq_true, if_false]
      refine wpAny_bind (class_tup hk ?_)
      simp only [Bool.false_eq_true, if_false]
      refine wpAny_bind (class_tup h2 ?_)
      simp only [Bool.false_eq_true, if_false]
      exact wpAny_pure ⟨rfl, rfl, hleft⟩
  · rintro ⟨u1, u2⟩ s2 ⟨rfl, hst, _⟩
    dsimp only at hst
    subst hst
    exact wpAny_pure go
end
/-- a set at an address, by its rows: where each tuple stands, and its key -/
structure SetK {P : Program} {w : World} {κ : Type} [DecidableEq κ] (knd : PySem.KeyKind P w κ) (h : Heap) (at' : Addr) (rows : List (Addr × List κ)) (es : Array (Int × Value)) (ep : Nat) (t : SetTable) : Prop where
  obj : ∃ o, h.get? at' = some o ∧ o.ExactSet ∧ o.data = .set es ep t
  list : es.toList = rows.map fun r => (tupleKeyHash knd r.2, Value.ref r.1)
  table : TabOk t (rows.map fun r => tupleKeyHash knd r.2)
  distinct : (rows.map Prod.snd).Nodup
  keys : ∀ r ∈ rows, IsTupleKey knd h r.2 r.1
  order : w.params.followText "set-order" = true ∨ t.led = true
  space : rows.length * 5 < t.mask * 3
  small : rows.length < 64
section
variable {P : Program} {w : World} {A : Around} {E : Value → Shared → Prop} {s : Shared} {κ : Type} [DecidableEq κ] {knd : PySem.KeyKind P w κ} {at' : Addr} {rows : List (Addr × List κ)} {es : Array (Int × Value)} {ep : Nat} {t : SetTable} {h : Heap}
theorem SetK.size (S : SetK knd h at' rows es ep t) : es.size = rows.length := by
  rw [← Array.length_toList, S.list, List.length_map]
theorem SetK.fits (S : SetK knd h at' rows es ep t) : t.fits es.size = true := by
  have a := S.table.sz
  have b := S.size
  have c := S.space
  rw [List.length_map] at a
  unfold SetTable.fits SetTable.fill
  rw [S.table.dm, Bool.and_eq_true, beq_iff_eq, decide_eq_true_eq]
  exact ⟨by omega, by show t.place.size + 0 ≤ t.mask; omega⟩
theorem SetK.row (S : SetK knd h at' rows es ep t) {i : Nat} {r : Addr × List κ} (hr : rows[i]? = some r) : es[i]? = some (tupleKeyHash knd r.2, Value.ref r.1) := by
  rw [← Array.getElem?_toList, S.list, List.getElem?_map, hr]
  rfl
theorem SetK.odd (S : SetK knd h at' rows es ep t) : ¬ t.gaveWay = true := by
  unfold SetTable.gaveWay
  rw [mask_odd S.table.mok]
  decide
/-- the probe after c steps -/
abbrev prb (t : SetTable) (hh : Int) (c : Nat) : SetTable.Probe := nth t.mask (runAt t.mask (SetTable.bits hh % (t.mask + 1)) (SetTable.bits hh)) c
theorem prb_dummy (t : SetTable) (hh : Int) (c : Nat) : (prb t hh c).dummy = none := by
  have go : ∀ (n : Nat) (p : SetTable.Probe), p.dummy = none → (nth t.mask p n).dummy = none := by
    intro n
    induction n with
    | zero => exact fun p hp => hp
    | succ n ih =>
      intro p hp
      refine ih (adv t.mask p) ?_
      unfold adv
      split <;> exact hp
  exact go c _ rfl
theorem find (S : SetK knd s.heap at' rows es ep t) {x : Addr} {key : List κ} (hx : IsTupleKey knd s.heap key x) (hu : A.units < cLine) {K : Nat} (b1 : K < 10 * SetTable.turns t.mask)
    (b2 : way t.mask (tupleKeyHash knd key) K ∉ t.place.toList) (b3 : ∀ c, c < K → way t.mask (tupleKeyHash knd key) c ∈ t.place.toList) {Q : SetFound → Shared → Prop}
    (yes : key ∈ rows.map Prod.snd → Q (.there none) s) (no : key ∉ rows.map Prod.snd → Q (.free (way t.mask (tupleKeyHash knd key) K) false) s) :
    ∀ (fuel c : Nat) (from' : Option SetTable.Probe), from'.getD (t.probeStart (tupleKeyHash knd key)) = prb t (tupleKeyHash knd key) c → c ≤ K → K - c < fuel →
      (∀ (i : Nat) r, rows[i]? = some r → r.2 = key → ∃ c2, c ≤ c2 ∧ c2 < K ∧ t.place.toList[i]? = some (way t.mask (tupleKeyHash knd key) c2)) →
      wpAny (model P w) A (setSearchFrom at' (.ref x) (tupleKeyHash knd key) true fuel from') Q E s
  | 0, c, from', _, _, hf, _ => absurd hf (Nat.not_lt_zero _)
  | fuel + 1, c, from', hfrom, hc, hf, ahead => by
    obtain ⟨o, ho, hex, hd⟩ := S.obj
    generalize hη : tupleKeyHash knd key = η at b2 b3 no hfrom ahead ⊢
    rw [setSearchFrom_succ]
    refine wpAny_bind (wpAny_setState_of ho hd S.fits ?_)
    dsimp only
    refine wp_if_neg S.odd ?_
    first | refine wpAny_bind (wpAny_pure ?_) | skip
    have later : ∀ q, nth t.mask (prb t η c) q = prb t η (c + q) := fun q => (nth_add t.mask c _ q).symm
    have place : ∀ q, (nth t.mask (prb t η c) q).j = way t.mask η (c + q) := fun q => congrArg SetTable.Probe.j (later q)
    have known := go_spec t S.table.ris S.table.dm (fun i => (es[i]?.map (·.1)).getD 0) η (10 * SetTable.turns t.mask) (K - c) _ (prb_dummy t η c) (by omega)
      (fun q hq => by rw [place]; exact b3 (c + q) (by omega)) (by rw [place, show c + (K - c) = K by omega]; exact b2)
    have hashOf : ∀ (i : Nat) r, rows[i]? = some r → (fun i => (es[i]?.map (·.1)).getD 0) i = tupleKeyHash knd r.2 := fun i r hr => by
      show (es[i]?.map (·.1)).getD 0 = _
      rw [S.row hr]
      rfl
    rcases known with ⟨q, i, hq, hi, hh, hnot, hprobe⟩ | ⟨hnot, hprobe⟩
    · have met : t.probe (fun i => (es[i]?.map (·.1)).getD 0) η (from'.getD (t.probeStart η)) = some (.candidate (way t.mask η (c + q)) i (prb t η (c + (q + 1)))) := by
        rw [hfrom, ← place, ← later]
        exact hprobe
      rw [met]
      dsimp only
      rw [place] at hi
      have hil : i < rows.length := by
        have z1 := (List.getElem?_eq_some_iff.mp hi).1
        have z2 := S.table.sz
        rw [List.length_map] at z2
        rw [Array.length_toList] at z1
        omega
      obtain ⟨r, hr⟩ : ∃ r, rows[i]? = some r := ⟨_, List.getElem?_eq_getElem hil⟩
      have hm := List.mem_of_getElem? hr
      have onward : wpAny (model P w) A (searchRest at' (.ref x) η true fuel es t (way t.mask η (c + q)) i (prb t η (c + (q + 1)))) Q E s := by
        unfold searchRest
        rw [S.row hr]
        dsimp only
        refine wpAny_bind (wpAny_holding (wpAny_eqBool_tuple hu (S.keys r hm) hx ?_))
        refine wpAny_bind (wpAny_setState_of ho hd S.fits ?_)
        dsimp only
        by_cases same : r.2 = key
        · refine wp_if_pos (by simp [same]) (wpAny_pure (yes ?_))
          exact List.mem_map.mpr ⟨r, hm, same⟩
        · refine wp_if_neg (by simp [same]) ?_
          first | refine wpAny_bind (wpAny_pure ?_) | skip
          rw [sameMem]
          dsimp only
          have live := slot_live S.table.ris hi
          simp only [if_true, live, S.row hr]
          refine wpAny_bind (wpAny_isSame_ref_self (wpAny_bind (wpAny_pure ?_)))
          simp only [if_true]
          refine wp_if_neg (by simp [same]) ?_
          subst hη
          refine find S hx hu b1 b2 b3 yes no fuel (c + (q + 1)) _ rfl (by omega) (by omega) fun i2 r2 h2 e2 => ?_
          obtain ⟨c2, z1, z2, z3⟩ := ahead i2 r2 h2 e2
          refine ⟨c2, ?_, z2, z3⟩
          rcases Nat.lt_trichotomy c2 (c + q) with z | z | z
          · exact absurd ((hashOf i2 r2 h2).trans (congrArg (tupleKeyHash knd) e2)) (hnot (c2 - c) i2 (by omega) (by rw [place, show c + (c2 - c) = c2 by omega]; exact z3))
          · rw [z] at z3
            have live2 := slot_live S.table.ris z3
            rw [live] at live2
            injection live2 with live2
            rw [← live2, hr] at h2
            exact absurd ((congrArg Prod.snd (Option.some.inj h2)).trans e2) same
          · omega
      by_cases led : t.led = true
      · refine wp_if_neg (by simp [led]) ?_
        first | refine wpAny_bind (wpAny_pure ?_) | skip
        exact onward
      · refine wp_if_pos (by simp [led]) (wpAny_bind (quiet hx (fun v hv => ?_) ?_))
        · obtain ⟨en, hen, rfl⟩ := List.mem_map.mp hv
          have hen2 : en ∈ es.toList := by
            have z : en ∈ es ∧ en.1 = η := by simpa using hen
            simpa using z.1
          rw [S.list] at hen2
          obtain ⟨r2, hr2, rfl⟩ := List.mem_map.mp hen2
          exact ⟨r2.2, r2.1, rfl, S.keys r2 hr2⟩
        · refine wp_if_neg (by decide) ?_
          first | refine wpAny_bind (wpAny_pure ?_) | skip
          exact onward
    · have met : t.probe (fun i => (es[i]?.map (·.1)).getD 0) η (from'.getD (t.probeStart η)) = some (.empty (way t.mask η K) none) := by
        rw [hfrom, show way t.mask η K = (nth t.mask (prb t η c) (K - c)).j by rw [place, show c + (K - c) = K by omega]]
        exact hprobe
      rw [met]
      dsimp only
      refine wpAny_pure (no fun hmem => ?_)
      obtain ⟨r2, hr2, e2⟩ := List.mem_map.mp hmem
      obtain ⟨i2, hi2⟩ := List.mem_iff_getElem?.mp hr2
      obtain ⟨c2, z1, z2, z3⟩ := ahead i2 r2 hi2 e2
      refine absurd ?_ (hnot (c2 - c) i2 (by omega) (by rw [place, show c + (c2 - c) = c2 by omega]; exact z3))
      rw [← hη]
      exact (hashOf i2 r2 hi2).trans (congrArg (tupleKeyHash knd) e2)
theorem search (S : SetK knd s.heap at' rows es ep t) {x : Addr} {key : List κ} (hx : IsTupleKey knd s.heap key x) (hu : A.units < cLine) {Q : SetFound → Shared → Prop}
    (yes : key ∈ rows.map Prod.snd → Q (.there none) s)
    (no : ∀ K, key ∉ rows.map Prod.snd → way t.mask (tupleKeyHash knd key) K ∉ t.place.toList → (∀ c, c < K → way t.mask (tupleKeyHash knd key) c ∈ t.place.toList) → Q (.free (way t.mask (tupleKeyHash knd key) K) false) s) :
    wpAny (model P w) A (setSearch at' (.ref x) (tupleKeyHash knd key) true) Q E s := by
  have sp := S.space
  obtain ⟨K, k1, k2, k3⟩ := S.table.first (by rw [List.length_map]; omega) (tupleKeyHash knd key)
  have far : 10 * SetTable.turns t.mask ≤ 1420 := by
    unfold SetTable.turns
    rcases S.table.mok with e | e | e <;> omega
  unfold setSearch
  refine find S hx hu k1 k2 k3 yes (fun z => no K z k2 k3) 100000 0 none rfl (Nat.zero_le _) (by omega) fun i r hr e => ?_
  have hash : (rows.map fun r => tupleKeyHash knd r.2)[i]? = some (tupleKeyHash knd key) := by rw [List.getElem?_map, hr, ← e]; rfl
  have hil : i < t.place.toList.length := by
    have z1 := (List.getElem?_eq_some_iff.mp hr).1
    have z2 := S.table.sz
    rw [List.length_map] at z2
    rw [Array.length_toList]
    omega
  obtain ⟨c, z, e2⟩ := S.table.before k2 hash (List.getElem?_eq_getElem hil)
  exact ⟨c, Nat.zero_le _, z, by rw [List.getElem?_eq_getElem hil, e2]⟩
end

section
variable {P : Program} {w : World} {A : Around} {E : Value → Shared → Prop} {s : Shared} {κ : Type} [DecidableEq κ] {knd : PySem.KeyKind P w κ} {at' : Addr} {rows : List (Addr × List κ)} {es : Array (Int × Value)} {ep : Nat} {t : SetTable} {h h2 : Heap}
theorem key_past {key : List κ} {b : Addr} {o : Obj} (hk : IsTupleKey knd h key b) (ho : h.get? at' = some o) (hd : o.data = .set es ep t) (sb : Heap.SameBut at' h h2) : IsTupleKey knd h2 key b := by
  obtain ⟨u, its, cnt, hu, hc, hdat, hits⟩ := hk
  have ne : b ≠ at' := fun z => by
    rw [z, ho] at hu
    cases hu
    rw [hd] at hdat
    cases hdat
  exact ⟨u, its, cnt, (sb.2 b ne).trans hu, hc, hdat, hits⟩
theorem key_grown {key : List κ} {b : Addr} (hk : IsTupleKey knd h key b) (keep : ∀ c o, h.get? c = some o → h2.get? c = some o) : IsTupleKey knd h2 key b := by
  obtain ⟨u, its, cnt, hu, more⟩ := hk
  exact ⟨u, its, cnt, keep b u hu, more⟩
/-- the rows in another order, by their numbers -/
theorem reordered (hl : es.toList = rows.map fun r => (tupleKeyHash knd r.2, Value.ref r.1)) (order : Array Nat) (hp : order.toList.Perm (List.range rows.length)) :
    ∃ rows2 : List (Addr × List κ), (order.filterMap (es[·]?)).toList = rows2.map (fun r => (tupleKeyHash knd r.2, Value.ref r.1)) ∧ rows2.Perm rows ∧ (rows2.map fun r => tupleKeyHash knd r.2) = order.toList.map fun i => (es.map (·.1)).getD i 0 := by
  have size : es.size = rows.length := by rw [← Array.length_toList, hl, List.length_map]
  have entry : ∀ (i : Nat) (r : Addr × List κ), rows[i]? = some r → es[i]? = some (tupleKeyHash knd r.2, Value.ref r.1) := fun i r hr => by
    rw [← Array.getElem?_toList, hl, List.getElem?_map, hr]
    rfl
  have build : ∀ l : List Nat, (∀ i ∈ l, i < rows.length) → l.filterMap (fun i => es[i]?) = (l.filterMap fun i => rows[i]?).map (fun r => (tupleKeyHash knd r.2, Value.ref r.1)) ∧
      ((l.filterMap fun i => rows[i]?).map fun r => tupleKeyHash knd r.2) = l.map fun i => (es.map (·.1)).getD i 0 := by
    intro l
    induction l with
    | nil => exact fun _ => ⟨rfl, rfl⟩
    | cons i l ih =>
      intro hb
      have hi := hb i List.mem_cons_self
      obtain ⟨i1, i2⟩ := ih fun j hj => hb j (List.mem_cons_of_mem _ hj)
      have hr : rows[i]? = some rows[i] := List.getElem?_eq_getElem hi
      have he := entry i _ hr
      rw [List.filterMap_cons_some he, List.filterMap_cons_some hr, List.map_cons, List.map_cons, List.map_cons, i1, i2]
      refine ⟨rfl, ?_⟩
      congr 1
      have hm : (es.map (·.1))[i]? = some (tupleKeyHash knd (rows[i]).2) := by rw [Array.getElem?_map, he]; rfl
      rw [Array.getD_eq_getD_getElem?, hm]
      rfl
  obtain ⟨a, b⟩ := build order.toList fun i hi => List.mem_range.mp (hp.mem_iff.mp hi)
  refine ⟨order.toList.filterMap fun i => rows[i]?, by rw [Array.toList_filterMap]; exact a, ?_, b⟩
  have whole : ∀ n, n ≤ rows.length → (List.range n).filterMap (fun i => rows[i]?) = rows.take n := by
    intro n
    induction n with
    | zero => exact fun _ => rfl
    | succ n ih =>
      intro hn
      have hn' : n < rows.length := hn
      rw [List.range_succ, List.filterMap_append, ih (Nat.le_of_lt hn'), List.take_add_one, List.filterMap_cons_some (List.getElem?_eq_getElem hn'), List.getElem?_eq_getElem hn']
      rfl
  have := hp.filterMap fun i => rows[i]?
  rwa [whole _ (Nat.le_refl _), List.take_length] at this
theorem plain_off {hs : List Int} (T : TabOk t hs) : TabOk { t with plain := false } hs := ⟨T.ris, T.dm, T.sz, T.mok, T.bd, T.reach⟩
/-- a greater table -/
theorem relay {o : Obj} (ho : s.heap.get? at' = some o) (hex : o.ExactSet) (hd : o.data = .set es ep t) (hl : es.toList = rows.map fun r => (tupleKeyHash knd r.2, Value.ref r.1)) (hsz : t.place.size = es.size) (hdm : t.dummies = #[]) (hfill : es.size ≤ t.mask)
    (nd : (rows.map Prod.snd).Nodup) (hk : ∀ r ∈ rows, IsTupleKey knd s.heap r.2 r.1) (hled : w.params.followText "set-order" = true ∨ t.led = true) (few : rows.length < 64) {wanted M : Nat}
    (m1 : SetTable.sizeAbove wanted - 1 = M) (m2 : MaskOk M) (m3 : SetTable.sizeAbove wanted ≤ 128) (m4 : rows.length * 5 < M * 3) {Q : Unit → Shared → Prop}
    (go : ∀ hp rows2 es2 ep2 t2, Heap.SameBut at' s.heap hp → SetK knd hp at' rows2 es2 ep2 t2 → rows2.Perm rows → Q () { s with heap := hp }) : wpAny (model P w) A (setRelay at' wanted) Q E s := by
  have size : es.size = rows.length := by rw [← Array.length_toList, hl, List.length_map]
  have fit : t.fits es.size = true := by
    unfold SetTable.fits SetTable.fill
    rw [hdm, Bool.and_eq_true, beq_iff_eq, decide_eq_true_eq]
    exact ⟨hsz, by show t.place.size + 0 ≤ t.mask; omega⟩
  obtain ⟨t2, order, eLaid, pOrd, T2, eM, eL, _, eD⟩ := relaid_ok t (hs := es.map (·.1)) (wanted := wanted) m1 m2 (by rw [Array.size_map, size]; omega)
  rw [Array.size_map, size] at pOrd
  obtain ⟨rows2, l2, p2, h2⟩ := reordered hl order pOrd
  rw [← h2] at T2
  have size2 : (order.filterMap (es[·]?)).size = es.size := by rw [← Array.length_toList, l2, List.length_map, p2.length_eq, size]
  rw [setRelay_eq]
  refine wpAny_bind (wpAny_setState_of ho hd fit ?_)
  dsimp only
  refine wp_if_neg (by rw [sizeLine_eq]; omega) ?_
  first | refine wpAny_bind (wpAny_pure ?_) | skip
  rw [eLaid]
  dsimp only
  refine wpAny_bind (wp_if_neg (by rw [size2]; simp) ?_)
  first | refine wpAny_bind (wpAny_pure ?_) | skip
  refine wpAny_pure ?_
  dsimp only
  have sb : Heap.SameBut at' s.heap (s.heap.update at' (Obj.putSet (order.filterMap (es[·]?)) t2)) := Heap.SameBut.update ..
  refine wpAny_storeSet_of ho hd (go _ rows2 _ (ep + 1) t2 sb ⟨⟨_, store_at ho hd, ⟨hex.1, hex.2.1, hex.2.2⟩, rfl⟩, l2, T2, (p2.map Prod.snd).nodup_iff.mpr nd, fun r hr => key_past (hk r (p2.mem_iff.mp hr)) ho hd sb, by rw [eL]; exact hled, by rw [p2.length_eq, eM]; exact m4, by rw [p2.length_eq]; exact few⟩ p2) (by rw [size2, size, sizeLine_eq]; omega)
/-- one more tuple put in -/
theorem put (S : SetK knd s.heap at' rows es ep t) {x : Addr} {key : List κ} (hx : IsTupleKey knd s.heap key x) (hu : A.units < cLine) (few : rows.length + 1 < 64) {Q : Bool → Shared → Prop}
    (go : ∀ b hp rows2 es2 ep2 t2, Heap.SameBut at' s.heap hp → SetK knd hp at' rows2 es2 ep2 t2 → (key ∈ rows.map Prod.snd → rows2 = rows) → (key ∉ rows.map Prod.snd → rows2.Perm ((x, key) :: rows)) → Q b { s with heap := hp }) :
    wpAny (model P w) A (setAddHashed at' (.ref x) (tupleKeyHash knd key)) Q E s := by
  obtain ⟨o, ho, hex, hd⟩ := S.obj
  have size := S.size
  have space := S.space
  unfold setAddHashed
  refine wpAny_holding ?_
  rw [show (100000 : Nat) = 99999 + 1 from rfl, setAddHashedIn_succ]
  refine wpAny_bind (wpAny_setState_of ho hd S.fits ?_)
  dsimp only
  refine wp_if_neg (by simp [byScan, Value.scannable]) ?_
  first | refine wpAny_bind (wpAny_pure ?_) | skip
  refine wpAny_bind (search S hx hu (fun hm => ?_) fun K hm k1 k2 => ?_)
  · dsimp only
    exact wpAny_pure (go false s.heap rows es ep t (Heap.SameBut.refl at' s.heap) S (fun _ => rfl) fun z => absurd hm z)
  · dsimp only
    refine wpAny_bind (wpAny_setState_of ho hd S.fits ?_)
    dsimp only
    obtain ⟨q1, q2, q3, q4, q5, q6, q7, q8, q9⟩ := S.table.put k1 k2
    generalize hpt : t.put (way t.mask (tupleKeyHash knd key) K) = pt at q1 q3 q4 q5 q6 q7 q8 q9 ⊢
    obtain ⟨t1, p⟩ := pt
    dsimp only at q1 q3 q4 q5 q6 q7 q8 q9 ⊢
    subst q1
    -- whatever is said of the hash, the rest is the same
    have rest : ∀ t3 : SetTable, t3.place = t1.place → t3.mask = t1.mask → t3.dummies = t1.dummies → t3.led = t1.led → t3.fill = t1.fill → t3.tooFull = t1.tooFull →
        wpAny (model P w) A (do
          storeSet at' (SetTable.insertAt es (SetTable.below t.place (way t.mask (tupleKeyHash knd key) K)) (tupleKeyHash knd key, Value.ref x)) t3
          if (!false && t3.tooFull) = true then setRelay at' (SetTable.grown (es.size + 1))
          pure true) Q E s := by
      intro t3 e1 e2 e3 e4 e5 e6
      have inList : (SetTable.insertAt es (SetTable.below t.place (way t.mask (tupleKeyHash knd key) K)) (tupleKeyHash knd key, Value.ref x)).toList = (rows.take (SetTable.below t.place (way t.mask (tupleKeyHash knd key) K)) ++ (x, key) :: rows.drop (SetTable.below t.place (way t.mask (tupleKeyHash knd key) K))).map fun r => (tupleKeyHash knd r.2, Value.ref r.1) := by
        rw [SetTable.toList_insertAt, S.list, List.map_append, List.map_cons, List.map_take, List.map_drop]
      generalize hbl : SetTable.below t.place (way t.mask (tupleKeyHash knd key) K) = p at q2 q3 inList ⊢
      have pm := put_perm rows p (x, key)
      have len1 : (rows.take p ++ (x, key) :: rows.drop p).length = rows.length + 1 := pm.length_eq
      have q3' : TabOk t1 ((rows.take p ++ (x, key) :: rows.drop p).map fun r => tupleKeyHash knd r.2) := by
        rw [List.map_append, List.map_cons, List.map_take, List.map_drop]
        exact q3
      have T3 : TabOk t3 ((rows.take p ++ (x, key) :: rows.drop p).map fun r => tupleKeyHash knd r.2) :=
        ⟨by rw [e1]; exact q3'.ris, by rw [e3]; exact q3'.dm, by rw [e1]; exact q3'.sz, by rw [e2]; exact q3'.mok, by rw [e1, e2]; exact q3'.bd, by rw [e1, e2]; exact q3'.reach⟩
      have nd1 : ((rows.take p ++ (x, key) :: rows.drop p).map Prod.snd).Nodup := by
        refine (pm.map Prod.snd).nodup_iff.mpr ?_
        rw [List.map_cons]
        exact List.nodup_cons.mpr ⟨hm, S.distinct⟩
      generalize SetTable.insertAt es p (tupleKeyHash knd key, Value.ref x) = es1 at inList ⊢
      generalize rows.take p ++ (x, key) :: rows.drop p = rows1 at pm len1 T3 nd1 inList
      have size1 : es1.size = rows.length + 1 := by rw [← Array.length_toList, inList, List.length_map, len1]
      refine wpAny_bind (wpAny_storeSet_of ho hd ?_ (by rw [size1, sizeLine_eq]; omega))
      have sb : Heap.SameBut at' s.heap (s.heap.update at' (Obj.putSet es1 t3)) := Heap.SameBut.update ..
      have ho1 := store_at (es' := es1) (t' := t3) ho hd
      generalize s.heap.update at' (Obj.putSet es1 t3) = hp1 at sb ho1 ⊢
      have keys1 : ∀ r ∈ rows1, IsTupleKey knd hp1 r.2 r.1 := fun r hr => by
        rcases List.mem_cons.mp (pm.mem_iff.mp hr) with z | z
        · rw [z]; exact key_past hx ho hd sb
        · exact key_past (S.keys r z) ho hd sb
      have led1 : w.params.followText "set-order" = true ∨ t3.led = true := by rw [e4, q5]; exact S.order
      by_cases full : t3.tooFull = true
      · have crowd : (rows.length + 1) * 5 ≥ t.mask * 3 := by
          have z := full
          unfold SetTable.tooFull at z
          rw [decide_eq_true_eq, e5, q9, List.length_map, e2, q4] at z
          exact z
        have two : (t.mask = 7 ∧ rows.length = 4) ∨ (t.mask = 31 ∧ rows.length = 18) := by
          rcases S.table.mok with e | e | e
          · exact .inl ⟨e, by rw [e] at crowd space; omega⟩
          · exact .inr ⟨e, by rw [e] at crowd space; omega⟩
          · exfalso; rw [e] at crowd; omega
        have onto : ∀ M, SetTable.sizeAbove (SetTable.grown (rows.length + 1)) - 1 = M → MaskOk M → SetTable.sizeAbove (SetTable.grown (rows.length + 1)) ≤ 128 → (rows.length + 1) * 5 < M * 3 →
            wpAny (model P w) A (setRelay at' (SetTable.grown (rows.length + 1))) (fun _ s' => wpAny (model P w) A (pure true) Q E s') E { s with heap := hp1 } := fun M g1 g2 g3 g4 =>
          relay (s := { s with heap := hp1 }) ho1 ⟨hex.1, hex.2.1, hex.2.2⟩ rfl inList (by rw [T3.sz, List.length_map, len1, size1]) T3.dm (by rw [size1, e2, q4]; rcases two with ⟨a, b⟩ | ⟨a, b⟩ <;> omega) nd1 keys1 led1 (by rw [len1]; exact few) g1 g2 g3 (by rw [len1]; exact g4)
            fun hp2 rows2 es2 ep2 t2 sb2 S2 pm2 => wpAny_pure (go true hp2 rows2 es2 ep2 t2 (sb.trans sb2) S2 (fun z => absurd z hm) fun _ => pm2.trans pm)
        rw [size]
        have act : wpAny (model P w) A (setRelay at' (SetTable.grown (rows.length + 1))) (fun _ s' => wpAny (model P w) A (pure true) Q E s') E { s with heap := hp1 } := by
          rcases two with ⟨_, e⟩ | ⟨_, e⟩
          · exact onto 31 (by rw [e, size_20]) (.inr (.inl rfl)) (by rw [e, size_20]; decide) (by omega)
          · exact onto 127 (by rw [e, size_76]) (.inr (.inr rfl)) (by rw [e, size_76]; decide) (by omega)
        first
          | exact wp_if_pos (by simp [full]) (wpAny_bind act)
          | exact wpAny_bind (wp_if_pos (by simp [full]) act)
      · have fin : wpAny (model P w) A (pure true) Q E { s with heap := hp1 } := by
          refine wpAny_pure (go true hp1 rows1 es1 (ep + 1) t3 sb ⟨⟨_, ho1, ⟨hex.1, hex.2.1, hex.2.2⟩, rfl⟩, inList, T3, nd1, keys1, led1, ?_, by rw [len1]; exact few⟩ (fun z => absurd z hm) fun _ => pm)
          have z := full
          unfold SetTable.tooFull at z
          rw [decide_eq_true_eq, e5, q9, List.length_map] at z
          rw [len1]
          omega
        first
          | exact wp_if_neg (by simp [full]) fin
          | exact wpAny_bind (wp_if_neg (by simp [full]) (wpAny_pure fin))
    by_cases pl : t1.plain = true
    · have both : ∀ b, wpAny (model P w) A (do
          storeSet at' (SetTable.insertAt es (SetTable.below t.place (way t.mask (tupleKeyHash knd key) K)) (tupleKeyHash knd key, Value.ref x)) (if b = true then t1 else { t1 with plain := false })
          if (!false && (if b = true then t1 else { t1 with plain := false }).tooFull) = true then setRelay at' (SetTable.grown (es.size + 1))
          pure true) Q E s := fun b => by
        cases b with
        | true => exact rest t1 rfl rfl rfl rfl rfl rfl
        | false => exact rest { t1 with plain := false } rfl rfl rfl rfl rfl rfl
      first
        | exact wp_if_pos pl (wpAny_bind (hash_tup hx both))
        | exact wpAny_bind (wp_if_pos pl (hash_tup hx both))
    · have one := rest t1 rfl rfl rfl rfl rfl rfl
      first
        | exact wp_if_neg pl (wpAny_bind (wpAny_pure one))
        | exact wpAny_bind (wp_if_neg pl (wpAny_pure one))
        | exact wp_if_neg pl one
/-- a new set -/
theorem fresh {hp : Heap} (ho : hp.get? at' = some { cls := .type "set", dict := none, data := .set #[] 0 (.fresh 0 0 (!w.params.followText "set-order")) }) : SetK knd hp at' [] #[] 0 (.fresh 0 0 (!w.params.followText "set-order")) :=
  ⟨⟨_, ho, ⟨rfl, rfl, rfl⟩, rfl⟩, rfl, ⟨List.Pairwise.nil, rfl, rfl, .inl rfl, (fun x hx => nomatch hx), (fun i h j hi => by simp at hi)⟩, List.nodup_nil, (fun r hr => nomatch hr), by
    show _ ∨ (!w.params.followText "set-order") = true
    cases w.params.followText "set-order"
    · exact .inr rfl
    · exact .inl rfl, by show 0 * 5 < 7 * 3; decide, by show 0 < 64; decide⟩
end
end TK

/-! sets of tuples of ints and texts: as tracked things, what a comprehension puts in, sorted -/
namespace TK
open PySem PySem.Spec PyProof.Rows L2

abbrev Rw := Addr × List Key
/-- the set at an address, its tuples left out -/
def Bare (P : Program) (w : World) (b : Addr) (rows : List Rw) (h : Heap) : Prop := ∃ (es : Array (Int × Value)) (ep : Nat) (t : SetTable),
  (∃ o, h.get? b = some o ∧ o.ExactSet ∧ o.data = .set es ep t) ∧ es.toList = rows.map (fun r => (tupleKeyHash (mixKind P w) r.2, Value.ref r.1)) ∧
  (TabOk t (rows.map fun r => tupleKeyHash (mixKind P w) r.2) ∧ (rows.map Prod.snd).Nodup) ∧ (w.params.followText "set-order" = true ∨ t.led = true) ∧ rows.length * 5 < t.mask * 3 ∧ rows.length < 64
def kset (P : Program) (w : World) (b : Addr) (rows : List Rw) : HO := .ext (Bare P w b rows)
section
variable {P : Program} {w : World} {b : Addr} {rows : List Rw} {h : Heap} {es : Array (Int × Value)} {ep : Nat} {t : SetTable}
theorem bare_of (S : SetK (mixKind P w) h b rows es ep t) : Bare P w b rows h := ⟨es, ep, t, S.obj, S.list, ⟨S.table, S.distinct⟩, S.order, S.space, S.small⟩
theorem bare_full (R : Bare P w b rows h) (hk : ∀ r ∈ rows, IsTupleKey (mixKind P w) h r.2 r.1) : ∃ es ep t, SetK (mixKind P w) h b rows es ep t := by
  obtain ⟨es, ep, t, a1, a2, ⟨a3, a4⟩, a5, a6, a7⟩ := R
  exact ⟨es, ep, t, a1, a2, a3, a4, hk, a5, a6, a7⟩
theorem kset_ok {H : Hp} (R : Bare P w b rows h) : ObjOk P w H h b (kset P w b rows) := by
  have ⟨_, _, _, ⟨o, ho, _⟩, _⟩ := R
  refine ⟨R, ⟨o, ho⟩, fun h1 h2 p keeps => ?_⟩
  obtain ⟨es, ep, t, ⟨u, hu, more⟩, rest⟩ := p
  exact ⟨es, ep, t, ⟨u, keeps u hu, more⟩, rest⟩
end
section
variable {X : Cx} {pins : List (Addr × Obj)} {σ : L2.St} {H : Hp} {s : Shared} {b : Addr} {rows : List Rw}
theorem keyAt {p : Addr} {ks : List Key} (I : Inv X pins σ H s) (hp : H p = some (.tup (ks.map kV))) : IsTupleKey (mixKind X.prog X.w) s.heap ks p := L2.key_of I.hok hp
theorem full_at (I : Inv X pins σ H s) (hb : H b = some (kset X.prog X.w b rows)) (hr : ∀ r ∈ rows, H r.1 = some (.tup (r.2.map kV))) : ∃ es ep t, SetK (mixKind X.prog X.w) s.heap b rows es ep t :=
  bare_full (I.hok b _ hb).1 fun r hm => keyAt I (hr r hm)
/-- found.add(t) -/
theorem add_ok {E : Value → Shared → Prop} {x : Addr} {key : List Key} {Q : Value → Shared → Prop} (hu : X.A.units + 64 < cLine) (I : Inv X pins σ H s) (hb : H b = some (kset X.prog X.w b rows)) (hr : ∀ r ∈ rows, H r.1 = some (.tup (r.2.map kV)))
    (hx : H x = some (.tup (key.map kV))) (few : rows.length + 1 < 64)
    (go : ∀ s' rows2, (key ∈ rows.map Prod.snd → rows2 = rows) → (key ∉ rows.map Prod.snd → rows2.Perm ((x, key) :: rows)) → Inv X pins σ (upd H b (kset X.prog X.w b rows2)) s' → Q .none s') :
    wpAny (model X.prog X.w) X.A (call (.builtin "set.add") [.ref b, .ref x]) Q E s := by
  obtain ⟨es, ep, t, S⟩ := full_at I hb hr
  have kx := keyAt I hx
  obtain ⟨o, ho, hex, hd⟩ := S.obj
  have isSet : s.TypeIs (.ref b) "set" := ⟨o, ho, hex.1⟩
  refine wpAny_call_entry F.slot_set_add isSet F.entry_set_add ?_ (F.args_set_add_2 (.ref b) (.ref x))
  unfold Builtin.«set.add» Builtin.Frozenset.oneOther
  simp only [List.isEmpty_nil, bind_assoc]
  unfold Builtin.Frozenset.addrOf setAdd
  refine wpAny_bind (wpAny_pure ?_)
  try dsimp only
  refine wpAny_bind (wpAny_pure ?_)
  try dsimp only
  refine wpAny_bind (wpAny_holding (wpAny_bind (wpAny_pyHash_tuple (by show X.A.units + 1 < cLine; omega) kx ?_)))
  refine put (s := { s with toks := s.toks + (key.length + 1) }) S kx (by show X.A.units + 1 < cLine; omega) few fun yes hp rows2 es2 ep2 t2 sb S2 old new => ?_
  show wpAny _ _ (ret Value.none) _ _ _
  refine wpAny_pure ⟨_, rfl, ?_⟩
  obtain ⟨u, hu2, _⟩ := S2.obj
  exact go _ rows2 old new (I.write (e := b) (t' := s.toks + (key.length + 1)) (by rw [hb]; trivial) (.inl rfl) (fun c o hc e => (sb.2 c hc).trans e) ⟨u, hu2⟩ (kset_ok (bare_of S2)))
/-! ### sorted -/
/-- what a key is compared by -/
def tokK : Key → Int ⊕ List Nat
  | .inl i => .inl i
  | .inr x => .inr x.cps.toList
/-- the places of texts are as told -/
def fitK (shape : Nat → Bool) : Nat → List Key → Bool
  | _, [] => true
  | n, k :: ks => (k.isRight == shape n) && fitK shape (n + 1) ks
theorem toks_of {P : Program} {w : World} {shape : Nat → Bool} : ∀ {ks : List Key} {us : List Value} (n : Nat), fitK shape n ks = true → ItemsAre (mixKind P w) ks us → tupItems shape n us = some (ks.map tokK)
  | [], _, n, _, .nil => by unfold tupItems; rfl
  | k :: ks, _, n, hf, .cons (v := v) hv r => by
    unfold fitK at hf
    rw [Bool.and_eq_true, beq_iff_eq] at hf
    have ih := toks_of (n + 1) hf.2 r
    rcases keyIs_shape (k := k) (v := v) hv with ⟨i, t, rfl, rfl⟩ | ⟨x, t, rfl, rfl⟩
    · have e : ¬ shape n = true := by rw [← hf.1]; simp
      unfold tupItems
      rw [if_neg e, ih]
      rfl
    · have e : shape n = true := by rw [← hf.1]; rfl
      unfold tupItems
      rw [if_pos e, ih]
      rfl
theorem perm_map_ex {α β : Type} {f : α → β} {as bs : List β} (pm : as.Perm bs) : ∀ {rs : List α}, bs = rs.map f → ∃ rs1 : List α, rs1.Perm rs ∧ as = rs1.map f := by
  induction pm with
  | nil => exact fun {rs} e => ⟨rs, .refl _, e⟩
  | cons x _ ih =>
    intro rs e
    cases rs with
    | nil => cases e
    | cons r rs =>
      rw [List.map_cons, List.cons.injEq] at e
      obtain ⟨rs1, p1, e1⟩ := ih e.2
      exact ⟨r :: rs1, p1.cons r, by rw [List.map_cons, e.1, e1]⟩
  | swap x y l =>
    intro rs e
    cases rs with
    | nil => cases e
    | cons r rs =>
      cases rs with
      | nil => cases e
      | cons q rs =>
        rw [List.map_cons, List.map_cons, List.cons.injEq, List.cons.injEq] at e
        exact ⟨q :: r :: rs, .swap r q rs, by rw [List.map_cons, List.map_cons, e.1, e.2.1, e.2.2]⟩
  | trans _ _ i1 i2 =>
    intro rs e
    obtain ⟨r1, p1, e1⟩ := i2 e
    obtain ⟨r2, p2, e2⟩ := i1 e1
    exact ⟨r2, p2.trans p1, e2⟩
theorem tupKey_at {P : Program} {w : World} {shape : Nat → Bool} {h : Heap} {ks : List Key} {p : Addr} (hk : IsTupleKey (mixKind P w) h ks p) (hf : fitK shape 0 ks = true) : G.tupKeyC h shape (.ref p) = some (ks.map tokK) := by
  obtain ⟨o, its, n, ho, hc, hd, hi⟩ := hk
  have isT : G.isTupObj h (.ref p) = true := by simp [G.isTupObj, ho, hc]
  unfold G.tupKeyC
  rw [if_pos isT]
  simp only [tupKey, ho, hd]
  exact toks_of 0 hf hi
theorem tupsOf_at {P : Program} {w : World} {shape : Nat → Bool} {h : Heap} : ∀ {rs : List Rw}, (∀ r ∈ rs, IsTupleKey (mixKind P w) h r.2 r.1 ∧ fitK shape 0 r.2 = true ∧ r.2 ≠ []) → ∃ fs, TupsOf h shape (rs.map fun r => Value.ref r.1) fs
  | [], _ => ⟨[], .nil⟩
  | r :: rs, hr => by
    obtain ⟨fs, ih⟩ := tupsOf_at fun q hq => hr q (List.mem_cons_of_mem _ hq)
    obtain ⟨⟨o, its, n, ho, hc, hd, hi⟩, hf, hne⟩ := hr r List.mem_cons_self
    obtain ⟨b, ks⟩ := r
    dsimp only at ho hi hf hne
    cases ks with
    | nil => exact absurd rfl hne
    | cons k ks =>
      unfold fitK at hf
      rw [Bool.and_eq_true, beq_iff_eq] at hf
      generalize hl : its.toList = l at hi
      cases hi with
      | cons hv _ =>
        rename_i v us _
        have first : its[0]? = some v := by rw [← Array.getElem?_toList, hl]; rfl
        refine ⟨v :: fs, .cons ⟨b, o, its, n, rfl, ho, hc, hd, first, fun z => ?_, fun z => ?_⟩ ih⟩
        · rcases keyIs_shape (k := k) (v := v) hv with ⟨i, t, rfl, rfl⟩ | ⟨x, t, rfl, rfl⟩
          · exact ⟨i, t, rfl⟩
          · rw [z] at hf; exact absurd hf.1 (by simp)
        · rcases keyIs_shape (k := k) (v := v) hv with ⟨i, t, rfl, rfl⟩ | ⟨x, t, rfl, rfl⟩
          · rw [z] at hf; exact absurd hf.1 (by simp)
          · exact ⟨x, t, rfl⟩
abbrev leK : List Key → List Key → Bool := fun a b => !lexLt itemOrd (b.map tokK) (a.map tokK)
/-- sorted({..}) -/
theorem sort_ok {E : Value → Shared → Prop} {shape : Nat → Bool} {Q : Value → Shared → Prop} (hc : X.calm = true) (I : Inv X pins σ H s) (hb : H b = some (kset X.prog X.w b rows)) (hr : ∀ r ∈ rows, H r.1 = some (.tup (r.2.map kV)) ∧ fitK shape 0 r.2 = true ∧ r.2 ≠ [])
    (go : ∀ (s' : Shared) (p : Addr) (rows2 : List Rw), rows2.Perm rows → rows2.Pairwise (fun q r => leK q.2 r.2 = true) → H p = none → Inv X pins σ (upd H p (.lst (rows2.map fun r => V.ref r.1))) s' → Q (.ref p) s') :
    wpAny (model X.prog X.w) X.A (call (.builtin "sorted") [.ref b]) Q E s := by
  obtain ⟨es, ep, t, S⟩ := full_at I hb fun r hm => (hr r hm).1
  obtain ⟨o, ho, hex, hd⟩ := S.obj
  have nsz : es.size < scanBound := by have a1 := S.size; have a2 := S.small; unfold scanBound; omega
  refine Calls.call_function_entry kind_sorted plain_sorted entry_sorted (args_sorted1 _) ?_
  unfold Builtin.«sorted»
  refine wpAny_bind (m := checkCount "sorted" 1 1 _) (wpAny_pure (wpAny_bind (collect_set (A := X.A.in1) (I.ok.hd hc) ⟨o, ho, hex.1, hd⟩ S.fits nsz S.table.ris S.order fun s1 vs k1 hz g1 o1 pm => ?_)))
  rw [S.list, List.map_map] at pm
  obtain ⟨rs, pr, rfl⟩ := perm_map_ex pm rfl
  have short : rs.length < 64 := by rw [pr.length_eq]; exact S.small
  have few : (rs.map (Prod.snd ∘ fun r : Rw => (tupleKeyHash (mixKind X.prog X.w) r.2, Value.ref r.1))).length ≤ sizeLine := by rw [List.length_map, sizeLine_eq]; omega
  refine wpAny_bind (wpAny_newList ?_ few)
  have vals : (rs.map (Prod.snd ∘ fun r : Rw => (tupleKeyHash (mixKind X.prog X.w) r.2, Value.ref r.1))) = rs.map fun r => Value.ref r.1 := rfl
  rw [vals] at few ⊢
  have atL : (s1.heap.push (seqObj "list" (rs.map fun r => Value.ref r.1).toArray 0)).get? s1.heap.objs.size = some (seqObj "list" (rs.map fun r => Value.ref r.1).toArray 0) := Heap.get?_push_size _ rfl
  have each : ∀ r ∈ rs, IsTupleKey (mixKind X.prog X.w) (s1.heap.push (seqObj "list" (rs.map fun r => Value.ref r.1).toArray 0)) r.2 r.1 ∧ fitK shape 0 r.2 = true ∧ r.2 ≠ [] := fun r hm => by
    have hm := pr.mem_iff.mp hm
    exact ⟨key_grown (S.keys r hm) fun c u e => Heap.get?_push_of_some _ (k1 c u e), (hr r hm).2⟩
  obtain ⟨fs, ht⟩ := tupsOf_at each
  refine wpAny_bind (wpAny_holding (wpAny_call_entry slot_list_sort ⟨_, atL, rfl⟩ entry_list_sort (G.list_sort_tups (s := { s1 with heap := s1.heap.push (seqObj "list" (rs.map fun r => Value.ref r.1).toArray 0) }) atL ht (fun v hv => ?_) few fun st' a1 a2 a3 => ⟨_, rfl, ?_⟩) (args_list_sort _)))
  · obtain ⟨r, hm, rfl⟩ := List.mem_map.mp hv
    exact ⟨_, tupKey_at (each r hm).1 (each r hm).2.1⟩
  · have KO : KeysOf (G.tupKindC (s1.heap.push (seqObj "list" (rs.map fun r => Value.ref r.1).toArray 0)) shape) (pairsOf (rs.map fun r => Value.ref r.1)) := G.tupKeys fun v hv => by
      obtain ⟨r, hm, rfl⟩ := List.mem_map.mp hv
      exact ⟨_, tupKey_at (each r hm).1 (each r hm).2.1⟩
    have out := PySem.W.sort_out (rev := false) KO a1 a2 a3
    simp only [Bool.false_eq_true, if_false] at out
    have twin : ∀ {l : List Rw} {f : Value → Rw → Prop}, (∀ r ∈ l, f (.ref r.1) r) → PySem.W.EachIs f (l.map fun r => Value.ref r.1) l := by
      intro l f hf
      induction l with
      | nil => exact .nil
      | cons r l ih => exact .cons (hf r List.mem_cons_self) (ih fun q hq => hf q (List.mem_cons_of_mem _ hq))
    have srt := PySem.W.sortVals_each (κ := G.tupKindC (s1.heap.push (seqObj "list" (rs.map fun r => Value.ref r.1).toArray 0)) shape) (rev := false) (R := fun v (r : Rw) => v = Value.ref r.1) (fun r => r.2.map tokK) (twin fun r _ => rfl) (twin fun r hm => tupKey_at (each r hm).1 (each r hm).2.1)
    have ord := PySem.W.sort_pairwise (PySem.W.sortLe_total (listOrd itemOrd) false fun r : Rw => r.2.map tokK) rs
    have pmL := List.mergeSort_perm rs (PySem.W.sortLe (listOrd itemOrd) false fun r : Rw => r.2.map tokK)
    generalize rs.mergeSort (PySem.W.sortLe (listOrd itemOrd) false fun r : Rw => r.2.map tokK) = L' at srt ord pmL
    have outL : ((arrOf st').map (·.2)).toList = L'.map fun r => Value.ref r.1 := by
      rw [out]
      generalize PySem.W.sortVals _ _ _ _ = vs at srt
      clear out ord pmL
      induction srt with
      | nil => rfl
      | cons e _ ih => rw [List.map_cons, e, ih]
    obtain ⟨c, atO⟩ := sortedHeap_at (vs := rs.map fun r => Value.ref r.1) (out := (arrOf st').map (·.2)) atL
    have hn : H s1.heap.objs.size = none := I.hok.fresh hz
    have size2 : (L'.map fun r => V.ref r.1).length ≤ sizeLine := by rw [List.length_map, pmL.length_eq, sizeLine_eq]; omega
    have keepAll : ∀ c u, s.heap.get? c = some u → (sortedHeap (s1.heap.push (seqObj "list" (rs.map fun r => Value.ref r.1).toArray 0)) s1.heap.objs.size (rs.map fun r => Value.ref r.1) ((arrOf st').map (·.2))).get? c = some u := fun c u e => by
      have q := k1 c u e
      have lt := Heap.lt_size q
      rw [sortedHeap_old (Nat.ne_of_lt lt) (by rw [size_push']; exact Nat.lt_succ_of_lt lt)]
      exact Heap.get?_push_of_some _ q
    refine wpAny_pure ⟨_, rfl, ?_⟩
    refine go _ s1.heap.objs.size L' (pmL.trans pr) ord hn ?_
    have vL : Vals (L'.map fun r => V.ref r.1) ((arrOf st').map (·.2)).toList := by
      rw [outL]
      have : ∀ l : List Rw, Vals (l.map fun r => V.ref r.1) (l.map fun r => Value.ref r.1) := by
        intro l
        induction l with
        | nil => exact .nil
        | cons r l ih => exact .cons rfl ih
      exact this L'
    generalize hHp : sortedHeap (s1.heap.push (seqObj "list" (rs.map fun r => Value.ref r.1).toArray 0)) s1.heap.objs.size (rs.map fun r => Value.ref r.1) ((arrOf st').map (·.2)) = hp at keepAll atO ⊢
    have J : Inv X pins σ (upd H s1.heap.objs.size (.lst (L'.map fun r => V.ref r.1))) { s with heap := hp, gens := s1.gens, drawn := s1.drawn, toks := s1.toks } :=
      I.call (ch := []) (Un.laid keepAll hz hn) (I.hok.laid keepAll hz ⟨size2, _, c, vL, atO⟩) (by rw [g1]; exact I.bare) fun _ z => nomatch z
    have same : { s1 with heap := hp } = { s with heap := hp, gens := s1.gens, drawn := s1.drawn, toks := s1.toks } := by
      cases s1
      cases s
      cases o1
      rfl
    rw [same]
    exact J
end
end TK

/-! {elt for .. in ..}: whatever a set of one's own is told by -/
namespace TK
open PySem PySem.Spec PyProof.Rows L2

/-- nw: the new set as a tracked thing; ad: what putting an item in asks, and where it leads -/
def tAc (nw : Addr → HO) (ad : Addr → V → Hp → (Hp → Prop) → Prop) (wi : TI) (g : TG) (tt : TT) (te : TE) (js : List Nat) : TE := fun σ H Q => wi σ H fun J Ha => ∀ c, Ha c = none → ∃ W : Nat → Nat → Hp → Prop,
  (∃ k, W 0 k (upd Ha c (nw c))) ∧ ∀ n k Hb, W n k Hb → (J.stop n Hb ∧ Q (.ref c) Hb) ∨
    (J.go n Hb ∧ ∃ on : Hp → Prop, (∀ Hc, on Hc → ∃ k', k' < k ∧ W (n + 1) k' Hc) ∧ ∀ x Hc, J.yld n Hb x Hc → g x (wipe σ js) Hc fun σ2 Hd => wipe σ2 js = wipe σ js ∧ tt σ2 Hd fun yes He => if yes = true then te σ2 He fun y Hf => ad c y Hf on else on He)
section
variable {X : Cx}
/-- what is asked of the two -/
structure AccOk (X : Cx) (nw : Addr → HO) (ad : Addr → V → Hp → (Hp → Prop) → Prop) : Prop where
  new : ∀ (H : Hp) (h : Heap), ObjOk X.prog X.w H (h.push { cls := .type "set", dict := none, data := .set #[] 0 (.fresh 0 0 (!X.w.params.followText "set-order")) }) h.objs.size (nw h.objs.size)
  add : ∀ (s0 : Shared) (H0 : Hp) (sc : Scope) (ce : Env) (fs : List Addr) (pins : List (Addr × Obj)) (σ : L2.St) (H : Hp) (s : Shared) (c : Addr) (y : V) (v : Value) (on : Hp → Prop) (E : Value → Shared → Prop) (Q : Value → Shared → Prop),
    Inv (X.blk s0 H0 sc ce fs) pins σ H s → RelV y v → ad c y H on → (∀ s' H', Inv (X.blk s0 H0 sc ce fs) pins σ H' s' → on H' → Q .none s') → wpAny (model X.prog X.w) X.A (call (.builtin "set.add") [.ref c, v]) Q E s
theorem ac_core {nw : Addr → HO} {ad : Addr → V → Hp → (Hp → Prop) → Prop} (K : AccOk X nw ad) {pins : List (Addr × Obj)} {s : Shared} {σ : L2.St} {H : Hp} {Q : VK} {el tgt src : Expr} {cds : List Expr} {sc : Scope} {own : List (Str × Nat)} {p p2 : Pos} {wi : TI} {g : TG} {tt : TT} {te : TE}
    {use : Option (Value → Sem Unit)} {Qf : Value → Shared → Prop} (calm : X.calm = true) (nd : X.N.Nodup) (I : Inv X pins σ H s) (pi : PI X tgt src wi) (bo : BlkOk X.N X.env.scope sc own)
    (p1 : ∀ (s : Shared) (H : Hp) (c : Addr) (cl : List (Str × Addr)) (fs : List Addr), PG (X.blk s H sc (compEnvC sc cl c X.env) fs) tgt g)
    (p2' : ∀ (s : Shared) (H : Hp) (c : Addr) (cl : List (Str × Addr)) (fs : List Addr), PTs (X.blk s H sc (compEnvC sc cl c X.env) fs) cds tt)
    (p3 : ∀ (s : Shared) (H : Hp) (c : Addr) (cl : List (Str × Addr)) (fs : List Addr), PE (X.blk s H sc (compEnvC sc cl c X.env) fs) el te)
    (fold : ∀ z, foldedSetIterable src X.env z = pure z) (hh : tAc nw ad wi g tt te (own.map (·.2)) σ H Q)
    (fin : ∀ c l s' m H', Inv X pins σ H' s' → Q (.ref c) H' → s'.heap.Ns l m → FpOk X pins H' l → compPost (model X.prog X.w) X.A X.xe use Qf (.ref c) l (.ok .next) s') :
    wpAny (model X.prog X.w) X.A (comprehension (.SetComp el [⟨tgt, src, cds, 0⟩] sc p) sc X.env p2 (newSet (.type "set")) false (eval src X.env) use) Qf X.xe s := by
  have cells : ∀ y ∈ sc.names, y.2 = .free → ∃ c, X.env.cells.lookup y.1 = some c := fun y hy e =>
    (bo.free y hy e).elim (fun z => I.ok.has _ (.inl z)) fun z => I.ok.has _ (.inr z)
  refine wpAny_comprehension_free (use := use) rfl fold (closure_ok cells) bo.kind (fun y hy e => by rw [bo.uniq y hy, e]) (thn (pi.run pins s σ H _ I hh) fun v0 t1 q1 => thn q1 fun v1 t2 q2 => ?_)
  obtain ⟨it, fs, tn, J, Ha, rfl, Ia, T, at0, fpa, hh⟩ := q2
  refine PpSet.newSet_ok (newEnv_comp ?_)
  have none0 : Ha t2.heap.objs.size = none := Ia.hok.fresh (Nat.le_refl _)
  obtain ⟨W, ⟨k0, w0⟩, turn⟩ := hh _ none0
  -- the set stands
  have made := K.new (upd Ha t2.heap.objs.size (nw t2.heap.objs.size)) t2.heap
  have older : ∀ b ∈ fs, b < t2.heap.objs.size := fun b hb => by
    obtain ⟨o, e, _⟩ := T.obj _ _ at0 b hb
    exact Heap.lt_size e
  have grown : ∀ b o, t2.heap.get? b = some o → (t2.heap.push { cls := .type "set", dict := none, data := .set #[] 0 (.fresh 0 0 (!X.w.params.followText "set-order")) }).get? b = some o := fun b o e => Heap.get?_push_of_some _ e
  have bigger : ∀ b, b < t2.heap.objs.size → b < (t2.heap.push { cls := .type "set", dict := none, data := .set #[] 0 (.fresh 0 0 (!X.w.params.followText "set-order")) }).objs.size := fun b hb => by rw [Heap.size_push]; exact Nat.lt_succ_of_lt hb
  generalize hset : t2.heap.push { cls := .type "set", dict := none, data := .set #[] 0 (.fresh 0 0 (!X.w.params.followText "set-order")) } = hS at made grown bigger ⊢
  have Ib : Inv X pins σ (upd Ha t2.heap.objs.size (nw t2.heap.objs.size)) { t2 with heap := hS } := Ia.laid (t' := t2.toks) grown (Nat.le_refl _) made
  have apart : ∀ b ∈ fs, FpOk X pins (upd Ha t2.heap.objs.size (nw t2.heap.objs.size)) b := fun b hb => ⟨by rw [upd_ne (Nat.ne_of_lt (older b hb))]; exact (fpa b hb).1, (fpa b hb).2⟩
  have at1 : tn 0 hS := T.keep _ _ _ at0 fun b _ o e => grown b o e
  generalize hc : t2.heap.objs.size = c at *
  generalize hHb : upd Ha c (nw c) = Hb at *
  have Ic := block_start Ib bo nd fun b hb => ⟨apart b hb, bigger b (older b hb)⟩
  have go1 := p1 { t2 with heap := hS } Hb hS.objs.size (cellsFrom (hS.objs.size + 1) sc.names (cloFrom X.env.cells sc.names [])) fs
  have go2 := p2' { t2 with heap := hS } Hb hS.objs.size (cellsFrom (hS.objs.size + 1) sc.names (cloFrom X.env.cells sc.names [])) fs
  have go3 := p3 { t2 with heap := hS } Hb hS.objs.size (cellsFrom (hS.objs.size + 1) sc.names (cloFrom X.env.cells sc.names [])) fs
  have ceL : (compEnvC sc (cellsFrom (hS.objs.size + 1) sc.names (cloFrom X.env.cells sc.names [])) hS.objs.size X.env).locals = hS.objs.size := rfl
  show codeAny _ _ (.compStart _ 0 (.ref it) (.ref c) (compEnvC sc (cellsFrom (hS.objs.size + 1) sc.names (cloFrom X.env.cells sc.names [])) hS.objs.size X.env)) (compPost (model X.prog X.w) X.A X.xe use Qf (.ref c) hS.objs.size) { t2 with heap := pushCells (hS.push { cls := .type "dict", data := .dict #[] }) sc.names }
  generalize compEnvC sc (cellsFrom (hS.objs.size + 1) sc.names (cloFrom X.env.cells sc.names [])) hS.objs.size X.env = ce at Ic go1 go2 go3 ceL ⊢
  have at2 : tn 0 (pushCells (hS.push { cls := .type "dict", data := .dict #[] }) sc.names) := T.keep _ _ _ at1 fun b _ o e => pushCells_keeps _ _ _ _ (Heap.get?_push_of_some _ e)
  obtain ⟨s3, hs3⟩ : ∃ s3 : Shared, s3 = { t2 with heap := hS } := ⟨_, rfl⟩
  rw [← hs3] at Ic Ib go1 go2 go3
  generalize hs4 : ({ t2 with heap := pushCells (hS.push { cls := .type "dict", data := .dict #[] }) sc.names } : Shared) = s4
  have e4 : s4.heap = pushCells (hS.push { cls := .type "dict", data := .dict #[] }) sc.names := by rw [← hs4]
  have Ic : Inv (X.blk s3 Hb sc ce fs) [] (wipe σ (own.map (·.2))) Hb s4 := by
    rw [← hs4]
    subst hs3
    exact Ic
  have inner : ∀ {σ' : L2.St} {H' : Hp} {s' : Shared}, Inv (X.blk s3 Hb sc ce fs) [] σ' H' s' → (∀ b ∈ fs, H' b = none) → ∀ b ∈ fs, FpOk (X.blk s3 Hb sc ce fs) [] H' b := fun {σ' H' s'} Ix hn b hb =>
    ⟨hn b hb, (Ix.ok.exf b hb).1, Ix.ok.exfs b hb, .inl hb, (fun x cc e => (Ix.ok.exf b hb).2 x cc e), fun q hq => by cases hq⟩
  have loop : codeAny (model X.prog X.w) X.A (.compLoop (.SetComp el [⟨tgt, src, cds, 0⟩] sc p) 0 (.ref it) (.ref c) ce) (compPost (model X.prog X.w) X.A X.xe use Qf (.ref c) hS.objs.size) s4 := by
    refine PpSet.compLoopS_any (fun k s' => ∃ n Hx, Inv (X.blk s3 Hb sc ce fs) [] (wipe σ (own.map (·.2))) Hx s' ∧ tn n s'.heap ∧ (∀ b ∈ fs, Hx b = none) ∧ W n k Hx) ?_ k0 ⟨0, Hb, Ic, by rw [e4]; exact at2, fun b hb => (apart b hb).1, w0⟩
    rintro k s5 ⟨n, Hx, Ix, atn, free, wk⟩
    rcases turn n k Hx wk with ⟨stop, out⟩ | ⟨goes, on, hon, step⟩
    · refine thnF (T.done (X.blk s3 Hb sc ce fs) rfl rfl rfl calm n [] s5 _ Hx (fun _ _ => False) Ix (inner Ix free) atn stop) fun r s6 ⟨er, Iy⟩ => ?_
      subst er
      have home : Inv X pins σ Hx s6 := Ib.call' (ch := fs) Iy.os Iy.base Iy.hok Iy.bare fun b hb => ⟨(apart b hb).2.2.2.1, (apart b hb).2.1, (apart b hb).2.2.2.2.1, (apart b hb).2.2.2.2.2⟩
      have freeL : Hx hS.objs.size = none := by rw [← ceL]; exact Iy.free
      obtain ⟨m, ns, _⟩ := Iy.loc
      have ns : s6.heap.Ns hS.objs.size m := by rw [← ceL]; exact ns
      have old3 : s3.heap.objs.size ≤ hS.objs.size := by rw [hs3]; exact Nat.le_refl _
      exact fin c hS.objs.size s6 m Hx home out ns (Ib.fpOk old3 freeL)
    · refine thnF (T.item (X.blk s3 Hb sc ce fs) rfl rfl rfl calm n [] s5 _ Hx (fun _ _ => False) Ix (inner Ix free) atn goes) fun r s6 ⟨u, er, q6⟩ => ?_
      subst er
      refine thnF q6 fun _ s7 ⟨x, H7, I7, r7, y7, at7, f7⟩ => ?_
      have I8 := I7.pinned (inner I7 f7) (T.obj _ _ at7)
      refine thnF (go1.run _ s7 _ H7 x u _ I8 r7 (step x H7 y7)) fun _ s8 ⟨σ9, H9, I9, same, q9⟩ => ?_
      -- one turn's end
      have ends : ∀ {s' : Shared} {H' : Hp}, Inv (X.blk s3 Hb sc ce fs) ([] ++ pinsAt fs s7.heap) σ9 H' s' → on H' → ∃ k', k' < k ∧ ∃ n H', Inv (X.blk s3 Hb sc ce fs) [] (wipe σ (own.map (·.2))) H' s' ∧ tn n s'.heap ∧ (∀ b ∈ fs, H' b = none) ∧ W n k' H' := fun {s' H'} Iz z => by
        obtain ⟨k', lt, wz⟩ := hon H' z
        have stay : ∀ b ∈ fs, ∀ o, s7.heap.get? b = some o → s'.heap.get? b = some o ∧ H' b = none := fun b hb o e => by
          have pz := Iz.pin (b, o) (List.mem_append_right _ (List.mem_append_right _ (mem_pinsAt hb e)))
          exact ⟨pz.1, pz.2.1⟩
        refine ⟨k', lt, n + 1, H', (Iz.unpinned (pins := [])).weak (by rw [← same, wipe_length]) (fun j v e => ?_), T.keep _ _ _ at7 fun b hb o e => (stay b hb o e).1, fun b hb => ?_, wz⟩
        · rw [← same] at e
          exact (wipe_some e).1
        · obtain ⟨o, e, _⟩ := T.obj _ _ at7 b hb
          exact (stay b hb o e).2
      refine thnF (go2.run _ s8 σ9 H9 _ I9 q9) fun yes s10 ⟨H10, I10, q10⟩ => ?_
      cases yes with
      | false =>
        simp only [Bool.false_eq_true, if_false] at q10 ⊢
        exact ends I10 q10
      | true =>
        simp only [if_true] at q10 ⊢
        refine thnF (go3.run _ s10 σ9 H10 _ I10 q10) fun z s11 ⟨y, H11, I11, r11, q11⟩ => ?_
        exact K.add s3 Hb sc ce fs _ σ9 H11 s11 c y z on _ _ I11 r11 q11 fun s' H' Iz zz => ends Iz zz
  exact PpSet.codeAny_compStart_set loop (T.self X.A 0 _ _ _ (by rw [e4]; exact at2) loop)
/-- as a value -/
theorem pe_ac {nw : Addr → HO} {ad : Addr → V → Hp → (Hp → Prop) → Prop} {el tgt src : Expr} {cds : List Expr} {sc : Scope} {own : List (Str × Nat)} {p : Pos} {wi : TI} {g : TG} {tt : TT} {te : TE} (K : AccOk X nw ad)
    (calm : X.calm = true) (nd : X.N.Nodup) (pi : PI X tgt src wi) (bo : BlkOk X.N X.env.scope sc own)
    (p1 : ∀ (s : Shared) (H : Hp) (c : Addr) (cl : List (Str × Addr)) (fs : List Addr), PG (X.blk s H sc (compEnvC sc cl c X.env) fs) tgt g)
    (p2 : ∀ (s : Shared) (H : Hp) (c : Addr) (cl : List (Str × Addr)) (fs : List Addr), PTs (X.blk s H sc (compEnvC sc cl c X.env) fs) cds tt)
    (p3 : ∀ (s : Shared) (H : Hp) (c : Addr) (cl : List (Str × Addr)) (fs : List Addr), PE (X.blk s H sc (compEnvC sc cl c X.env) fs) el te)
    (fold : ∀ z, foldedSetIterable src X.env z = pure z := by intro _; rfl) : PE X (.SetComp el [⟨tgt, src, cds, 0⟩] sc p) (tAc nw ad wi g tt te (own.map (·.2))) :=
  ⟨fun pins s σ H Q I hh => by
    rw [PpSet.eval_SetComp]
    refine ac_core K calm nd I pi bo p1 p2 p3 fold hh fun c l s' m H' Iz q ns fp => ⟨m, ns, fun h2 sb => ?_⟩
    obtain ⟨f0, f1, f2, f3, f4, f5⟩ := fp
    exact ⟨.ref c, H', Iz.turned (t' := s'.toks) (fun b o hb e => (sb.2 b hb).trans e) f0 f1 f3 f4 f5, rfl, q⟩⟩
end

/-! ### sets of tuples of ints and texts -/
/-- the item's tuple, the rows there are, and the rows there will be -/
def adK (P : Program) (w : World) : Addr → V → Hp → (Hp → Prop) → Prop := fun c y H on => ∃ x key rows, y = .ref x ∧ H c = some (kset P w c rows) ∧ (∀ r ∈ rows, H r.1 = some (.tup (r.2.map kV))) ∧ H x = some (.tup (key.map kV)) ∧ rows.length + 1 < 64 ∧
  ∀ rows2, (key ∈ rows.map Prod.snd → rows2 = rows) → (key ∉ rows.map Prod.snd → rows2.Perm ((x, key) :: rows)) → on (upd H c (kset P w c rows2))
theorem accK {X : Cx} (hu : X.A.units + 64 < cLine) : AccOk X (fun c => kset X.prog X.w c []) (adK X.prog X.w) where
  new := fun H h => kset_ok (bare_of (TK.fresh (w := X.w) (knd := mixKind X.prog X.w) (Heap.get?_push_size _ rfl)))
  add := fun s0 H0 sc ce fs pins σ H s c y v on E Q I r ⟨x, key, rows, e, hc, hr, hx, few, z⟩ go => by
    subst e
    cases r
    exact add_ok (X := X.blk s0 H0 sc ce fs) hu I hc hr hx few fun s' rows2 a b J => go s' _ J (z rows2 a b)
/-- sorted of such a set -/
def rSrtK (shape : Nat → Bool) (P : Program) (w : World) : List V → Hp → VK → Prop := fun vs H Q => ∃ c rows, vs = [V.ref c] ∧ H c = some (kset P w c rows) ∧ (∀ r ∈ rows, H r.1 = some (.tup (r.2.map kV)) ∧ fitK shape 0 r.2 = true ∧ r.2 ≠ []) ∧
  ∀ (p : Addr) (rows2 : List Rw), rows2.Perm rows → rows2.Pairwise (fun q r => leK q.2 r.2 = true) → H p = none → Q (.ref p) (upd H p (.lst (rows2.map fun r => V.ref r.1)))
theorem cr_srtK {X : Cx} {shape : Nat → Bool} (calm : X.calm = true) : CallR X (.builtin "sorted") (rSrtK shape X.prog X.w) := fun pins s σ H vs us Q I r ⟨c, rows, e, hc, hr, q⟩ => by
  subst e
  rw [Vals.ref1 r]
  exact sort_ok calm I hc hr fun s' p rows2 pm pw hn J => ⟨.ref p, _, J, rfl, q p rows2 pm pw hn⟩
end TK

namespace DL
open PySem PySem.Spec PyProof.Rows L2 TK

/-! ### sorted({(..) for .. in ..}), tuples of ints and texts -/

open Classical in
noncomputable def insK (kss : List (List Key)) (ks : List Key) : List (List Key) := if ks ∈ kss then kss else kss ++ [ks]
theorem insK_len (kss : List (List Key)) (ks : List Key) : (insK kss ks).length ≤ kss.length + 1 := by
  unfold insK
  split
  · omega
  · rw [List.length_append]; simp
theorem is_kd {st : Addr} {M : List Addr} {H : Hp} (k : Key) : Is st M H (kV k) (keyD k) := by
  cases k with
  | inl i => exact .int i
  | inr x =>
    have := Is.str (st := st) (M := M) (H := H) x.cps.toList
    rwa [Array.toArray_toList] at this
theorem iss_kd {st : Addr} {M : List Addr} {H : Hp} : ∀ ks : List Key, Iss st M H (ks.map kV) (ks.map keyD)
  | [] => .nil
  | k :: ks => .cons (is_kd k) (iss_kd ks)
section
variable {P : Program} {w : World} {env : Nv} {post : D → Prop}
theorem de_srtAc {shape : Nat → Bool} {wi : TI} {g : TG} {tt : TT} {te : TE} {is : List Nat} (hg : Only g is) (h : Di wi env fun ds => ds.length < 63 ∧ ∃ Iv : Nat → List (List Key) → Prop, Iv 0 [] ∧
      (∀ i d kss, ds[i]? = some d → kss.length ≤ i → Iv i kss → Dg g d (wipeE env is) fun e2 => Dt tt e2 fun b => if b = true then De te e2 fun y => ∃ l ks, y = .tup l ∧ toKeys l = some ks ∧ (fitK shape 0 ks = true ∧ ks ≠ []) ∧ Iv (i + 1) (insK kss ks) else Iv (i + 1) kss) ∧
      ∀ kss, Iv ds.length kss → ∀ kss2 : List (List Key), kss2.Perm kss → kss2.Pairwise (fun a b => leK a b = true) → post (.lst (kss2.map fun ks => .tup (ks.map keyD)))) :
    De (tCB (rSrtK shape P w) (tCons (tAc (fun c => kset P w c []) (adK P w) wi g tt te is) tNil)) env post := fun B M σ H S Q q => by
  refine h B M σ H S _ fun J H1 hv ds ⟨hz, Iv, h0, hs, hd⟩ S1 e1 hh T c hn => ?_
  have ne : c ≠ B.st := S1.nst hn
  refine ⟨fun i m Hx => m = ds.length - i ∧ i ≤ ds.length ∧ ∃ (kss : List (List Key)) (rows : List Rw), kss.length ≤ i ∧ Iv i kss ∧ (rows.map Prod.snd).Perm kss ∧ (∀ r ∈ rows, Hx r.1 = some (.tup (r.2.map kV)) ∧ fitK shape 0 r.2 = true ∧ r.2 ≠ []) ∧ Fx B.st H1 Hx ∧ Hx c = some (kset P w c rows),
    ⟨_, rfl, Nat.zero_le _, [], [], Nat.le_refl _, h0, .refl _, (fun _ z => nomatch z), Fx.new hn, upd_same⟩, ?_⟩
  rintro i m H2 ⟨rfl, hi, kss, rows, hkl, hI, hpm, hrw, f2, hD⟩
  have S2 : Sr { B with hid := hv ++ B.hid } (c :: M) (wipe σ is) H2 (wipeE env is) := ((S1.hide hh).newIn' (B := { B with hid := hv ++ B.hid }) hn f2 hD).wipes is
  obtain ⟨t1, t2, t3⟩ := T.run _ H2 S2.stm S2.stM S2.hv
  -- a tuple is neither the stream nor the set
  have apart : ∀ {Hx : Hp} {b : Addr} {us : List V} {rs : List Rw}, Hx c = some (kset P w c rs) → Hx b = some (.tup us) → b ≠ c := fun {Hx b us rs} z1 z2 e => by
    rw [e, z1] at z2
    cases z2
  by_cases hlt : i < ds.length
  · refine .inr ⟨t1 i hlt, fun Hx => ∃ (kss : List (List Key)) (rows : List Rw), kss.length ≤ i + 1 ∧ Iv (i + 1) kss ∧ (rows.map Prod.snd).Perm kss ∧ (∀ r ∈ rows, Hx r.1 = some (.tup (r.2.map kV)) ∧ fitK shape 0 r.2 = true ∧ r.2 ≠ []) ∧ Fx B.st H1 Hx ∧ Hx c = some (kset P w c rows),
      fun Hx hN => ⟨_, by omega, rfl, hlt, hN⟩, fun x H3 hy => ?_⟩
    obtain ⟨hH, ix⟩ := t3 i _ x H3 (List.getElem?_eq_getElem hlt) hy
    have e3 : Fx B.st H2 H3 := by
      rcases hH with z | ⟨T, o, hT, z⟩
      · rw [z]; exact Fx.refl _ _
      · rw [z]; exact Fx.new hT
    have hw0 : wipe (wipe σ is) is = wipe σ is := wipe_wipe fun _ z => z
    have go := hg x (wipe σ is) H3
    rw [hw0] at go
    refine go _ (hs i _ kss (List.getElem?_eq_getElem hlt) hkl hI _ _ _ H3 _ (S2.fx e3) ix _ fun σ4 env4 h4 S4 => ?_)
    refine h4 _ _ _ H3 S4 _ fun b H4 hb S5 e4 => ?_
    have rowsOn : ∀ {Hx : Hp}, Fx B.st H2 Hx → ∀ r ∈ rows, Hx r.1 = some (.tup (r.2.map kV)) ∧ fitK shape 0 r.2 = true ∧ r.2 ≠ [] := fun {Hx} e r hr => by
      obtain ⟨a1, a2⟩ := hrw r hr
      exact ⟨e.1 _ _ (fun z => S2.stm.notup _ (z ▸ a1)) a1, a2⟩
    have f4 : Fx B.st H1 H4 := (f2.trans e3).trans e4
    have D4 : H4 c = some (kset P w c rows) := e4.1 _ _ ne (e3.1 _ _ ne hD)
    cases b with
    | true =>
      refine hb _ _ _ H4 S5 _ fun y H5 d5 ⟨l, ks, ed, hk, ⟨hf, hne⟩, hI6⟩ S6 e5 i5 => ?_
      subst ed
      obtain ⟨p, vs, rfl, hp, hss⟩ := is_tup i5
      have := is_keys hss hk
      subst this
      have D5 : H5 c = some (kset P w c rows) := e5.1 _ _ ne D4
      have rows5 := rowsOn ((e3.trans e4).trans e5)
      refine ⟨p, ks, rows, rfl, D5, fun r hr => (rows5 r hr).1, hp, ?_, fun rows2 old new => ⟨insK kss ks, rows2, ?_, hI6, ?_, fun r hr => ?_, (f4.trans e5).mut hn ne, upd_same⟩⟩
      · have := hpm.length_eq
        rw [List.length_map] at this
        omega
      · have := insK_len kss ks
        omega
      · unfold insK
        by_cases hm : ks ∈ kss
        · rw [if_pos hm, old (hpm.mem_iff.mpr hm)]
          exact hpm
        · rw [if_neg hm]
          have z := (new fun z => hm (hpm.mem_iff.mp z)).map Prod.snd
          rw [List.map_cons] at z
          exact z.trans ((hpm.cons ks).trans (List.perm_append_singleton _ _).symm)
      · have key : H5 r.1 = some (.tup (r.2.map kV)) ∧ fitK shape 0 r.2 = true ∧ r.2 ≠ [] := by
          by_cases hm : ks ∈ rows.map Prod.snd
          · rw [old hm] at hr
            exact rows5 r hr
          · rcases List.mem_cons.mp ((new hm).mem_iff.mp hr) with z | z
            · rw [z]; exact ⟨hp, hf, hne⟩
            · exact rows5 r z
        rw [upd_ne (apart D5 key.1)]
        exact key
    | false => exact ⟨kss, rows, by omega, hb, hpm, rowsOn (e3.trans e4), f4, D4⟩
  · have e : i = ds.length := by omega
    subst e
    refine .inl ⟨t2 _ (Nat.le_refl _), c, rows, rfl, hD, hrw, fun p rows2 pm pw hp => ?_⟩
    have fin := hd kss hI (rows2.map Prod.snd) ((pm.map Prod.snd).trans hpm) (List.pairwise_map.mpr pw)
    rw [List.map_map] at fin
    have f5 : Fx B.st H1 (upd H2 p (.lst (rows2.map fun r => V.ref r.1))) := f2.trans (Fx.new hp)
    refine q _ _ _ fin (S1.fx f5) (e1.trans f5) (.lst (fun z => ?_) upd_same ?_)
    · obtain ⟨o, ho⟩ := S2.trk p (List.mem_cons_of_mem _ z)
      rw [hp] at ho
      cases ho
    · have each : ∀ rs : List Rw, (∀ r ∈ rs, H2 r.1 = some (.tup (r.2.map kV))) → Iss B.st M (upd H2 p (.lst (rows2.map fun r => V.ref r.1))) (rs.map fun r => V.ref r.1) (rs.map ((fun ks => D.tup (ks.map keyD)) ∘ Prod.snd)) := by
        intro rs
        induction rs with
        | nil => exact fun _ => .nil
        | cons r rs ih =>
          intro hr
          refine .cons (.tup ?_ (iss_kd r.2)) (ih fun z hz => hr z (List.mem_cons_of_mem _ hz))
          have a1 := hr r List.mem_cons_self
          rw [upd_ne (fun z => by rw [z, hp] at a1; cases a1)]
          exact a1
      exact each rows2 fun r hr => (hrw r (pm.mem_iff.mp hr)).1
end
end DL

/-! sorted(xs), xs a list of tuples of ints and texts; in, not in over a list of tuples -/
namespace TK
open PySem PySem.Spec PyProof.Rows L2

def rSrtL (shape : Nat → Bool) (K : PySem.W.Frag) : List V → Hp → VK → Prop := fun vs H Q => ∃ (l : Addr) (rows : List Rw), vs = [V.ref l] ∧ SqL K H l (rows.map fun r => V.ref r.1) ∧ (∀ r ∈ rows, H r.1 = some (.tup (r.2.map kV)) ∧ fitK shape 0 r.2 = true ∧ r.2 ≠ []) ∧
  ∀ (p : Addr) (rows2 : List Rw), rows2.Perm rows → rows2.Pairwise (fun q r => leK q.2 r.2 = true) → H p = none → Q (.ref p) (upd H p (.lst (rows2.map fun r => V.ref r.1)))
theorem refs_only : ∀ {rs : List Rw} {us : List Value}, Vals (rs.map fun r => V.ref r.1) us → us = rs.map fun r => Value.ref r.1
  | [], _, .nil => rfl
  | r :: rs, _, .cons h t => by
    cases h
    rw [refs_only t]
    rfl
theorem refs_vals : ∀ rs : List Rw, Vals (rs.map fun r => V.ref r.1) (rs.map fun r => Value.ref r.1)
  | [] => .nil
  | r :: rs => .cons rfl (refs_vals rs)
theorem each_ref {f : Value → Rw → Prop} : ∀ {l : List Rw}, (∀ r ∈ l, f (.ref r.1) r) → PySem.W.EachIs f (l.map fun r => Value.ref r.1) l
  | [], _ => .nil
  | r :: l, hf => .cons (hf r List.mem_cons_self) (each_ref fun q hq => hf q (List.mem_cons_of_mem _ hq))
theorem cr_srtL {X : Cx} {shape : Nat → Bool} : CallR X (.builtin "sorted") (rSrtL shape X.K) := fun pins s σ H vs us Q I r ⟨l, rows, e, hl, hr, q⟩ => by
  subst e
  rw [Vals.ref1 r]
  obtain ⟨its, rv, pl, hz⟩ := I.list hl
  have ei := refs_only rv
  subst ei
  have len : (rows.map fun r => V.ref r.1).length = rows.length := List.length_map _
  have each : ∀ r ∈ rows, IsTupleKey (mixKind X.prog X.w) s.heap r.2 r.1 ∧ fitK shape 0 r.2 = true ∧ r.2 ≠ [] := fun r hm => ⟨keyAt I (hr r hm).1, (hr r hm).2⟩
  obtain ⟨fs, ht⟩ := tupsOf_at each
  have keys : ∀ v ∈ rows.map (fun r => Value.ref r.1), ∃ k, G.tupKeyC s.heap shape v = some k := fun v hv => by
    obtain ⟨r, hm, rfl⟩ := List.mem_map.mp hv
    exact ⟨_, tupKey_at (each r hm).1 (each r hm).2.1⟩
  refine G.sorted_tups (shape := shape) (vs := rows.map fun r => Value.ref r.1) pl.isList ht keys (by rw [List.length_map]; rw [len] at hz; exact hz) fun st' a1 a2 a3 => ?_
  have out := PySem.W.sort_out (rev := false) (G.tupKeys keys) a1 a2 a3
  simp only [Bool.false_eq_true, if_false] at out
  have srt := PySem.W.sortVals_each (κ := G.tupKindC s.heap shape) (rev := false) (R := fun v (r : Rw) => v = Value.ref r.1) (fun r => r.2.map tokK) (each_ref (l := rows) fun r _ => rfl) (each_ref (l := rows) fun r hm => tupKey_at (each r hm).1 (each r hm).2.1)
  have ord := PySem.W.sort_pairwise (PySem.W.sortLe_total (listOrd itemOrd) false fun r : Rw => r.2.map tokK) rows
  have pmL := List.mergeSort_perm rows (PySem.W.sortLe (listOrd itemOrd) false fun r : Rw => r.2.map tokK)
  generalize rows.mergeSort (PySem.W.sortLe (listOrd itemOrd) false fun r : Rw => r.2.map tokK) = L' at srt ord pmL
  have outL : ((arrOf st').map (·.2)).toList = L'.map fun r => Value.ref r.1 := by
    rw [out]
    generalize PySem.W.sortVals _ _ _ _ = ws at srt
    clear out ord pmL
    induction srt with
    | nil => rfl
    | cons e _ ih => rw [List.map_cons, e, ih]
  obtain ⟨ep, he⟩ := PyProof.Rows.sortedAll_at s.heap (rows.map fun r => Value.ref r.1) ((arrOf st').map (·.2))
  have vL := refs_vals L'
  rw [← outL] at vL
  exact ⟨.ref _, upd H (s.heap.objs.size + 1) (.lst (L'.map fun r => V.ref r.1)), I.laid (t' := s.toks) (fun _ _ => PyProof.Rows.sortedAll_old) (Nat.le_succ _) ⟨by rw [List.length_map, pmL.length_eq]; rw [len] at hz; exact hz, _, ep, vL, he⟩, rfl,
    q _ L' pmL ord (I.hok.fresh (Nat.le_succ _))⟩
end TK
namespace DL
open PySem PySem.Spec PyProof.Rows L2 TK
def tkD (ks : List Key) : D := .tup (ks.map keyD)
theorem kV_of {st : Addr} {M : List Addr} {H : Hp} {v : V} {k : Key} (h : Is st M H v (keyD k)) : v = kV k := by
  cases k with
  | inl i => exact is_int h
  | inr x =>
    have e := is_str h
    rw [e, Array.toArray_toList]
    rfl
theorem kVs_of {st : Addr} {M : List Addr} {H : Hp} : ∀ {ks : List Key} {vs : List V}, Iss st M H vs (ks.map keyD) → vs = ks.map kV
  | [], _, .nil => rfl
  | k :: ks, _, .cons h t => by rw [kV_of h, kVs_of t]; rfl
theorem rows_of {st : Addr} {M : List Addr} {H : Hp} : ∀ {kss : List (List Key)} {vs : List V}, Iss st M H vs (kss.map tkD) → ∃ rows : List Rw, vs = rows.map (fun r => V.ref r.1) ∧ rows.map Prod.snd = kss ∧ ∀ r ∈ rows, H r.1 = some (.tup (r.2.map kV))
  | [], _, .nil => ⟨[], rfl, rfl, (fun _ z => nomatch z)⟩
  | ks :: kss, _, .cons h t => by
    obtain ⟨rows, rfl, e2, e3⟩ := rows_of t
    obtain ⟨p, vs, rfl, hp, hs⟩ := is_tup h
    have := kVs_of hs
    subst this
    exact ⟨(p, ks) :: rows, rfl, by rw [List.map_cons, e2], fun r hr => (List.mem_cons.mp hr).elim (fun z => by rw [z]; exact hp) (e3 r)⟩
section
variable {K : PySem.W.Frag} {post : D → Prop}
theorem dcl_srtL {shape : Nat → Bool} {kss : List (List Key)} (hf : ∀ ks ∈ kss, fitK shape 0 ks = true ∧ ks ≠ []) (h : ∀ kss2 : List (List Key), kss2.Perm kss → kss2.Pairwise (fun a b => leK a b = true) → post (.lst (kss2.map tkD))) :
    Dcl (rSrtL shape K) [.lst (kss.map tkD)] post := fun st M H vs hst hM trk iv Q q => by
  cases iv with
  | cons a r =>
    cases r
    obtain ⟨l, us, rfl, _, hl, hs⟩ := is_lst a
    obtain ⟨rows, rfl, e2, e3⟩ := rows_of hs
    refine ⟨l, rows, rfl, .of hl, fun r hr => ⟨e3 r hr, hf r.2 (by rw [← e2]; exact List.mem_map.mpr ⟨r, hr, rfl⟩)⟩, fun p rows2 pm pw hp => ?_⟩
    have fin := h (rows2.map Prod.snd) (by rw [← e2]; exact pm.map _) (List.pairwise_map.mpr pw)
    rw [List.map_map] at fin
    refine q _ _ _ fin (Fx.new hp) (.lst (fun z => ?_) upd_same ?_)
    · obtain ⟨o, ho⟩ := trk _ z
      rw [hp] at ho
      cases ho
    · have each : ∀ rs : List Rw, (∀ r ∈ rs, H r.1 = some (.tup (r.2.map kV))) → Iss st M (upd H p (.lst (rows2.map fun r => V.ref r.1))) (rs.map fun r => V.ref r.1) (rs.map (tkD ∘ Prod.snd)) := by
        intro rs
        induction rs with
        | nil => exact fun _ => .nil
        | cons r rs ih =>
          intro hr
          have a1 := hr r List.mem_cons_self
          exact .cons (.tup (by rw [upd_ne (fun z => by rw [z, hp] at a1; cases a1)]; exact a1) (iss_kd r.2)) (ih fun z hz => hr z (List.mem_cons_of_mem _ hz))
      exact each rows2 fun r hr => e3 r (pm.mem_iff.mp hr)
end
end DL

namespace DL
open PySem PySem.Spec PyProof.Rows L2 TK

/-! ### x not in xs, xs a list of plain data -/
theorem dop_notinG {K : PySem.W.Frag} {post : D → Prop} {x : D} {l : List D} (n : Nat) (hn : n ≤ 40) (hx : plD n x = true) (hl : plD n (.lst l) = true) (h : post (.bl (!(pyDs l).any fun z => PyData.eqv z (pyD x)))) : Dop (rNotInD K) x (.lst l) post := fun st M H v w hst hM trk iv iw Q q => by
  have a := dp_of (K := K) hl iw
  have b := shp_of hn hl
  rw [pyD] at a b
  exact ⟨_, _, dp_of hx iv, a, shp_of hn hx, b, q _ H _ h (Fx.refl _ _) (.bl _)⟩
theorem u65 {k : Nat} {A : Around} (r : Room k A) : A.units + 65 < cLine := by have := r.un; omega
/-! ### edges as keys -/
def edK (e : Ed) : List Key := [.inl (e.1 : Int), .inr ⟨#[e.2.1]⟩, .inl (e.2.2 : Int)]
theorem tkD_ed (e : Ed) : tkD (edK e) = edD e := rfl
theorem edK_inj {e f : Ed} (h : edK e = edK f) : e = f := by
  obtain ⟨a, b, c⟩ := e
  obtain ⟨a', b', c'⟩ := f
  simp [edK] at h
  rw [show a = a' by omega, h.2.1, show c = c' by omega]
theorem plD_ed {e : Ed} (h : e.2.1 ∈ LTR) : plD 1 (edD e) = true := by
  obtain ⟨a, b, c⟩ := e
  have lt : ∀ c ∈ LTR, c < 0x110000 := by decide
  have hb : decide (b < 0x110000) = true := decide_eq_true (lt b h)
  simp [edD, sign, plD, plDs, hb]
theorem eqv_ed (e f : Ed) : PyData.eqv (pyD (edD e)) (pyD (edD f)) = decide (e = f) := by
  obtain ⟨a, b, c⟩ := e
  obtain ⟨a', b', c'⟩ := f
  simp only [edD, sign, pyD, pyDs, PyData.eqv, PyData.eqvAll, Bool.and_true]
  by_cases h1 : a = a'
  · by_cases h2 : b = b'
    · by_cases h3 : c = c'
      · subst h1 h2 h3; simp
      · simp [h3, show ¬ ((c : Int) = c') by omega]
    · simp [h2]
  · simp [h1, show ¬ ((a : Int) = a') by omega]
/-- each edge once, in the sequence in which it first stands -/
def ddS (acc : List Ed) (e : Ed) : List Ed := if e ∈ acc then acc else acc ++ [e]
def dd (es : List Ed) : List Ed := es.foldl ddS []
theorem ddS_insK (acc : List Ed) (e : Ed) : insK (acc.map edK) (edK e) = (ddS acc e).map edK := by
  unfold insK ddS
  by_cases h : e ∈ acc
  · rw [if_pos h, if_pos (List.mem_map.mpr ⟨e, h, rfl⟩)]
  · rw [if_neg h, if_neg, List.map_append]
    · rfl
    · intro z
      obtain ⟨f, hf, e'⟩ := List.mem_map.mp z
      exact h (edK_inj e' ▸ hf)
theorem dd_fl : ∀ (es acc : List Ed), acc.Nodup → (es.foldl ddS acc).Nodup ∧ (∀ e, e ∈ es.foldl ddS acc ↔ e ∈ acc ∨ e ∈ es) ∧ (es.foldl ddS acc).length ≤ acc.length + es.length
  | [], acc, h => ⟨h, (fun e => by simp), by simp⟩
  | x :: es, acc, h => by
    have hn : (ddS acc x).Nodup := by
      unfold ddS
      split
      · exact h
      · rename_i hx
        rw [List.nodup_append]
        exact ⟨h, by simp, fun a ha b hb e => hx (by rw [← List.mem_singleton.mp hb, ← e]; exact ha)⟩
    have hm : ∀ e, e ∈ ddS acc x ↔ e ∈ acc ∨ e = x := fun e => by
      unfold ddS
      split
      · rename_i hx
        exact ⟨.inl, fun z => z.elim id fun z => z ▸ hx⟩
      · simp
    have hl : (ddS acc x).length ≤ acc.length + 1 := by
      unfold ddS
      split
      · omega
      · rw [List.length_append, List.length_singleton]
        omega
    obtain ⟨a, b, c⟩ := dd_fl es (ddS acc x) hn
    refine ⟨a, fun e => ?_, by rw [List.foldl_cons, List.length_cons]; omega⟩
    rw [List.foldl_cons, b, hm, List.mem_cons, or_assoc]
theorem dd_nd (es : List Ed) : (dd es).Nodup := (dd_fl es [] List.nodup_nil).1
theorem dd_mem (es : List Ed) (e : Ed) : e ∈ dd es ↔ e ∈ es := by
  have := (dd_fl es [] List.nodup_nil).2.1 e
  unfold dd
  rw [this]
  simp
theorem dd_len (es : List Ed) : (dd es).length ≤ es.length := by
  have := (dd_fl es [] List.nodup_nil).2.2
  unfold dd
  simpa using this
/-- in their order -/
def srtE (es : List Ed) : List Ed := es.mergeSort (PySem.W.sortLe (listOrd itemOrd) false fun e => (edK e).map tokK)
theorem srtE_perm (es : List Ed) : (srtE es).Perm es := List.mergeSort_perm _ _
theorem tok_inj {e f : Ed} (h : (edK e).map tokK = (edK f).map tokK) : e = f := by
  obtain ⟨a, b, c⟩ := e
  obtain ⟨a', b', c'⟩ := f
  simp [edK, tokK] at h
  rw [show a = a' by omega, h.2.1, show c = c' by omega]
theorem srtE_only {l : List Ed} {kss : List (List Key)} (pm : kss.Perm (l.map edK)) (pw : kss.Pairwise fun a b => leK a b = true) : kss = (srtE l).map edK := by
  obtain ⟨l2, p2, rfl⟩ := perm_map_ex pm rfl
  have pw2 := List.pairwise_map.mp pw
  have pw3 := PySem.W.sort_pairwise (PySem.W.sortLe_total (listOrd itemOrd) false fun e : Ed => (edK e).map tokK) l
  refine congrArg (List.map edK) (List.Perm.eq_of_pairwise (le := fun a b => leK (edK a) (edK b) = true) (fun a b _ _ h1 h2 => ?_) pw2 pw3 (p2.trans (srtE_perm l).symm))
  refine tok_inj (lex_total (O := itemOrd) _ _ ?_ ?_)
  · simpa [leK] using h2
  · simpa [leK] using h1
/-! ### graphs -/
abbrev Gr := Nat × List Ed
def grD (g : Gr) : D := .tup [.int (g.1 : Int), .tup (g.2.map edD)]
def nmE (ps : List Nat) (e : Ed) : Ed := (ps.idxOf e.1, e.2.1, ps.idxOf e.2.2)
def numG (es : List Ed) (ls : List Nat) (p0 N : Nat) : Gr := ((fw (mvs es) ls p0 N).1.length, srtE (dd (es.map (nmE (fw (mvs es) ls p0 N).1))))

/-! ### steps along edges -/
def Stp (es : List Ed) (p c q : Nat) : Prop := (c ∈ SM ∧ (p, c, q) ∈ es) ∨ (sw c ∈ SM ∧ c ∈ LTR ∧ (q, sw c, p) ∈ es)
theorem Stp.sub {es fs : List Ed} {p c q : Nat} (h : ∀ e ∈ es, e ∈ fs) (k : Stp es p c q) : Stp fs p c q := k.imp (fun z => ⟨z.1, h _ z.2⟩) fun z => ⟨z.1, z.2.1, h _ z.2.2⟩
theorem Stp.of {es : List Ed} {e : Ed} (hs : e.2.1 ∈ SM) (he : e ∈ es) : Stp es e.1 e.2.1 e.2.2 ∧ Stp es e.2.2 (sw e.2.1) e.1 :=
  ⟨.inl ⟨hs, he⟩, .inr ⟨by rw [sw_sw (SM_LTR hs)]; exact hs, sw_mem (SM_LTR hs), by rw [sw_sw (SM_LTR hs)]; exact he⟩⟩
theorem Stp.lt {es : List Ed} {p c q : Nat} (k : Stp es p c q) : c ∈ LTR := k.elim (fun z => SM_LTR z.1) fun z => z.2.1
theorem Stp.back {es : List Ed} {p c q : Nat} (k : Stp es p c q) : Stp es q (sw c) p := by
  rcases k with ⟨a, b⟩ | ⟨a, b, c⟩
  · exact (Stp.of (e := (p, c, q)) a b).2
  · exact .inl ⟨a, c⟩
theorem Stp.map {es : List Ed} {p c q : Nat} (f : Nat → Nat) (k : Stp es p c q) : Stp (es.map fun e => (f e.1, e.2.1, f e.2.2)) (f p) c (f q) :=
  k.imp (fun z => ⟨z.1, List.mem_map.mpr ⟨_, z.2, rfl⟩⟩) fun z => ⟨z.1, z.2.1, List.mem_map.mpr ⟨_, z.2.2, rfl⟩⟩
theorem stO_fl {p c q : Nat} : ∀ (es : List Ed) {kvs : List (List Key × V)}, (∀ e ∈ es, e.2.1 ∈ SM) → stO (es.foldl put2 kvs) p c = some q → Stp es p c q ∨ stO kvs p c = some q
  | [], _, _, h => .inr h
  | e :: es, kvs, hs, h => by
    have he := hs e List.mem_cons_self
    rcases stO_fl es (fun x hx => hs x (List.mem_cons_of_mem _ hx)) h with z | z
    · exact .inl (z.sub fun x hx => List.mem_cons_of_mem _ hx)
    · unfold put2 at z
      obtain ⟨o1, o2⟩ := Stp.of (es := e :: es) he List.mem_cons_self
      rw [stO_put, stO_put] at z
      by_cases g1 : p = e.2.2 ∧ c = sw e.2.1
      · rw [if_pos g1] at z
        obtain rfl : e.1 = q := Option.some.inj z
        rw [g1.1, g1.2]
        exact .inl o2
      · rw [if_neg g1] at z
        by_cases g2 : p = e.1 ∧ c = e.2.1
        · rw [if_pos g2] at z
          obtain rfl : e.2.2 = q := Option.some.inj z
          rw [g2.1, g2.2]
          exact .inl o1
        · rw [if_neg g2] at z
          exact .inr z
theorem stO_mem {es : List Ed} {p c q : Nat} (hs : ∀ e ∈ es, e.2.1 ∈ SM) (h : stO (mvs es) p c = some q) : Stp es p c q := by
  rcases stO_fl es hs h with z | z
  · exact z
  · simp [stO, valV] at z
theorem mvs_mv {n : Nat} {es : List Ed} (hb : ∀ e ∈ es, e.1 < n ∧ e.2.2 < n) : Mv (mvs es) n := by
  have go : ∀ (es : List Ed) (kvs : List (List Key × V)), (∀ e ∈ es, e.1 < n ∧ e.2.2 < n) → Mv kvs n → Mv (es.foldl put2 kvs) n := by
    intro es
    induction es with
    | nil => exact fun _ _ h => h
    | cons e es ih =>
      intro kvs hb h
      obtain ⟨a, b⟩ := hb e List.mem_cons_self
      exact ih _ (fun x hx => hb x (List.mem_cons_of_mem _ hx)) (mv_put (mv_put h b) a)
  exact go es [] hb (mv_nil n)
/-- no two edges with one letter leave, or enter, one place -/
structure Fld (es : List Ed) : Prop where
  sm : ∀ e ∈ es, e.2.1 ∈ SM
  fwd : ∀ e ∈ es, ∀ f ∈ es, e.2.1 = f.2.1 → e.1 = f.1 → e.2.2 = f.2.2
  bwd : ∀ e ∈ es, ∀ f ∈ es, e.2.1 = f.2.1 → e.2.2 = f.2.2 → e.1 = f.1
theorem Fld.step {es : List Ed} (F : Fld es) {p c q : Nat} (h : Stp es p c q) : stO (mvs es) p c = some q := by
  have v : valV (mvs es) (kk p c) = some (.int (q : Int)) := by
    refine put_last es (fun e he => ⟨fun hk => ?_, fun hk => ?_⟩) (.inl ?_)
    · obtain ⟨a, b⟩ := kk_inj.mp hk
      rcases h with ⟨h1, h2⟩ | ⟨h1, h2, h3⟩
      · exact F.fwd e he _ h2 b a
      · exact absurd h1 (SM_sw (b ▸ F.sm e he))
    · obtain ⟨a, b⟩ := kk_inj.mp hk
      rcases h with ⟨h1, h2⟩ | ⟨h1, h2, h3⟩
      · exact absurd h1 (b ▸ SM_sw (F.sm e he))
      · refine F.bwd e he _ h3 ?_ a
        show e.2.1 = sw c
        rw [← b, sw_sw (SM_LTR (F.sm e he))]
    · rcases h with ⟨h1, h2⟩ | ⟨h1, h2, h3⟩
      · exact ⟨_, h2, .inl rfl⟩
      · exact ⟨_, h3, .inr (by show kk p (sw (sw c)) = _; rw [sw_sw h2])⟩
  unfold stO
  rw [v]
  simp
theorem fw_cl {kvs : List (List Key × V)} {ls : List Nat} {p0 N p c q : Nat} (M : Mv kvs N) (h0 : p0 < N) (hp : p ∈ (fw kvs ls p0 N).1) (hc : c ∈ ls) (hq : stO kvs p c = some q) : q ∈ (fw kvs ls p0 N).1 := by
  have W := (WI.range (ls := ls) M h0 N).1
  obtain ⟨i, hi⟩ := List.mem_iff_getElem?.mp hp
  have hl : i < (fw kvs ls p0 N).2.length := by rw [W.len]; exact (List.getElem?_eq_some_iff.mp hi).1
  obtain ⟨w1, w2, _⟩ := W.way i _ (List.getElem?_eq_getElem hl)
  refine fw_all M h0 (w := (fw kvs ls p0 N).2[i] ++ [c]) (fun x hx => ?_) ?_
  · rcases List.mem_append.mp hx with z | z
    · exact w2 x z
    · rw [List.mem_singleton.mp z]; exact hc
  · rw [wkO_snoc, w1, hi]
    exact hq
/-- each place but the first is found from one before it -/
theorem fw_tree {kvs : List (List Key × V)} {ls : List Nat} {p0 N k : Nat} (M : Mv kvs N) (hA : Asc ls) (h0 : p0 < N) (h1 : 1 ≤ k) (hk : k < (fw kvs ls p0 N).1.length) :
    ∃ t c, t < k ∧ stO kvs ((fw kvs ls p0 N).1.getD t 0) c = some ((fw kvs ls p0 N).1.getD k 0) := by
  have W := (WI.range (ls := ls) M h0 N).1
  have O := OI.range M hA h0 N
  obtain ⟨a1, a2, a3, a4⟩ := W.at hk
  rcases O.form _ (List.mem_of_getElem? a2) with e | ⟨t', c', u, _, hu, e⟩
  · exfalso
    have w := (W.way k _ a2).1
    rw [e, a1] at w
    have z : (fw kvs ls p0 N).1[k]? = some p0 := a1.trans w.symm
    obtain ⟨k0, e0⟩ := List.getElem?_eq_some_iff.mp W.zero
    obtain ⟨k1, e1⟩ := List.getElem?_eq_some_iff.mp z
    exact absurd (e0.trans e1.symm) (List.pairwise_iff_getElem.mp W.nd 0 k k0 k1 (by omega))
  · have lt' : t' < (fw kvs ls p0 N).2.length := (List.getElem?_eq_some_iff.mp hu).1
    have lt : t' < (fw kvs ls p0 N).1.length := by rw [← W.len]; exact lt'
    obtain ⟨b1, b2, b3, b4⟩ := W.at lt
    rw [hu] at b2
    have hu2 := Option.some.inj b2
    have w := (W.way k _ a2).1
    rw [e, wkO_snoc, (W.way t' u hu).1, b1, a1] at w
    refine ⟨t', c', ?_, w⟩
    rcases Nat.lt_trichotomy t' k with z | z | z
    · exact z
    · subst z
      rw [← hu2] at e
      have := congrArg List.length e
      simp at this
    · exfalso
      have hk2 : k < (fw kvs ls p0 N).2.length := by rw [W.len]; exact hk
      have pw := List.pairwise_iff_getElem.mp O.srt k t' hk2 lt' z
      have q1 : (fw kvs ls p0 N).2[k] = u ++ [c'] := by rw [List.getElem?_eq_getElem hk2] at a2; rw [Option.some.inj a2, e]
      have q2 : (fw kvs ls p0 N).2[t'] = u := by rw [List.getElem?_eq_getElem lt'] at hu; exact Option.some.inj hu
      rw [q1, q2] at pw
      rcases ltW_iff.mp pw with y | ⟨y, _⟩ <;> simp at y <;> omega
/-- letters of no move add nothing -/
theorem fw_more {kvs : List (List Key × V)} {ls r : List Nat} {p0 : Nat} (h : ∀ c ∈ r, ∀ p, stO kvs p c = none) : ∀ m, fw kvs (ls ++ r) p0 m = fw kvs ls p0 m
  | 0 => rfl
  | m + 1 => by
    have no : ∀ (r : List Nat) (s : Fd) (t : Nat), (∀ c ∈ r, ∀ p, stO kvs p c = none) → r.foldl (fwL kvs t) s = s := by
      intro r
      induction r with
      | nil => exact fun _ _ _ => rfl
      | cons c r ih =>
        intro s t h
        have e : fwL kvs t s c = s := by unfold fwL; rw [h c List.mem_cons_self]
        rw [List.foldl_cons, e]
        exact ih s t fun x hx => h x (List.mem_cons_of_mem _ hx)
    rw [fw_succ, fw_succ, fw_more h m]
    unfold fwT
    split
    · rw [List.foldl_append, no r _ _ h]
    · rfl
end DL

namespace DL
open PySem PySem.Spec PyProof.Rows L2 TK

/-! ### words walked along edges; trees -/
def Wlk (es : List Ed) : Nat → List Nat → Nat → Prop
  | p, [], q => p = q
  | p, c :: w, q => ∃ r, Stp es p c r ∧ Wlk es r w q
theorem Wlk.sub {es fs : List Ed} (h : ∀ e ∈ es, e ∈ fs) : ∀ {w : List Nat} {p q : Nat}, Wlk es p w q → Wlk fs p w q
  | [], _, _, k => k
  | c :: w, _, _, ⟨r, a, b⟩ => ⟨r, a.sub h, Wlk.sub h b⟩
theorem Wlk.map {es : List Ed} (f : Nat → Nat) : ∀ {w : List Nat} {p q : Nat}, Wlk es p w q → Wlk (es.map fun e => (f e.1, e.2.1, f e.2.2)) (f p) w (f q)
  | [], _, _, k => congrArg f k
  | c :: w, _, _, ⟨r, a, b⟩ => ⟨f r, a.map f, Wlk.map f b⟩
theorem Wlk.app {es : List Ed} : ∀ {u v : List Nat} {p q r : Nat}, Wlk es p u q → Wlk es q v r → Wlk es p (u ++ v) r
  | [], _, _, _, _, k, k2 => by cases k; exact k2
  | c :: u, _, _, _, _, ⟨x, a, b⟩, k2 => ⟨x, a, Wlk.app b k2⟩
theorem Wlk.wkO {es : List Ed} (F : Fld es) : ∀ {w : List Nat} {p q : Nat}, Wlk es p w q → wkO (mvs es) p w = some q
  | [], _, _, k => congrArg some k
  | c :: w, p, q, ⟨r, a, b⟩ => by
    show w.foldl _ ((some p).bind fun p => stO (mvs es) p c) = _
    rw [Option.bind_some, F.step a]
    exact Wlk.wkO F b
theorem wkO_wlk {es : List Ed} (hs : ∀ e ∈ es, e.2.1 ∈ SM) : ∀ {w : List Nat} {p q : Nat}, wkO (mvs es) p w = some q → Wlk es p w q
  | [], p, q, h => by
    have : some p = some q := h
    exact Option.some.inj this
  | c :: w, p, q, h => by
    have h : w.foldl (fun o c => o.bind fun p => stO (mvs es) p c) ((some p).bind fun p => stO (mvs es) p c) = some q := h
    rw [Option.bind_some] at h
    cases e : stO (mvs es) p c with
    | none =>
      rw [e] at h
      have no : ∀ w : List Nat, w.foldl (fun o c => o.bind fun p => stO (mvs es) p c) (none : Option Nat) = none := by
        intro w
        induction w with
        | nil => rfl
        | cons c w ih => exact ih
      rw [no] at h
      cases h
    | some r =>
      rw [e] at h
      exact ⟨r, stO_mem hs e, wkO_wlk hs h⟩
/-- a tree: the higher place of an edge is not the lower one, and tells the edge -/
structure Tr (es : List Ed) : Prop where
  lt : ∀ e ∈ es, min e.1 e.2.2 < max e.1 e.2.2
  inj : ∀ e ∈ es, ∀ f ∈ es, max e.1 e.2.2 = max f.1 f.2.2 → e = f
theorem Tr.up {es : List Ed} (T : Tr es) : ∀ {w : List Nat} {p c r q : Nat}, Stp es p c r → p < r → red (c :: w) → Wlk es r w q → r ≤ q
  | [], p, c, r, q, _, _, _, k => by cases k; exact Nat.le_refl _
  | d :: w, p, c, r, q, h1, hlt, hred, ⟨x, h2, k⟩ => by
    have hcd : c ≠ sw d := hred.1
    rcases Nat.lt_trichotomy r x with z | z | z
    · have := Tr.up T h2 z hred.2 k
      omega
    · exfalso
      rcases h2 with ⟨_, b⟩ | ⟨_, _, b⟩ <;> (have := T.lt _ b; dsimp only at this; omega)
    · exfalso
      have e1 : ∃ e ∈ es, max e.1 e.2.2 = r ∧ ((c ∈ SM ∧ e = (p, c, r)) ∨ (c ∈ LTR ∧ e = (r, sw c, p))) := by
        rcases h1 with ⟨a, b⟩ | ⟨a, a', b⟩
        · exact ⟨_, b, by show max p r = r; omega, .inl ⟨a, rfl⟩⟩
        · exact ⟨_, b, by show max r p = r; omega, .inr ⟨a', rfl⟩⟩
      have e2 : ∃ e ∈ es, max e.1 e.2.2 = r ∧ (e = (r, d, x) ∨ (d ∈ LTR ∧ e = (x, sw d, r))) := by
        rcases h2 with ⟨a, b⟩ | ⟨a, a', b⟩
        · exact ⟨_, b, by show max r x = r; omega, .inl rfl⟩
        · exact ⟨_, b, by show max x r = r; omega, .inr ⟨a', rfl⟩⟩
      obtain ⟨e, he, me, ce⟩ := e1
      obtain ⟨f, hf, mf, cf⟩ := e2
      have ef := T.inj e he f hf (me.trans mf.symm)
      subst ef
      rcases ce with ⟨_, rfl⟩ | ⟨hc, rfl⟩
      · rcases cf with z2 | ⟨_, z2⟩
        · have := congrArg Prod.fst z2
          dsimp only at this
          omega
        · have := congrArg (fun e : Ed => e.2.1) z2
          exact hcd this
      · rcases cf with z2 | ⟨_, z2⟩
        · have : sw c = d := congrArg (fun e : Ed => e.2.1) z2
          exact hcd (by rw [← this, sw_sw hc])
        · have := congrArg Prod.fst z2
          dsimp only at this
          omega
theorem Tr.none {es : List Ed} (T : Tr es) {w : List Nat} (hw : red w) (h0 : w ≠ []) : ¬ Wlk es 0 w 0 := fun k => by
  cases w with
  | nil => exact h0 rfl
  | cons c w =>
    obtain ⟨r, a, b⟩ := k
    have hr : 0 < r := by
      rcases Nat.eq_zero_or_pos r with z | z
      · exfalso
        subst z
        rcases a with ⟨_, y⟩ | ⟨_, _, y⟩ <;> (have := T.lt _ y; dsimp only at this; omega)
      · exact z
    have := T.up a hr hw b
    omega
theorem nd_perm : ∀ {as bs : List Nat}, as.Nodup → (∀ x ∈ as, x ∈ bs) → bs.length ≤ as.length → as.Perm bs
  | [], bs, _, _, h => by
    rw [List.length_eq_zero_iff.mp (Nat.le_zero.mp h)]
  | a :: as, bs, nd, sub, h => by
    obtain ⟨n1, n2⟩ := List.nodup_cons.mp nd
    have ha : a ∈ bs := sub a List.mem_cons_self
    have p := List.perm_cons_erase ha
    have len := List.length_erase_of_mem ha
    refine ((nd_perm (bs := bs.erase a) n2 (fun x hx => (List.mem_erase_of_ne (show x ≠ a from fun z => n1 (z ▸ hx))).mpr (sub x (List.mem_cons_of_mem _ hx))) ?_).cons a).trans p.symm
    rw [List.length_cons] at h
    omega
/-- V places, each but the first one the higher place of some edge that has a lower one: an edge at least for each; with no more, a tree -/
theorem tree_of {es : List Ed} {V : Nat} (nd : es.Nodup) (h : ∀ k, 1 ≤ k → k < V → ∃ e ∈ es, max e.1 e.2.2 = k ∧ min e.1 e.2.2 < k) : V ≤ es.length + 1 ∧ (V = es.length + 1 → Tr es) := by
  have sub : ∀ x ∈ (List.range (V - 1)).map (· + 1), x ∈ es.map fun e => max e.1 e.2.2 := fun x hx => by
    obtain ⟨j, hj, rfl⟩ := List.mem_map.mp hx
    have := List.mem_range.mp hj
    obtain ⟨e, he, m, _⟩ := h (j + 1) (by omega) (by omega)
    exact List.mem_map.mpr ⟨e, he, m⟩
  have ndr : ((List.range (V - 1)).map (· + 1)).Nodup := List.pairwise_map.mpr (List.Pairwise.imp (fun {a b} z y => z (Nat.succ.inj y)) List.nodup_range)
  have le := List.Nodup.length_le_of_subset ndr sub
  rw [List.length_map, List.length_range, List.length_map] at le
  refine ⟨by omega, fun hV => ?_⟩
  have pm : ((List.range (V - 1)).map (· + 1)).Perm (es.map fun e => max e.1 e.2.2) := nd_perm ndr sub (by rw [List.length_map, List.length_map, List.length_range]; omega)
  have ndm : (es.map fun e => max e.1 e.2.2).Nodup := pm.nodup_iff.mp ndr
  have inj : ∀ e ∈ es, ∀ f ∈ es, max e.1 e.2.2 = max f.1 f.2.2 → e = f := fun e he f hf z => by
    obtain ⟨i, hi, rfl⟩ := List.getElem_of_mem he
    obtain ⟨j, hj, rfl⟩ := List.getElem_of_mem hf
    have pw := List.pairwise_iff_getElem.mp ndm
    rcases Nat.lt_trichotomy i j with y | y | y
    · have := pw i j (by rw [List.length_map]; exact hi) (by rw [List.length_map]; exact hj) y
      rw [List.getElem_map, List.getElem_map] at this
      exact absurd z this
    · subst y; rfl
    · have := pw j i (by rw [List.length_map]; exact hj) (by rw [List.length_map]; exact hi) y
      rw [List.getElem_map, List.getElem_map] at this
      exact absurd z.symm this
  refine ⟨fun e he => ?_, inj⟩
  have hx := pm.mem_iff.mpr (List.mem_map.mpr ⟨e, he, rfl⟩)
  obtain ⟨j, hj, ej⟩ := List.mem_map.mp hx
  have := List.mem_range.mp hj
  obtain ⟨f, hf, m1, m2⟩ := h (j + 1) (by omega) (by omega)
  have := inj f hf e he (by rw [m1]; exact ej)
  subst this
  omega

/-! ### petals: each word goes round from 0 to its end, all points are joined -/
theorem ptS_sub (w : List Nat) : ∀ s : Ps, ∀ e ∈ s.1, e ∈ (w.foldl ptS s).1 := by
  induction w with
  | nil => exact fun s e h => h
  | cons c w ih => exact fun s e h => ih (ptS s c) e (List.mem_append_left _ h)
theorem edB_stp {es : List Ed} {p c q : Nat} (hc : c ∈ LTR) (h : edB p c q ∈ es) : Stp es p c q := by
  have hsw : ∀ c ∈ LTR, c ∉ SM → sw c ∈ SM := by decide
  unfold edB at h
  by_cases z : c ∈ SM
  · rw [if_pos z] at h
    exact .inl ⟨z, h⟩
  · rw [if_neg z] at h
    exact .inr ⟨hsw c hc z, hc, h⟩
theorem ptS_wlk : ∀ (w : List Nat) (s : Ps), (∀ c ∈ w, c ∈ LTR) → Wlk (w.foldl ptS s).1 s.2.1 w (w.foldl ptS s).2.1
  | [], _, _ => rfl
  | c :: w, s, h => ⟨s.2.2, edB_stp (h c List.mem_cons_self) (ptS_sub w (ptS s c) _ (List.mem_append_right _ List.mem_cons_self)), ptS_wlk w (ptS s c) fun x hx => h x (List.mem_cons_of_mem _ hx)⟩
theorem ptW_sub (vs : List (List Nat)) : ∀ s : List Ed × List Nat × Nat, (∀ e ∈ s.1, e ∈ (vs.foldl ptW s).1) ∧ ∀ x ∈ s.2.1, x ∈ (vs.foldl ptW s).2.1 := by
  induction vs with
  | nil => exact fun s => ⟨fun e h => h, fun e h => h⟩
  | cons v vs ih => exact fun s => ⟨fun e h => (ih (ptW s v)).1 e (ptS_sub v (s.1, 0, s.2.2) e h), fun x h => (ih (ptW s v)).2 x (List.mem_append_left _ h)⟩
theorem ptW_wlk : ∀ (vs : List (List Nat)) (s : List Ed × List Nat × Nat), (∀ v ∈ vs, ∀ c ∈ v, c ∈ LTR) → ∀ v ∈ vs, ∃ x ∈ (vs.foldl ptW s).2.1, Wlk (vs.foldl ptW s).1 0 v x
  | [], _, _, v, hv => nomatch hv
  | u :: vs, s, h, v, hv => by
    rcases List.mem_cons.mp hv with rfl | hv
    · exact ⟨_, (ptW_sub vs (ptW s v)).2 _ (List.mem_append_right _ List.mem_cons_self), (ptS_wlk v (s.1, 0, s.2.2) (h v List.mem_cons_self)).sub (ptW_sub vs (ptW s v)).1⟩
    · exact ptW_wlk vs (ptW s u) (fun x hx => h x (List.mem_cons_of_mem _ hx)) v hv
theorem ptS_all {R : Nat → Prop} : ∀ (w : List Nat) (s : Ps), (∀ p, p < s.2.2 → R p) → s.2.1 < s.2.2 → (∀ e ∈ (w.foldl ptS s).1, R e.1 ↔ R e.2.2) → ∀ p, p < (w.foldl ptS s).2.2 → R p
  | [], _, h, _, _ => h
  | c :: w, s, h, hl, hR => by
    refine ptS_all w (ptS s c) (fun p hp => ?_) (Nat.lt_succ_self _) hR
    have hp : p < s.2.2 + 1 := hp
    rcases Nat.lt_succ_iff_lt_or_eq.mp hp with z | z
    · exact h p z
    · subst z
      have he := hR _ (ptS_sub w (ptS s c) (edB s.2.1 c s.2.2) (List.mem_append_right _ List.mem_cons_self))
      have h0 := h _ hl
      unfold edB at he
      split at he
      · exact he.mp h0
      · exact he.mpr h0
theorem ptW_all {R : Nat → Prop} : ∀ (vs : List (List Nat)) (s : List Ed × List Nat × Nat), (∀ p, p < s.2.2 → R p) → 0 < s.2.2 → (∀ e ∈ (vs.foldl ptW s).1, R e.1 ↔ R e.2.2) → ∀ p, p < (vs.foldl ptW s).2.2 → R p
  | [], _, h, _, _ => h
  | v :: vs, s, h, h0, hR => by
    have hR1 : ∀ e ∈ (v.foldl ptS (s.1, 0, s.2.2)).1, R e.1 ↔ R e.2.2 := fun e he => hR e ((ptW_sub vs (ptW s v)).1 e he)
    have all := ptS_all v (s.1, 0, s.2.2) h h0 hR1
    have grow : ∀ (w : List Nat) (s : Ps), s.2.2 ≤ (w.foldl ptS s).2.2 := by
      intro w
      induction w with
      | nil => exact fun _ => Nat.le_refl _
      | cons c w ih => exact fun s => Nat.le_trans (Nat.le_succ _) (ih (ptS s c))
    exact ptW_all vs (ptW s v) all (Nat.lt_of_lt_of_le h0 (grow v (s.1, 0, s.2.2))) hR
theorem ptl_all {R : Nat → Prop} {ws : List (List Nat)} (h0 : R 0) (hR : ∀ e ∈ (ptl ws).1, R e.1 ↔ R e.2.2) : ∀ p, p < (ptl ws).2.2 → R p :=
  ptW_all (ws.map fold) ([], [], 1) (fun p hp => by rw [show p = 0 from Nat.lt_one_iff.mp hp]; exact h0) Nat.one_pos hR
theorem ptl_wlk {ws : List (List Nat)} (h : ∀ w ∈ ws, Lts w) : ∀ w ∈ ws, ∃ x ∈ (ptl ws).2.1, Wlk (ptl ws).1 0 (fold w) x := fun w hw =>
  ptW_wlk (ws.map fold) ([], [], 1) (fun v hv => by obtain ⟨u, hu, rfl⟩ := List.mem_map.mp hv; exact fold_lts (h u hu)) _ (List.mem_map.mpr ⟨w, hw, rfl⟩)
theorem ptW_count : ∀ (vs : List (List Nat)) (s : List Ed × List Nat × Nat), (vs.foldl ptW s).1.length = s.1.length + (vs.map List.length).sum
  | [], _ => by simp
  | v :: vs, s => by
    rw [List.foldl_cons, ptW_count vs, show (ptW s v).1.length = s.1.length + v.length from ptS_len v (s.1, 0, s.2.2), List.map_cons, List.sum_cons]
    omega
theorem ptl_count (ws : List (List Nat)) : (ptl ws).1.length = (ws.map fun w => (fold w).length).sum := by
  have := ptW_count (ws.map fold) ([], [], 1)
  rw [List.map_map, show (List.length ∘ fold) = fun w => (fold w).length from rfl] at this
  simpa [ptl] using this

/-! ### the folded graph of a family -/
def fE (l : List Nat) (es : List Ed) : List Ed := es.map fun e => (l.getD e.1 0, e.2.1, l.getD e.2.2 0)
/-- what is known of the folded edges, the places found along them, the numbers -/
structure GrOk (ws : List (List Nat)) (l : List Nat) (ls : List Nat) : Prop where
  fld : Fld (fE l (ptl ws).1)
  bd : ∀ e ∈ fE l (ptl ws).1, e.1 < (ptl ws).2.2 ∧ e.2.2 < (ptl ws).2.2
  all : ∀ e ∈ fE l (ptl ws).1, e.1 ∈ (fw (mvs (fE l (ptl ws).1)) ls 0 (ptl ws).2.2).1 ∧ e.2.2 ∈ (fw (mvs (fE l (ptl ws).1)) ls 0 (ptl ws).2.2).1
theorem GrOk.of {ws : List (List Nat)} {l ls : List Nat} (hw : ∀ w ∈ ws, Lts w) (L : Lsq (ptl ws).1 (ptl ws).2.1 (ptl ws).2.2 l) (hl : ∀ e ∈ (ptl ws).1, e.2.1 ∈ ls ∧ sw e.2.1 ∈ ls) : GrOk ws l ls := by
  have P := ptl_ok hw
  have hlen := L.lp.len
  have bd : ∀ e ∈ fE l (ptl ws).1, e.1 < (ptl ws).2.2 ∧ e.2.2 < (ptl ws).2.2 := fun e he => by
    obtain ⟨f, hf, rfl⟩ := List.mem_map.mp he
    obtain ⟨a, b, _⟩ := P.eb f hf
    exact ⟨Nat.lt_of_le_of_lt (L.lp.le _ a) a, Nat.lt_of_le_of_lt (L.lp.le _ b) b⟩
  have sm : ∀ e ∈ fE l (ptl ws).1, e.2.1 ∈ SM := fun e he => by
    obtain ⟨f, hf, rfl⟩ := List.mem_map.mp he
    exact (P.eb f hf).2.2
  have F : Fld (fE l (ptl ws).1) := ⟨sm, fun e he f hf h1 h2 => by
    obtain ⟨e', he', rfl⟩ := List.mem_map.mp he
    obtain ⟨f', hf', rfl⟩ := List.mem_map.mp hf
    exact L.clo.fwd e' he' f' hf' h1 h2, fun e he f hf h1 h2 => by
    obtain ⟨e', he', rfl⟩ := List.mem_map.mp he
    obtain ⟨f', hf', rfl⟩ := List.mem_map.mp hf
    exact L.clo.bwd e' he' f' hf' h1 h2⟩
  have h0 : 0 < (ptl ws).2.2 := by have := P.len; omega
  have M := mvs_mv bd
  have l0 : l.getD 0 0 = 0 := Nat.le_zero.mp (L.lp.le 0 h0)
  have found : ∀ p, p < (ptl ws).2.2 → l.getD p 0 ∈ (fw (mvs (fE l (ptl ws).1)) ls 0 (ptl ws).2.2).1 := by
    refine ptl_all ?_ fun e he => ?_
    · rw [l0]
      exact List.mem_of_getElem? (WI.range (ls := ls) M h0 (ptl ws).2.2).1.zero
    · obtain ⟨s1, s2⟩ := Stp.of (es := fE l (ptl ws).1) (e := (l.getD e.1 0, e.2.1, l.getD e.2.2 0)) (P.eb e he).2.2 (List.mem_map.mpr ⟨e, he, rfl⟩)
      obtain ⟨c1, c2⟩ := hl e he
      exact ⟨fun z => fw_cl M h0 z c1 (F.step s1), fun z => fw_cl M h0 z c2 (F.step s2)⟩
  refine ⟨F, bd, fun e he => ?_⟩
  obtain ⟨f, hf, rfl⟩ := List.mem_map.mp he
  obtain ⟨a, b, _⟩ := P.eb f hf
  exact ⟨found _ a, found _ b⟩
def famG (ws : List (List Nat)) (l ls : List Nat) : Gr := numG (fE l (ptl ws).1) ls 0 (ptl ws).2.2
/-- the bounds that the document tells -/
theorem GrOk.bounds {ws : List (List Nat)} {l ls : List Nat} (hw : ∀ w ∈ ws, Lts w) (hA : Asc ls) (L : Lsq (ptl ws).1 (ptl ws).2.1 (ptl ws).2.2 l) (G : GrOk ws l ls) :
    (famG ws l ls).1 ≤ (ws.map fun w => (fold w).length).sum + 1 ∧ (famG ws l ls).2.length ≤ (ws.map fun w => (fold w).length).sum ∧ (famG ws l ls).1 ≤ (famG ws l ls).2.length + 1 ∧
      ((famG ws l ls).1 = (famG ws l ls).2.length + 1 ↔ ∀ w ∈ ws, fold w = []) := by
  have P := ptl_ok hw
  have P1 := P.len
  have h0 : 0 < (ptl ws).2.2 := by omega
  have M := mvs_mv G.bd
  have W := (WI.range (ls := ls) M h0 (ptl ws).2.2).1
  have cnt := ptl_count ws
  have lenE : (fE l (ptl ws).1).length = (ptl ws).1.length := List.length_map _
  have e2 : (famG ws l ls).2.length = (dd ((fE l (ptl ws).1).map (nmE (fw (mvs (fE l (ptl ws).1)) ls 0 (ptl ws).2.2).1))).length := (srtE_perm _).length_eq
  have e3 := dd_len ((fE l (ptl ws).1).map (nmE (fw (mvs (fE l (ptl ws).1)) ls 0 (ptl ws).2.2).1))
  rw [List.length_map, lenE] at e3
  have e1 : (famG ws l ls).1 = (fw (mvs (fE l (ptl ws).1)) ls 0 (ptl ws).2.2).1.length := rfl
  have l1 := W.len_le
  have ge1 : 1 ≤ (fw (mvs (fE l (ptl ws).1)) ls 0 (ptl ws).2.2).1.length := by have := (List.getElem?_eq_some_iff.mp W.zero).1; omega
  have nmap : ∀ ps : List Nat, (fE l (ptl ws).1).map (nmE ps) = (ptl ws).1.map fun e => (ps.idxOf (l.getD e.1 0), e.2.1, ps.idxOf (l.getD e.2.2 0)) := fun ps => by
    unfold fE
    rw [List.map_map]
    rfl
  have T := tree_of (es := dd ((fE l (ptl ws).1).map (nmE (fw (mvs (fE l (ptl ws).1)) ls 0 (ptl ws).2.2).1))) (V := (fw (mvs (fE l (ptl ws).1)) ls 0 (ptl ws).2.2).1.length) (dd_nd _) fun k hk1 hk2 => by
    obtain ⟨t, c, ht, hs⟩ := fw_tree M hA h0 hk1 hk2
    have ix : ∀ i, i < (fw (mvs (fE l (ptl ws).1)) ls 0 (ptl ws).2.2).1.length → (fw (mvs (fE l (ptl ws).1)) ls 0 (ptl ws).2.2).1.idxOf ((fw (mvs (fE l (ptl ws).1)) ls 0 (ptl ws).2.2).1.getD i 0) = i := fun i hi => by
      rw [List.getD_eq_getElem?_getD, List.getElem?_eq_getElem hi, Option.getD_some]
      exact List.Nodup.idxOf_getElem W.nd i hi
    rcases stO_mem G.fld.sm hs with ⟨_, hm⟩ | ⟨_, _, hm⟩
    · exact ⟨(t, c, k), (dd_mem _ _).mpr (List.mem_map.mpr ⟨_, hm, by unfold nmE; dsimp only; rw [ix t (by omega), ix k hk2]⟩), by show max t k = k; omega, by show min t k < k; omega⟩
    · exact ⟨(k, sw c, t), (dd_mem _ _).mpr (List.mem_map.mpr ⟨_, hm, by unfold nmE; dsimp only; rw [ix t (by omega), ix k hk2]⟩), by show max k t = k; omega, by show min k t < k; omega⟩
  rw [e1, e2]
  refine ⟨by omega, by omega, T.1, fun hV w hwm => ?_, fun hall => ?_⟩
  · have tr := T.2 hV
    by_cases hne : fold w = []
    · exact hne
    · exfalso
      obtain ⟨x, hx, wk⟩ := ptl_wlk hw w hwm
      have lx : l.getD x 0 = 0 := (L.clo.ends x hx).trans (Nat.le_zero.mp (L.lp.le 0 h0))
      have l0 : l.getD 0 0 = 0 := Nat.le_zero.mp (L.lp.le 0 h0)
      have wk2 := wk.map fun p => (fw (mvs (fE l (ptl ws).1)) ls 0 (ptl ws).2.2).1.idxOf (l.getD p 0)
      rw [lx, l0] at wk2
      have i0 : (fw (mvs (fE l (ptl ws).1)) ls 0 (ptl ws).2.2).1.idxOf 0 = 0 := by
        obtain ⟨z1, z2⟩ := List.getElem?_eq_some_iff.mp W.zero
        have := List.Nodup.idxOf_getElem W.nd 0 z1
        rwa [z2] at this
      rw [i0] at wk2
      refine tr.none (fold_red (hw w hwm)) hne (wk2.sub fun e he => ?_)
      rw [dd_mem, nmap]
      exact he
  · have z : (ws.map fun w => (fold w).length).sum = 0 := by
      have : ∀ vs : List (List Nat), (∀ w ∈ vs, fold w = []) → (vs.map fun w => (fold w).length).sum = 0 := by
        intro vs
        induction vs with
        | nil => exact fun _ => rfl
        | cons v vs ih =>
          intro h
          rw [List.map_cons, List.sum_cons, h v List.mem_cons_self, ih fun x hx => h x (List.mem_cons_of_mem _ hx)]
          rfl
      exact this ws hall
    omega
end DL

namespace DL
open PySem PySem.Spec PyProof.Rows L2 TK

theorem only_three {K : PySem.W.Frag} {i j k : Nat} {is : List Nat} (hi : i ∈ is) (hj : j ∈ is) (hk : k ∈ is) : Only (gTup K 3 (gCons (gName i) (gCons (gName j) (gCons (gName k) gNil)))) is := fun x σ H Q ⟨a, xs, e, hs, hl, v, r, e2, v2, r2, e3, v3, r3, e4, e5, q⟩ =>
  ⟨a, xs, e, hs, hl, v, r, e2, v2, r2, e3, v3, r3, e4, e5, by rw [wipe_set hk, wipe_set hj, wipe_set hi], q⟩
section
variable {env : Nv} {post : D → Prop} {ty : TE} {K : PySem.W.Frag}
/-- d.get(k, None) -/
theorem de_dget2N {i : Nat} {kvs : List (List Key × V)} (hi : dicT env i kvs) (h : De ty env fun y => ∃ l ks d, y = .tup l ∧ toKeys l = some ks ∧ toV d = some ((valV kvs ks).getD .non) ∧ post d) : De (tDGet2 (tVar i) ty (tC .non)) env post := fun B M σ H S Q q => by
  obtain ⟨p, h1, h2, h3⟩ := S.dicT hi
  refine ⟨.ref p, h1, p, rfl, .inr ⟨kvs, .inl h2⟩, h B M σ H S _ fun v H1 d ⟨l, ks, d', e, hk, hd, hp⟩ S1 e1 i1 => ?_⟩
  subst e
  obtain ⟨b, vs, rfl, hl, hs⟩ := is_tup i1
  obtain rfl := is_keys hs hk
  exact ⟨valV kvs ks, .t (e1.1 p _ h3 h2) hl, q _ H1 _ hp S1 e1 (of_flat hd)⟩
theorem dcl_sum {ns : List Int} (h : post (.int ns.sum)) : Dcl (rSum K) [.lst (ns.map D.int)] post := fun st M H vs hst hM trk iv Q q => by
  cases iv with
  | cons a r =>
    cases r
    obtain ⟨p, ws, rfl, _, hl, hs⟩ := is_lst a
    have := iss_ints hs
    subst this
    exact ⟨p, ns, rfl, .of hl, q _ H _ h (Fx.refl _ _) (.int _)⟩
end
theorem fitE (e : Ed) : fitK (fun i => i == 1) 0 (edK e) = true ∧ edK e ≠ [] := ⟨rfl, by unfold edK; simp⟩
theorem wd_fst {s : Fd} (h : s.2.length = s.1.length) : (wd s).map (·.1) = s.1.map fun p : Nat => (.inl (p : Int) : Key) := by
  unfold wd
  rw [List.map_map]
  have : ∀ (ps : List Nat) (ws : List (List Nat)), ws.length = ps.length → (ps.zip ws).map ((fun x : Key × V => x.1) ∘ fun x : Nat × List Nat => ((.inl (x.1 : Int) : Key), V.str ⟨x.2.toArray⟩)) = ps.map fun p : Nat => (.inl (p : Int) : Key) := by
    intro ps
    induction ps with
    | nil => intro ws _; simp
    | cons p ps ih =>
      intro ws hw
      cases ws with
      | nil => simp at hw
      | cons w ws =>
        rw [List.zip_cons_cons, List.map_cons, List.map_cons, ih ws (by simpa using hw)]
        rfl
  exact this _ _ h
theorem dd_take {es : List Ed} {i : Nat} {e : Ed} (f : Ed → Ed) (h : es[i]? = some e) : dd ((es.take (i + 1)).map f) = ddS (dd ((es.take i).map f)) (f e) := by
  unfold dd
  rw [List.take_add_one, h, List.map_append, List.foldl_append]
  rfl
/-- letters of petals -/
theorem psh_in {ls : List Nat} {k : List Nat} {c : Nat} (hk : ∀ x ∈ k, x ∈ ls) (hc : c ∈ ls) : ∀ x ∈ psh k c, x ∈ ls := by
  cases k with
  | nil => intro x hx; rw [List.mem_singleton.mp hx]; exact hc
  | cons y r =>
    rw [psh_cons]
    split
    · exact fun x hx => hk x (List.mem_cons_of_mem _ hx)
    · exact fun x hx => (List.mem_cons.mp hx).elim (fun z => z ▸ hc) (hk x)
theorem fold_in {ls w : List Nat} (hw : ∀ c ∈ w, c ∈ ls) : ∀ c ∈ fold w, c ∈ ls := by
  have go : ∀ (w k : List Nat), (∀ c ∈ w, c ∈ ls) → (∀ c ∈ k, c ∈ ls) → ∀ c ∈ w.foldl psh k, c ∈ ls := by
    intro w
    induction w with
    | nil => exact fun _ _ h => h
    | cons c w ih => exact fun k h1 h2 => ih _ (fun x hx => h1 x (List.mem_cons_of_mem _ hx)) (psh_in h2 (h1 c List.mem_cons_self))
  exact fun c hc => go w [] hw (fun _ z => nomatch z) c (List.mem_reverse.mp hc)
theorem ptl_in {ls : List Nat} {ws : List (List Nat)} (hsw : ∀ c ∈ ls, sw c ∈ ls) (hlt : ∀ c ∈ ls, c ∈ LTR) (hw : ∀ w ∈ ws, ∀ c ∈ w, c ∈ ls) : ∀ e ∈ (ptl ws).1, e.2.1 ∈ ls ∧ sw e.2.1 ∈ ls := by
  have oneS : ∀ (w : List Nat) (s : Ps), (∀ c ∈ w, c ∈ ls) → (∀ e ∈ s.1, e.2.1 ∈ ls) → ∀ e ∈ (w.foldl ptS s).1, e.2.1 ∈ ls := by
    intro w
    induction w with
    | nil => exact fun _ _ h => h
    | cons c w ih =>
      intro s hc hs
      refine ih (ptS s c) (fun x hx => hc x (List.mem_cons_of_mem _ hx)) fun e he => ?_
      rcases List.mem_append.mp he with z | z
      · exact hs e z
      · rw [List.mem_singleton.mp z]
        unfold edB
        split
        · exact hc c List.mem_cons_self
        · exact hsw c (hc c List.mem_cons_self)
  have allW : ∀ (vs : List (List Nat)) (s : List Ed × List Nat × Nat), (∀ v ∈ vs, ∀ c ∈ v, c ∈ ls) → (∀ e ∈ s.1, e.2.1 ∈ ls) → ∀ e ∈ (vs.foldl ptW s).1, e.2.1 ∈ ls := by
    intro vs
    induction vs with
    | nil => exact fun _ _ h => h
    | cons v vs ih => exact fun s hv hs => ih (ptW s v) (fun x hx => hv x (List.mem_cons_of_mem _ hx)) (oneS v (s.1, 0, s.2.2) (hv v List.mem_cons_self) hs)
  intro e he
  have := allW (ws.map fold) ([], [], 1) (fun v hv => by obtain ⟨u, hu, rfl⟩ := List.mem_map.mp hv; exact fold_in (hw u hu)) (fun _ z => nomatch z) e he
  exact ⟨this, hsw _ this⟩
/-- the letters of a higher rank add nothing -/
theorem numG_more {es : List Ed} {ls r : List Nat} {p0 N : Nat} (hs : ∀ e ∈ es, e.2.1 ∈ SM) (hl : ∀ e ∈ es, e.2.1 ∈ ls ∧ sw e.2.1 ∈ ls) (hr : ∀ c ∈ r, c ∉ ls) : numG es (ls ++ r) p0 N = numG es ls p0 N := by
  have : fw (mvs es) (ls ++ r) p0 N = fw (mvs es) ls p0 N := fw_more (fun c hc p => by
    cases e : stO (mvs es) p c with
    | none => rfl
    | some q =>
      exfalso
      rcases stO_mem hs e with ⟨_, z⟩ | ⟨_, b, z⟩
      · exact hr c hc (hl _ z).1
      · have := (hl _ z).2
        dsimp only at this
        rw [sw_sw b] at this
        exact hr c hc this) N
  unfold numG
  rw [this]
theorem fE_at {l : List Nat} {es : List Ed} {i : Nat} {e : Ed} (h : es[i]? = some e) : (fE l (es.take i)).map edD ++ [edD (l.getD e.1 0, e.2.1, l.getD e.2.2 0)] = (fE l (es.take (i + 1))).map edD := by
  unfold fE
  rw [List.take_add_one, h, List.map_append, List.map_append]
  rfl
theorem fE_len (l : List Nat) (es : List Ed) : (fE l es).length = es.length := List.length_map _
/-! ### c.upper() -/
def rUpper : V → List V → Hp → VK → Prop := fun x xs H Q => ∃ a : Str, x = .str a ∧ xs = [] ∧ a.length ≤ 5592405 ∧ Q (.str (Txt.upper a)) H
theorem md_upper {X : Cx} : MtR X "str.upper" rUpper := mt_upper
theorem dmt_upperS {K : PySem.W.Frag} {post : D → Prop} {c : Nat} (hc : c ∈ SM) (h : post (.str [sw c])) : Dmt K "str" rUpper (.str [c]) [] post := fun st M H v vs hst hM trk iv ivs Q q => by
  have up : Txt.upper ⟨[c].toArray⟩ = ⟨[sw c].toArray⟩ := by
    have e : ∀ c ∈ SM, Txt.upper ⟨[c].toArray⟩ = ⟨[sw c].toArray⟩ := by decide +kernel
    exact e c hc
  cases is_str iv
  cases ivs
  refine ⟨_, rfl, rfl, by rw [len_of]; exact (by decide : 1 ≤ 5592405), ?_⟩
  rw [up]
  exact q _ H _ h (Fx.refl _ _) (.str _)
/-! ### [.. for a, b, .. in ..] -/
section
variable {env : Nv}
theorem den_lcG {wi : TI} {g : TG} {is : List Nat} {tt : TT} {te : TE} {postN : Ow → Prop} (hg : Only g is) (h : Di wi env fun ds => ds.length ≤ 1000000 ∧ ∃ Iv : Nat → List D → Prop, Iv 0 [] ∧
      (∀ i d acc, ds[i]? = some d → acc.length ≤ i → Iv i acc → Dg g d (wipeE env is) fun e2 => Dt tt e2 fun b => if b = true then De te e2 fun y => Iv (i + 1) (acc ++ [y]) else Iv (i + 1) acc) ∧
      ∀ acc, Iv ds.length acc → postN (.lst acc)) : DeN (tLc wi g tt te is) env postN := fun B M σ H S Q q => by
  refine h B M σ H S _ fun J H1 hv ds ⟨hz, Iv, h0, hs, hd⟩ S1 e1 hh T c hn => ?_
  have ne : c ≠ B.st := S1.nst hn
  refine ⟨fun n k Hx => k = ds.length - n ∧ n ≤ ds.length ∧ ∃ acc accv, acc.length ≤ n ∧ Iv n acc ∧ Fx B.st H1 Hx ∧ Hx c = some (.lst accv) ∧ Iss B.st (c :: M) Hx accv acc, ⟨_, rfl, Nat.zero_le _, [], [], Nat.le_refl _, h0, Fx.new hn, upd_same, .nil⟩, ?_⟩
  rintro n k Hx ⟨rfl, le, acc, accv, al, iv, fx, at1, ia⟩
  have S2 : Sr { B with hid := hv ++ B.hid } (c :: M) (wipe σ is) Hx (wipeE env is) := ((S1.hide hh).newIn' (B := { B with hid := hv ++ B.hid }) hn fx at1).wipes is
  obtain ⟨t1, t2, t3⟩ := T.run _ Hx S2.stm S2.stM S2.hv
  by_cases lt : n < ds.length
  · refine .inr ⟨t1 n lt, fun Hy => ∃ acc accv, acc.length ≤ n + 1 ∧ Iv (n + 1) acc ∧ Fx B.st H1 Hy ∧ Hy c = some (.lst accv) ∧ Iss B.st (c :: M) Hy accv acc, fun Hy z => ⟨_, by omega, rfl, lt, z⟩, fun x H3 hy => ?_⟩
    obtain ⟨hH, ix⟩ := t3 n _ x H3 (List.getElem?_eq_getElem lt) hy
    have e3 : Fx B.st Hx H3 := by
      rcases hH with z | ⟨T, o, hT, z⟩
      · rw [z]; exact Fx.refl _ _
      · rw [z]; exact Fx.new hT
    have back : wipe (wipe σ is) is = wipe σ is := wipe_wipe fun _ z => z
    have go := hg x (wipe σ is) H3
    rw [back] at go
    refine go _ (hs n _ acc (List.getElem?_eq_getElem lt) al iv _ _ _ H3 _ (S2.fx e3) ix _ fun σ4 env4 h4 S4 => h4 _ _ _ H3 S4 _ fun b H4 hb S5 e4 => ?_)
    have f4 : Fx B.st H1 H4 := (fx.trans e3).trans e4
    have a4 : Iss B.st (c :: M) H4 accv acc := S2.iss (e3.trans e4) ia
    have D4 : H4 c = some (.lst accv) := e4.1 _ _ ne (e3.1 _ _ ne at1)
    cases b with
    | false => exact ⟨acc, accv, by omega, hb, f4, D4, a4⟩
    | true =>
      refine hb _ _ _ H4 S5 _ fun y H5 d5 h5 S6 e5 i5 => ?_
      have a5 : Iss B.st (c :: M) H5 accv acc := S5.iss e5 a4
      have D5 : H5 c = some (.lst accv) := e5.1 _ _ ne D4
      have room : accv.length < sizeLine := Nat.lt_of_le_of_lt (by rw [a5.length]; exact al) (Nat.lt_of_lt_of_le lt (Nat.le_trans hz (by decide)))
      exact ⟨accv, D5, room, acc ++ [d5], accv ++ [y], by rw [List.length_append, List.length_singleton]; omega, h5, (f4.trans e5).mut hn ne, upd_same, (a5.append (.cons i5 .nil)).upd List.mem_cons_self fun vs z => by rw [D5] at z; cases z⟩
  · obtain rfl : n = ds.length := by omega
    exact .inl ⟨t2 _ (Nat.le_refl _), q c Hx (.lst accv) (.lst acc) (hd acc iv) (S1.newIn' hn fx at1) (e1.trans fx) at1 (.lst ia) (fresh_back e1 ne hn)⟩
end
theorem nbD_no {ps : List Nat} {p : Nat} (h : p ∉ ps) : valV (nbD ps) (.inl (p : Int)) = none := by
  have go : ∀ (ps : List Nat) (f : Nat → V), p ∉ ps → valV (ps.mapIdx fun (i x : Nat) => ((.inl (x : Int) : Key), f i)) (.inl (p : Int)) = none := by
    intro ps
    induction ps with
    | nil => exact fun _ _ => rfl
    | cons q ps ih =>
      intro f h
      rw [List.mapIdx_cons, valV_neg (by
        show ¬ (Sum.inl (q : Int) : Key) = .inl (p : Int)
        intro z
        injection z with z
        exact h (by rw [show p = q by omega]; exact List.mem_cons_self))]
      exact ih (fun i => f (i + 1)) fun z => h (List.mem_cons_of_mem _ z)
  exact go ps (fun i => .int (i : Int)) h
theorem plD_eds {l : List Ed} (h : ∀ e ∈ l, e.2.1 ∈ LTR) : plD 2 (.lst (l.map edD)) = true := by
  rw [plD, plDs_all]
  simp only [Nat.add_one_sub_one, Bool.and_eq_true, List.all_eq_true]
  refine ⟨by decide, fun d hd => ?_⟩
  obtain ⟨e, he, rfl⟩ := List.mem_map.mp hd
  exact plD_ed (h e he)
theorem any_ed (e : Ed) : ∀ l : List Ed, ((pyDs (l.map edD)).any fun z => PyData.eqv z (pyD (edD e))) = decide (e ∈ l)
  | [] => by simp [pyDs]
  | f :: l => by
    rw [List.map_cons, pyDs, List.any_cons, any_ed e l, eqv_ed]
    by_cases h : f = e
    · subst h; simp
    · by_cases h2 : e ∈ l
      · simp [h2]
      · simp [h, h2, Ne.symm h]
theorem plD_more {e : Ed} (h : e.2.1 ∈ LTR) : plD 2 (edD e) = true := by
  obtain ⟨a, b, c⟩ := e
  have lt : ∀ c ∈ LTR, c < 0x110000 := by decide
  have hb : decide (b < 0x110000) = true := decide_eq_true (lt b h)
  simp [edD, sign, plD, plDs, hb]
theorem rowI_lenI (l : List Nat) : ((rowI l).map D.int).length = l.length := rowI_len l
theorem wiUp {kvs : List (List Key × V)} {ls : List Nat} {p0 N : Nat} (M : Mv kvs N) (h0 : p0 < N) (t i : Nat) (ht : t < (fw kvs ls p0 t).1.length) : WI kvs ls p0 N ((ls.take i).foldl (fwL kvs t) (fw kvs ls p0 t)) ∧ t < ((ls.take i).foldl (fwL kvs t) (fw kvs ls p0 t)).1.length := by
  obtain ⟨a, b, _⟩ := (WI.range M h0 t).1.stepLs M (ls.take i) ht fun _ z => List.mem_of_mem_take z
  exact ⟨a, Nat.lt_of_lt_of_le ht b.length_le⟩
/-! ### where a word leads, or nothing -/
def optD : Option Nat → D
  | some p => .int (p : Int)
  | none => .non
theorem wkO_app (kvs : List (List Key × V)) (p : Nat) (u v : List Nat) : wkO kvs p (u ++ v) = (wkO kvs p u).bind fun q => wkO kvs q v := by
  have no : ∀ w : List Nat, w.foldl (fun o c => o.bind fun p => stO kvs p c) (none : Option Nat) = none := by
    intro w
    induction w with
    | nil => rfl
    | cons c w ih => exact ih
  unfold wkO
  rw [List.foldl_append]
  cases e : u.foldl (fun o c => o.bind fun p => stO kvs p c) (some p) with
  | none => exact no v
  | some q => rfl
theorem wkO_lt {kvs : List (List Key × V)} {n : Nat} (M : Mv kvs n) {p q : Nat} (hp : p < n) {w : List Nat} (h : wkO kvs p w = some q) : q < n := by
  revert q
  refine snoc_ind (P := fun w => ∀ {q : Nat}, wkO kvs p w = some q → q < n) ?_ ?_ w
  · intro q h
    have : some p = some q := h
    rw [← Option.some.inj this]
    exact hp
  · intro u c _ q h
    rw [wkO_snoc] at h
    obtain ⟨r, _, hr⟩ := Option.bind_eq_some_iff.mp h
    exact (stO_lt M hr).1
theorem pe_bmZ {X : Cx} {K : PySem.W.Frag} {e : Expr} {T : String} {r : V → List V → Hp → VK → Prop} {to : TE} (hK : X.K = K) (h : PE X e (tBM0 X.K T r to)) : PE X e (tBM0 K T r to) := hK ▸ h
end DL

namespace DL
open PySem PySem.Spec PyProof.Rows L2 TK

/-! ### walks in folded graphs -/
theorem Fld.det {es : List Ed} (F : Fld es) {p c q r : Nat} (h : Stp es p c q) (k : Stp es p c r) : q = r := by
  have a := F.step h
  rw [F.step k] at a
  exact (Option.some.inj a).symm
theorem Wlk.det {es : List Ed} (F : Fld es) : ∀ {w : List Nat} {p q r : Nat}, Wlk es p w q → Wlk es p w r → q = r
  | [], _, _, _, h, k => h.symm.trans k
  | c :: w, _, _, _, ⟨x, a, b⟩, ⟨y, a2, b2⟩ => by
    obtain rfl := F.det a a2
    exact Wlk.det F b b2
theorem Wlk.split {es : List Ed} : ∀ {u v : List Nat} {p q : Nat}, Wlk es p (u ++ v) q → ∃ m, Wlk es p u m ∧ Wlk es m v q
  | [], v, p, q, h => ⟨p, rfl, h⟩
  | c :: u, v, p, q, ⟨x, a, b⟩ => by
    obtain ⟨m, h1, h2⟩ := Wlk.split b
    exact ⟨m, ⟨x, a, h1⟩, h2⟩
theorem Wlk.lts {es : List Ed} : ∀ {w : List Nat} {p q : Nat}, Wlk es p w q → Lts w
  | [], _, _, _ => fun _ z => nomatch z
  | c :: w, _, _, ⟨x, a, b⟩ => fun d hd => (List.mem_cons.mp hd).elim (fun z => z ▸ a.lt) fun z => Wlk.lts b d z
theorem Wlk.psh {es : List Ed} (F : Fld es) : ∀ (w : List Nat) {k : List Nat} {p x y : Nat}, Wlk es p k.reverse x → Wlk es x w y → Wlk es p (w.foldl psh k).reverse y
  | [], k, p, x, y, h, z => by cases z; exact h
  | c :: w, k, p, x, y, h, ⟨z, a, b⟩ => by
    refine Wlk.psh F w (k := DL.psh k c) ?_ b
    cases k with
    | nil =>
      cases h
      exact ⟨z, a, rfl⟩
    | cons y0 r =>
      rw [psh_cons]
      by_cases e : y0 = sw c
      · rw [if_pos e]
        rw [List.reverse_cons] at h
        obtain ⟨m, h1, ⟨x', h2, h3⟩⟩ := Wlk.split h
        cases h3
        have back := h2.back
        rw [e, sw_sw a.lt] at back
        rw [F.det a back]
        exact h1
      · rw [if_neg e, List.reverse_cons]
        exact h.app ⟨z, a, rfl⟩
/-- a word and its reduced form lead alike -/
theorem Wlk.fold {es : List Ed} (F : Fld es) {w : List Nat} {p q : Nat} (h : Wlk es p w q) : Wlk es p (fold w) q := Wlk.psh F w (k := []) (p := p) rfl h
theorem Wlk.inv {es : List Ed} : ∀ {w : List Nat} {p q : Nat}, Wlk es p w q → Wlk es q (DL.inv w) p
  | [], _, _, h => h.symm
  | c :: w, p, q, ⟨x, a, b⟩ => by
    have e : DL.inv (c :: w) = DL.inv w ++ [sw c] := by unfold DL.inv; rw [List.reverse_cons, List.map_append]; rfl
    rw [e]
    exact (Wlk.inv b).app ⟨p, a.back, rfl⟩
theorem Wlk.app2 {es : List Ed} (F : Fld es) {u v : List Nat} {p q r : Nat} (hu : Lts u) (hv : Lts v) (h : Wlk es p (DL.fold u) q) (k : Wlk es q (DL.fold v) r) : Wlk es p (DL.fold (u ++ v)) r := by
  have := (h.app k).fold F
  rwa [fold_app_l hu, fold_app_r hu hv] at this
/-- what is made of words and their inverses -/
def Prod (ws : List (List Nat)) (w : List Nat) : Prop := ∃ ps : List (List Nat), w = ps.flatten ∧ ∀ p ∈ ps, p ∈ ws ∨ ∃ v ∈ ws, p = DL.inv v
theorem Prod.nil (ws : List (List Nat)) : Prod ws [] := ⟨[], rfl, (fun _ z => nomatch z)⟩
theorem Prod.snoc {ws : List (List Nat)} {w p : List Nat} (h : Prod ws w) (hp : p ∈ ws ∨ ∃ v ∈ ws, p = DL.inv v) : Prod ws (w ++ p) := by
  obtain ⟨ps, rfl, h2⟩ := h
  exact ⟨ps ++ [p], by rw [List.flatten_append]; simp, fun q hq => (List.mem_append.mp hq).elim (h2 q) fun z => by rw [List.mem_singleton.mp z]; exact hp⟩
theorem Prod.lts {ws : List (List Nat)} (hL : ∀ w ∈ ws, Lts w) {w : List Nat} (h : Prod ws w) : Lts w := by
  obtain ⟨ps, rfl, h2⟩ := h
  intro c hc
  obtain ⟨p, hp, hcp⟩ := List.mem_flatten.mp hc
  rcases h2 p hp with z | ⟨v, hv, rfl⟩
  · exact hL p z c hcp
  · exact inv_lts (hL v hv) c hcp
theorem Prod.wlk {es : List Ed} (F : Fld es) {ws : List (List Nat)} (hL : ∀ w ∈ ws, Lts w) (hk : ∀ w ∈ ws, Wlk es 0 (DL.fold w) 0) {w : List Nat} (h : Prod ws w) : Wlk es 0 (DL.fold w) 0 := by
  obtain ⟨ps, rfl, h2⟩ := h
  induction ps with
  | nil => exact rfl
  | cons p ps ih =>
    have hp : Lts p ∧ Wlk es 0 (DL.fold p) 0 := by
      rcases h2 p List.mem_cons_self with z | ⟨v, hv, rfl⟩
      · exact ⟨hL p z, hk p z⟩
      · refine ⟨inv_lts (hL v hv), ?_⟩
        rw [fold_inv (hL v hv)]
        exact (hk v hv).inv
    have hps : ∀ q ∈ ps, q ∈ ws ∨ ∃ v ∈ ws, q = DL.inv v := fun q hq => h2 q (List.mem_cons_of_mem _ hq)
    rw [List.flatten_cons]
    exact Wlk.app2 F hp.1 (Prod.lts hL ⟨ps, rfl, hps⟩) hp.2 (ih hps)

/-! ### the graph with its numbers -/
theorem ixOf_inj {ps : List Nat} {a b : Nat} (ha : a ∈ ps) (hb : b ∈ ps) (h : ps.idxOf a = ps.idxOf b) : a = b := by
  have la := List.idxOf_lt_length_of_mem ha
  have lb := List.idxOf_lt_length_of_mem hb
  have ea := List.getElem_idxOf la
  have eb := List.getElem_idxOf lb
  rw [← ea, ← eb]
  congr 1
structure GnOk (g : Gr) : Prop where
  fld : Fld g.2
  bd : ∀ e ∈ g.2, e.1 < g.1 ∧ e.2.2 < g.1
  pos : 0 < g.1
theorem mem_numG {es : List Ed} {ls : List Nat} {p0 N : Nat} {e : Ed} : e ∈ (numG es ls p0 N).2 ↔ ∃ f ∈ es, e = nmE (fw (mvs es) ls p0 N).1 f := by
  show e ∈ srtE _ ↔ _
  rw [(srtE_perm _).mem_iff, dd_mem, List.mem_map]
  exact ⟨fun ⟨f, a, b⟩ => ⟨f, a, b.symm⟩, fun ⟨f, a, b⟩ => ⟨f, a, b.symm⟩⟩
theorem numG_ok {es : List Ed} {ls : List Nat} {p0 N : Nat} (F : Fld es) (hb : ∀ e ∈ es, e.1 < N ∧ e.2.2 < N) (h0 : p0 < N) (hall : ∀ e ∈ es, e.1 ∈ (fw (mvs es) ls p0 N).1 ∧ e.2.2 ∈ (fw (mvs es) ls p0 N).1) : GnOk (numG es ls p0 N) := by
  refine ⟨⟨fun e he => ?_, fun e he f hf h1 h2 => ?_, fun e he f hf h1 h2 => ?_⟩, fun e he => ?_, ?_⟩
  · obtain ⟨f, hf, rfl⟩ := mem_numG.mp he
    exact F.sm f hf
  · obtain ⟨e', he', rfl⟩ := mem_numG.mp he
    obtain ⟨f', hf', rfl⟩ := mem_numG.mp hf
    have := F.fwd e' he' f' hf' h1 (ixOf_inj (hall e' he').1 (hall f' hf').1 h2)
    show List.idxOf _ _ = List.idxOf _ _
    rw [this]
  · obtain ⟨e', he', rfl⟩ := mem_numG.mp he
    obtain ⟨f', hf', rfl⟩ := mem_numG.mp hf
    have := F.bwd e' he' f' hf' h1 (ixOf_inj (hall e' he').2 (hall f' hf').2 h2)
    show List.idxOf _ _ = List.idxOf _ _
    rw [this]
  · obtain ⟨f, hf, rfl⟩ := mem_numG.mp he
    exact ⟨List.idxOf_lt_length_of_mem (hall f hf).1, List.idxOf_lt_length_of_mem (hall f hf).2⟩
  · exact (List.getElem?_eq_some_iff.mp (WI.range (ls := ls) (mvs_mv hb) h0 N).1.zero).1
theorem GrOk.num {ws : List (List Nat)} {l ls : List Nat} (hw : ∀ w ∈ ws, Lts w) (G : GrOk ws l ls) : GnOk (famG ws l ls) := by
  have := (ptl_ok hw).len
  exact numG_ok G.fld G.bd (by omega) G.all
/-- each given word goes round in the graph -/
theorem GrOk.given {ws : List (List Nat)} {l ls : List Nat} (hw : ∀ w ∈ ws, Lts w) (L : Lsq (ptl ws).1 (ptl ws).2.1 (ptl ws).2.2 l) (G : GrOk ws l ls) : ∀ w ∈ ws, Wlk (famG ws l ls).2 0 (DL.fold w) 0 := fun w hwm => by
  have P1 := (ptl_ok hw).len
  have h0 : 0 < (ptl ws).2.2 := by omega
  have W := (WI.range (ls := ls) (mvs_mv G.bd) h0 (ptl ws).2.2).1
  obtain ⟨x, hx, wk⟩ := ptl_wlk hw w hwm
  have l0 : l.getD 0 0 = 0 := Nat.le_zero.mp (L.lp.le 0 h0)
  have lx : l.getD x 0 = 0 := (L.clo.ends x hx).trans l0
  have wk2 := wk.map fun p => (fw (mvs (fE l (ptl ws).1)) ls 0 (ptl ws).2.2).1.idxOf (l.getD p 0)
  rw [lx, l0] at wk2
  have i0 : (fw (mvs (fE l (ptl ws).1)) ls 0 (ptl ws).2.2).1.idxOf 0 = 0 := by
    obtain ⟨z1, z2⟩ := List.getElem?_eq_some_iff.mp W.zero
    have := List.Nodup.idxOf_getElem W.nd 0 z1
    rwa [z2] at this
  rw [i0] at wk2
  refine wk2.sub fun e he => mem_numG.mpr ?_
  obtain ⟨f, hf, rfl⟩ := List.mem_map.mp he
  exact ⟨_, List.mem_map.mpr ⟨f, hf, rfl⟩, rfl⟩
/-! ### the law's step: the ends of the edges that match -/
def lwE (es : List Ed) (p c : Nat) : List Nat := ((es.filter fun e => decide (e.1 = p) && decide (e.2.1 = c)).map fun e => e.2.2) ++ ((es.filter fun e => decide (e.2.2 = p) && decide (sw e.2.1 = c)).map fun e => e.1)
theorem lwE_head {es : List Ed} (F : Fld es) {p c : Nat} (hc : c ∈ LTR) : (lwE es p c).head? = stO (mvs es) p c := by
  have all : ∀ x ∈ lwE es p c, stO (mvs es) p c = some x := fun x hx => by
    rcases List.mem_append.mp hx with z | z
    · obtain ⟨e, he, rfl⟩ := List.mem_map.mp z
      obtain ⟨h1, h2⟩ := List.mem_filter.mp he
      rw [Bool.and_eq_true, decide_eq_true_eq, decide_eq_true_eq] at h2
      obtain ⟨rfl, rfl⟩ := h2
      exact F.step (Stp.of (F.sm e h1) h1).1
    · obtain ⟨e, he, rfl⟩ := List.mem_map.mp z
      obtain ⟨h1, h2⟩ := List.mem_filter.mp he
      rw [Bool.and_eq_true, decide_eq_true_eq, decide_eq_true_eq] at h2
      obtain ⟨rfl, rfl⟩ := h2
      exact F.step (Stp.of (F.sm e h1) h1).2
  cases h : lwE es p c with
  | cons x r => exact (all x (by rw [h]; exact List.mem_cons_self)).symm
  | nil =>
    cases e : stO (mvs es) p c with
    | none => rfl
    | some q =>
      exfalso
      have : q ∈ lwE es p c := by
        unfold lwE
        rcases stO_mem F.sm e with ⟨a, b⟩ | ⟨a, b, d⟩
        · exact List.mem_append_left _ (List.mem_map.mpr ⟨_, List.mem_filter.mpr ⟨b, by simp⟩, rfl⟩)
        · exact List.mem_append_right _ (List.mem_map.mpr ⟨_, List.mem_filter.mpr ⟨d, by simp [sw_sw b]⟩, rfl⟩)
      rw [h] at this
      cases this
theorem filt_take {es : List Ed} {i : Nat} {e : Ed} (h : es[i]? = some e) (f : Ed → Bool) (g : Ed → D) : ((es.take (i + 1)).filter f).map g = ((es.take i).filter f).map g ++ (if f e = true then [g e] else []) := by
  rw [List.take_add_one, h, Option.toList_some, List.filter_append, List.map_append]
  by_cases k : f e = true
  · simp [k]
  · simp [k]
/-! ### for .. in xs, xs a list or a tuple -/
def iSeq (K : PySem.W.Frag) (tl : TE) : TI := fun σ H R => tl σ H fun x H1 => ∃ a, x = .ref a ∧ (((∃ xs, SqL K H1 a xs) ∧ R (Itl K a) H1) ∨ ((∃ xs, SqT K H1 a xs) ∧ R (Itt K a) H1))
theorem pi_sq {X : Cx} {tg l : Expr} {tl : TE} (hl : PE X l tl) : PI X tg l (iSeq X.K tl) :=
  ⟨fun pins s σ H R I h => thn (hl.run pins s σ H _ I h) fun v s1 ⟨x, H1, I1, r1, a, ex, both⟩ => by
    subst ex
    cases r1
    have mine : ∀ b ∈ [s1.heap.objs.size], FpOk X pins H1 b := fun b hb => by
      rw [List.mem_singleton.mp hb]
      exact I1.fpOk (Nat.le_refl _) (I1.hok.fresh (Nat.le_refl _))
    rcases both with ⟨⟨xs, hq⟩, q⟩ | ⟨⟨xs, hq⟩, q⟩
    · obtain ⟨its, rv, p, hz⟩ := I1.list hq
      exact wpAny_pyIter_list p.isList ⟨s1.heap.objs.size, [s1.heap.objs.size], _, _, H1, rfl, I1.kept (t' := s1.toks) fun b o e => Heap.get?_push_of_some _ e, turn_list a _, ⟨_, Heap.get?_push_size _ rfl, rfl, rfl⟩, mine, q⟩
    · obtain ⟨its, rv, p, hz⟩ := I1.tuple hq
      exact wpAny_pyIter_tuple (show s1.heap.IsTuple a its.toArray from p) ⟨s1.heap.objs.size, [s1.heap.objs.size], _, _, H1, rfl, I1.kept (t' := s1.toks) fun b o e => Heap.get?_push_of_some _ e, turn_tuple a _, ⟨_, Heap.get?_push_size _ rfl, rfl, rfl⟩, mine, q⟩⟩
def lsD : D → List D → Prop
  | .lst l, ds => l = ds
  | .tup l, ds => l = ds
  | _, _ => False
theorem di_ls {env : Nv} {te : TE} {K : PySem.W.Frag} {post : List D → Prop} (h : De te env fun d => ∃ ds, lsD d ds ∧ post ds) : Di (iSeq K te) env post := fun B M σ H S R q =>
  h B M σ H S _ fun v H1 d ⟨ds, e, hp⟩ S1 e1 i1 => by
    cases d with
    | lst l =>
      obtain rfl : l = ds := e
      obtain ⟨p, vs, rfl, hm, hl, hs⟩ := is_lst i1
      refine ⟨p, rfl, .inl ⟨⟨vs, .of hl⟩, q _ H1 [(.ref p, .lst l)] l hp S1 e1 (fun x hx => by rw [List.mem_singleton.mp hx]; exact i1) ⟨fun M2 H2 hst hM hh => ?_⟩⟩⟩
      obtain ⟨p2, vs2, e2, hm2, hl2, hs2⟩ := is_lst (hh _ (List.mem_singleton.mpr rfl))
      cases e2
      refine ⟨fun i hi => ?_, fun i hi => ⟨vs2, .of hl2, by rw [hs2.length]; exact hi⟩, fun i d x H' hd ⟨eh, hy⟩ => ?_⟩
      · obtain ⟨v, hv, _⟩ := hs2.get (List.getElem?_eq_getElem hi)
        exact ⟨vs2, v, .of hl2, hv⟩
      · obtain ⟨v, hv, iv⟩ := hs2.get hd
        have same := hy vs2 (.of hl2)
        rw [hv] at same
        cases same
        rw [eh]
        exact ⟨.inl rfl, iv⟩
    | tup l =>
      obtain rfl : l = ds := e
      obtain ⟨p, vs, rfl, hl, hs⟩ := is_tup i1
      refine ⟨p, rfl, .inr ⟨⟨vs, .of hl⟩, q _ H1 [(.ref p, .tup l)] l hp S1 e1 (fun x hx => by rw [List.mem_singleton.mp hx]; exact i1) ⟨fun M2 H2 hst hM hh => ?_⟩⟩⟩
      obtain ⟨p2, vs2, e2, hl2, hs2⟩ := is_tup (hh _ (List.mem_singleton.mpr rfl))
      cases e2
      refine ⟨fun i hi => ?_, fun i hi => ⟨vs2, .of hl2, by rw [hs2.length]; exact hi⟩, fun i d x H' hd ⟨eh, hy⟩ => ?_⟩
      · obtain ⟨v, hv, _⟩ := hs2.get (List.getElem?_eq_getElem hi)
        exact ⟨vs2, v, .of hl2, hv⟩
      · obtain ⟨v, hv, iv⟩ := hs2.get hd
        have same := hy vs2 (.of hl2)
        rw [hv] at same
        cases same
        rw [eh]
        exact ⟨.inl rfl, iv⟩
    | _ => exact e.elim
theorem Prod.lets {ls : List Nat} {ws : List (List Nat)} (hsw : ∀ c ∈ ls, sw c ∈ ls) (hw : ∀ w ∈ ws, ∀ c ∈ w, c ∈ ls) {w : List Nat} (h : Prod ws w) : ∀ c ∈ w, c ∈ ls := by
  obtain ⟨ps, rfl, h2⟩ := h
  intro c hc
  obtain ⟨p, hp, hcp⟩ := List.mem_flatten.mp hc
  rcases h2 p hp with z | ⟨v, hv, rfl⟩
  · exact hw p z c hcp
  · unfold DL.inv at hcp
    obtain ⟨d, hd, rfl⟩ := List.mem_map.mp hcp
    exact hsw d (hw v hv d (List.mem_reverse.mp hd))
end DL

namespace DL
open PySem PySem.Spec PyProof.Rows L2 TK

/-! ### words up to what is reduced; sets of words that are kept -/
theorem ltsA {u v : List Nat} (hu : Lts u) (hv : Lts v) : Lts (u ++ v) := fun c hc => (List.mem_append.mp hc).elim (hu c) (hv c)
theorem lts0 : Lts [] := fun _ z => nomatch z
theorem lts1 {c : Nat} (h : c ∈ LTR) : Lts [c] := fun x hx => by rw [List.mem_singleton.mp hx]; exact h
theorem fold_cong {u u' v v' : List Nat} (hu : Lts u) (hu' : Lts u') (hv : Lts v) (hv' : Lts v') (h1 : fold u = fold u') (h2 : fold v = fold v') : fold (u ++ v) = fold (u' ++ v') := by
  rw [← fold_app_r hu hv, h2, fold_app_r hu hv', ← fold_app_l hu, h1, fold_app_l hu']
structure Sgp (H : List Nat → Prop) : Prop where
  one : H []
  mul : ∀ {u v : List Nat}, Lts u → Lts v → H u → H v → H (fold (u ++ v))
  inv : ∀ {u : List Nat}, Lts u → H u → H (inv u)
section
variable {H : List Nat → Prop}
theorem Sgp.app (S : Sgp H) {u v : List Nat} (hu : Lts u) (hv : Lts v) (h : H (fold u)) (k : H (fold v)) : H (fold (u ++ v)) := by
  have := S.mul (fold_lts hu) (fold_lts hv) h k
  rwa [fold_app_l hu, fold_app_r hu hv] at this
theorem Sgp.back (S : Sgp H) {u : List Nat} (hu : Lts u) (h : H (fold u)) : H (fold (DL.inv u)) := by
  rw [fold_inv hu]
  exact S.inv (fold_lts hu) h
theorem fold_xx {a x b : List Nat} (ha : Lts a) (hx : Lts x) (hb : Lts b) : fold (a ++ inv x ++ (x ++ b)) = fold (a ++ b) := by
  have e : fold (inv x ++ x) = [] := by
    have := fold_self_inv (inv_lts hx)
    rwa [inv_inv hx] at this
  have hix := inv_lts hx
  have e1 : fold (a ++ (inv x ++ x)) = fold (a ++ []) := fold_cong ha ha (ltsA hix hx) lts0 rfl (by rw [e]; rfl)
  rw [List.append_nil] at e1
  rw [show a ++ inv x ++ (x ++ b) = (a ++ (inv x ++ x)) ++ b by simp only [List.append_assoc]]
  exact fold_cong (ltsA ha (ltsA hix hx)) ha hb hb e1 rfl
theorem Sgp.join (S : Sgp H) {a x b : List Nat} (ha : Lts a) (hx : Lts x) (hb : Lts b) (h : H (fold (a ++ DL.inv x))) (k : H (fold (x ++ b))) : H (fold (a ++ b)) := by
  have := S.app (ltsA ha (inv_lts hx)) (ltsA hx hb) h k
  rwa [fold_xx ha hx hb] at this
end
/-! ### a word for each point of petals -/
def lg (lam : List (List Nat)) (p : Nat) : List Nat := lam.getD p []
theorem lg_old {lam : List (List Nat)} {x : List Nat} {p : Nat} (h : p < lam.length) : lg (lam ++ [x]) p = lg lam p := by
  unfold lg
  rw [List.getD_eq_getElem?_getD, List.getElem?_append_left h, ← List.getD_eq_getElem?_getD]
theorem lg_new {lam : List (List Nat)} {x : List Nat} : lg (lam ++ [x]) lam.length = x := by
  unfold lg
  rw [List.getD_eq_getElem?_getD, List.getElem?_append_right (Nat.le_refl _), Nat.sub_self]
  rfl
structure Lam (es : List Ed) (lam : List (List Nat)) : Prop where
  lts : ∀ p, Lts (lg lam p)
  ed : ∀ e ∈ es, fold (lg lam e.1 ++ [e.2.1]) = fold (lg lam e.2.2)
theorem Lam.step {s : Ps} {lam : List (List Nat)} {c : Nat} (P : Pi1 s) (hl : lam.length = s.2.2) (L : Lam s.1 lam) (hc : c ∈ LTR) : Lam (ptS s c).1 (lam ++ [lg lam s.2.1 ++ [c]]) := by
  have here : s.2.1 < lam.length := by rw [hl]; exact P.pl
  refine ⟨fun p => ?_, fun e he => ?_⟩
  · rcases Nat.lt_trichotomy p lam.length with z | z | z
    · rw [lg_old z]; exact L.lts p
    · rw [z, lg_new]; exact ltsA (L.lts _) (lts1 hc)
    · have : lg (lam ++ [lg lam s.2.1 ++ [c]]) p = [] := by
        unfold lg
        rw [List.getD_eq_getElem?_getD, List.getElem?_eq_none (by rw [List.length_append, List.length_singleton]; omega)]
        rfl
      rw [this]; exact lts0
  · rcases List.mem_append.mp he with z | z
    · obtain ⟨b1, b2, _⟩ := P.eb e z
      rw [lg_old (by omega), lg_old (by omega)]
      exact L.ed e z
    · rw [List.mem_singleton.mp z]
      unfold edB
      split
      · show fold (lg _ s.2.1 ++ [c]) = fold (lg _ s.2.2)
        rw [lg_old here, ← hl, lg_new]
      · show fold (lg _ s.2.2 ++ [sw c]) = fold (lg _ s.2.1)
        rw [lg_old here, ← hl, lg_new, List.append_assoc]
        have := fold_cut (u := lg lam s.2.1) (v := []) (c := c) (d := sw c) (L.lts _) (sw_mem hc) (sw_sw hc).symm
        rwa [List.append_nil] at this
theorem Lam.run : ∀ (w : List Nat) {s : Ps} {lam : List (List Nat)}, Pi1 s → lam.length = s.2.2 → Lam s.1 lam → (∀ c ∈ w, c ∈ LTR) →
    ∃ lam', lam'.length = (w.foldl ptS s).2.2 ∧ Lam (w.foldl ptS s).1 lam' ∧ (∀ p, p < lam.length → lg lam' p = lg lam p) ∧ lg lam' (w.foldl ptS s).2.1 = lg lam s.2.1 ++ w
  | [], s, lam, _, hl, L, _ => ⟨lam, hl, L, (fun _ _ => rfl), by simp⟩
  | c :: w, s, lam, P, hl, L, hw => by
    have hc := hw c List.mem_cons_self
    obtain ⟨lam', a1, a2, a3, a4⟩ := Lam.run w (P.step hc) (lam := lam ++ [lg lam s.2.1 ++ [c]]) (by rw [List.length_append, List.length_singleton, hl]; rfl) (L.step P hl hc) fun x hx => hw x (List.mem_cons_of_mem _ hx)
    refine ⟨lam', a1, a2, fun p hp => ?_, ?_⟩
    · rw [a3 p (by rw [List.length_append]; omega), lg_old hp]
    · show lg lam' (w.foldl ptS (ptS s c)).2.1 = _
      rw [a4, show (ptS s c).2.1 = lam.length from hl.symm, lg_new, List.append_assoc]
      rfl
theorem Lam.all {V : List (List Nat)} : ∀ (vs : List (List Nat)) {s : List Ed × List Nat × Nat} {lam : List (List Nat)}, Pi2 s → lam.length = s.2.2 → Lam s.1 lam → lg lam 0 = [] → (∀ x ∈ s.2.1, lg lam x ∈ V) → (∀ v ∈ vs, (∀ c ∈ v, c ∈ LTR) ∧ v ∈ V) →
    ∃ lam', Lam (vs.foldl ptW s).1 lam' ∧ lg lam' 0 = [] ∧ ∀ x ∈ (vs.foldl ptW s).2.1, lg lam' x ∈ V
  | [], s, lam, _, _, L, h0, hx, _ => ⟨lam, L, h0, hx⟩
  | v :: vs, s, lam, P, hl, L, h0, hx, hv => by
    obtain ⟨v1, v2⟩ := hv v List.mem_cons_self
    have z0 : 0 < s.2.2 := by have := P.len; omega
    obtain ⟨lam', a1, a2, a3, a4⟩ := Lam.run v (s := (s.1, 0, s.2.2)) ⟨P.len, z0, P.eb⟩ hl L v1
    refine Lam.all vs (P.step v1) a1 a2 (by rw [a3 0 (by rw [hl]; exact z0), h0]) (fun x hxx => ?_) fun u hu => hv u (List.mem_cons_of_mem _ hu)
    rcases List.mem_append.mp hxx with z | z
    · rw [a3 x (by rw [hl]; exact P.ends x z)]
      exact hx x z
    · rw [List.mem_singleton.mp z, a4]
      show lg lam 0 ++ v ∈ V
      rw [h0]
      exact v2
theorem ptl_lam {ws : List (List Nat)} (hw : ∀ w ∈ ws, Lts w) : ∃ lam, Lam (ptl ws).1 lam ∧ lg lam 0 = [] ∧ ∀ x ∈ (ptl ws).2.1, ∃ w ∈ ws, lg lam x = fold w := by
  obtain ⟨lam, a, b, c⟩ := Lam.all (V := ws.map fold) (ws.map fold) (s := ([], [], 1)) (lam := [[]]) pi2_nil rfl ⟨fun p => by
    have : lg [[]] p = [] := by cases p <;> rfl
    rw [this]; exact lts0, (fun _ z => nomatch z)⟩ rfl (fun _ z => nomatch z) fun v hv => ⟨by
      obtain ⟨u, hu, rfl⟩ := List.mem_map.mp hv
      exact fold_lts (hw u hu), hv⟩
  exact ⟨lam, a, b, fun x hx => by
    obtain ⟨w, hw, e⟩ := List.mem_map.mp (c x hx)
    exact ⟨w, hw, e.symm⟩⟩
/-- what goes round in the folded graph is made of the given words -/
theorem sound {H : List Nat → Prop} (S : Sgp H) {ws : List (List Nat)} {l ls : List Nat} (hw : ∀ w ∈ ws, Lts w) (L : Lsq (ptl ws).1 (ptl ws).2.1 (ptl ws).2.2 l) (G : GrOk ws l ls) (hH : ∀ w ∈ ws, H (fold w)) {w : List Nat} (k : Wlk (famG ws l ls).2 0 w 0) : H (fold w) := by
  obtain ⟨lam, La, l0, le⟩ := ptl_lam hw
  have P := ptl_ok hw
  have P1 := P.len
  have z0 : 0 < (ptl ws).2.2 := by omega
  have lt := La.lts
  have li : ∀ p, Lts (inv (lg lam p)) := fun p => inv_lts (lt p)
  have key : ∀ e ∈ (ptl ws).1, ∀ f ∈ (ptl ws).1, e.2.1 = f.2.1 → fold (lg lam e.2.2 ++ inv (lg lam f.2.2)) = fold (lg lam e.1 ++ inv (lg lam f.1)) := fun e he f hf hc => by
    have hcl := SM_LTR (P.eb e he).2.2
    have hcl' : f.2.1 ∈ LTR := hc ▸ hcl
    have i1 : fold (inv (lg lam f.2.2)) = fold (inv (lg lam f.1 ++ [f.2.1])) := by
      rw [fold_inv (lt _), fold_inv (ltsA (lt _) (lts1 hcl')), La.ed f hf]
    rw [fold_cong (lt _) (ltsA (lt e.1) (lts1 hcl)) (li _) (inv_lts (ltsA (lt f.1) (lts1 hcl'))) (La.ed e he).symm i1, inv_app]
    show fold (lg lam e.1 ++ [e.2.1] ++ (sw f.2.1 :: inv (lg lam f.1))) = _
    rw [List.append_assoc, ← hc]
    exact fold_cut (lt _) (sw_mem hcl) (sw_sw hcl).symm
  have C : Cong (ptl ws).1 (ptl ws).2.1 fun a b => H (fold (lg lam a ++ inv (lg lam b))) := by
    refine ⟨fun a => ?_, fun {a b} h => ?_, fun {a b c} h k => S.join (lt _) (lt _) (li _) h k, fun e he => ?_, fun e he f hf hc h => ?_, fun e he f hf hc h => ?_⟩
    · show H (fold (lg lam a ++ inv (lg lam a)))
      rw [fold_self_inv (lt a)]
      exact S.one
    · have := S.back (ltsA (lt a) (li b)) h
      rwa [inv_app, inv_inv (lt b)] at this
    · obtain ⟨w, hwm, e2⟩ := le e he
      show H (fold (lg lam e ++ inv (lg lam 0)))
      rw [l0, show inv [] = [] from rfl, List.append_nil, e2, fold_fold (hw w hwm)]
      exact hH w hwm
    · show H (fold (lg lam e.2.2 ++ inv (lg lam f.2.2)))
      rw [key e he f hf hc]
      exact h
    · have h : H (fold (lg lam e.2.2 ++ inv (lg lam f.2.2))) := h
      rw [key e he f hf hc] at h
      exact h
  have Rl := L.snd _ C
  have one : ∀ {p c r : Nat}, Stp (fE l (ptl ws).1) p c r → H (fold (lg lam p ++ [c] ++ inv (lg lam r))) := fun {p c r} h => by
    have hc := h.lt
    have out : ∀ e ∈ (ptl ws).1, e.1 < l.length ∧ e.2.2 < l.length := fun e he => by
      obtain ⟨a, b, _⟩ := P.eb e he
      rw [L.lp.len]
      exact ⟨a, b⟩
    rcases h with ⟨a, b⟩ | ⟨a, a2, b⟩
    · obtain ⟨e, he, ee⟩ := List.mem_map.mp b
      have e1 : l.getD e.1 0 = p := congrArg Prod.fst ee
      have e2 : e.2.1 = c := congrArg (fun e : Ed => e.2.1) ee
      have e3 : l.getD e.2.2 0 = r := congrArg (fun e : Ed => e.2.2) ee
      have r1 := C.symm (Rl e.1 (out e he).1)
      have r2 := Rl e.2.2 (out e he).2
      rw [e1] at r1
      rw [e3] at r2
      have mid : fold (lg lam e.1 ++ ([c] ++ inv (lg lam r))) = fold (lg lam e.2.2 ++ inv (lg lam r)) := by
        rw [← List.append_assoc, ← e2]
        exact fold_cong (ltsA (lt _) (lts1 (SM_LTR (P.eb e he).2.2))) (lt _) (li _) (li _) (La.ed e he) rfl
      have := S.join (a := lg lam p) (x := lg lam e.1) (b := [c] ++ inv (lg lam r)) (lt _) (lt _) (ltsA (lts1 hc) (li _)) r1 (by rw [mid]; exact r2)
      rwa [← List.append_assoc] at this
    · obtain ⟨e, he, ee⟩ := List.mem_map.mp b
      have e1 : l.getD e.1 0 = r := congrArg Prod.fst ee
      have e2 : e.2.1 = sw c := congrArg (fun e : Ed => e.2.1) ee
      have e3 : l.getD e.2.2 0 = p := congrArg (fun e : Ed => e.2.2) ee
      have r1 := C.symm (Rl e.2.2 (out e he).2)
      have r2 := Rl e.1 (out e he).1
      rw [e3] at r1
      rw [e1] at r2
      have hsc := sw_mem hc
      have ed := La.ed e he
      rw [e2] at ed
      have mid : fold (lg lam e.2.2 ++ ([c] ++ inv (lg lam r))) = fold (lg lam e.1 ++ inv (lg lam r)) := by
        rw [fold_cong (lt e.2.2) (ltsA (lt e.1) (lts1 hsc)) (ltsA (lts1 hc) (li r)) (ltsA (lts1 hc) (li r)) ed.symm rfl, List.append_assoc]
        exact fold_cut (lt _) hc rfl
      have := S.join (a := lg lam p) (x := lg lam e.2.2) (b := [c] ++ inv (lg lam r)) (lt _) (lt _) (ltsA (lts1 hc) (li _)) r1 (by rw [mid]; exact r2)
      rwa [← List.append_assoc] at this
  have walkd : ∀ {w : List Nat} {p q : Nat}, Wlk (fE l (ptl ws).1) p w q → H (fold (lg lam p ++ (w ++ inv (lg lam q)))) := by
    intro w
    induction w with
    | nil =>
      intro p q h
      cases h
      show H (fold (lg lam p ++ inv (lg lam p)))
      rw [fold_self_inv (lt p)]
      exact S.one
    | cons c w ih =>
      intro p q ⟨r, a, b⟩
      have := S.join (a := lg lam p ++ [c]) (x := lg lam r) (b := w ++ inv (lg lam q)) (ltsA (lt _) (lts1 a.lt)) (lt _) (ltsA b.lts (li _)) (one a) (ih b)
      rwa [List.append_assoc] at this
  have W := (WI.range (ls := ls) (mvs_mv G.bd) z0 (ptl ws).2.2).1
  have k2 := k.map fun i => (fw (mvs (fE l (ptl ws).1)) ls 0 (ptl ws).2.2).1.getD i 0
  have e0 : (fw (mvs (fE l (ptl ws).1)) ls 0 (ptl ws).2.2).1.getD 0 0 = 0 := by rw [List.getD_eq_getElem?_getD, W.zero]; rfl
  rw [e0] at k2
  have at' : ∀ p ∈ (fw (mvs (fE l (ptl ws).1)) ls 0 (ptl ws).2.2).1, (fw (mvs (fE l (ptl ws).1)) ls 0 (ptl ws).2.2).1.getD ((fw (mvs (fE l (ptl ws).1)) ls 0 (ptl ws).2.2).1.idxOf p) 0 = p := fun p hp => by
    have := List.idxOf_lt_length_of_mem hp
    rw [List.getD_eq_getElem?_getD, List.getElem?_eq_getElem this, Option.getD_some, List.getElem_idxOf]
  have k3 := walkd (k2.sub fun e he => by
    obtain ⟨f, hf, rfl⟩ := List.mem_map.mp he
    obtain ⟨g, hg, rfl⟩ := mem_numG.mp hf
    obtain ⟨m1, m2⟩ := G.all g hg
    unfold nmE
    dsimp only
    rw [at' _ m1, at' _ m2]
    exact hg)
  rw [l0, show inv [] = [] from rfl, List.append_nil, List.nil_append] at k3
  exact k3
end DL

namespace DL
open PySem PySem.Spec PyProof.Rows L2 TK

/-! ### the same search in two move tables that answer to one another -/
structure Brel (k1 k2 : List (List Key × V)) (ls : List Nat) (φ : Nat → Nat → Prop) (p0 q0 : Nat) : Prop where
  ini : φ p0 q0
  fn : ∀ {p q q' : Nat}, φ p q → φ p q' → q = q'
  inj : ∀ {p p' q : Nat}, φ p q → φ p' q → p = p'
  fwd : ∀ {p q c p' : Nat}, c ∈ ls → φ p q → stO k1 p c = some p' → ∃ q', stO k2 q c = some q' ∧ φ p' q'
  bwd : ∀ {p q c q' : Nat}, c ∈ ls → φ p q → stO k2 q c = some q' → ∃ p', stO k1 p c = some p' ∧ φ p' q'
structure FwR (φ : Nat → Nat → Prop) (s1 s2 : Fd) : Prop where
  len : s1.1.length = s2.1.length
  at' : ∀ (k p q : Nat), s1.1[k]? = some p → s2.1[k]? = some q → φ p q
  wd : s1.2 = s2.2
section
variable {k1 k2 : List (List Key × V)} {ls : List Nat} {φ : Nat → Nat → Prop} {p0 q0 : Nat}
theorem FwR.mem (B : Brel k1 k2 ls φ p0 q0) {s1 s2 : Fd} (R : FwR φ s1 s2) {p q : Nat} (h : φ p q) : p ∈ s1.1 ↔ q ∈ s2.1 := by
  constructor
  · intro z
    obtain ⟨k, hk⟩ := List.mem_iff_getElem?.mp z
    have lt : k < s2.1.length := by rw [← R.len]; exact (List.getElem?_eq_some_iff.mp hk).1
    have := R.at' k p _ hk (List.getElem?_eq_getElem lt)
    rw [B.fn h this]
    exact List.getElem_mem lt
  · intro z
    obtain ⟨k, hk⟩ := List.mem_iff_getElem?.mp z
    have lt : k < s1.1.length := by rw [R.len]; exact (List.getElem?_eq_some_iff.mp hk).1
    have := R.at' k _ q (List.getElem?_eq_getElem lt) hk
    rw [B.inj h this]
    exact List.getElem_mem lt
theorem FwR.stepL (B : Brel k1 k2 ls φ p0 q0) {s1 s2 : Fd} (R : FwR φ s1 s2) {t c : Nat} (ht : t < s1.1.length) (hc : c ∈ ls) : FwR φ (fwL k1 t s1 c) (fwL k2 t s2 c) ∧ s1.1.length ≤ (fwL k1 t s1 c).1.length := by
  have ht2 : t < s2.1.length := by rw [← R.len]; exact ht
  have e1 : s1.1[t]? = some (s1.1.getD t 0) := by rw [List.getD_eq_getElem?_getD, List.getElem?_eq_getElem ht]; rfl
  have e2 : s2.1[t]? = some (s2.1.getD t 0) := by rw [List.getD_eq_getElem?_getD, List.getElem?_eq_getElem ht2]; rfl
  have h := R.at' t _ _ e1 e2
  unfold fwL
  cases a : stO k1 (s1.1.getD t 0) c with
  | none =>
    cases b : stO k2 (s2.1.getD t 0) c with
    | none => exact ⟨R, Nat.le_refl _⟩
    | some q' =>
      obtain ⟨p', z, _⟩ := B.bwd hc h b
      rw [a] at z
      cases z
  | some p' =>
    obtain ⟨q', b, h'⟩ := B.fwd hc h a
    rw [b]
    dsimp only
    have m := R.mem B h'
    by_cases hm : p' ∈ s1.1
    · rw [if_pos hm, if_pos (m.mp hm)]
      exact ⟨R, Nat.le_refl _⟩
    · rw [if_neg hm, if_neg fun z => hm (m.mpr z)]
      refine ⟨⟨by simp [R.len], fun k p q hp hq => ?_, by rw [R.wd]⟩, by simp⟩
      have hp : (s1.1 ++ [p'])[k]? = some p := hp
      have hq : (s2.1 ++ [q'])[k]? = some q := hq
      by_cases hk : k < s1.1.length
      · rw [List.getElem?_append_left hk] at hp
        rw [List.getElem?_append_left (by rw [← R.len]; exact hk)] at hq
        exact R.at' k p q hp hq
      · have hk2 : k = s1.1.length := by
          have := (List.getElem?_eq_some_iff.mp hp).1
          rw [List.length_append, List.length_singleton] at this
          omega
        subst hk2
        rw [List.getElem?_append_right (Nat.le_refl _), Nat.sub_self] at hp
        rw [R.len, List.getElem?_append_right (Nat.le_refl _), Nat.sub_self] at hq
        cases hp
        cases hq
        exact h'
theorem FwR.stepLs (B : Brel k1 k2 ls φ p0 q0) {t : Nat} : ∀ (cs : List Nat) {s1 s2 : Fd}, FwR φ s1 s2 → t < s1.1.length → (∀ c ∈ cs, c ∈ ls) → FwR φ (cs.foldl (fwL k1 t) s1) (cs.foldl (fwL k2 t) s2)
  | [], _, _, R, _, _ => R
  | c :: cs, s1, s2, R, ht, h => by
    obtain ⟨a, b⟩ := R.stepL B ht (h c List.mem_cons_self)
    exact FwR.stepLs B cs a (by omega) fun x hx => h x (List.mem_cons_of_mem _ hx)
theorem FwR.all (B : Brel k1 k2 ls φ p0 q0) : ∀ m, FwR φ (fw k1 ls p0 m) (fw k2 ls q0 m)
  | 0 => ⟨rfl, fun k p q hp hq => by
      cases k with
      | zero => cases hp; cases hq; exact B.ini
      | succ k => exact absurd (List.getElem?_eq_some_iff.mp hp).1 (by simp [fw]), rfl⟩
  | m + 1 => by
    have R := FwR.all B m
    rw [fw_succ, fw_succ]
    unfold fwT
    by_cases ht : m < (fw k1 ls p0 m).1.length
    · rw [if_pos ht, if_pos (by rw [← R.len]; exact ht)]
      exact R.stepLs B ls ht fun _ z => z
    · rw [if_neg ht, if_neg (by rw [← R.len]; exact ht)]
      exact R
end
/-! ### numbered once more nothing changes -/
theorem getD_idx {ps : List Nat} {p : Nat} (h : p ∈ ps) : ps.getD (ps.idxOf p) 0 = p := by
  have := List.idxOf_lt_length_of_mem h
  rw [List.getD_eq_getElem?_getD, List.getElem?_eq_getElem this, Option.getD_some, List.getElem_idxOf]
theorem num_rel {es : List Ed} {ls : List Nat} {p0 N : Nat} (F : Fld es) (hb : ∀ e ∈ es, e.1 < N ∧ e.2.2 < N) (h0 : p0 < N) (hall : ∀ e ∈ es, e.1 ∈ (fw (mvs es) ls p0 N).1 ∧ e.2.2 ∈ (fw (mvs es) ls p0 N).1) :
    Brel (mvs es) (mvs (numG es ls p0 N).2) ls (fun p i => p ∈ (fw (mvs es) ls p0 N).1 ∧ i = (fw (mvs es) ls p0 N).1.idxOf p) p0 0 := by
  have M := mvs_mv hb
  have W := (WI.range (ls := ls) M h0 N).1
  have N2 := numG_ok F hb h0 hall
  obtain ⟨z1, z2⟩ := List.getElem?_eq_some_iff.mp W.zero
  refine ⟨⟨List.mem_of_getElem? W.zero, ?_⟩, fun h k => h.2.trans k.2.symm, fun h k => ixOf_inj h.1 k.1 (h.2.symm.trans k.2), fun {p q c p'} hc h a => ?_, fun {p q c q'} hc h b => ?_⟩
  · have := List.Nodup.idxOf_getElem W.nd 0 z1
    rw [z2] at this
    exact this.symm
  · obtain ⟨hp, rfl⟩ := h
    refine ⟨_, N2.fld.step ?_, fw_cl M h0 hp hc a, rfl⟩
    exact ((stO_mem F.sm a).map fun p => (fw (mvs es) ls p0 N).1.idxOf p).sub fun e he => by
      obtain ⟨f, hf, rfl⟩ := List.mem_map.mp he
      exact mem_numG.mpr ⟨f, hf, rfl⟩
  · obtain ⟨hp, rfl⟩ := h
    have k := (stO_mem N2.fld.sm b).map fun i => (fw (mvs es) ls p0 N).1.getD i 0
    have sub := k.sub (fs := es) fun e he => by
      obtain ⟨f, hf, rfl⟩ := List.mem_map.mp he
      obtain ⟨g, hg, rfl⟩ := mem_numG.mp hf
      obtain ⟨m1, m2⟩ := hall g hg
      unfold nmE
      dsimp only
      rw [getD_idx m1, getD_idx m2]
      exact hg
    rw [getD_idx hp] at sub
    have hq' : q' < (fw (mvs es) ls p0 N).1.length := by
      rcases stO_mem N2.fld.sm b with ⟨_, y⟩ | ⟨_, _, y⟩
      · exact (N2.bd _ y).2
      · exact (N2.bd _ y).1
    have eq : (fw (mvs es) ls p0 N).1.idxOf ((fw (mvs es) ls p0 N).1.getD q' 0) = q' := by
      rw [List.getD_eq_getElem?_getD, List.getElem?_eq_getElem hq', Option.getD_some]
      exact List.Nodup.idxOf_getElem W.nd q' hq'
    exact ⟨_, F.step sub, fw_cl M h0 hp hc (F.step sub), eq.symm⟩
/-- found anew from 0, the vertices stand in their numbers, by the same words -/
theorem num_fw {es : List Ed} {ls : List Nat} {p0 N : Nat} (F : Fld es) (hb : ∀ e ∈ es, e.1 < N ∧ e.2.2 < N) (h0 : p0 < N) (hall : ∀ e ∈ es, e.1 ∈ (fw (mvs es) ls p0 N).1 ∧ e.2.2 ∈ (fw (mvs es) ls p0 N).1) {m : Nat} (hm : N ≤ m) :
    fw (mvs (numG es ls p0 N).2) ls 0 m = (List.range (numG es ls p0 N).1, (fw (mvs es) ls p0 N).2) := by
  have R := FwR.all (num_rel F hb h0 hall) m
  have M := mvs_mv hb
  rw [fw_any M h0 hm] at R
  have W := (WI.range (ls := ls) M h0 N).1
  refine Prod.ext ?_ R.wd.symm
  refine List.ext_getElem (by rw [← R.len, List.length_range]; rfl) fun k k1 k2 => ?_
  have kl : k < (fw (mvs es) ls p0 N).1.length := by rw [R.len]; exact k1
  obtain ⟨_, e⟩ := R.at' k _ _ (List.getElem?_eq_getElem kl) (List.getElem?_eq_getElem k1)
  rw [e, List.getElem_range]
  exact List.Nodup.idxOf_getElem W.nd k kl
theorem GrOk.fw {ws : List (List Nat)} {l ls : List Nat} (hw : ∀ w ∈ ws, Lts w) (G : GrOk ws l ls) {m : Nat} (hm : (ptl ws).2.2 ≤ m) :
    DL.fw (mvs (famG ws l ls).2) ls 0 m = (List.range (famG ws l ls).1, (DL.fw (mvs (fE l (ptl ws).1)) ls 0 (ptl ws).2.2).2) := by
  have := (ptl_ok hw).len
  exact num_fw G.fld G.bd (by omega) G.all hm
/-! ### each edge is walked along in some given word -/
def Trv (E : List Ed) (w : List Nat) (p0 : Nat) (x : Nat) (e : Ed) : Prop := ∃ a b, (w = a ++ e.2.1 :: b ∧ Wlk E p0 a e.1 ∧ Wlk E e.2.2 b x) ∨ (w = a ++ sw e.2.1 :: b ∧ Wlk E p0 a e.2.2 ∧ Wlk E e.1 b x)
theorem ptS_trv {E : List Ed} : ∀ (w : List Nat) (s : Ps), (∀ c ∈ w, c ∈ LTR) → (∀ e ∈ (w.foldl ptS s).1, e ∈ E) → ∀ e ∈ (w.foldl ptS s).1, e ∈ s.1 ∨ Trv E w s.2.1 (w.foldl ptS s).2.1 e
  | [], _, _, _, e, he => .inl he
  | c :: w, s, hw, hE, e, he => by
    have hc := hw c List.mem_cons_self
    have hin : edB s.2.1 c s.2.2 ∈ E := hE _ (ptS_sub w (ptS s c) _ (List.mem_append_right _ List.mem_cons_self))
    have st : Stp E s.2.1 c s.2.2 := edB_stp hc hin
    rcases ptS_trv w (ptS s c) (fun x hx => hw x (List.mem_cons_of_mem _ hx)) hE e he with z | ⟨a, b, z⟩
    · rcases List.mem_append.mp z with y | y
      · exact .inl y
      · right
        have tail : Wlk E s.2.2 w (w.foldl ptS (ptS s c)).2.1 := (ptS_wlk w (ptS s c) fun x hx => hw x (List.mem_cons_of_mem _ hx)).sub hE
        rw [List.mem_singleton.mp y]
        unfold edB
        split
        · exact ⟨[], w, .inl ⟨rfl, rfl, tail⟩⟩
        · exact ⟨[], w, .inr ⟨by show c :: w = [] ++ sw (sw c) :: w; rw [sw_sw hc]; rfl, rfl, tail⟩⟩
    · right
      rcases z with ⟨h1, h2, h3⟩ | ⟨h1, h2, h3⟩
      · exact ⟨c :: a, b, .inl ⟨by rw [h1]; rfl, ⟨_, st, h2⟩, h3⟩⟩
      · exact ⟨c :: a, b, .inr ⟨by rw [h1]; rfl, ⟨_, st, h2⟩, h3⟩⟩
theorem ptW_trv {E : List Ed} {X : List Nat} : ∀ (vs : List (List Nat)) (s : List Ed × List Nat × Nat), (∀ v ∈ vs, ∀ c ∈ v, c ∈ LTR) → (∀ e ∈ (vs.foldl ptW s).1, e ∈ E) → (∀ x ∈ (vs.foldl ptW s).2.1, x ∈ X) →
    ∀ e ∈ (vs.foldl ptW s).1, e ∈ s.1 ∨ ∃ v ∈ vs, ∃ x ∈ X, Trv E v 0 x e
  | [], _, _, _, _, e, he => .inl he
  | v :: vs, s, hv, hE, hX, e, he => by
    have sub := ptW_sub vs (ptW s v)
    rcases ptW_trv vs (ptW s v) (fun u hu => hv u (List.mem_cons_of_mem _ hu)) hE hX e he with z | ⟨u, hu, x, hx, z⟩
    · rcases ptS_trv (E := E) v (s.1, 0, s.2.2) (hv v List.mem_cons_self) (fun f hf => hE f (sub.1 f hf)) e z with y | y
      · exact .inl y
      · exact .inr ⟨v, List.mem_cons_self, _, hX _ (sub.2 _ (List.mem_append_right _ List.mem_cons_self)), y⟩
    · exact .inr ⟨u, List.mem_cons_of_mem _ hu, x, hx, z⟩
theorem GrOk.trv {ws : List (List Nat)} {l ls : List Nat} (hw : ∀ w ∈ ws, Lts w) (L : Lsq (ptl ws).1 (ptl ws).2.1 (ptl ws).2.2 l) (G : GrOk ws l ls) : ∀ e ∈ (famG ws l ls).2, ∃ w ∈ ws, Trv (famG ws l ls).2 (DL.fold w) 0 0 e := fun e he => by
  have P1 := (ptl_ok hw).len
  have h0 : 0 < (ptl ws).2.2 := by omega
  have W := (WI.range (ls := ls) (mvs_mv G.bd) h0 (ptl ws).2.2).1
  have l0 : l.getD 0 0 = 0 := Nat.le_zero.mp (L.lp.le 0 h0)
  have i0 : (DL.fw (mvs (fE l (ptl ws).1)) ls 0 (ptl ws).2.2).1.idxOf 0 = 0 := by
    obtain ⟨z1, z2⟩ := List.getElem?_eq_some_iff.mp W.zero
    have := List.Nodup.idxOf_getElem W.nd 0 z1
    rwa [z2] at this
  obtain ⟨f, hf, rfl⟩ := mem_numG.mp he
  obtain ⟨g, hg, rfl⟩ := List.mem_map.mp hf
  rcases ptW_trv (E := (ptl ws).1) (X := (ptl ws).2.1) (ws.map fold) ([], [], 1) (fun v hv => by obtain ⟨u, hu, rfl⟩ := List.mem_map.mp hv; exact fold_lts (hw u hu)) (fun _ z => z) (fun _ z => z) g hg with z | ⟨v, hv, x, hx, a, b, z⟩
  · cases z
  · obtain ⟨w, hwm, rfl⟩ := List.mem_map.mp hv
    have lx : l.getD x 0 = 0 := (L.clo.ends x hx).trans l0
    have mp : ∀ {u : List Nat} {p q : Nat}, Wlk (ptl ws).1 p u q → Wlk (famG ws l ls).2 ((DL.fw (mvs (fE l (ptl ws).1)) ls 0 (ptl ws).2.2).1.idxOf (l.getD p 0)) u ((DL.fw (mvs (fE l (ptl ws).1)) ls 0 (ptl ws).2.2).1.idxOf (l.getD q 0)) := fun {u p q} k =>
      (k.map fun p => (DL.fw (mvs (fE l (ptl ws).1)) ls 0 (ptl ws).2.2).1.idxOf (l.getD p 0)).sub fun e he => mem_numG.mpr (by
        obtain ⟨f, hf, rfl⟩ := List.mem_map.mp he
        exact ⟨_, List.mem_map.mpr ⟨f, hf, rfl⟩, rfl⟩)
    refine ⟨w, hwm, a, b, ?_⟩
    rcases z with ⟨z1, z2, z3⟩ | ⟨z1, z2, z3⟩
    · have k2 := mp z2
      have k3 := mp z3
      rw [l0, i0] at k2
      rw [lx, i0] at k3
      exact .inl ⟨z1, k2, k3⟩
    · have k2 := mp z2
      have k3 := mp z3
      rw [l0, i0] at k2
      rw [lx, i0] at k3
      exact .inr ⟨z1, k2, k3⟩
theorem trv_stp {E : List Ed} {P : List Nat → Prop} (h : ∀ e ∈ E, ∃ w, P w ∧ Trv E w 0 0 e) {p c q : Nat} (k : Stp E p c q) : ∃ w, P w ∧ ∃ a b, (w = a ++ c :: b ∧ Wlk E 0 a p ∧ Wlk E q b 0) ∨ (w = a ++ sw c :: b ∧ Wlk E 0 a q ∧ Wlk E p b 0) := by
  rcases k with ⟨_, y⟩ | ⟨_, hc, y⟩
  · obtain ⟨w, hw, a, b, z⟩ := h _ y
    exact ⟨w, hw, a, b, z⟩
  · obtain ⟨w, hw, a, b, z⟩ := h _ y
    refine ⟨w, hw, a, b, ?_⟩
    rcases z with z | ⟨z1, z2, z3⟩
    · exact .inr z
    · dsimp only at z1
      rw [sw_sw hc] at z1
      exact .inl ⟨z1, z2, z3⟩
/-! ### what goes round tells the graph -/
def Cls (g : Gr) : List Nat → Prop := fun w => Wlk g.2 0 w 0
theorem cls_sgp {g : Gr} (F : Fld g.2) : Sgp (Cls g) := ⟨rfl, fun _ _ h k => (Wlk.app h k).fold F, fun _ h => Wlk.inv h⟩
/-- the graphs answer to one another -/
theorem cls_rel {g1 g2 : Gr} (F1 : Fld g1.2) (F2 : Fld g2.2) (T1 : ∀ e ∈ g1.2, ∃ w, (Lts w ∧ Cls g2 w) ∧ Trv g1.2 w 0 0 e) (T2 : ∀ e ∈ g2.2, ∃ w, (Lts w ∧ Cls g1 w) ∧ Trv g2.2 w 0 0 e)
    (h12 : ∀ w, Cls g1 w → Cls g2 (DL.fold w)) (h21 : ∀ w, Cls g2 w → Cls g1 (DL.fold w)) : Brel (mvs g1.2) (mvs g2.2) LTR (fun i j => ∃ u, Wlk g1.2 0 u i ∧ Wlk g2.2 0 u j) 0 0 := by
  have fn : ∀ {g1 g2 : Gr}, Fld g1.2 → Fld g2.2 → (∀ w, Cls g1 w → Cls g2 (DL.fold w)) → ∀ {i j j' : Nat}, (∃ u, Wlk g1.2 0 u i ∧ Wlk g2.2 0 u j) → (∃ u, Wlk g1.2 0 u i ∧ Wlk g2.2 0 u j') → j = j' := fun {g1 g2} F1 F2 h12 {i j j'} ⟨u, a, b⟩ ⟨v, a', b'⟩ => by
    have lu := a.lts
    have lv := a'.lts
    have liv := inv_lts lv
    have k := h12 _ (a.app a'.inv)
    have k2 := (b.inv.app k).fold F2
    rw [fold_app_r (inv_lts lu) (ltsA lu liv)] at k2
    have e : DL.fold (DL.inv u ++ (u ++ DL.inv v)) = DL.fold (DL.inv v) := by
      have := fold_xx (a := []) (x := u) (b := DL.inv v) lts0 lu liv
      simpa using this
    rw [e] at k2
    have k3 := b'.inv.fold F2
    exact Wlk.det F2 k2.inv k3.inv
  have fwd : ∀ {g1 g2 : Gr}, Fld g1.2 → Fld g2.2 → (∀ e ∈ g1.2, ∃ w, (Lts w ∧ Cls g2 w) ∧ Trv g1.2 w 0 0 e) → (∀ w, Cls g1 w → Cls g2 (DL.fold w)) → ∀ {i j c i2 : Nat}, (∃ u, Wlk g1.2 0 u i ∧ Wlk g2.2 0 u j) → stO (mvs g1.2) i c = some i2 →
      ∃ j2, stO (mvs g2.2) j c = some j2 ∧ ∃ u, Wlk g1.2 0 u i2 ∧ Wlk g2.2 0 u j2 := fun {g1 g2} F1 F2 T1 h12 {i j c i2} h a => by
    have st := stO_mem F1.sm a
    obtain ⟨w, ⟨_, hw⟩, a, b, z⟩ := trv_stp T1 st
    rcases z with ⟨rfl, z1, z2⟩ | ⟨rfl, z1, z2⟩
    · obtain ⟨m, y1, ⟨x, y2, y3⟩⟩ := Wlk.split hw
      have := fn F1 F2 h12 ⟨a, z1, y1⟩ h
      subst this
      exact ⟨x, F2.step y2, a ++ [c], z1.app ⟨i2, st, rfl⟩, y1.app ⟨x, y2, rfl⟩⟩
    · obtain ⟨m, y1, ⟨x, y2, y3⟩⟩ := Wlk.split hw
      have s1 : Wlk g1.2 0 (a ++ [sw c]) i := z1.app ⟨i, st.back, rfl⟩
      have := fn F1 F2 h12 ⟨a ++ [sw c], s1, y1.app ⟨x, y2, rfl⟩⟩ h
      subst this
      have bk := y2.back
      rw [sw_sw st.lt] at bk
      exact ⟨m, F2.step bk, a, z1, y1⟩
  have turn : ∀ {i j : Nat}, (∃ u, Wlk g1.2 0 u i ∧ Wlk g2.2 0 u j) → ∃ u, Wlk g2.2 0 u j ∧ Wlk g1.2 0 u i := fun ⟨u, a, b⟩ => ⟨u, b, a⟩
  refine ⟨⟨[], rfl, rfl⟩, fun h k => fn F1 F2 h12 h k, fun {p p' q} h k => fn F2 F1 h21 (turn h) (turn k), fun _ h a => fwd F1 F2 T1 h12 h a, fun {p q c q'} _ h b => ?_⟩
  obtain ⟨p', x, u, y1, y2⟩ := fwd F2 F1 T2 h21 (turn h) b
  exact ⟨p', x, u, y2, y1⟩
theorem srtE_same {a b : List Ed} (ha : a.Nodup) (hb : b.Nodup) (h : ∀ e, e ∈ a ↔ e ∈ b) : srtE a = srtE b := by
  have pm : (srtE a).Perm (srtE b) := ((srtE_perm a).trans ((List.perm_ext_iff_of_nodup ha hb).mpr h)).trans (srtE_perm b).symm
  have tot := PySem.W.sortLe_total (listOrd itemOrd) false fun e : Ed => (edK e).map tokK
  refine List.Perm.eq_of_pairwise (le := fun a b => PySem.W.sortLe (listOrd itemOrd) false (fun e : Ed => (edK e).map tokK) a b = true) (fun x y _ _ h1 h2 => ?_) (PySem.W.sort_pairwise tot a) (PySem.W.sort_pairwise tot b) pm
  refine tok_inj (lex_total (O := itemOrd) _ _ ?_ ?_)
  · have h2 : (!lexLt itemOrd ((edK x).map tokK) ((edK y).map tokK)) = true := h2
    simpa using h2
  · have h1 : (!lexLt itemOrd ((edK y).map tokK) ((edK x).map tokK)) = true := h1
    simpa using h1
/-- families whose given words go round in each other's graphs have one graph -/
theorem fam_same {ws vs : List (List Nat)} {l m : List Nat} (hw : ∀ w ∈ ws, Lts w) (hv : ∀ w ∈ vs, Lts w) (L : Lsq (ptl ws).1 (ptl ws).2.1 (ptl ws).2.2 l) (L' : Lsq (ptl vs).1 (ptl vs).2.1 (ptl vs).2.2 m) (G : GrOk ws l LTR) (G' : GrOk vs m LTR)
    (h : ∀ w ∈ ws, Cls (famG vs m LTR) (DL.fold w)) (h' : ∀ w ∈ vs, Cls (famG ws l LTR) (DL.fold w)) : famG ws l LTR = famG vs m LTR := by
  have N := G.num hw
  have N' := G'.num hv
  have h12 : ∀ w, Cls (famG ws l LTR) w → Cls (famG vs m LTR) (DL.fold w) := fun w k => sound (cls_sgp N'.fld) hw L G h k
  have h21 : ∀ w, Cls (famG vs m LTR) w → Cls (famG ws l LTR) (DL.fold w) := fun w k => sound (cls_sgp N.fld) hv L' G' h' k
  have B := cls_rel N.fld N'.fld (fun e he => by
    obtain ⟨w, hwm, t⟩ := G.trv hw L e he
    exact ⟨_, ⟨fold_lts (hw w hwm), h w hwm⟩, t⟩) (fun e he => by
    obtain ⟨w, hwm, t⟩ := G'.trv hv L' e he
    exact ⟨_, ⟨fold_lts (hv w hwm), h' w hwm⟩, t⟩) h12 h21
  have R := FwR.all B (max (ptl ws).2.2 (ptl vs).2.2)
  rw [G.fw hw (Nat.le_max_left _ _), G'.fw hv (Nat.le_max_right _ _)] at R
  have hV : (famG ws l LTR).1 = (famG vs m LTR).1 := by
    have := R.len
    rwa [List.length_range, List.length_range] at this
  have id : ∀ k, k < (famG ws l LTR).1 → ∃ u, Wlk (famG ws l LTR).2 0 u k ∧ Wlk (famG vs m LTR).2 0 u k := fun k hk => R.at' k k k (by simp [hk]) (by simp [← hV, hk])
  have one : ∀ e ∈ (famG ws l LTR).2, e ∈ (famG vs m LTR).2 := fun e he => by
    have sm := N.fld.sm e he
    obtain ⟨b1, b2⟩ := N.bd e he
    obtain ⟨j2, s2, r2⟩ := B.fwd (SM_LTR sm) (id e.1 b1) (N.fld.step (Stp.of sm he).1)
    have := B.fn r2 (id e.2.2 b2)
    subst this
    rcases stO_mem N'.fld.sm s2 with ⟨_, y⟩ | ⟨y, _⟩
    · exact y
    · exact absurd y (SM_sw sm)
  have two : ∀ e ∈ (famG vs m LTR).2, e ∈ (famG ws l LTR).2 := fun e he => by
    have sm := N'.fld.sm e he
    obtain ⟨b1, b2⟩ := N'.bd e he
    rw [← hV] at b1 b2
    obtain ⟨j2, s2, r2⟩ := B.bwd (SM_LTR sm) (id e.1 b1) (N'.fld.step (Stp.of sm he).1)
    have := B.inj r2 (id e.2.2 b2)
    subst this
    rcases stO_mem N.fld.sm s2 with ⟨_, y⟩ | ⟨y, _⟩
    · exact y
    · exact absurd y (SM_sw sm)
  refine Prod.ext hV ?_
  unfold famG numG at one two ⊢
  dsimp only at one two ⊢
  refine srtE_same (dd_nd _) (dd_nd _) fun e => ?_
  rw [← (srtE_perm _).mem_iff, ← (srtE_perm (dd ((fE m (ptl vs).1).map _))).mem_iff]
  exact ⟨one e, two e⟩
/-! ### graphs as data -/
theorem eqvAll_eds : ∀ (a b : List Ed), PyData.eqvAll (pyDs (a.map edD)) (pyDs (b.map edD)) = decide (a = b)
  | [], [] => by simp [pyDs, PyData.eqvAll]
  | [], f :: b => by simp [pyDs, PyData.eqvAll]
  | e :: a, [] => by simp [pyDs, PyData.eqvAll]
  | e :: a, f :: b => by
    rw [List.map_cons, List.map_cons, pyDs, pyDs, PyData.eqvAll, eqv_ed, eqvAll_eds a b]
    by_cases h : e = f
    · by_cases k : a = b
      · simp [h, k]
      · simp [h, k]
    · simp [h]
theorem eqv_gr (g h : Gr) : PyData.eqv (pyD (grD g)) (pyD (grD h)) = decide (g = h) := by
  obtain ⟨a, b⟩ := g
  obtain ⟨c, d⟩ := h
  simp only [grD, pyD, pyDs, PyData.eqv, PyData.eqvAll, Bool.and_true, eqvAll_eds]
  by_cases k : a = c
  · by_cases m : b = d
    · simp [k, m]
    · simp [k, m]
  · simp [k, show ¬ ((a : Int) = c) by omega]
theorem plD_gr {g : Gr} (h : ∀ e ∈ g.2, e.2.1 ∈ LTR) : plD 3 (grD g) = true := by
  have hall : (g.2.map edD).all (plD 1) = true := by
    rw [List.all_eq_true]
    intro d hd
    obtain ⟨e, he, rfl⟩ := List.mem_map.mp hd
    exact plD_ed (h e he)
  simp only [grD, plD, plDs, plDs_all, Nat.add_one_sub_one, Bool.and_true]
  simp [hall]
theorem Prod.mono {ws vs : List (List Nat)} (h : ∀ w ∈ ws, w ∈ vs) {w : List Nat} (k : Prod ws w) : Prod vs w := by
  obtain ⟨ps, rfl, z⟩ := k
  exact ⟨ps, rfl, fun p hp => (z p hp).imp (h p) fun ⟨v, hv, e⟩ => ⟨v, h v hv, e⟩⟩
end DL

namespace DL
open PySem PySem.Spec PyProof.Rows L2 TK

theorem iss_erase {st : Addr} {M : List Addr} {H : Hp} : ∀ (n : Nat) {vs : List V} {ds : List D}, Iss st M H vs ds → Iss st M H (vs.eraseIdx n) (ds.eraseIdx n)
  | 0, _, _, .nil => .nil
  | 0, _, _, .cons a b => b
  | n + 1, _, _, .nil => .nil
  | n + 1, _, _, .cons a b => .cons a (iss_erase n b)
section
variable {env : Nv} {nx : Nv → Prop} {rt : D → Prop} {bk ct : Nv → Prop} {K : PySem.W.Frag} {te : TE}
/-- xs.append(xs.pop(e)) -/
theorem ds_appendSelf {i : Nat} {ds : List D} (hi : env[i]? = some (.own (.lst ds))) (hz : ds.length < 1000000)
    (h : De te env fun k => ∃ (n : Nat) (d : D), k = .int (n : Int) ∧ n < 1000000 ∧ ds[n]? = some d ∧ nx (env.set i (.own (.lst (ds.eraseIdx n ++ [d]))))) :
    Ds (tDrop (tBM K "list" rAppend (tVar i) (tCons (tBM K "list" rPopAt (tVar i) (tCons te tNil)) tNil))) env nx rt bk ct := fun B M σ H S E q1 q2 q3 q4 => by
  obtain ⟨p, u, h1, h2, h3, h4, h5⟩ := S.own i _ hi
  cases h5 with
  | @lst vs _ hs =>
    refine ⟨.ref p, h1, .inl ⟨rfl, vs, .of h4⟩, .ref p, h1, .inl ⟨rfl, vs, .of h4⟩, h B M σ H S _ fun v H1 k ⟨n, d, e, hn, hd, hp⟩ S1 e1 i1 => ?_⟩
    subst e
    cases is_int i1
    have h4' : H1 p = some (.lst vs) := e1.1 p _ (fun z => h3 (z ▸ S.st0)) h4
    have hs' : Iss B.st M H1 vs ds := S.iss e1 hs
    obtain ⟨y, hy, iy⟩ := hs'.get hd
    have hlt : n < vs.length := (List.getElem?_eq_some_iff.mp hy).1
    refine ⟨p, vs, n, n, y, rfl, rfl, h4', by omega, by omega, ?_, hy, ?_⟩
    · unfold seqIndex?
      simp
      omega
    have S2 := S1.mutate hi h1 h4' (.lst hs') (.lst (iss_erase n hs'))
    have hl : i < env.length := (List.getElem?_eq_some_iff.mp hi).1
    have hi2 : (env.set i (.own (.lst (ds.eraseIdx n))))[i]? = some (.own (.lst (ds.eraseIdx n))) := List.getElem?_set_self hl
    have nt : ∀ vs, H1 p ≠ some (.tup vs) := fun vs z => by rw [h4'] at z; cases z
    have hs2 : Iss B.st M (upd H1 p (.lst (vs.eraseIdx n))) (vs.eraseIdx n) (ds.eraseIdx n) := (iss_erase n hs').upd h2 nt
    have iy2 : Is B.st M (upd H1 p (.lst (vs.eraseIdx n))) y d := iy.upd h2 nt
    have S3 := S2.mutate hi2 h1 upd_same (.lst hs2) (.lst (hs2.append (.cons iy2 .nil)))
    rw [List.set_set] at S3
    have short : (vs.eraseIdx n).length ≤ vs.length := by rw [List.length_eraseIdx]; split <;> omega
    exact ⟨p, vs.eraseIdx n, y, rfl, rfl, upd_same, Nat.lt_of_le_of_lt short (Nat.lt_of_lt_of_le (by rw [hs'.length]; exact hz) (by decide)), q1 M σ _ _ hp S3⟩
end
/-! ### given words that make the same -/
def Gen (ws vs : List (List Nat)) : Prop := ∀ H, Sgp H → ((∀ v ∈ vs, H (fold v)) ↔ ∀ w ∈ ws, H (fold w))
theorem Gen.refl (ws : List (List Nat)) : Gen ws ws := fun _ _ => Iff.rfl
theorem Gen.perm {ws vs us : List (List Nat)} (h : Gen ws vs) (p : us.Perm vs) : Gen ws us := fun H S => (show (∀ v ∈ us, H (fold v)) ↔ ∀ v ∈ vs, H (fold v) from ⟨fun k v hv => k v (p.mem_iff.mpr hv), fun k v hv => k v (p.mem_iff.mp hv)⟩).trans (h H S)
theorem Gen.dup {ws vs : List (List Nat)} {v : List Nat} (h : Gen ws vs) (hv : v ∈ vs) : Gen ws (vs ++ [v]) := fun H S => (show (∀ u ∈ vs ++ [v], H (fold u)) ↔ ∀ u ∈ vs, H (fold u) from ⟨fun k u hu => k u (List.mem_append_left _ hu), fun k u hu => (List.mem_append.mp hu).elim (k u) fun z => by rw [List.mem_singleton.mp z]; exact k v hv⟩).trans (h H S)
theorem all_set {P : List Nat → Prop} {vs : List (List Nat)} {n : Nat} {x : List Nat} (hn : n < vs.length) : (∀ u ∈ vs.set n x, P u) ↔ P x ∧ ∀ (j : Nat) u, j ≠ n → vs[j]? = some u → P u := by
  constructor
  · refine fun k => ⟨k x (List.mem_of_getElem? (List.getElem?_set_self hn)), fun j u hj hu => k u (List.mem_of_getElem? (i := j) ?_)⟩
    rw [List.getElem?_set_ne (Ne.symm hj)]
    exact hu
  · rintro ⟨k1, k2⟩ u hu
    obtain ⟨j, hj⟩ := List.mem_iff_getElem?.mp hu
    by_cases e : j = n
    · subst e
      rw [List.getElem?_set_self hn] at hj
      cases hj
      exact k1
    · rw [List.getElem?_set_ne (Ne.symm e)] at hj
      exact k2 j u e hj
theorem Gen.at' {ws vs : List (List Nat)} {n : Nat} {v x : List Nat} (h : Gen ws vs) (hv : vs[n]? = some v) (hx : ∀ H, Sgp H → (∀ (j : Nat) u, j ≠ n → vs[j]? = some u → H (fold u)) → (H (fold x) ↔ H (fold v))) : Gen ws (vs.set n x) := fun H S => by
  have hn := (List.getElem?_eq_some_iff.mp hv).1
  rw [← h H S, all_set (P := fun u => H (fold u)) hn]
  have self : vs.set n v = vs := by
    have := (List.getElem?_eq_some_iff.mp hv).2
    rw [← this]
    exact List.set_getElem_self hn
  have old := all_set (P := fun u => H (fold u)) (vs := vs) (x := v) hn
  rw [self] at old
  rw [old]
  exact ⟨fun ⟨a, b⟩ => ⟨(hx H S b).mp a, b⟩, fun ⟨a, b⟩ => ⟨(hx H S b).mpr a, b⟩⟩
theorem Gen.turn {ws vs : List (List Nat)} {n : Nat} {v : List Nat} (h : Gen ws vs) (hv : vs[n]? = some v) (lv : Lts v) : Gen ws (vs.set n (inv v)) :=
  h.at' hv fun H S _ => ⟨fun k => by have := S.back (inv_lts lv) k; rwa [inv_inv lv] at this, S.back lv⟩
theorem Gen.put {ws vs : List (List Nat)} {n m : Nat} {v o : List Nat} (h : Gen ws vs) (hv : vs[n]? = some v) (ho : vs[m]? = some o) (hm : m ≠ n) (lv : Lts v) (lo : Lts o) : Gen ws (vs.set n (v ++ o)) :=
  h.at' hv fun H S k => by
    have ko := k m o hm ho
    refine ⟨fun z => ?_, fun z => S.app lv lo z ko⟩
    have := S.app (ltsA lv lo) (inv_lts lo) z (S.back lo ko)
    have e : fold (v ++ o ++ inv o) = fold v := by
      rw [List.append_assoc]
      have := fold_cong lv lv (ltsA lo (inv_lts lo)) lts0 rfl (show fold (o ++ inv o) = fold [] by rw [fold_self_inv lo]; rfl)
      rwa [List.append_nil] at this
    rwa [e] at this
end DL

namespace DL
open PySem PySem.Spec PyProof.Rows L2 TK

/-! ### the places found, with their words, from the a-th on -/
def entD (w : List Nat) (v : Nat) : D := .tup [.str w, .int (v : Int)]
def ents (s : Fd) (a : Nat) : List D := ((s.2.zip s.1).drop a).map fun x => entD x.1 x.2
theorem ents_len {s : Fd} (h : s.2.length = s.1.length) (a : Nat) : (ents s a).length = s.1.length - a := by
  unfold ents
  rw [List.length_map, List.length_drop, List.length_zip, h, Nat.min_self]
theorem ents_get {s : Fd} (h : s.2.length = s.1.length) {a i : Nat} {d : D} (hd : (ents s a)[i]? = some d) : a + i < s.1.length ∧ d = entD (s.2.getD (a + i) []) (s.1.getD (a + i) 0) := by
  unfold ents at hd
  rw [List.getElem?_map, List.getElem?_drop] at hd
  obtain ⟨x, hx, rfl⟩ := Option.map_eq_some_iff.mp hd
  obtain ⟨h1, h2⟩ := List.getElem?_zip_eq_some.mp hx
  refine ⟨(List.getElem?_eq_some_iff.mp h2).1, ?_⟩
  rw [List.getD_eq_getElem?_getD, List.getD_eq_getElem?_getD, h1, h2]
  rfl
theorem ents_snoc {s : Fd} (h : s.2.length = s.1.length) {b : Nat} (hb : b ≤ s.1.length) (q : Nat) (w : List Nat) : ents (s.1 ++ [q], s.2 ++ [w]) b = ents s b ++ [entD w q] := by
  unfold ents
  dsimp only
  rw [List.zip_append h, List.drop_append_of_le_length (by rw [List.length_zip, h, Nat.min_self]; exact hb), List.map_append]
  rfl
/-! ### paths are short -/
theorem GrOk.near {r : Nat} {ws : List (List Nat)} {l ls : List Nat} (hw : ∀ w ∈ ws, Lts w) (hz : ∀ w ∈ ws, w.length ≤ r) (hl : ∀ w ∈ ws, ∀ c ∈ w, c ∈ ls) (hA : Asc ls) (L : Lsq (ptl ws).1 (ptl ws).2.1 (ptl ws).2.2 l) (G : GrOk ws l ls) {k : Nat} (hk : k < (famG ws l ls).1) : ∃ u, Wlk (famG ws l ls).2 0 u k ∧ u.length ≤ r ∧ ∀ c ∈ u, c ∈ ls := by
  have P1 := (ptl_ok hw).len
  rcases Nat.eq_zero_or_pos k with z | z
  · exact ⟨[], z.symm, Nat.zero_le _, (fun _ y => nomatch y)⟩
  · have M := mvs_mv G.bd
    obtain ⟨t, c, ht, hs⟩ := fw_tree M hA (by omega) z hk
    have W := (WI.range (ls := ls) M (show 0 < (ptl ws).2.2 by omega) (ptl ws).2.2).1
    have ix : ∀ i, i < (famG ws l ls).1 → (DL.fw (mvs (fE l (ptl ws).1)) ls 0 (ptl ws).2.2).1.idxOf ((DL.fw (mvs (fE l (ptl ws).1)) ls 0 (ptl ws).2.2).1.getD i 0) = i := fun i hi => by
      have hi : i < (DL.fw (mvs (fE l (ptl ws).1)) ls 0 (ptl ws).2.2).1.length := hi
      rw [List.getD_eq_getElem?_getD, List.getElem?_eq_getElem hi, Option.getD_some]
      exact List.Nodup.idxOf_getElem W.nd i hi
    have st := ((stO_mem G.fld.sm hs).map fun p => (DL.fw (mvs (fE l (ptl ws).1)) ls 0 (ptl ws).2.2).1.idxOf p).sub (fs := (famG ws l ls).2) fun e he => by
      obtain ⟨f, hf, rfl⟩ := List.mem_map.mp he
      exact mem_numG.mpr ⟨f, hf, rfl⟩
    rw [ix t (by omega), ix k hk] at st
    obtain ⟨w, hw', a, b, h⟩ := trv_stp (P := fun w => ∃ v ∈ ws, w = DL.fold v) (fun e he => by
      obtain ⟨w, hw', t⟩ := G.trv hw L e he
      exact ⟨_, ⟨w, hw', rfl⟩, t⟩) st
    obtain ⟨v, hv, rfl⟩ := hw'
    have hfl := fold_len v
    have hvz := hz v hv
    have hvl := fold_in (hl v hv)
    rcases h with ⟨e, h1, h2⟩ | ⟨e, h1, h2⟩
    · refine ⟨a ++ [c], h1.app ⟨k, st, rfl⟩, ?_, fun x hx => hvl x (by rw [e]; simp only [List.mem_append, List.mem_cons, List.not_mem_nil, or_false] at hx ⊢; exact hx.imp_right .inl)⟩
      have := congrArg List.length e
      simp only [List.length_append, List.length_cons, List.length_nil] at this ⊢
      omega
    · refine ⟨a, h1, ?_, fun x hx => hvl x (by rw [e]; exact List.mem_append_left _ hx)⟩
      have := congrArg List.length e
      simp only [List.length_append, List.length_cons] at this
      omega
theorem ltW_len {u v : List Nat} (h : ltW u v = false) : v.length ≤ u.length := by
  rcases Nat.lt_or_ge u.length v.length with z | z
  · have : ltW u v = true := ltW_iff.mpr (.inl z)
    rw [h] at this
    cases this
  · exact z
theorem pre_get {α : Type} {l m : List α} (h : l <+: m) {t : Nat} (ht : t < l.length) (d : α) : m.getD t d = l.getD t d := by
  obtain ⟨r, rfl⟩ := h
  rw [List.getD_eq_getElem?_getD, List.getElem?_append_left ht, ← List.getD_eq_getElem?_getD]
theorem fw_pre {kvs : List (List Key × V)} {ls : List Nat} {p0 N : Nat} (M : Mv kvs N) (h0 : p0 < N) (a : Nat) : ∀ i, (fw kvs ls p0 a).1 <+: (fw kvs ls p0 (a + i)).1 ∧ (fw kvs ls p0 a).2 <+: (fw kvs ls p0 (a + i)).2
  | 0 => ⟨List.prefix_rfl, List.prefix_rfl⟩
  | i + 1 => by
    obtain ⟨x, y⟩ := fw_pre M h0 a i
    have W := (WI.range (ls := ls) M h0 (a + i)).1
    rw [← Nat.add_assoc, fw_succ]
    unfold fwT
    split
    · rename_i ht
      obtain ⟨_, b1, b2, _⟩ := W.stepLs M ls ht fun _ z => z
      exact ⟨x.trans b1, y.trans b2⟩
    · exact ⟨x, y⟩
/-- in the midst of a turn -/
theorem fw_mid {kvs : List (List Key × V)} {ls : List Nat} {p0 N : Nat} (M : Mv kvs N) (h0 : p0 < N) {t : Nat} (ht : t < (fw kvs ls p0 t).1.length) (j : Nat) : WI kvs ls p0 N ((ls.take j).foldl (fwL kvs t) (fw kvs ls p0 t)) ∧ t < ((ls.take j).foldl (fwL kvs t) (fw kvs ls p0 t)).1.length ∧
    ((ls.take j).foldl (fwL kvs t) (fw kvs ls p0 t)).1.getD t 0 = (fw kvs ls p0 t).1.getD t 0 ∧ ((ls.take j).foldl (fwL kvs t) (fw kvs ls p0 t)).2.getD t [] = (fw kvs ls p0 t).2.getD t [] ∧ (fw kvs ls p0 t).1.length ≤ ((ls.take j).foldl (fwL kvs t) (fw kvs ls p0 t)).1.length := by
  have W := (WI.range (ls := ls) M h0 t).1
  obtain ⟨a, b1, b2, _⟩ := W.stepLs M (ls.take j) ht fun _ z => List.mem_of_mem_take z
  exact ⟨a, Nat.lt_of_lt_of_le ht b1.length_le, pre_get b1 ht 0, pre_get b2 (by rw [W.len]; exact ht) [], b1.length_le⟩
end DL

namespace DL
open PySem PySem.Spec PyProof.Rows L2 TK

/-! ### errors that are raised: the class's name, its fields (the last one set comes first) -/
abbrev Xn := Str × List (Str × D)
def XOk (mg : Str → Option Value) (st : Addr) (M : List Addr) (x : Xn) (cls : Value) (d : Option Addr) (H : Hp) : Prop :=
  ∃ (C dd : Addr) (vs : List V), mg x.1 = some (.ref C) ∧ cls = .ref C ∧ d = some dd ∧ dd ∉ M ∧ H dd = some (.xd ((x.2.map (·.1)).zip vs)) ∧ x.2.length = vs.length ∧ Iss st M H vs (x.2.map (·.2))
structure FSX extends FS where
  xr : α → Xn → Prop
def PFX (mg : Str → Option Value) (F : FSX) : Sp := fun vs H Q E => ∃ (a : F.α) (st : Addr) (M : List Addr), Stm st M H ∧ st ∈ M ∧ (∀ b ∈ M, ∃ o, H b = some o) ∧ Iss st M H vs (F.arg a) ∧ F.pre a ∧
  (∀ r H' d, F.rel a d → Fx st H H' → Is st M H' r d → Q r H') ∧ ∀ cls d H' x, F.xr a x → Fx st H H' → XOk mg st M x cls d H' → E cls d H'
structure CalX (P : Program) (w : World) (K : PySem.W.Frag) (mg : Str → Option Value) (base : Heap) (k : Nat) (x : Str) (sp : Sp) : Prop where
  ex : ∃ (f : Addr) (fd : FuncData) (ps : List Str), FnOk P w K mg base (L2.CX P w) k f fd ps sp ∧ mg x = some (.ref f) ∧ PySem.W.keepIn K (.ref f) = true ∧ Binds K fd ps []
section
variable {X : Cx} {W : WX} {x : Str} {k j : Nat} {sp : Sp} {p pos pos2 : Pos} {e : Expr} {es : List Expr} {ta : TA} {te : TE}
theorem pe_x (c : CalX X.prog X.w X.K X.mg X.base k x sp) (hr : Room j X.A) (hk : k ≤ j) (hg : Gl X x) (tk : Takes X W) (ha : PA X (e :: es) ta)
    (hdb : (x == ("__debug__" : Str)) = false := by decide) (he : starEach (e :: es) X.env = (false, eval e X.env) :: starEach es X.env := by rfl) (hpl : (backTo pos (starEach es X.env)).any (·.1) = false := by rfl) :
    PE X (.Call (.Name x p) (e :: es) [] pos) (tCallS sp (WE W) ta) := by
  obtain ⟨f, fd, ps, F, hm, kp, b⟩ := c.ex
  exact pe_callS F (hr.mono hk) hg hm kp b (fun σ => passAt tk σ) ha hdb he hpl
/-- readings made such that a weaker wish may be put -/
def upA (ta : TA) : TA := fun σ H Q => ∃ Q0, ta σ H Q0 ∧ ∀ vs H1, Q0 vs H1 → Q vs H1
def upE (te : TE) : TE := fun σ H Q => ∃ Q0, te σ H Q0 ∧ ∀ v H1, Q0 v H1 → Q v H1
theorem pa_up (h : PA X es ta) : PA X es (upA ta) := ⟨fun pins pos s σ H Q I ⟨Q0, h0, m⟩ =>
  wpAny_mono (h.run pins pos s σ H Q0 I h0) (fun us s1 ⟨vs, H1, I1, r, q⟩ => ⟨vs, H1, I1, r, m vs H1 q⟩) fun _ _ z => z⟩
theorem pe_up (h : PE X e te) : PE X e (upE te) := ⟨fun pins s σ H Q I ⟨Q0, h0, m⟩ =>
  wpAny_mono (h.run pins s σ H Q0 I h0) (fun us s1 ⟨vs, H1, I1, r, q⟩ => ⟨vs, H1, I1, r, m vs H1 q⟩) fun _ _ z => z⟩
end

/-- a call of a def that may raise, told for good arguments alone, and for bad ones -/
def tCallJ (s1 s2 : Sp) (E : L2.St → XK) (ta : TA) : TE := fun σ H Q => ta σ H fun vs H1 => s1 vs H1 Q E0 ∨ s2 vs H1 Q (E σ)
section
variable {X : Cx} {W : WX} {x : Str} {k1 k2 j : Nat} {s1 s2 : Sp} {p pos : Pos} {e : Expr} {es : List Expr} {ta : TA}
theorem pe_xj (c : C8.Cal X.prog X.w X.K X.mg X.base k1 x s1 []) (cx : CalX X.prog X.w X.K X.mg X.base k2 x s2) (hr : Room j X.A) (hk : k1 ≤ j ∧ k2 ≤ j) (hg : Gl X x) (tk : Takes X W) (ha : PA X (e :: es) ta)
    (hdb : (x == ("__debug__" : Str)) = false := by decide) (he : starEach (e :: es) X.env = (false, eval e X.env) :: starEach es X.env := by rfl) (hpl : (backTo pos (starEach es X.env)).any (·.1) = false := by rfl) :
    PE X (.Call (.Name x p) (e :: es) [] pos) (tCallJ s1 s2 (WE W) ta) := by
  obtain ⟨f, fd, ps, ds, F, hm, kp, b, dv⟩ := c.ex
  obtain ⟨f', fd', ps', F', hm', kp', b'⟩ := cx.ex
  have ef : f' = f := by rw [hm] at hm'; cases hm'; rfl
  subst ef
  exact ⟨fun pins s σ H Q I h => wpAny_Call_Name_kw (ld_glob I hg hm
    (PySem.W.callWith_K (h₀ := X.base) I.ok.mod.kin kp (thn (ha.run pos pins s σ H _ I h) fun us s1 ⟨vs, H1, I1, r, q⟩ => ⟨I1.kIn, q.elim
      (fun q => run_fn F (hr.mono hk.1) b dv pass0 I1 r (by cases dv; rw [List.append_nil]; exact q))
      (fun q => run_fnS F' (hr.mono hk.2) b' (passAt tk σ) I1 r q)⟩) he hpl) hdb)⟩
end

/-! ### raise X(..) -/
/-- what __init__ of an own error keeps: each parameter is stored under its name -/
def spI (K : PySem.W.Frag) (fs : List Str) : Sp := fun vs H Q _ => ∃ (a C : Addr) (ys : List V), vs = .ref a :: ys ∧ ys.length = fs.length ∧ OexC K C ∧ (∀ f ∈ fs, PySem.W.findIn K (.ref C) f = some none) ∧ H a = some (exo a C none) ∧
  ∀ dx, H dx = none → dx ≠ a → Q .non (upd (upd H dx (exd dx (fs.zip ys).reverse)) a (exo a C (some dx)))
structure MakX (K : PySem.W.Frag) (mg : Str → Option Value) (x : Str) (fs : List Str) : Prop where
  ex : ∃ (C fI : Addr) (fd : FuncData), OexC K C ∧ PySem.W.findIn K (.ref C) "__init__" = some (some (.ref fI)) ∧ PySem.W.typeIn K (.ref fI) = some (.type "function") ∧ (∀ (P : Program) (w : World) (base : Heap), FnOk P w K mg base CX0 1 fI fd ("self" :: fs) (spI K fs)) ∧ mg x = some (.ref C) ∧
    Binds K fd ("self" :: fs) [] ∧ ∀ f ∈ fs, PySem.W.findIn K (.ref C) f = some none
def tRaiseX (mg : Str → Option Value) (x : Str) (fs : List Str) (W : WX) (ta : TA) : TS := fun _ σ H => ta σ H fun vs H1 => vs.length = fs.length ∧ fs.length ≤ 900 ∧ ∀ C dd, mg x = some (.ref C) → H1 dd = none → W (.ref C) (some dd) σ (upd H1 dd (.xd (fs.zip vs).reverse))
section
variable {X : Cx} {W : WX} {x : Str} {k j : Nat} {p pos pos2 : Pos} {e : Expr} {es : List Expr} {ta : TA} {fs : List Str}
theorem upd_back {H : Hp} {a dx : Addr} {o1 o2 o3 u : HO} (hn : H a = none) (ne : dx ≠ a) : upd (del (upd (upd (upd H a o1) dx o2) a o3) a) dx u = upd H dx u := by
  funext b
  by_cases h : b = dx
  · rw [h, upd_same, upd_same]
  · rw [upd_ne h, upd_ne h]
    by_cases h2 : b = a
    · rw [h2, del_same, hn]
    · rw [del_ne h2, upd_ne h2, upd_ne h, upd_ne h2]
theorem ps_raiseX (hc : X.calm = true) (m : MakX X.K X.mg x fs) (hr : Room j X.A) (hj : 2 ≤ j) (hg : Gl X x) (tk : Takes X W) (ha : PA X (e :: es) ta)
    (hdb : (x == ("__debug__" : Str)) = false := by decide) (he : starEach (e :: es) X.env = (false, eval e X.env) :: starEach es X.env := by rfl) (hpl : (backTo pos (starEach es X.env)).any (·.1) = false := by rfl) :
    PS X (.Raise (some (.Call (.Name x p) (e :: es) [] pos)) none pos2) (tRaiseX X.mg x fs W ta) := by
  obtain ⟨C, fI, fd, T, iC, tI, F1, hm, hb, hno⟩ := m.ex
  have P := ps_raise (pos := pos2) hc tk (pmk_oex (p := p) (pos := pos) (dvs := []) T iC tI (F1 X.prog X.w X.base) (hr.mono hj) hb .nil pass0 hg hm (pa_up ha) hdb he hpl)
  refine ⟨fun pins s σ H D I h => P.run pins s σ H D I ⟨_, h, fun vs H1 ⟨hl, hf, q⟩ => ⟨by omega, fun a ha => ⟨a, C, vs, by rw [List.append_nil], hl, T, hno, upd_same, fun dx hd ne => ⟨rfl, dx, (fs.zip vs).reverse, upd_same, ?_, ?_, ?_⟩⟩⟩⟩⟩
  · rw [upd_ne ne, upd_same]
  · rw [upd_ne ne] at hd
    exact hd
  · rw [upd_ne ne] at hd
    rw [upd_back ha ne]
    exact q C dx hm hd
end
section
variable {P : Program} {w : World} {K : PySem.W.Frag} {mg : Str → Option Value} {base : Heap}
/-- def __init__(self, f): self.f = f -/
theorem init1 {qual f : Str} {st : Stmt} {g : Addr} {fd : FuncData} {p1 p2 p3 p4 : Pos} (F : Fun K "__init__" qual st g fd) (S : FnScope ["self", f] ["self", f] (defScope st)) (hb : defBody st = [.Assign [.Attribute (.Name "self" p1) f p2] (.Name f p3) p4])
    (h1 : Vis (defScope st) "self") (h2 : Vis (defScope st) f) (hd : (f == ("__debug__" : Str)) = false) (hcd : (f == ("__classdict__" : Str)) = false) : FnOk P w K mg base CX0 1 g fd ["self", f] (spI K [f]) := by
  refine F.ok S (fun vs H Q E h => ?_) (fun cdv A outer s H vs Q E hr h => ?_)
  · obtain ⟨a, C, ys, rfl, hl, _⟩ := h
    rw [List.length_cons, hl]
    rfl
  · obtain ⟨a, C, ys, rfl, hl, T, hno, ha, q⟩ := h
    obtain ⟨y, rfl⟩ : ∃ y, ys = [y] := List.length_eq_one_iff.mp hl
    rw [hb]
    exact ⟨_, pss_one (ps_ost (pe_var (i := 0) rfl h1 (by decide) (by decide)) (pe_var (i := 1) rfl h2 hd hcd)), y, rfl, .ref a, rfl, a, C, rfl, T, hno f (by simp), .inl ⟨ha, fun dx n ne => q dx n ne⟩⟩
theorem upd_over {H : Hp} {a dx : Addr} {o1 o2 o3 : HO} (ne : dx ≠ a) : upd (upd (upd H dx o1) a o2) dx o3 = upd (upd H dx o3) a o2 := by
  funext b
  by_cases h : b = dx
  · rw [h, upd_same, upd_ne ne, upd_same]
  · rw [upd_ne h]
    by_cases h2 : b = a
    · rw [h2, upd_same, upd_same]
    · rw [upd_ne h2, upd_ne h, upd_ne h2, upd_ne h]
/-- def __init__(self, f, g): self.f = f; self.g = g -/
theorem init2 {qual f f2 : Str} {st : Stmt} {g : Addr} {fd : FuncData} {p1 p2 p3 p4 q1 q2 q3 q4 : Pos} (F : Fun K "__init__" qual st g fd) (S : FnScope ["self", f, f2] ["self", f, f2] (defScope st))
    (hb : defBody st = [.Assign [.Attribute (.Name "self" p1) f p2] (.Name f p3) p4, .Assign [.Attribute (.Name "self" q1) f2 q2] (.Name f2 q3) q4])
    (h1 : Vis (defScope st) "self") (h2 : Vis (defScope st) f) (h3 : Vis (defScope st) f2) (hd : (f == ("__debug__" : Str)) = false) (hcd : (f == ("__classdict__" : Str)) = false) (hd2 : (f2 == ("__debug__" : Str)) = false) (hcd2 : (f2 == ("__classdict__" : Str)) = false) : FnOk P w K mg base CX0 1 g fd ["self", f, f2] (spI K [f, f2]) := by
  refine F.ok S (fun vs H Q E h => ?_) (fun cdv A outer s H vs Q E hr h => ?_)
  · obtain ⟨a, C, ys, rfl, hl, _⟩ := h
    rw [List.length_cons, hl]
    rfl
  · obtain ⟨a, C, ys, rfl, hl, T, hno, ha, q⟩ := h
    obtain ⟨y, z, rfl⟩ : ∃ y z, ys = [y, z] := match ys, hl with
      | [y, z], _ => ⟨y, z, rfl⟩
    rw [hb]
    refine ⟨_, pss_cons (ps_ost (pe_var (i := 0) rfl h1 (by decide) (by decide)) (pe_var (i := 1) rfl h2 hd hcd)) (pss_one (ps_ost (pe_var (i := 0) rfl h1 (by decide) (by decide)) (pe_var (i := 2) rfl h3 hd2 hcd2))), y, rfl, .ref a, rfl, a, C, rfl, T, hno f (by simp), .inl ⟨ha, fun dx n ne => ?_⟩⟩
    refine ⟨z, rfl, .ref a, rfl, a, C, rfl, T, hno f2 (by simp), .inr ⟨dx, [(f, y)], upd_same, ?_, by simp, ?_⟩⟩
    · rw [upd_ne ne, upd_same]
    · have := q dx n ne
      rw [upd_over ne]
      exact this
end

section
variable {K : PySem.W.Frag} {h : Heap} {mg : Str → Option Value} {x qual : Str} {C fI : Addr}
theorem oexC_of {nm q : Str} {N : Addr} {bs bm : List Value} {sn : List Str} {sub : List Value} {ab : Bool} {col : Option Bool} {dd : Option Addr} {m0 m1 m2 m3 m5 : Option Value} (xL : K.lookup C = some (excClassObj nm q C N bs bm true sn sub ab col dd m0 m1 m2 m3 m5 "ValueError.__new__")) (hbm : PySem.HandSPX.refsVE bm = true)
    (sa : PySem.W.findIn K (.ref C) "__setattr__" = some (some (.builtin "object.__setattr__"))) (eC : PySem.W.subIn K (.ref C) (.type "BaseException") = some true) (tC : PySem.W.typeIn K (.ref C) = some (.type "type")) (kC : PySem.W.keepIn K (.ref C) = true) : OexC K C :=
  ⟨⟨nm, q, N, bs, bm, sn, sub, ab, col, dd, m0, m1, m2, m3, m5, xL, hbm⟩, sa, eC, tC, kC⟩
theorem makX1 {f : Str} {st : Stmt} {oc : Value} {od an : Option Addr} {osl : Array (Option Value)} {kV doc pm cdv ct : Value} {p1 p2 p3 p4 : Pos} (X : K.In h) (G : h.Ns mainGlobals mg) (aC : PySem.W.nsIn K mainGlobals x = some (some (.ref C))) (T : OexC K C) (iC : PySem.W.findIn K (.ref C) "__init__" = some (some (.ref fI)))
    (tI : PySem.W.typeIn K (.ref fI) = some (.type "function")) (l : K.lookup fI = some ⟨oc, od, .func (PySem.W.fnOf "__init__" qual (defArgs st) (defBody st) (defScope st) .none kV doc pm an cdv ct), osl⟩) (c : PySem.W.codeIn K cdv qual = true) (k : PySem.W.keepIn K (.ref fI) = true) (hno : PySem.W.findIn K (.ref C) f = some none)
    (S : FnScope ["self", f] ["self", f] (defScope st)) (hb : defBody st = [.Assign [.Attribute (.Name "self" p1) f p2] (.Name f p3) p4])
    (h1 : Vis (defScope st) "self") (h2 : Vis (defScope st) f) (hd : (f == ("__debug__" : Str)) = false) (hcd : (f == ("__classdict__" : Str)) = false)
    (bb : ∀ (kV doc pm : Value) (an : Option Addr) (cdv ct : Value) (us : List Value), us.length = (["self", f] : List Str).length → bindArgs (PySem.W.fnOf "__init__" qual (defArgs st) (defBody st) (defScope st) .none kV doc pm an cdv ct) ⟨us, []⟩ = pure ((["self", f] : List Str).zip us)) : MakX K mg x [f] :=
  ⟨C, fI, _, T, iC, tI, fun P w base => init1 (fun_mk l c k) S hb h1 h2 hd hcd, PySem.W.mg_of X G aC, (fun_mk l c k).binds bb, fun y hy => by rw [List.mem_singleton.mp hy]; exact hno⟩
theorem makX2 {f f2 : Str} {st : Stmt} {oc : Value} {od an : Option Addr} {osl : Array (Option Value)} {kV doc pm cdv ct : Value} {p1 p2 p3 p4 q1 q2 q3 q4 : Pos} (X : K.In h) (G : h.Ns mainGlobals mg) (aC : PySem.W.nsIn K mainGlobals x = some (some (.ref C))) (T : OexC K C) (iC : PySem.W.findIn K (.ref C) "__init__" = some (some (.ref fI)))
    (tI : PySem.W.typeIn K (.ref fI) = some (.type "function")) (l : K.lookup fI = some ⟨oc, od, .func (PySem.W.fnOf "__init__" qual (defArgs st) (defBody st) (defScope st) .none kV doc pm an cdv ct), osl⟩) (c : PySem.W.codeIn K cdv qual = true) (k : PySem.W.keepIn K (.ref fI) = true) (hno : PySem.W.findIn K (.ref C) f = some none) (hno2 : PySem.W.findIn K (.ref C) f2 = some none)
    (S : FnScope ["self", f, f2] ["self", f, f2] (defScope st)) (hb : defBody st = [.Assign [.Attribute (.Name "self" p1) f p2] (.Name f p3) p4, .Assign [.Attribute (.Name "self" q1) f2 q2] (.Name f2 q3) q4])
    (h1 : Vis (defScope st) "self") (h2 : Vis (defScope st) f) (h3 : Vis (defScope st) f2) (hd : (f == ("__debug__" : Str)) = false) (hcd : (f == ("__classdict__" : Str)) = false) (hd2 : (f2 == ("__debug__" : Str)) = false) (hcd2 : (f2 == ("__classdict__" : Str)) = false)
    (bb : ∀ (kV doc pm : Value) (an : Option Addr) (cdv ct : Value) (us : List Value), us.length = (["self", f, f2] : List Str).length → bindArgs (PySem.W.fnOf "__init__" qual (defArgs st) (defBody st) (defScope st) .none kV doc pm an cdv ct) ⟨us, []⟩ = pure ((["self", f, f2] : List Str).zip us)) : MakX K mg x [f, f2] :=
  ⟨C, fI, _, T, iC, tI, fun P w base => init2 (fun_mk l c k) S hb h1 h2 h3 hd hcd hd2 hcd2, PySem.W.mg_of X G aC, (fun_mk l c k).binds bb, fun y hy => by
    rcases List.mem_cons.mp hy with rfl | hy
    · exact hno
    · rw [List.mem_singleton.mp hy]; exact hno2⟩
end

/-! ### judgements with errors -/
section
variable (mg : Str → Option Value)
def DeW (te : TE) (W : WX) (env : Nv) (post : D → Prop) (xt : Xn → Prop) : Prop := ∀ B M σ H, Sr B M σ H env → ∀ Q : VK,
  (∀ v H' d, post d → Sr B M σ H' env → Fx B.st H H' → Is B.st M H' v d → Q v H') → (∀ cls d H' x, xt x → Sr B M σ H' env → XOk mg B.st M x cls d H' → W cls d σ H') → te σ H Q
def DtW (tt : TT) (W : WX) (env : Nv) (post : Bool → Prop) (xt : Xn → Prop) : Prop := ∀ B M σ H, Sr B M σ H env → ∀ Q : Bool → Hp → Prop,
  (∀ b H', post b → Sr B M σ H' env → Fx B.st H H' → Q b H') → (∀ cls d H' x, xt x → Sr B M σ H' env → XOk mg B.st M x cls d H' → W cls d σ H') → tt σ H Q
def DsW (ts : TS) (W : WX) (env : Nv) (nx : Nv → Prop) (rt : D → Prop) (bk ct : Nv → Prop) (xt : Nv → Xn → Prop) : Prop := ∀ B M σ H, Sr B M σ H env → ∀ D : Ends,
  (∀ M' σ' H' env', nx env' → Sr B M' σ' H' env' → D.nx σ' H') →
  (∀ v H' d, rt d → Fx B.st B.H0 H' → Is B.st B.M0 H' v d → D.rt v H') →
  (∀ M' σ' H' env', bk env' → Sr B M' σ' H' env' → D.bk σ' H') →
  (∀ M' σ' H' env', ct env' → Sr B M' σ' H' env' → D.ct σ' H') →
  (∀ M' σ' H' env' x cls d, xt env' x → Sr B M' σ' H' env' → XOk mg B.st M' x cls d H' → W cls d σ' H') → ts D σ H
end
section
variable {mg : Str → Option Value} {W : WX} {env : Nv} {post : D → Prop} {postb : Bool → Prop} {xt : Xn → Prop} {te tb : TE} {tt tu : TT} {tas : TA} {t u : TS} {nx bk ct : Nv → Prop} {rt : D → Prop} {xs : Nv → Xn → Prop} {K : PySem.W.Frag}
theorem dew_of (h : De te env post) : DeW mg te W env post xt := fun B M σ H S Q q _ => h B M σ H S Q q
theorem dtw_of (h : Dt tt env postb) : DtW mg tt W env postb xt := fun B M σ H S Q q _ => h B M σ H S Q q
theorem dw_of (h : Ds t env nx rt bk ct) : DsW mg t W env nx rt bk ct xs := fun B M σ H S D q1 q2 q3 q4 _ => h B M σ H S D q1 q2 q3 q4
theorem dew_call {F : FSX} (h : Da tas env fun xs => ∃ a : F.α, xs = F.arg a ∧ F.pre a ∧ (∀ d, F.rel a d → post d) ∧ ∀ x, F.xr a x → xt x) : DeW mg (tCallS (PFX mg F) (WE W) tas) W env post xt := fun B M σ H S Q q qx =>
  h B M σ H S _ fun vs H2 xs ⟨a, ea, p, r, x⟩ S2 e2 i2 => ⟨a, B.st, M, S2.stm, S2.stM, S2.trk, by rw [← ea]; exact i2, p, fun v H' d hd e3 i3 => q v H' d (r d hd) (S2.fx e3) (e2.trans e3) i3, fun cls d H' y hy e3 k => qx cls d H' y (x y hy) (S2.fx e3) k⟩
theorem dew_callJ {G : FS} {F : FSX} (h : Da tas env fun xs => (∃ a : G.α, xs = G.arg a ∧ G.pre a ∧ ∀ d, G.rel a d → post d) ∨ ∃ a : F.α, xs = F.arg a ∧ F.pre a ∧ (∀ d, F.rel a d → post d) ∧ ∀ x, F.xr a x → xt x) : DeW mg (tCallJ (PF G) (PFX mg F) (WE W) tas) W env post xt := fun B M σ H S Q q qx =>
  h B M σ H S _ fun vs H2 xs hh S2 e2 i2 => hh.imp
    (fun ⟨a, ea, p, r⟩ => ⟨a, B.st, M, S2.stm, S2.stM, S2.trk, by rw [← ea]; exact i2, p, fun v H' d hd e3 i3 => q v H' d (r d hd) (S2.fx e3) (e2.trans e3) i3⟩)
    fun ⟨a, ea, p, r, x⟩ => ⟨a, B.st, M, S2.stm, S2.stM, S2.trk, by rw [← ea]; exact i2, p, fun v H' d hd e3 i3 => q v H' d (r d hd) (S2.fx e3) (e2.trans e3) i3, fun cls d H' y hy e3 k => qx cls d H' y (x y hy) (S2.fx e3) k⟩
theorem dew_op {r : R2} (h : DeW mg te W env (fun x => De tb env fun y => Dop r x y post) xt) : DeW mg (tOp r te tb) W env post xt := fun B M σ H S Q q qx =>
  h B M σ H S _ (fun v H1 x hx S1 e1 i1 => hx B M σ H1 S1 _ fun w H2 y hy S2 e2 i2 => hy B.st M H2 v w S2.stm S2.stM S2.trk (S1.is e2 i1) i2 _ fun u H3 d hd e3 i3 => q u H3 d hd (S2.fx e3) ((e1.trans e2).trans e3) i3) qx
theorem dtw_B (h : DeW mg te W env (fun d => ∃ b, d = .bl b ∧ postb b) xt) : DtW mg (tB te) W env postb xt := fun B M σ H S Q q qx =>
  h B M σ H S _ (fun v H' d hd S' e i => by
    obtain ⟨b, rfl, hb⟩ := hd
    exact ⟨b, is_bl i, q b H' hb S' e⟩) qx
theorem dtw_test (h : DeW mg te W env (fun d => ∃ b, d = .bl b ∧ postb b) xt) : DtW mg (tTest te) W env postb xt := fun B M σ H S Q q qx =>
  h B M σ H S _ (fun v H' d hd S' e i => by
    obtain ⟨b, rfl, hb⟩ := hd
    exact ⟨b, is_bl i, q b H' hb S' e⟩) qx
theorem dtw_not (h : DtW mg tt W env (fun b => postb (!b)) xt) : DtW mg (tNot tt) W env postb xt := fun B M σ H S Q q qx =>
  h B M σ H S _ (fun b H' hb S' e => q _ H' hb S' e) qx
theorem dw_seq (h : DsW mg t W env (fun e => DsW mg u W e nx rt bk ct xs) rt bk ct xs) : DsW mg (tSeq t u) W env nx rt bk ct xs := fun B M σ H S D q1 q2 q3 q4 qx =>
  h B M σ H S { D with nx := u D } (fun M' σ' H' e' he S' => he B M' σ' H' S' D q1 q2 q3 q4 qx) q2 q3 q4 qx
theorem dw_if (h : DtW mg tt W env (fun b => if b = true then DsW mg t W env nx rt bk ct xs else DsW mg u W env nx rt bk ct xs) (xs env)) : DsW mg (tIfS tt t u) W env nx rt bk ct xs := fun B M σ H S D q1 q2 q3 q4 qx =>
  h B M σ H S _ (fun b H' hb S' e => by
    cases b with
    | true =>
      rw [if_pos rfl] at hb
      rw [if_pos rfl]
      exact hb B M σ H' S' D q1 q2 q3 q4 qx
    | false =>
      rw [if_neg (by decide)] at hb
      rw [if_neg (by decide)]
      exact hb B M σ H' S' D q1 q2 q3 q4 qx) fun cls d H' x hx S' k => qx M σ H' env x cls d hx S' k
theorem dw_drop (h : DeW mg te W env (fun _ => nx env) (xs env)) : DsW mg (tDrop te) W env nx rt bk ct xs := fun B M σ H S D q1 q2 q3 q4 qx =>
  h B M σ H S _ (fun v H' d hd S' e i => q1 M σ H' env hd S') fun cls d H' x hx S' k => qx M σ H' env x cls d hx S' k
theorem dw_set {i : Nat} (h : DeW mg te W env (fun d => nx (env.set i (.dat d))) (xs env)) : DsW mg (tAsg te (gName i)) W env nx rt bk ct xs := fun B M σ H S D q1 q2 q3 q4 qx =>
  h B M σ H S _ (fun v H' d hd S' e i => q1 M _ H' _ hd (S'.set i)) fun cls d H' x hx S' k => qx M σ H' env x cls d hx S' k
theorem dw_asg {g : TG} (h : DeW mg te W env (fun d => Dg g d env nx) (xs env)) : DsW mg (tAsg te g) W env nx rt bk ct xs := fun B M σ H S D q1 q2 q3 q4 qx =>
  h B M σ H S _ (fun v H' d hd S' e i => hd B M σ H' v S' i _ fun σ' env' he S2 => q1 M σ' H' env' he S2) fun cls d H' x hx S' k => qx M σ H' env x cls d hx S' k
theorem dw_ret (h : DeW mg te W env rt (xs env)) : DsW mg (tRet te) W env nx rt bk ct xs := fun B M σ H S D q1 q2 q3 q4 qx =>
  h B M σ H S _ (fun v H' d hd S' e i => q2 v H' d hd S'.keep (i.mono S'.sub S'.stM (Fx.refl _ _) S'.nt)) fun cls d H' x hx S' k => qx M σ H' env x cls d hx S' k
theorem zip_names {fs : List Str} : ∀ {vs : List V}, vs.length = fs.length → (fs.zip vs).map (·.1) = fs ∧ (fs.zip vs).map (·.2) = vs := fun {vs} h =>
  ⟨List.map_fst_zip (by omega), List.map_snd_zip (by omega)⟩
theorem iss_rev {st : Addr} {M : List Addr} {H : Hp} : ∀ {vs : List V} {ds : List D}, Iss st M H vs ds → Iss st M H vs.reverse ds.reverse
  | _, _, .nil => .nil
  | _, _, .cons h t => by
    rw [List.reverse_cons, List.reverse_cons]
    exact (iss_rev t).append (.cons h .nil)
theorem dw_raise {x : Str} {fs : List Str} (h : Da tas env fun ds => ds.length = fs.length ∧ fs.length ≤ 900 ∧ xs env (x, (fs.zip ds).reverse)) : DsW mg (tRaiseX mg x fs W tas) W env nx rt bk ct xs := fun B M σ H S D q1 q2 q3 q4 qx =>
  h B M σ H S _ fun vs H1 ds ⟨hl, hz, hx⟩ S1 e1 i1 => ⟨i1.length.trans hl, hz, fun C dd hm hn => by
    have hv := i1.length.trans hl
    refine qx M σ _ env _ (.ref C) (some dd) hx (S1.new hn) ⟨C, dd, vs.reverse, hm, rfl, rfl, S1.newM hn, ?_, by simp [hl, hv], ?_⟩
    · rw [upd_same]
      have e1 : ((fs.zip ds).reverse.map fun y => y.1).zip vs.reverse = (fs.zip vs).reverse := by
        rw [List.map_reverse, List.map_fst_zip (by omega), List.zip_eq_zipWith, List.zip_eq_zipWith]
        exact (List.reverse_zipWith (by omega)).symm
      exact congrArg some (congrArg HO.xd e1.symm)
    · show Iss B.st M _ vs.reverse ((fs.zip ds).reverse.map fun y => y.2)
      rw [List.map_reverse, List.map_snd_zip (by omega)]
      exact iss_rev (S1.iss (Fx.new hn) i1)⟩
end
/-- a raising def's promise from its body -/
theorem df_calX {P : Program} {w : World} {K : PySem.W.Frag} {mg : Str → Option Value} {base : Heap} {x : Str} {st : Stmt} {N ps : List Str} {k : Nat} {F : FSX} (d : Df K mg x st ps) (S : FnScope N ps (defScope st))
    (len : ∀ a, (F.arg a).length = ps.length)
    (hbody : ∀ (f : Addr) (cdv : Value) (A : Around) (outer : List PySem.Env) (s : Shared) (H : Hp) (E : XK), Room k (A.deeper (envOfC x (defScope st) s.heap.objs.size f cdv)) →
      ∃ t, PSs (cxOf (L2.CX P w) P w K mg base N x (defScope st) f cdv A outer s H E) (defBody st) t ∧
        ∀ a, F.pre a → DsW mg t (fun cls d _ H => E cls d H) ((F.arg a).map Sl.dat ++ List.replicate (N.length - (F.arg a).length) Sl.any) (fun _ => F.rel a .non) (F.rel a) (fun _ => False) (fun _ => False) fun _ x => F.xr a x) : CalX P w K mg base (k + 1) x (PFX mg F) := by
  obtain ⟨f, fd, Fn, hm, hb⟩ := d.ex
  refine ⟨f, fd, ps, Fn.okX S (fun vs H Q E h => ?_) (fun cdv A outer s H vs Q E hr h => ?_), hm, Fn.kp, hb⟩
  · obtain ⟨a, st', M, _, _, _, hs, _⟩ := h
    rw [hs.length]
    exact len a
  · obtain ⟨t, ht, hd⟩ := hbody f cdv A outer s H E hr
    refine ⟨t, ht, ?_⟩
    obtain ⟨a, st', M, h1, h2, h3, hs, hp, q, qx⟩ := h
    refine hd a hp _ M _ H (sr_start (F := F.toFS) h1 h2 h3 hs) _ (fun M' σ' H' e' he S' => q .non H' .non he S'.keep .non) (fun v H' d hr fx iv => q v H' d hr fx iv) (fun M' σ' H' e' he S' => he.elim) (fun M' σ' H' e' he S' => he.elim) (fun M' σ' H' e' y cls d hx S' k => qx cls d H' y hx S'.keep ?_)
    obtain ⟨C, dd, vs', k1, k2, k3, k4, k5, k6, k7⟩ := k
    exact ⟨C, dd, vs', k1, k2, k3, fun z => k4 (S'.sub _ z), k5, k6, k7.mono S'.sub S'.stM (Fx.refl _ _) S'.nt⟩

/-! ### except X as e: what the suite reads of e -/
structure XcI (K : PySem.W.Frag) (C : Addr) : Prop where
  cl : (PySem.W.clsIn K C).isSome = true
  xf : XfC K C
  ha : PySem.W.findIn K (.ref C) "__class__" = some (some (.builtin "object.__class__"))
  hn : PySem.W.specialIn K (.builtin "object.__class__") "__get__" = some (some (.builtin "getset_descriptor.__get__"))
  ht : PySem.W.takesIn K (.builtin "object.__class__") = some true
  hm : PySem.W.mroIn K C (.type "object") = some true
/-- e.f -/
def tXe (K : PySem.W.Frag) (a : Addr) (cls : Value) (d : Option Addr) (f : Str) (te : TE) : TE := fun σ H Q => ∃ C dd, cls = .ref C ∧ d = some dd ∧ XfC K C ∧ PySem.W.findIn K (.ref C) f = some none ∧
  te σ H fun x H1 => x = .ref a ∧ ∃ (fs : List (Str × V)) (v : V), H1 dd = some (.xd fs) ∧ fs.lookup f = some v ∧ Q v H1
/-- isinstance(e, c) -/
def rIsX (K : PySem.W.Frag) (a : Addr) (cls : Value) (d : Option Addr) : List V → Hp → VK → Prop := fun xs H Q => ∃ (C dd : Addr) (fs : List (Str × V)) (c : V) (cv : Value) (b : Bool), cls = .ref C ∧ d = some dd ∧ XcI K C ∧ xs = [.ref a, c] ∧ ClsV c cv ∧ H dd = some (.xd fs) ∧
  PySem.W.kitOne K (.ref C) cv = some b ∧ Q (.bl b) H
section
variable {X : Cx} {a : Addr} {oe : Obj} {cls : Value} {d : Option Addr} {pn : List (Addr × Obj)} {e : Expr} {te : TE} {pos : Pos} {n : Str}
theorem pe_xe (hz : Zc cls d oe) (hf : ∃ vs, oe.data = .fields vs) (he : PE (X.suite a ((a, oe) :: pn)) e te) (hb : attributeBase e n X.env (eval e X.env) = eval e X.env := by rfl) :
    PE (X.suite a ((a, oe) :: pn)) (.Attribute e n pos) (tXe X.K a cls d n te) := ⟨fun pins s σ H Q I h => by
  obtain ⟨C, dd, rfl, rfl, T, hno, h⟩ := h
  refine (pe_xf T hno hz hf (pe_up he) hb).run pins s σ H Q I ⟨_, h, fun x H1 ⟨ex, fs, v, h1, h2, q⟩ => ⟨ex, rfl, dd, fs, v, rfl, h1, h2, q⟩⟩⟩
theorem call_isX (hz : Zc cls d oe) (hf : ∃ vs, oe.data = .fields vs) : CallR (X.suite a ((a, oe) :: pn)) (.builtin "isinstance") (rIsX X.K a cls d) := by
  intro pins s σ H xs us Q I r h
  obtain ⟨C, dd, fs, c, cv, b, rfl, rfl, T, rfl, kc, hd, e, q⟩ := h
  cases r with
  | cons rx rr =>
    cases rr with
    | cons rt rr =>
      cases rr
      cases rx
      have ec := kc.eq rt
      subst ec
      have hget := (I.pin (a, oe) (List.mem_append_left _ List.mem_cons_self)).1
      obtain ⟨ws, hw⟩ := hf
      obtain ⟨mA, hns, _⟩ : ObjOk X.prog X.w H s.heap dd (.xd fs) := I.hok dd _ hd
      obtain ⟨od, ho, _⟩ := lookIn_ns hns
      have J : PySem.W.InstAt s.heap a oe C (some od) := ⟨hget, hz.1, (by unfold PySem.W.notCls; rw [hw] <;> rfl), (by rw [hz.2]; exact ho)⟩
      exact PySem.W.kia_one (PySem.W.kitx_exc T.cl T.xf.ga T.xf.gg T.xf.exC T.ha T.hn T.ht T.hm) I.kIn J e (fun z => nomatch z) fun tk => ⟨.bl b, H, I.kept (t' := tk) fun _ _ z => z, rfl, q⟩
end
def tTry (K : PySem.W.Frag) (c : Value) (i : Nat) (tb : WX → TS) (ts : Addr → Value → Option Addr → TS) (Wo : WX) : TS := fun D σ H => tb (wAs K c i ts Wo D) D σ H
theorem ps_tryA {X : Cx} {x n : Str} {c : Value} {i : Nat} {bd su : List Stmt} {b0 : Stmt} {p1 p2 p3 : Pos} {tb : WX → TS} {ts : Addr → Value → Option Addr → TS} {Wo : WX} (h1 : X.stack = X.env :: X.outer) (h2 : X.env.frame = some X.env.locals) (nd : X.N.Nodup)
    (hi : X.N[i]? = some n) (hl : X.env.kindOf n = some .local) (hc : Names X x c) (tk : Takes X Wo)
    (hb : ∀ (W : WX) (pn : List (Addr × Obj)) (xe : Value → Shared → Prop), Takes (X.tr pn xe) W →
      PassesOwn (model X.prog X.w) X.A X.env xe → PSs (X.tr pn xe) bd (tb W))
    (hs : ∀ (a : Addr) (oe : Obj) (cls : Value) (d : Option Addr) (pn : List (Addr × Obj)), Zc cls d oe →
      (∃ vs, oe.data = .fields vs) → PSs (X.suite a ((a, oe) :: pn)) (b0 :: su) (ts a cls d)) :
    PS X (.Try bd [.ExceptHandler (some (.Name x p1)) (some n) (b0 :: su) p2] [] [] p3) (tTry X.K c i tb ts Wo) := ps_try_as h1 h2 nd hi hl hc tk hb hs
section
variable {mg : Str → Option Value} {env : Nv} {post : D → Prop} {te : TE} {nx bk ct : Nv → Prop} {rt : D → Prop} {K : PySem.W.Frag}
theorem de_cls {a : Addr} (k : post (.cls a)) : De (tC (.ref a)) env post := fun B M σ H S Q q => q _ H _ k S (Fx.refl _ _) (.cls a)
theorem look_zip {st : Addr} {M : List Addr} {H : Hp} {f : Str} {y : D} : ∀ {ns : List Str} {vs : List V} {ds : List D}, Iss st M H vs ds → (ns.zip ds).lookup f = some y → ∃ v, (ns.zip vs).lookup f = some v ∧ Is st M H v y
  | [], _, _, _, h => by simp at h
  | _ :: _, _, _, .nil, h => by simp at h
  | n :: ns, _, _, .cons (v := v) (d := d) i t, h => by
    rw [List.zip_cons_cons] at h ⊢
    by_cases e : f = n
    · subst e
      simp only [List.lookup, beq_self_eq_true] at h ⊢
      cases h
      exact ⟨v, rfl, i⟩
    · have ne : (f == n) = false := by simpa using e
      simp only [List.lookup, ne] at h ⊢
      exact look_zip t h
theorem de_xe {a C dd : Addr} {f : Str} {cls : Value} {dx : Option Addr} (hc : cls = .ref C) (hx : dx = some dd) (T : XfC K C) (hno : PySem.W.findIn K (.ref C) f = some none)
    (h : De te env fun x => ∃ ns ds y, x = .exc a dd ns ds ∧ (ns.zip ds).lookup f = some y ∧ post y) : De (tXe K a cls dx f te) env post := fun B M σ H S Q q =>
  ⟨C, dd, hc, hx, T, hno, h B M σ H S _ fun v H1 x ⟨ns, ds, y, e, hl, hp⟩ S1 e1 i1 => by
    subst e
    cases i1 with
    | exc hm hh hl2 hs =>
      obtain ⟨v, hv, iv⟩ := look_zip hs hl
      exact ⟨rfl, _, v, hh, hv, q v H1 y hp S1 e1 iv⟩⟩
theorem dcl_isX {a C dd W : Addr} {ns : List Str} {ds : List D} {b : Bool} {cls : Value} {dx : Option Addr} (hc : cls = .ref C) (hx : dx = some dd) (T : XcI K C) (e : PySem.W.kitOne K (.ref C) (.ref W) = some b) (h : post (.bl b)) : Dcl (rIsX K a cls dx) [.exc a dd ns ds, .cls W] post := fun st M H vs _ _ _ iv Q q => by
  cases iv with
  | cons i r =>
    cases r with
    | cons j r =>
      cases r
      cases i with
      | exc hm hh hl hs =>
        cases j
        exact ⟨C, dd, _, .ref W, .ref W, b, hc, hx, T, rfl, .own W, hh, e, q _ H _ h (Fx.refl _ _) (.bl _)⟩
theorem dcl_isXt {a C dd : Addr} {T : String} {ns : List Str} {ds : List D} {b : Bool} {cls : Value} {dx : Option Addr} (hc : cls = .ref C) (hx : dx = some dd) (Y : XcI K C) (e : PySem.W.kitOne K (.ref C) (.type T) = some b) (h : post (.bl b)) : Dcl (rIsX K a cls dx) [.exc a dd ns ds, .ty T] post := fun st M H vs _ _ _ iv Q q => by
  cases iv with
  | cons i r =>
    cases r with
    | cons j r =>
      cases r
      cases i with
      | exc hm hh hl hs =>
        cases j
        exact ⟨C, dd, _, .ty T, .type T, b, hc, hx, Y, rfl, .ty T, hh, e, q _ H _ h (Fx.refl _ _) (.bl _)⟩
/-- try: .. except c as n: what the body lets out is of the class, and the suite goes on -/
theorem ds_try {c : Value} {i : Nat} {ts : Addr → Value → Option Addr → TS} {Wout : WX} {tb : WX → TS} (xs : Nv → Xn → Prop) (hb : ∀ W, DsW mg (tb W) W env nx rt bk ct xs)
    (hs : ∀ env' x, xs env' x → ∀ C, mg x.1 = some (.ref C) → PySem.W.exmOne K (.ref C) c = some true ∧ ∀ a dd, Ds (ts a (.ref C) (some dd)) (env'.set i (.dat (.exc a dd (x.2.map (·.1)) (x.2.map (·.2))))) (fun e => nx (e.set i .any)) rt (fun e => bk (e.set i .any)) (fun e => ct (e.set i .any))) :
    Ds (tTry K c i tb ts Wout) env nx rt bk ct := fun B M σ H S D q1 q2 q3 q4 =>
  hb _ B M σ H S D q1 q2 q3 q4 fun M' σ' H' env' x cls d hx S' k => by
    obtain ⟨C, dd, vs, k1, k2, k3, k4, k5, k6, k7⟩ := k
    subst k2 k3
    obtain ⟨e1, e2⟩ := hs env' x hx C k1
    refine ⟨true, e1, fun _ a ha => ?_, fun z => Bool.noConfusion z⟩
    have S2 := S'.set (i := i) (v := .ref a) (d := .exc a dd (x.2.map (·.1)) (x.2.map (·.2))) (.exc k4 k5 (by rw [List.length_map]; exact k6) k7)
    exact e2 a dd B M' _ H' S2 _ (fun M2 σ2 H2 e2 he S3 => q1 M2 _ H2 _ he S3.any) q2 (fun M2 σ2 H2 e2 he S3 => q3 M2 _ H2 _ he S3.any) (fun M2 σ2 H2 e2 he S3 => q4 M2 _ H2 _ he S3.any)
end
end DL
namespace DL
open PySem PySem.Spec PyProof.Rows L2
theorem ref_inj {m : Option Value} {C D : Addr} (e : m = some (.ref C)) (e2 : m = some (.ref D)) : D = C := by
  rw [e] at e2
  cases e2
  rfl
theorem xcI_of {K : PySem.W.Frag} {C : Addr} (cl : PySem.W.isClsIn K C = true) (ga : PySem.W.findIn K (.ref C) "__getattribute__" = some (some (.builtin "BaseException.__getattribute__"))) (gg : PySem.W.findIn K (.ref C) "__getattr__" = some none) (exC : PySem.W.subIn K (.ref C) (.type "BaseException") = some true) (hdC : PySem.W.hasDictIn K C = true)
    (ha : PySem.W.findIn K (.ref C) "__class__" = some (some (.builtin "object.__class__"))) (hn : PySem.W.specialIn K (.builtin "object.__class__") "__get__" = some (some (.builtin "getset_descriptor.__get__"))) (ht : PySem.W.takesIn K (.builtin "object.__class__") = some true) (hm : PySem.W.mroIn K C (.type "object") = some true) : XcI K C :=
  ⟨cl, ⟨ga, gg, exC, hdC⟩, ha, hn, ht, hm⟩
theorem exm_of {K : PySem.W.Frag} {C D : Addr} {b : Bool} (h1 : PySem.W.subIn K (.ref D) (.type "BaseException") = some true) (hd : PySem.W.isClsIn K D = true) (ht : PySem.W.typeIn K (.ref D) = some (.type "type")) (h4 : PySem.W.subIn K (.ref C) (.ref D) = some b) : PySem.W.exmOne K (.ref C) (.ref D) = some b := by
  have e1 : (PySem.W.subIn K (.ref D) (.type "BaseException") == some true) = true := by rw [h1]; rfl
  have hd' : (PySem.W.clsIn K D).isSome = true := hd
  have e2 : ((PySem.W.clsIn K D).isSome && PySem.W.typeIn K (.ref D) == some (.type "type")) = true := by rw [hd', ht]; rfl
  unfold PySem.W.exmOne
  rw [if_pos e1]
  show (if ((PySem.W.clsIn K D).isSome && PySem.W.typeIn K (.ref D) == some (.type "type")) = true then PySem.W.subIn K (.ref C) (.ref D) else none) = some b
  rw [if_pos e2]
  exact h4
section
variable {K : PySem.W.Frag} {post : D → Prop}
/-- one of a list's items, whichever -/
theorem dop_ixlm {l : List D} {i : Int} (h0 : 0 ≤ i) (h1 : i < l.length) (h : ∀ x ∈ l, post x) : Dop (rIxL K) (.lst l) (.int i) post := by
  obtain ⟨x, hx, hm⟩ := atI_lt l i h0 h1
  exact dop_ixl hx (h x hm)
theorem dop_ixtm {l : List D} {i : Int} (h0 : 0 ≤ i) (h1 : i < l.length) (h : ∀ x ∈ l, post x) : Dop (rIxT K) (.tup l) (.int i) post := by
  obtain ⟨x, hx, hm⟩ := atI_lt l i h0 h1
  exact dop_ixt hx (h x hm)
end
end DL

namespace DL
open PySem PySem.Spec PyProof.Rows L2 TK

/-! ### zip of two lists -/
def zzD (l m : List D) : List D := (l.zip m).map fun p => .tup [p.1, p.2]
theorem zzD_len (l m : List D) : (zzD l m).length = min l.length m.length := by unfold zzD; rw [List.length_map, List.length_zip]
theorem zzD_get {l m : List D} {i : Nat} {d : D} (h : (zzD l m)[i]? = some d) : ∃ a b, l[i]? = some a ∧ m[i]? = some b ∧ d = .tup [a, b] := by
  unfold zzD at h
  rw [List.getElem?_map] at h
  obtain ⟨p, hp, rfl⟩ := Option.map_eq_some_iff.mp h
  have := List.getElem?_zip_eq_some.mp hp
  exact ⟨_, _, this.1, this.2, rfl⟩
section
variable {env : Nv} {nx : Nv → Prop} {rt : D → Prop} {bk ct : Nv → Prop} {K : PySem.W.Frag} {tas : TA} {te : TE}
theorem di_zz {post : List D → Prop} (h : Da tas env fun ds => ∃ l m, ds = [.lst l, .lst m] ∧ post (zzD l m)) : Di (iZip K tas) env post := fun B M σ H S R q =>
  h B M σ H S _ fun vs H1 d ⟨l, m, e, hp⟩ S1 e1 i1 => by
    subst e
    cases i1 with
    | cons a r =>
      cases r with
      | cons b r =>
        cases r
        obtain ⟨p, xs, rfl, hm, hl, hs⟩ := is_lst a
        obtain ⟨p', xs', rfl, hm', hl', hs'⟩ := is_lst b
        refine ⟨p, p', xs, xs', rfl, .of hl, .of hl', q _ H1 [(.ref p, .lst l), (.ref p', .lst m)] _ hp S1 e1 (fun x hx => ?_) ⟨fun M2 H2 hst hM hh => ?_⟩⟩
        · rcases List.mem_cons.mp hx with rfl | hx
          · exact a
          · rw [List.mem_singleton.mp hx]; exact b
        · obtain ⟨p2, w1, e2, _, g1, s1⟩ := is_lst (hh (.ref p, .lst l) (by simp))
          cases e2
          obtain ⟨p3, w2, e3, _, g2, s2⟩ := is_lst (hh (.ref p', .lst m) (by simp))
          cases e3
          have n1 := s1.length
          have n2 := s2.length
          refine ⟨fun i hi => ?_, fun i hi => ?_, fun i d x H' hd hy => ?_⟩
          · rw [zzD_len] at hi
            exact ⟨w1, w2, _, _, .of g1, .of g2, List.getElem?_eq_getElem (by omega), List.getElem?_eq_getElem (by omega)⟩
          · rw [zzD_len] at hi
            exact ⟨w1, w2, .of g1, .of g2, by omega⟩
          · obtain ⟨T, u, v, rfl, hT, rfl, hu, hv⟩ := hy
            obtain ⟨y, z, h1, h2, rfl⟩ := zzD_get hd
            obtain ⟨u', hu', iu⟩ := s1.get h1
            obtain ⟨v', hv', iv⟩ := s2.get h2
            have := hu w1 (.of g1)
            rw [hu'] at this
            cases this
            have := hv w2 (.of g2)
            rw [hv'] at this
            cases this
            exact ⟨.inr ⟨T, _, hT, rfl⟩, is_pair (p := p) hT iu iv hM hst⟩

/-! ### dicts of points -/
def iD (l : List (Nat × Nat)) : List (Key × V) := l.map fun x => (.inl (x.1 : Int), .int (x.2 : Int))
def bD (l : List Nat) : List (Key × V) := l.map fun q : Nat => ((.inl (q : Int) : Key), V.bl true)
theorem key_inj {p q : Nat} (h : (Sum.inl (p : Int) : Key) = .inl (q : Int)) : p = q := by
  injection h with h
  omega
theorem iD_put {l : List (Nat × Nat)} {p : Nat} (h : p ∉ l.map (·.1)) (q : Nat) : putK (iD l) (.inl (p : Int)) (.int (q : Int)) = iD (l ++ [(p, q)]) := by
  unfold putK
  rw [if_neg]
  · unfold iD
    rw [List.map_append]
    rfl
  · intro z
    obtain ⟨kv, hkv, e⟩ := List.any_eq_true.mp z
    obtain ⟨x, hx, rfl⟩ := List.mem_map.mp hkv
    exact h (List.mem_map.mpr ⟨x, hx, key_inj (of_decide_eq_true e)⟩)
theorem iD_look (p : Nat) : ∀ l : List (Nat × Nat), valV (iD l) (.inl (p : Int)) = (l.lookup p).map fun q : Nat => V.int (q : Int)
  | [] => rfl
  | (a, b) :: l => by
    show valV ((.inl (a : Int), .int (b : Int)) :: iD l) _ = _
    by_cases h : p = a
    · subst h
      rw [valV_pos rfl]
      simp [List.lookup]
    · rw [valV_neg (fun z => h (key_inj z).symm), iD_look p l]
      have : (p == a) = false := by simpa using h
      simp [List.lookup, this]
theorem iD_len (l : List (Nat × Nat)) : (iD l).length = l.length := List.length_map _
theorem iD_flat (l : List (Nat × Nat)) : ∀ kv ∈ iD l, flatV kv.2 = true := fun kv h => by
  obtain ⟨x, _, rfl⟩ := List.mem_map.mp h
  rfl
theorem bD_put {l : List Nat} {p : Nat} (h : p ∉ l) : putK (bD l) (.inl (p : Int)) (.bl true) = bD (l ++ [p]) := by
  unfold putK
  rw [if_neg]
  · unfold bD
    rw [List.map_append]
    rfl
  · intro z
    obtain ⟨kv, hkv, e⟩ := List.any_eq_true.mp z
    obtain ⟨x, hx, rfl⟩ := List.mem_map.mp hkv
    exact h (key_inj (of_decide_eq_true e) ▸ hx)
theorem bD_look (p : Nat) : ∀ l : List Nat, (valV (bD l) (.inl (p : Int))).isSome = decide (p ∈ l)
  | [] => rfl
  | a :: l => by
    show (valV ((.inl (a : Int), .bl true) :: bD l) _).isSome = _
    by_cases h : p = a
    · subst h
      rw [valV_pos rfl]
      simp
    · rw [valV_neg (fun z => h (key_inj z).symm), bD_look p l]
      simp [h]
theorem look_isSome (p : Nat) : ∀ l : List (Nat × Nat), (l.lookup p).isSome = decide (p ∈ l.map (·.1))
  | [] => rfl
  | (a, b) :: l => by
    by_cases h : p = a
    · subst h
      simp [List.lookup]
    · have : (p == a) = false := by simpa using h
      simp only [List.lookup, this, look_isSome p l, List.map_cons, List.mem_cons, h, false_or]
theorem look_of {l : List (Nat × Nat)} (nd : (l.map (·.1)).Nodup) {p q : Nat} (h : (p, q) ∈ l) : l.lookup p = some q := by
  induction l with
  | nil => cases h
  | cons x l ih =>
    obtain ⟨a, b⟩ := x
    rw [List.map_cons, List.nodup_cons] at nd
    rcases List.mem_cons.mp h with e | h
    · cases e
      simp [List.lookup]
    · have ne : p ≠ a := fun z => nd.1 (List.mem_map.mpr ⟨(p, q), h, z⟩)
      have : (p == a) = false := by simpa using ne
      simp only [List.lookup, this]
      exact ih nd.2 h
/-- y = {value: True for value in d.values()}, d one's own -/
theorem ds_valsK {i k a : Nat} {l : List (Nat × Nat)} (hk : env[k]? = some (.own (.dK (iD l)))) (hik : i ≠ k) (hak : a ≠ k) (ha : a < env.length) (nd : (l.map (·.2)).Nodup) (hz : l.length ≤ 1000000)
    (h : nx (env.set i (.own (.dK (bD (l.map (·.2))))))) : Ds (tLock (tAsg (tDc (iVals (tVar k)) (gName a) tYes (tVar a) (tC (.bl true)) [a]) (gName i))) env nx rt bk ct := fun B M σ H S E q1 q2 q3 q4 => by
  obtain ⟨p, u, hv, hm, hm0, hpd, hu⟩ := S.own k _ hk
  have hpd : H p = some (.dK (iD l)) := by cases hu with | dK _ => exact hpd
  have np : p ≠ B.st := fun z => hm0 (z ▸ S.st0)
  have la : a < σ.length := by rw [S.len]; exact ha
  refine ⟨p, _, hpd, trivial, fun od => ?_⟩
  show tDc _ _ _ _ _ _ σ (upd H p (.frz od (.dK (iD l)))) _
  refine ⟨.ref p, hv, p, od, iD l, rfl, upd_same, fun c hc => ?_⟩
  have ncp : c ≠ p := fun z => by rw [z, upd_same] at hc; cases hc
  have hcn : H c = none := by rwa [upd_ne ncp] at hc
  have ncs : c ≠ B.st := S.nst hcn
  refine ⟨fun n m Hx => m = l.length - n ∧ n ≤ l.length ∧ Hx p = some (.frz od (.dK (iD l))) ∧ Hx c = some (.dK (bD ((l.map (·.2)).take n))) ∧ ∀ x o, x ≠ p → H x = some o → Hx x = some o, ⟨_, rfl, Nat.zero_le _, ?_, upd_same, fun x o nx' hx => ?_⟩, ?_⟩
  · rw [upd_ne (Ne.symm ncp)]; exact upd_same
  · rw [upd_ne (fun z => by rw [z, hcn] at hx; cases hx), upd_ne nx']; exact hx
  rintro n m Hx ⟨rfl, hn, h1, h2, h3⟩
  by_cases hlt : n < l.length
  · refine .inr ⟨⟨h1, by rw [iD_len]; exact hlt⟩, fun Hy => Hy p = some (.frz od (.dK (iD l))) ∧ Hy c = some (.dK (bD ((l.map (·.2)).take (n + 1)))) ∧ ∀ x o, x ≠ p → H x = some o → Hy x = some o, fun Hy ⟨z1, z2, z3⟩ => ⟨_, by omega, rfl, hlt, z1, z2, z3⟩, fun x Hy hy => ?_⟩
    obtain ⟨rfl, key, e1⟩ := hy
    have hx : x = .int ((l[n].2 : Nat) : Int) := by
      unfold iD at e1
      rw [List.getElem?_map, List.getElem?_eq_getElem hlt] at e1
      exact (congrArg Prod.snd (Option.some.inj e1)).symm
    subst hx
    refine ⟨?_, ?_⟩
    · rw [wipe_set List.mem_cons_self, wipe_wipe fun _ z => z]
    · refine ⟨.int ((l[n].2 : Nat) : Int), ?_, bD ((l.map (·.2)).take n), .inl ((l[n].2 : Nat) : Int), rfl, h2, ?_, ?_, ?_, fun x o nx' hx => ?_⟩
      · rw [List.getElem?_set_self (by rw [wipe_length]; exact la)]
      · unfold bD
        rw [List.length_map, List.length_take, List.length_map]
        exact Nat.lt_of_le_of_lt (Nat.min_le_left _ _) (Nat.lt_of_lt_of_le hlt (Nat.le_trans hz (by decide)))
      · rw [upd_ne (Ne.symm ncp)]; exact h1
      · have hl2 : n < (l.map (·.2)).length := by rw [List.length_map]; exact hlt
        have hnm : l[n].2 ∉ (l.map (·.2)).take n := fun z => by
          obtain ⟨j, hj, e⟩ := List.getElem_of_mem z
          rw [List.length_take] at hj
          rw [List.getElem_take, List.getElem_map] at e
          have := List.pairwise_iff_getElem.mp nd j n (by omega) hl2 (by omega)
          rw [List.getElem_map, List.getElem_map] at this
          exact this e
        have put := bD_put hnm
        rw [upd_same, put]
        have := List.take_append_getElem hl2
        rw [List.getElem_map] at this
        rw [this]
      · rw [upd_ne (fun z => by rw [z, hcn] at hx; cases hx)]
        exact h3 x o nx' hx
  · have en : n = l.length := by omega
    subst en
    rw [show l.length = (l.map (·.2)).length by rw [List.length_map], List.take_length] at h2
    refine .inl ⟨⟨h1, by rw [iD_len]; omega⟩, h1, ?_⟩
    have fx : Fx B.st H (upd Hx p (.dK (iD l))) := ⟨fun x o _ hx => by
      by_cases z : x = p
      · rw [z] at hx ⊢
        rw [hpd] at hx
        cases hx
        exact upd_same
      · rw [upd_ne z]; exact h3 x o z hx, fun a1 c1 k1 z1 z2 z3 => ⟨c1, k1, z1, z2, by rw [upd_ne (Ne.symm np)]; exact h3 _ _ (Ne.symm np) z3⟩⟩
    have hcc : upd Hx p (.dK (iD l)) c = some (.dK (bD (l.map (·.2)))) := by rw [upd_ne ncp]; exact h2
    have S' := S.newIn' hcn fx hcc
    refine q1 _ _ _ _ h (S'.setN S hcn hcc (.dK fun kv hkv => ?_))
    obtain ⟨x, _, rfl⟩ := List.mem_map.mp hkv
    rfl
end

/-! ### a folded graph, completed -/
def rowE (c : Nat) (es : List Ed) : List (Nat × Nat) := (es.filter fun e => e.2.1 == c).map fun e => (e.1, e.2.2)
theorem mem_rowE {c : Nat} {es : List Ed} {x : Nat × Nat} : x ∈ rowE c es ↔ (x.1, c, x.2) ∈ es := by
  unfold rowE
  rw [List.mem_map]
  constructor
  · rintro ⟨e, he, rfl⟩
    obtain ⟨h1, h2⟩ := List.mem_filter.mp he
    have : e.2.1 = c := by simpa using h2
    rw [← this]
    exact h1
  · intro h
    exact ⟨_, List.mem_filter.mpr ⟨h, by simp⟩, rfl⟩
theorem rowE_nd {c : Nat} {es : List Ed} (F : Fld es) (nd : es.Nodup) : ((rowE c es).map (·.1)).Nodup ∧ ((rowE c es).map (·.2)).Nodup := by
  have h := List.Pairwise.filter (fun e : Ed => e.2.1 == c) nd
  unfold rowE
  rw [List.map_map, List.map_map]
  have pr : ∀ e ∈ es.filter (fun e => e.2.1 == c), e ∈ es ∧ e.2.1 = c := fun e he => ⟨(List.mem_filter.mp he).1, by simpa using (List.mem_filter.mp he).2⟩
  constructor
  · refine List.pairwise_map.mpr (List.Pairwise.imp_of_mem (fun {a b} ha hb ne z => ne ?_) h)
    obtain ⟨a1, a2⟩ := pr a ha
    obtain ⟨b1, b2⟩ := pr b hb
    have z : a.1 = b.1 := z
    exact Prod.ext z (Prod.ext (a2.trans b2.symm) (F.fwd a a1 b b1 (a2.trans b2.symm) z))
  · refine List.pairwise_map.mpr (List.Pairwise.imp_of_mem (fun {a b} ha hb ne z => ne ?_) h)
    obtain ⟨a1, a2⟩ := pr a ha
    obtain ⟨b1, b2⟩ := pr b hb
    have z : a.2.2 = b.2.2 := z
    exact Prod.ext (F.bwd a a1 b b1 (a2.trans b2.symm) z) (Prod.ext (a2.trans b2.symm) z)
def outs (V : Nat) (l : List Nat) : List Nat := (List.range V).filter fun p => !decide (p ∈ l)
theorem outs_len {V : Nat} {l : List Nat} (nd : l.Nodup) (h : ∀ x ∈ l, x < V) : (outs V l).length + l.length = V := by
  have p1 : ((List.range V).filter fun p => decide (p ∈ l)).Perm l := by
    refine (List.perm_ext_iff_of_nodup (List.Pairwise.filter _ List.nodup_range) nd).mpr fun x => ?_
    rw [List.mem_filter, List.mem_range, decide_eq_true_eq]
    exact ⟨fun z => z.2, fun z => ⟨h x z, z⟩⟩
  have := List.length_eq_countP_add_countP (fun p => decide (p ∈ l)) (l := List.range V)
  rw [List.length_range, List.countP_eq_length_filter, p1.length_eq, List.countP_eq_length_filter] at this
  have e : outs V l = (List.range V).filter fun a => decide ¬ decide (a ∈ l) = true := by
    unfold outs
    congr 1
    funext a
    by_cases h : a ∈ l <;> simp [h]
  rw [e]
  omega
theorem mem_outs {V : Nat} {l : List Nat} {x : Nat} : x ∈ outs V l ↔ x < V ∧ x ∉ l := by
  unfold outs
  rw [List.mem_filter, List.mem_range]
  simp
theorem outs_nd {V : Nat} {l : List Nat} : (outs V l).Nodup := List.Pairwise.filter _ List.nodup_range
/-- all images of the completed letter -/
def fullE (V c : Nat) (es : List Ed) : List (Nat × Nat) := rowE c es ++ (outs V ((rowE c es).map (·.1))).zip (outs V ((rowE c es).map (·.2)))
def imgC (V c : Nat) (es : List Ed) : List Nat := (List.range V).map fun p => ((fullE V c es).lookup p).getD 0
structure FlR (V : Nat) (l : List (Nat × Nat)) : Prop where
  fst : (l.map (·.1)).Perm (List.range V)
  snd : (l.map (·.2)).Perm (List.range V)
theorem fullE_ok {V c : Nat} {es : List Ed} (F : Fld es) (nd : es.Nodup) (hb : ∀ e ∈ es, e.1 < V ∧ e.2.2 < V) : FlR V (fullE V c es) ∧ (outs V ((rowE c es).map (·.1))).length = (outs V ((rowE c es).map (·.2))).length := by
  obtain ⟨n1, n2⟩ := rowE_nd (c := c) F nd
  have b1 : ∀ x ∈ (rowE c es).map (·.1), x < V := fun x hx => by
    obtain ⟨y, hy, rfl⟩ := List.mem_map.mp hx
    exact (hb _ (mem_rowE.mp hy)).1
  have b2 : ∀ x ∈ (rowE c es).map (·.2), x < V := fun x hx => by
    obtain ⟨y, hy, rfl⟩ := List.mem_map.mp hx
    exact (hb _ (mem_rowE.mp hy)).2
  have l1 := outs_len n1 b1
  have l2 := outs_len n2 b2
  rw [List.length_map] at l1 l2
  have le : (outs V ((rowE c es).map (·.1))).length = (outs V ((rowE c es).map (·.2))).length := by omega
  refine ⟨⟨?_, ?_⟩, le⟩
  · unfold fullE
    rw [List.map_append, List.map_fst_zip (by omega)]
    refine (List.perm_ext_iff_of_nodup ?_ List.nodup_range).mpr fun x => ?_
    · exact List.nodup_append.mpr ⟨n1, outs_nd, fun a ha b hb e => (mem_outs.mp hb).2 (e ▸ ha)⟩
    · rw [List.mem_append, mem_outs, List.mem_range]
      constructor
      · rintro (z | z)
        · exact b1 x z
        · exact z.1
      · intro z
        by_cases y : x ∈ (rowE c es).map (·.1)
        · exact .inl y
        · exact .inr ⟨z, y⟩
  · unfold fullE
    rw [List.map_append, List.map_snd_zip (by omega)]
    refine (List.perm_ext_iff_of_nodup ?_ List.nodup_range).mpr fun x => ?_
    · exact List.nodup_append.mpr ⟨n2, outs_nd, fun a ha b hb e => (mem_outs.mp hb).2 (e ▸ ha)⟩
    · rw [List.mem_append, mem_outs, List.mem_range]
      constructor
      · rintro (z | z)
        · exact b2 x z
        · exact z.1
      · intro z
        by_cases y : x ∈ (rowE c es).map (·.2)
        · exact .inl y
        · exact .inr ⟨z, y⟩
theorem FlR.at' {V : Nat} {l : List (Nat × Nat)} (h : FlR V l) {p : Nat} (hp : p < V) : ∃ q, l.lookup p = some q ∧ (p, q) ∈ l := by
  have hm := h.fst.mem_iff.mpr (List.mem_range.mpr hp)
  obtain ⟨⟨a, q⟩, hx, rfl⟩ := List.mem_map.mp hm
  exact ⟨q, look_of (h.fst.nodup_iff.mpr List.nodup_range) hx, hx⟩
theorem FlR.perm {V : Nat} {l : List (Nat × Nat)} (h : FlR V l) : DL.perm V ((List.range V).map fun p => (l.lookup p).getD 0) := by
  have nd := h.fst.nodup_iff.mpr List.nodup_range
  have e : l.map (·.2) = (l.map (·.1)).map fun p => (l.lookup p).getD 0 := by
    rw [List.map_map]
    refine List.map_congr_left fun x hx => ?_
    show x.2 = (l.lookup x.1).getD 0
    rw [look_of nd (p := x.1) (q := x.2) hx]
    rfl
  have := (h.fst.map fun p => (l.lookup p).getD 0).symm.trans (e ▸ h.snd)
  exact this
def compl (ls : List Nat) (g : Gr) : List (List Nat) := ls.map fun c => imgC g.1 c g.2
theorem compl_perm {ls : List Nat} {g : Gr} (N : GnOk g) (nd : g.2.Nodup) : ∀ r ∈ compl ls g, perm g.1 r := fun r hr => by
  obtain ⟨c, _, rfl⟩ := List.mem_map.mp hr
  exact (fullE_ok N.fld nd N.bd).1.perm
/-- along an edge of the graph the completed letter leads as the edge does -/
theorem imgC_at {V c : Nat} {es : List Ed} (F : Fld es) (nd : es.Nodup) (hb : ∀ e ∈ es, e.1 < V ∧ e.2.2 < V) {p q : Nat} (h : (p, c, q) ∈ es) : (imgC V c es)[p]? = some q := by
  have hp := (hb _ h).1
  unfold imgC
  rw [List.getElem?_map, List.getElem?_range hp, Option.map_some, look_of ((fullE_ok F nd hb).1.fst.nodup_iff.mpr List.nodup_range) (q := q)]
  · rfl
  · unfold fullE
    exact List.mem_append_left _ (mem_rowE.mpr h)
end DL
namespace DL
theorem famG_nd (ws : List (List Nat)) (l ls : List Nat) : (famG ws l ls).2.Nodup := (srtE_perm _).nodup_iff.mpr (dd_nd _)
end DL

namespace DL
open PySem PySem.Spec PyProof.Rows L2 TK

/-! ### a word attached to a folded graph -/
abbrev As := Nat × List Ed × Nat
def attS (kvs : List (List Key × V)) (s : As) (c : Nat) : As := match stO kvs s.2.2 c with
  | some q => (s.1, s.2.1, q)
  | none => (s.1 + 1, s.2.1 ++ [edB s.2.2 c s.1], s.1)
def attF (g : Gr) (u : List Nat) : As := u.foldl (attS (mvs g.2)) (g.1, [], 0)
def attG (g : Gr) (w : List Nat) : Gr := ((attF g (fold w)).1, srtE (g.2 ++ (attF g (fold w)).2.1))
def attE (g : Gr) (w : List Nat) : Nat := (attF g (fold w)).2.2
theorem attF_snoc (g : Gr) (u : List Nat) (c : Nat) : attF g (u ++ [c]) = attS (mvs g.2) (attF g u) c := by
  unfold attF
  rw [List.foldl_append]
  rfl
theorem edB_sm {p c q : Nat} (hc : c ∈ LTR) : (edB p c q).2.1 ∈ SM := by
  have hsw : ∀ c ∈ LTR, c ∉ SM → sw c ∈ SM := by decide
  unfold edB
  split
  · assumption
  · exact hsw c hc ‹_›
theorem edB_cases {p c q : Nat} (hc : c ∈ LTR) : (c ∈ SM ∧ edB p c q = (p, c, q)) ∨ (c ∉ SM ∧ sw c ∈ SM ∧ edB p c q = (q, sw c, p)) := by
  have hsw : ∀ c ∈ LTR, c ∉ SM → sw c ∈ SM := by decide
  unfold edB
  by_cases h : c ∈ SM
  · exact .inl ⟨h, if_pos h⟩
  · exact .inr ⟨h, hsw c hc h, if_neg h⟩
/-- a new edge at a free end, to a new vertex -/
theorem Fld.more {es : List Ed} {V p c : Nat} (F : Fld es) (hb : ∀ e ∈ es, e.1 < V ∧ e.2.2 < V) (nd : es.Nodup) (hp : p < V) (hc : c ∈ LTR) (hf : ∀ q, ¬ Stp es p c q) :
    Fld (es ++ [edB p c V]) ∧ (∀ e ∈ es ++ [edB p c V], e.1 < V + 1 ∧ e.2.2 < V + 1) ∧ (es ++ [edB p c V]).Nodup ∧ (∀ d, d ≠ sw c → ∀ q, ¬ Stp (es ++ [edB p c V]) V d q) ∧ Stp (es ++ [edB p c V]) p c V := by
  have new : ∀ e ∈ es, e.1 ≠ V ∧ e.2.2 ≠ V := fun e he => ⟨Nat.ne_of_lt (hb e he).1, Nat.ne_of_lt (hb e he).2⟩
  have mem : ∀ {e : Ed}, e ∈ es ++ [edB p c V] → e ∈ es ∨ e = edB p c V := fun h => by
    rcases List.mem_append.mp h with h | h
    · exact .inl h
    · exact .inr (List.mem_singleton.mp h)
  rcases edB_cases (p := p) (q := V) hc with ⟨hs, he⟩ | ⟨hs, hs2, he⟩
  · rw [he] at mem ⊢
    have no1 : ∀ q, (p, c, q) ∉ es := fun q h => hf q (.inl ⟨hs, h⟩)
    refine ⟨⟨fun e h => ?_, fun e h f k h1 h2 => ?_, fun e h f k h1 h2 => ?_⟩, fun e h => ?_, ?_, fun d hd q k => ?_, .inl ⟨hs, List.mem_append_right _ List.mem_cons_self⟩⟩
    · rcases mem h with h | rfl
      · exact F.sm e h
      · exact hs
    · rcases mem h with h | rfl <;> rcases mem k with k | rfl
      · exact F.fwd e h f k h1 h2
      · exact absurd (show (p, c, e.2.2) ∈ es by rw [← show e.2.1 = c from h1, ← show e.1 = p from h2]; exact h) (no1 _)
      · exact absurd (show (p, c, f.2.2) ∈ es by rw [show c = f.2.1 from h1, show p = f.1 from h2]; exact k) (no1 _)
      · rfl
    · rcases mem h with h | rfl <;> rcases mem k with k | rfl
      · exact F.bwd e h f k h1 h2
      · exact absurd h2 (new e h).2
      · exact absurd h2.symm (new f k).2
      · rfl
    · rcases mem h with h | rfl
      · have := hb e h; omega
      · exact ⟨Nat.lt_succ_of_lt hp, Nat.lt_succ_self _⟩
    · rw [List.nodup_append]
      exact ⟨nd, by simp, fun a ha b hb' e => no1 V (by rw [List.mem_singleton.mp hb'] at e; exact e ▸ ha)⟩
    · rcases k with ⟨k1, k2⟩ | ⟨k1, k2, k3⟩
      · rcases mem k2 with k2 | k2
        · exact (new _ k2).1 rfl
        · have := congrArg Prod.fst k2
          exact absurd this (Nat.ne_of_gt hp)
      · rcases mem k3 with k3 | k3
        · exact (new _ k3).2 rfl
        · have e1 : sw d = c := congrArg (fun x : Ed => x.2.1) k3
          exact hd (by rw [← e1, sw_sw k2])
  · rw [he] at mem ⊢
    have no1 : ∀ q, (q, sw c, p) ∉ es := fun q h => hf q (.inr ⟨hs2, hc, h⟩)
    refine ⟨⟨fun e h => ?_, fun e h f k h1 h2 => ?_, fun e h f k h1 h2 => ?_⟩, fun e h => ?_, ?_, fun d hd q k => ?_, .inr ⟨hs2, hc, List.mem_append_right _ List.mem_cons_self⟩⟩
    · rcases mem h with h | rfl
      · exact F.sm e h
      · exact hs2
    · rcases mem h with h | rfl <;> rcases mem k with k | rfl
      · exact F.fwd e h f k h1 h2
      · exact absurd h2 (new e h).1
      · exact absurd h2.symm (new f k).1
      · rfl
    · rcases mem h with h | rfl <;> rcases mem k with k | rfl
      · exact F.bwd e h f k h1 h2
      · exact absurd (show (e.1, sw c, p) ∈ es by rw [← show e.2.1 = sw c from h1, ← show e.2.2 = p from h2]; exact h) (no1 _)
      · exact absurd (show (f.1, sw c, p) ∈ es by rw [show sw c = f.2.1 from h1, show p = f.2.2 from h2]; exact k) (no1 _)
      · rfl
    · rcases mem h with h | rfl
      · have := hb e h; omega
      · exact ⟨Nat.lt_succ_self _, Nat.lt_succ_of_lt hp⟩
    · rw [List.nodup_append]
      exact ⟨nd, by simp, fun a ha b hb' e => no1 V (by rw [List.mem_singleton.mp hb'] at e; exact e ▸ ha)⟩
    · rcases k with ⟨k1, k2⟩ | ⟨k1, k2, k3⟩
      · rcases mem k2 with k2 | k2
        · exact (new _ k2).1 rfl
        · have e1 : d = sw c := congrArg (fun x : Ed => x.2.1) k2
          exact hd e1
      · rcases mem k3 with k3 | k3
        · exact (new _ k3).2 rfl
        · have := congrArg (fun x : Ed => x.2.2) k3
          exact absurd this (Nat.ne_of_gt hp)
structure AtI (g : Gr) (u : List Nat) (s : As) : Prop where
  fld : Fld (g.2 ++ s.2.1)
  bd : ∀ e ∈ g.2 ++ s.2.1, e.1 < s.1 ∧ e.2.2 < s.1
  nd : (g.2 ++ s.2.1).Nodup
  pl : s.2.2 < s.1
  wlk : Wlk (g.2 ++ s.2.1) 0 u s.2.2
  le : s.1 = g.1 + s.2.1.length
  ul : s.2.1.length ≤ u.length
  out : (s.2.1 = [] ∧ wkO (mvs g.2) 0 u = some s.2.2) ∨ (g.1 ≤ s.2.2 ∧ wkO (mvs g.2) 0 u = none ∧ ∃ v c, u = v ++ [c] ∧ ∀ d, d ≠ sw c → ∀ q, ¬ Stp (g.2 ++ s.2.1) s.2.2 d q)
theorem Wlk.snoc {es : List Ed} {u : List Nat} {p q r c : Nat} (h : Wlk es p u q) (k : Stp es q c r) : Wlk es p (u ++ [c]) r := h.app ⟨r, k, rfl⟩
theorem red_snoc {c d : Nat} : ∀ {v : List Nat}, red (v ++ [c] ++ [d]) → c ≠ sw d
  | [], h => h.1
  | x :: [], h => h.2.1
  | x :: y :: v, h => red_snoc (v := y :: v) h.2
theorem red_pre {u : List Nat} : ∀ {v : List Nat}, red (v ++ u) → red v
  | [], _ => trivial
  | [x], _ => trivial
  | x :: y :: v, h => ⟨h.1, red_pre (v := y :: v) h.2⟩
theorem att_inv {g : Gr} (N : GnOk g) (nd : g.2.Nodup) {u : List Nat} : ∀ n, n ≤ u.length → red u → Lts u → AtI g (u.take n) (attF g (u.take n))
  | 0, _, _, _ => by
    rw [List.take_zero]
    exact ⟨by show Fld (g.2 ++ []); rw [List.append_nil]; exact N.fld, by show ∀ e ∈ g.2 ++ [], _; rw [List.append_nil]; exact N.bd, by show (g.2 ++ []).Nodup; rw [List.append_nil]; exact nd, N.pos, rfl, rfl, Nat.le_refl _, .inl ⟨rfl, rfl⟩⟩
  | n + 1, hn, hr, hl => by
    have I := att_inv N nd n (by omega) hr hl
    have hlt : n < u.length := hn
    rw [List.take_succ_eq_append_getElem hlt, attF_snoc]
    generalize hv : u.take n = v at I
    generalize hc : u[n] = c
    have hcl : c ∈ LTR := by rw [← hc]; exact hl _ (List.getElem_mem hlt)
    generalize attF g v = s at I
    obtain ⟨V, more, p⟩ := s
    obtain ⟨F, hb, hnd, hp, hw, hle, hul, hout⟩ := I
    dsimp only at F hb hnd hp hw hle hul hout
    unfold attS
    dsimp only
    cases e : stO (mvs g.2) p c with
    | some q =>
      have st := stO_mem N.fld.sm e
      have pg : p < g.1 := by
        rcases st with ⟨_, z⟩ | ⟨_, _, z⟩
        · exact (N.bd _ z).1
        · exact (N.bd _ z).2
      rcases hout with ⟨rfl, hwk⟩ | ⟨z, _⟩
      · have st2 : Stp (g.2 ++ []) p c q := st.sub fun e he => List.mem_append_left _ he
        refine ⟨F, hb, hnd, ?_, hw.snoc st2, hle, ?_, .inl ⟨rfl, ?_⟩⟩
        · have := stO_lt (mvs_mv N.bd) e
          show q < V
          rw [hle]
          exact Nat.lt_of_lt_of_le this.1 (Nat.le_add_right _ _)
        · show ([] : List Ed).length ≤ _
          exact Nat.zero_le _
        · rw [wkO_snoc, hwk]
          exact e
      · omega
    | none =>
      have free : ∀ q, ¬ Stp (g.2 ++ more) p c q := by
        rcases hout with ⟨rfl, hwk⟩ | ⟨z, _, v', c', rfl, hno⟩
        · intro q k
          rw [List.append_nil] at k
          rw [N.fld.step k] at e
          cases e
        · refine hno c fun z => ?_
          have hr2 : red (v' ++ [c'] ++ [c]) := by
            have : red (u.take (n + 1)) := red_pre (u := u.drop (n + 1)) (by rw [List.take_append_drop]; exact hr)
            rw [List.take_succ_eq_append_getElem hlt, hv, hc] at this
            exact this
          have := red_snoc hr2
          apply this
          rw [z]
          have hc' : c' ∈ LTR := hl c' (List.mem_of_mem_take (by rw [hv]; simp))
          exact (sw_sw hc').symm
      obtain ⟨a1, a2, a3, a4, a5⟩ := F.more hb hnd hp hcl free
      have as : (g.2 ++ (more ++ [edB p c V])) = g.2 ++ more ++ [edB p c V] := (List.append_assoc ..).symm
      refine ⟨by show Fld (g.2 ++ (more ++ [edB p c V])); rw [as]; exact a1, by show ∀ e ∈ g.2 ++ (more ++ [edB p c V]), e.1 < V + 1 ∧ e.2.2 < V + 1; rw [as]; exact a2, by show (g.2 ++ (more ++ [edB p c V])).Nodup; rw [as]; exact a3, Nat.lt_succ_self V, ?_, ?_, ?_, .inr ⟨?_, ?_, v, c, rfl, ?_⟩⟩
      · show Wlk (g.2 ++ (more ++ [edB p c V])) 0 (v ++ [c]) V
        rw [as]
        exact (hw.sub fun e he => List.mem_append_left _ he).snoc a5
      · show V + 1 = g.1 + (more ++ [edB p c V]).length
        rw [List.length_append, List.length_singleton]
        omega
      · show (more ++ [edB p c V]).length ≤ (v ++ [c]).length
        rw [List.length_append, List.length_append, List.length_singleton, List.length_singleton]
        omega
      · show g.1 ≤ V
        omega
      · rw [wkO_snoc]
        rcases hout with ⟨_, hwk⟩ | ⟨_, hwk, _⟩
        · rw [hwk]; exact e
        · rw [hwk]; rfl
      · show ∀ d, d ≠ sw c → ∀ q, ¬ Stp (g.2 ++ (more ++ [edB p c V])) V d q
        rw [as]
        exact a4
theorem att_ok {g : Gr} (N : GnOk g) (nd : g.2.Nodup) {w : List Nat} (hl : Lts w) : AtI g (fold w) (attF g (fold w)) := by
  have := att_inv N nd (u := fold w) (fold w).length (Nat.le_refl _) (fold_red hl) (fold_lts hl)
  rwa [List.take_length] at this
theorem Fld.perm {es fs : List Ed} (F : Fld es) (p : fs.Perm es) : Fld fs := ⟨fun e h => F.sm e (p.mem_iff.mp h), fun e h f k => F.fwd e (p.mem_iff.mp h) f (p.mem_iff.mp k), fun e h f k => F.bwd e (p.mem_iff.mp h) f (p.mem_iff.mp k)⟩
theorem attG_ok {g : Gr} (N : GnOk g) (nd : g.2.Nodup) {w : List Nat} (hl : Lts w) : GnOk (attG g w) ∧ (attG g w).2.Nodup ∧ (attG g w).1 ≤ g.1 + w.length ∧ (attG g w).2.length ≤ g.2.length + w.length ∧ attE g w < (attG g w).1 ∧ Wlk (attG g w).2 0 (fold w) (attE g w) ∧
    (attE g w = 0 ↔ wkO (mvs g.2) 0 (fold w) = some 0) ∧ (∀ e ∈ g.2, e ∈ (attG g w).2) ∧ g.1 ≤ (attG g w).1 := by
  have I := att_ok N nd hl
  have pm := srtE_perm (g.2 ++ (attF g (fold w)).2.1)
  have fl := fold_len w
  have h1 := I.le
  have h2 := I.ul
  have p0 := N.pos
  refine ⟨⟨I.fld.perm pm, fun e h => I.bd e (pm.mem_iff.mp h), Nat.lt_of_le_of_lt (Nat.zero_le _) I.pl⟩, pm.nodup_iff.mpr I.nd, ?_, ?_, I.pl, I.wlk.sub fun e h => pm.mem_iff.mpr h, ?_, fun e h => pm.mem_iff.mpr (List.mem_append_left _ h), ?_⟩
  · show (attF g (fold w)).1 ≤ _
    omega
  · show (srtE _).length ≤ _
    rw [pm.length_eq, List.length_append]
    omega
  · show (attF g (fold w)).2.2 = 0 ↔ _
    rcases I.out with ⟨_, z⟩ | ⟨z1, z2, _⟩
    · rw [z]
      exact ⟨fun e => by rw [e], fun e => Option.some.inj e⟩
    · rw [z2]
      exact ⟨fun e => by omega, fun e => nomatch e⟩
  · show _ ≤ (attF g (fold w)).1
    omega
/-! ### letters asked -/
def rIslow : V → List V → Hp → VK → Prop := fun x xs H Q => ∃ a : Str, x = .str a ∧ xs = [] ∧ True ∧ Q (.bl (Txt.islower a)) H
theorem md_islow {X : Cx} : MtR X "str.islower" rIslow := mt_islower
section
variable {K : PySem.W.Frag} {post : D → Prop}
theorem dmt_islow {c : Nat} (hc : c ∈ LTR) (h : post (.bl (decide (c ∈ SM)))) : Dmt K "str" rIslow (.str [c]) [] post := fun st M H v vs hst hM trk iv ivs Q q => by
  have e : ∀ c ∈ LTR, Txt.islower ⟨[c].toArray⟩ = decide (c ∈ SM) := by decide +kernel
  cases is_str iv
  cases ivs
  refine ⟨_, rfl, rfl, trivial, ?_⟩
  rw [e c hc]
  exact q _ H _ h (Fx.refl _ _) (.bl _)
theorem dmt_lowC {c : Nat} (hc : c ∈ LTR) (h : post (.str [lw c])) : Dmt K "str" rLower (.str [c]) [] post := fun st M H v vs hst hM trk iv ivs Q q => by
  have e : ∀ c ∈ LTR, Txt.lower ⟨[c].toArray⟩ = ⟨[lw c].toArray⟩ := by decide +kernel
  cases is_str iv
  cases ivs
  refine ⟨_, rfl, rfl, by rw [len_of]; exact (by decide : 1 ≤ 5592405), ?_⟩
  rw [e c hc]
  exact q _ H _ h (Fx.refl _ _) (.str _)
end
section
variable {env : Nv} {ta tb : TE}
/-- [x, ..] * n, for one's own -/
theorem den_repL {postN : Ow → Prop} (h : De ta env fun x => De tb env fun y => ∃ (a : List D) (n : Int), x = .lst a ∧ y = .int n ∧ 0 ≤ n ∧ n ≤ 1000000 ∧ a.length * n.toNat ≤ 1000000 ∧ postN (.lst (List.replicate n.toNat a).flatten)) : DeN (tOp rRep ta tb) env postN := fun B M σ H S Q q => by
  refine h B M σ H S _ fun v H1 x hx S1 e1 i1 => hx B M σ H1 S1 _ fun w H2 y hy S2 e2 i2 => ?_
  obtain ⟨a, n, rfl, rfl, n0, n1, hz, hp⟩ := hy
  obtain ⟨p, vs, rfl, _, hl, hs⟩ := is_lst (S1.is e2 i1)
  cases is_int i2
  refine ⟨p, n, vs, rfl, rfl, hl, by omega, by omega, by rw [hs.length]; exact Nat.le_trans hz (by decide), fun l hn => ?_⟩
  exact q l _ (.lst _) (.lst _) hp (S2.newIn hn _) ((e1.trans e2).trans (Fx.new hn)) upd_same (.lst (S2.newIs hn _ (iss_rep hs _))) (fresh_back (e1.trans e2) (S2.nst hn) hn)
end
end DL

namespace DL
open PySem PySem.Spec PyProof.Rows L2 TK

/-! ### the action to which a folded graph is completed -/
section
variable {g : Gr} {k : Nat}
theorem compl_okA (N : GnOk g) (nd : g.2.Nodup) (h1 : 1 ≤ k) (h3 : k ≤ 3) (hV : g.1 ≤ 60) : okA g.1 (compl (SM.take k) g) ∧ (compl (SM.take k) g).length = k := by
  have hl : (compl (SM.take k) g).length = k := by
    unfold compl
    rw [List.length_map, List.length_take]
    show min k 3 = k
    omega
  exact ⟨⟨by omega, by omega, N.pos, hV, compl_perm N nd⟩, hl⟩
theorem compl_stp (N : GnOk g) (nd : g.2.Nodup) {p c q : Nat} (hc : c ∈ SM.take k) (h : (p, c, q) ∈ g.2) :
    stp (mvs (edgesOf (compl (SM.take k) g))) p c = q ∧ stp (mvs (edgesOf (compl (SM.take k) g))) q (sw c) = p := by
  obtain ⟨j, hj⟩ := List.mem_iff_getElem?.mp hc
  have hj2 : SM[j]? = some c := by
    have hlt : j < k := by
      have := (List.getElem?_eq_some_iff.mp hj).1
      rw [List.length_take] at this
      omega
    rwa [List.getElem?_take_of_lt hlt] at hj
  have hr : (compl (SM.take k) g)[j]? = some (imgC g.1 c g.2) := by
    unfold compl
    rw [List.getElem?_map, hj]
    rfl
  obtain ⟨a, b⟩ := mv_both (compl_perm N nd) hj2 hr (imgC_at N.fld nd N.bd h)
  exact ⟨stp_eq a, stp_eq b⟩
theorem compl_step (N : GnOk g) (nd : g.2.Nodup) (hl : ∀ e ∈ g.2, e.2.1 ∈ SM.take k) {p c q : Nat} (h : Stp g.2 p c q) : stp (mvs (edgesOf (compl (SM.take k) g))) p c = q := by
  rcases h with ⟨_, h⟩ | ⟨_, hc, h⟩
  · exact (compl_stp N nd (hl _ h) h).1
  · have := (compl_stp N nd (hl _ h) h).2
    rwa [sw_sw hc] at this
theorem compl_wlk (N : GnOk g) (nd : g.2.Nodup) (hl : ∀ e ∈ g.2, e.2.1 ∈ SM.take k) : ∀ {u : List Nat} {p q : Nat}, Wlk g.2 p u q → wk (mvs (edgesOf (compl (SM.take k) g))) p u = q
  | [], _, _, h => h
  | c :: u, p, q, ⟨x, a, b⟩ => by
    show wk _ (stp _ p c) u = q
    rw [compl_step N nd hl a]
    exact compl_wlk N nd hl b
end
end DL

namespace DL
open PySem PySem.Spec PyProof.Rows L2 TK

/-! ### looking at one's own list for a dict -/
section
variable {env : Nv} {te : TE} {post : D → Prop}
theorem de_lookT (i : Nat) {ds : List D} (hi : env[i]? = some (.own (.lst ds))) (h : De te (env.set i (.dat (.lst ds))) fun d => (∃ kvs, d = .dT kvs) ∧ post d) : De te env post := fun B M σ H S Q q => by
  obtain ⟨M', hM, S', hx⟩ := S.rel hi
  refine h B M' σ H S' Q fun v H1 d hd S1 e1 i1 => ?_
  obtain ⟨⟨kvs, rfl⟩, hp⟩ := hd
  refine q v H1 _ hp (S.fx e1) e1 ?_
  cases i1 with
  | dT hm hh hf =>
    rename_i p
    refine .dT (fun z => ?_) hh hf
    have hs := hx p z hm
    obtain ⟨p', u, h1, h2, h3, h4, h5⟩ := S.own i _ hi
    rw [hs] at h1
    cases h1
    have ns : p ≠ B.st := fun y => h3 (by rw [y]; exact S.st0)
    rw [e1.1 p _ ns h4] at hh
    cases hh
    cases h5
end
/-- [x, ..] * n -/
theorem dop_repl {post : D → Prop} {a : List D} {n : Int} (h0 : 0 ≤ n) (h1 : n ≤ 1000000) (hz : a.length * n.toNat ≤ 1000000) (h : post (.lst (List.replicate n.toNat a).flatten)) : Dop rRep (.lst a) (.int n) post := fun st M H v w hst hM trk iv iw Q q => by
  obtain ⟨p, vs, rfl, hm, hl, hs⟩ := is_lst iv
  cases is_int iw
  exact ⟨p, n, vs, rfl, rfl, hl, by omega, by omega, by rw [hs.length]; exact Nat.le_trans hz (by decide), fun p' hn => q _ _ _ h (Fx.new hn) (.lst (fresh_ne (st := st) trk hn) upd_same ((iss_rep hs _).mono (fun _ z => z) hM (Fx.new hn) hst.notup))⟩
/-- tuple(range(a, b)) -/
theorem de_tupRg2 {env : Nv} {te tf : TE} {post : D → Prop} (h : De te env fun x => De tf env fun y => ∃ a b : Int, x = .int a ∧ y = .int b ∧ 0 ≤ a ∧ a ≤ 1000000 ∧ 0 ≤ b ∧ b ≤ 1000000 ∧ post (.tup (rgI a (b - a).toNat))) : De (tTupRg (tRg2 te tf)) env post := fun B M σ H S Q q =>
  h B M σ H S _ fun v H1 x hx S1 e1 i1 => hx B M σ H1 S1 _ fun w H2 y ⟨a, b, ea, eb, h1, h2, h3, h4, hp⟩ S2 e2 i2 => by
    subst ea
    subst eb
    cases is_int i1
    cases is_int i2
    refine ⟨a, b, rfl, rfl, .of_le (by omega) (by omega) (by omega) (by omega), fun p hn => q _ _ _ hp (S2.new hn) ((e1.trans e2).trans (Fx.new hn)) (.tup upd_same ?_)⟩
    unfold rgV rgI
    exact iss_map (fun i => .int _) _
/-- at the end of what was attached the graph and what was added to it go on alike -/
theorem AtI.more {g : Gr} (N : GnOk g) {v : List Nat} {s : As} (I : AtI g v s) {c : Nat} (hr : red (v ++ [c])) (hl : Lts v) (hc : c ∈ LTR) : stO (mvs (g.2 ++ s.2.1)) s.2.2 c = stO (mvs g.2) s.2.2 c := by
  rcases I.out with ⟨e, _⟩ | ⟨hp, _, v', c', rfl, hno⟩
  · rw [e, List.append_nil]
  · have r : stO (mvs g.2) s.2.2 c = none := by
      cases e : stO (mvs g.2) s.2.2 c with
      | none => rfl
      | some q =>
        have st := stO_mem N.fld.sm e
        have : s.2.2 < g.1 := by
          rcases st with ⟨_, z⟩ | ⟨_, _, z⟩
          · exact (N.bd _ z).1
          · exact (N.bd _ z).2
        omega
    rw [r]
    cases e : stO (mvs (g.2 ++ s.2.1)) s.2.2 c with
    | none => rfl
    | some q =>
      exfalso
      refine hno c (fun z => ?_) q (stO_mem I.fld.sm e)
      have := red_snoc hr
      apply this
      rw [z]
      exact (sw_sw (hl c' (by simp))).symm
/-! ### paths are no longer than half the words -/
theorem fl_len (w : List Nat) : ∀ k : List Nat, (w.foldl psh k).length ≤ k.length + w.length := by
  induction w with
  | nil => intro k; exact Nat.le_refl _
  | cons c w ih =>
    intro k
    have := ih (psh k c)
    have h2 : (psh k c).length ≤ k.length + 1 := by
      cases k with
      | nil => exact Nat.le_refl _
      | cons x k =>
        rw [psh_cons]
        split <;> simp only [List.length_cons] <;> omega
    rw [List.foldl_cons, List.length_cons]
    omega
theorem fl_full (w : List Nat) : ∀ k : List Nat, k.length + w.length ≤ (w.foldl psh k).length → w.foldl psh k = w.reverse ++ k := by
  induction w with
  | nil => intro k _; rfl
  | cons c w ih =>
    intro k h
    rw [List.foldl_cons, List.length_cons] at h
    have h1 := fl_len w (psh k c)
    have h2 : psh k c = c :: k := by
      cases k with
      | nil => rfl
      | cons x k =>
        rw [psh_cons] at h h1 ⊢
        by_cases z : x = sw c
        · rw [if_pos z] at h h1
          simp only [List.length_cons] at h
          omega
        · rw [if_neg z]
    rw [List.foldl_cons, h2, ih (c :: k) (by rw [h2] at h; simp only [List.length_cons]; omega), List.reverse_cons, List.append_assoc]
    rfl
theorem fold_full {w : List Nat} (h : w.length ≤ (fold w).length) : fold w = w := by
  unfold fold stk at *
  rw [List.length_reverse] at h
  rw [fl_full w [] (by simpa using h), List.append_nil, List.reverse_reverse]
theorem GrOk.near2 {r : Nat} {ws : List (List Nat)} {l ls : List Nat} (hw : ∀ w ∈ ws, Lts w) (hz : ∀ w ∈ ws, w.length ≤ r) (hl : ∀ w ∈ ws, ∀ c ∈ w, c ∈ ls) (hsw : ∀ c ∈ ls, sw c ∈ ls) (hA : Asc ls) (L : Lsq (ptl ws).1 (ptl ws).2.1 (ptl ws).2.2 l) (G : GrOk ws l ls) {k : Nat} (hk : k < (famG ws l ls).1) : ∃ u, Wlk (famG ws l ls).2 0 u k ∧ 2 * u.length ≤ r ∧ ∀ c ∈ u, c ∈ ls := by
  have P1 := (ptl_ok hw).len
  rcases Nat.eq_zero_or_pos k with z | z
  · exact ⟨[], z.symm, Nat.zero_le _, (fun _ y => nomatch y)⟩
  · have M := mvs_mv G.bd
    obtain ⟨t, c, ht, hs⟩ := fw_tree M hA (by omega) z hk
    have W := (WI.range (ls := ls) M (show 0 < (ptl ws).2.2 by omega) (ptl ws).2.2).1
    have ix : ∀ i, i < (famG ws l ls).1 → (DL.fw (mvs (fE l (ptl ws).1)) ls 0 (ptl ws).2.2).1.idxOf ((DL.fw (mvs (fE l (ptl ws).1)) ls 0 (ptl ws).2.2).1.getD i 0) = i := fun i hi => by
      have hi : i < (DL.fw (mvs (fE l (ptl ws).1)) ls 0 (ptl ws).2.2).1.length := hi
      rw [List.getD_eq_getElem?_getD, List.getElem?_eq_getElem hi, Option.getD_some]
      exact List.Nodup.idxOf_getElem W.nd i hi
    have st := ((stO_mem G.fld.sm hs).map fun p => (DL.fw (mvs (fE l (ptl ws).1)) ls 0 (ptl ws).2.2).1.idxOf p).sub (fs := (famG ws l ls).2) fun e he => by
      obtain ⟨f, hf, rfl⟩ := List.mem_map.mp he
      exact mem_numG.mpr ⟨f, hf, rfl⟩
    rw [ix t (by omega), ix k hk] at st
    obtain ⟨w, hw', a, b, h⟩ := trv_stp (P := fun w => ∃ v ∈ ws, w = DL.fold v) (fun e he => by
      obtain ⟨w, hw', t⟩ := G.trv hw L e he
      exact ⟨_, ⟨w, hw', rfl⟩, t⟩) st
    obtain ⟨v, hv, rfl⟩ := hw'
    have hfl := fold_len v
    have hvz := hz v hv
    have hvl := fold_in (hl v hv)
    have hin : ∀ x : List Nat, (∀ c ∈ x, c ∈ ls) → ∀ c ∈ inv x, c ∈ ls := fun x hx c hc => by
      obtain ⟨y, hy, rfl⟩ := List.mem_map.mp hc
      exact hsw y (hx y (List.mem_reverse.mp hy))
    rcases h with ⟨e, h1, h2⟩ | ⟨e, h1, h2⟩
    · have := congrArg List.length e
      simp only [List.length_append, List.length_cons, List.length_nil] at this
      by_cases y : a.length + 1 ≤ b.length
      · refine ⟨a ++ [c], h1.app ⟨k, st, rfl⟩, by simp only [List.length_append, List.length_cons, List.length_nil]; omega, fun x hx => hvl x (by rw [e]; simp only [List.mem_append, List.mem_cons, List.not_mem_nil, or_false] at hx ⊢; exact hx.imp_right .inl)⟩
      · exact ⟨inv b, h2.inv, by rw [inv_len]; omega, hin b fun x hx => hvl x (by rw [e]; simp [hx])⟩
    · have := congrArg List.length e
      simp only [List.length_append, List.length_cons] at this
      by_cases y : a.length ≤ b.length
      · exact ⟨a, h1, by omega, fun x hx => hvl x (by rw [e]; exact List.mem_append_left _ hx)⟩
      · refine ⟨inv (sw c :: b), Wlk.inv (w := sw c :: b) ⟨t, st.back, h2⟩, by rw [inv_len, List.length_cons]; omega, hin _ fun x hx => hvl x (by rw [e]; exact List.mem_append_right _ hx)⟩
/-- a place without the letter gets one that is not entered by it -/
theorem imgC_out {V c : Nat} {es : List Ed} (F : Fld es) (nd : es.Nodup) (hb : ∀ e ∈ es, e.1 < V ∧ e.2.2 < V) {v : Nat} (hv : v < V) (h : ∀ q, (v, c, q) ∉ es) : ∀ z, (z, c, (imgC V c es).getD v 0) ∉ es := by
  obtain ⟨R, _⟩ := fullE_ok (c := c) F nd hb
  obtain ⟨q, hq, hm⟩ := R.at' hv
  have e : (imgC V c es).getD v 0 = q := by
    unfold imgC
    rw [List.getD_eq_getElem?_getD, List.getElem?_map, List.getElem?_range hv]
    show (((fullE V c es).lookup v).getD 0) = q
    rw [hq]
    rfl
  rw [e]
  intro z hz
  unfold fullE at hm
  rcases List.mem_append.mp hm with y | y
  · exact h q (mem_rowE.mp y)
  · exact (mem_outs.mp (List.of_mem_zip y).2).2 (List.mem_map.mpr ⟨(z, q), mem_rowE.mpr hz, rfl⟩)
theorem none_iff {es : List Ed} (F : Fld es) {v c : Nat} (hc : c ∈ SM) : stO (mvs es) v c = none ↔ v ∉ (rowE c es).map (·.1) := by
  constructor
  · intro h z
    obtain ⟨⟨a, q⟩, hx, rfl⟩ := List.mem_map.mp z
    have := F.step (p := a) (c := c) (q := q) (.inl ⟨hc, mem_rowE.mp hx⟩)
    rw [show stO (mvs es) a c = none from h] at this
    cases this
  · intro h
    cases e : stO (mvs es) v c with
    | none => rfl
    | some q =>
      rcases stO_mem F.sm e with ⟨_, z⟩ | ⟨z, hl, _⟩
      · exact absurd (List.mem_map.mpr ⟨(v, q), mem_rowE.mpr z, rfl⟩) h
      · exact absurd hc (by have := SM_sw z; rwa [sw_sw hl] at this)
theorem sum_row (L : List Nat) (nd : L.Nodup) : ∀ es : List Ed, (∀ e ∈ es, e.2.1 ∈ L) → (L.map fun c => (rowE c es).length).sum = es.length
  | [], _ => by
    have : ∀ L : List Nat, (L.map fun c => (rowE c []).length).sum = 0 := fun L => by
      induction L with
      | nil => rfl
      | cons c L ih => rw [List.map_cons, List.sum_cons, ih]; rfl
    exact this L
  | e :: es, h => by
    have ih := sum_row L nd es fun x hx => h x (List.mem_cons_of_mem _ hx)
    have row : ∀ c, (rowE c (e :: es)).length = (if e.2.1 = c then 1 else 0) + (rowE c es).length := fun c => by
      unfold rowE
      rw [List.filter_cons]
      by_cases z : e.2.1 = c
      · simp [z]; omega
      · simp [z]
    have ad : ∀ L : List Nat, (L.map fun c => (rowE c (e :: es)).length).sum = L.count e.2.1 + (L.map fun c => (rowE c es).length).sum := fun L => by
      induction L with
      | nil => rfl
      | cons c L ih =>
        rw [List.map_cons, List.sum_cons, ih, row, List.map_cons, List.sum_cons, List.count_cons]
        by_cases z : e.2.1 = c
        · simp [z]; omega
        · have : (c == e.2.1) = false := by simpa using fun y => z y.symm
          simp [z, this]; omega
    have c1 := List.nodup_iff_count.mp nd e.2.1
    have c2 := List.count_pos_iff.mpr (h e List.mem_cons_self)
    rw [ad, ih, List.length_cons]
    omega
end DL

namespace DL
open PySem PySem.Spec PyProof.Rows L2 TK

/-! ### petals whose last letters lead back to 0, and edges put together pair by pair, in whatever sequence -/
structure Bq (ws : List (List Nat)) (E : List Ed) : Prop where
  sm : ∀ e ∈ E, e.2.1 ∈ SM
  giv : ∀ w ∈ ws, Wlk E 0 (fold w) 0
  trv : ∀ e ∈ E, ∃ w ∈ ws, Trv E (fold w) 0 0 e
  lam : ∃ lam : Nat → List Nat, lam 0 = [] ∧ (∀ p, Lts (lam p)) ∧ ∀ H, Sgp H → (∀ w ∈ ws, H (fold w)) → ∀ e ∈ E, H (fold (lam e.1 ++ [e.2.1] ++ DL.inv (lam e.2.2)))
def mg (u v p : Nat) : Nat := if p = max u v then min u v else p
def mrg (u v : Nat) (E : List Ed) : List Ed := E.map fun e => (mg u v e.1, e.2.1, mg u v e.2.2)
def Clash (E : List Ed) (u v : Nat) : Prop := u ≠ v ∧ ∃ e ∈ E, ∃ f ∈ E, e.2.1 = f.2.1 ∧ ((e.1 = f.1 ∧ u = e.2.2 ∧ v = f.2.2) ∨ (e.2.2 = f.2.2 ∧ u = e.1 ∧ v = f.1))
theorem mg0 {u v : Nat} (h : u ≠ v) : mg u v 0 = 0 := by
  unfold mg
  rw [if_neg (by omega)]
theorem Clash.symm {E : List Ed} {u v : Nat} (h : Clash E u v) : Clash E v u := by
  obtain ⟨n, e, he, f, hf, c, k⟩ := h
  exact ⟨n.symm, f, hf, e, he, c.symm, k.imp (fun ⟨a, b, d⟩ => ⟨a.symm, d, b⟩) fun ⟨a, b, d⟩ => ⟨a.symm, d, b⟩⟩
theorem fld_of {E : List Ed} (hs : ∀ e ∈ E, e.2.1 ∈ SM) (h : ∀ u v, ¬ Clash E u v) : Fld E := ⟨hs, fun e he f hf c k => Decidable.byContradiction fun n => h _ _ ⟨n, e, he, f, hf, c, .inl ⟨k, rfl, rfl⟩⟩,
  fun e he f hf c k => Decidable.byContradiction fun n => h _ _ ⟨n, e, he, f, hf, c, .inr ⟨k, rfl, rfl⟩⟩⟩
theorem Trv.map {E : List Ed} (f : Nat → Nat) {w : List Nat} {p x : Nat} {e : Ed} (h : Trv E w p x e) : Trv (E.map fun e => (f e.1, e.2.1, f e.2.2)) w (f p) (f x) (f e.1, e.2.1, f e.2.2) := by
  obtain ⟨a, b, h⟩ := h
  exact ⟨a, b, h.imp (fun ⟨x, y, z⟩ => ⟨x, y.map f, z.map f⟩) fun ⟨x, y, z⟩ => ⟨x, y.map f, z.map f⟩⟩
section
variable {H : List Nat → Prop}
theorem Sgp.nil (S : Sgp H) {x : List Nat} (hx : Lts x) : H (fold (x ++ DL.inv x)) := by rw [fold_self_inv hx]; exact S.one
theorem Sgp.flip (S : Sgp H) {x y : List Nat} {c : Nat} (hx : Lts x) (hy : Lts y) (hc : c ∈ LTR) (h : H (fold (x ++ [c] ++ DL.inv y))) : H (fold (y ++ [sw c] ++ DL.inv x)) := by
  have := S.back (ltsA (ltsA hx (lts1 hc)) (inv_lts hy)) h
  rw [inv_app, inv_app, inv_inv hy] at this
  rwa [List.append_assoc]
/-- an edge's word goes on to be made when its ends are exchanged for what is linked with them -/
theorem Sgp.move (S : Sgp H) {a a' b b' : List Nat} {c : Nat} (ha : Lts a) (ha' : Lts a') (hb : Lts b) (hb' : Lts b') (hc : c ∈ LTR) (h : H (fold (a ++ [c] ++ DL.inv b))) (h1 : H (fold (a' ++ DL.inv a))) (h2 : H (fold (b ++ DL.inv b'))) : H (fold (a' ++ [c] ++ DL.inv b')) := by
  have k := S.join (a := a') (x := a) (b := [c] ++ DL.inv b) ha' ha (ltsA (lts1 hc) (inv_lts hb)) h1 (by rw [← List.append_assoc]; exact h)
  exact S.join (a := a' ++ [c]) (x := b) (b := DL.inv b') (ltsA ha' (lts1 hc)) hb (inv_lts hb') (by rw [List.append_assoc]; exact k) h2
theorem Sgp.swap (S : Sgp H) {a b : List Nat} (ha : Lts a) (hb : Lts b) (h : H (fold (a ++ DL.inv b))) : H (fold (b ++ DL.inv a)) := by
  have := S.back (ltsA ha (inv_lts hb)) h
  rwa [inv_app, inv_inv hb] at this
end
theorem Bq.link {ws : List (List Nat)} {E : List Ed} {u v : Nat} {lam : Nat → List Nat} {H : List Nat → Prop} (S : Sgp H) (hs : ∀ e ∈ E, e.2.1 ∈ SM) (lt : ∀ p, Lts (lam p)) (h : ∀ e ∈ E, H (fold (lam e.1 ++ [e.2.1] ++ DL.inv (lam e.2.2)))) (c : Clash E u v) : H (fold (lam u ++ DL.inv (lam v))) := by
  obtain ⟨n, e, he, f, hf, c, k⟩ := c
  have hc := SM_LTR (hs e he)
  have h1 := h e he
  have h2 := h f hf
  rcases k with ⟨a, rfl, rfl⟩ | ⟨a, rfl, rfl⟩
  · rw [← a, ← c] at h2
    have := S.swap (a := lam e.1 ++ [e.2.1]) (b := lam e.2.2) (ltsA (lt _) (lts1 hc)) (lt _) h1
    exact S.join (lt _) (ltsA (lt _) (lts1 hc)) (inv_lts (lt _)) this h2
  · rw [← a, ← c] at h2
    have := S.swap (a := lam f.1 ++ [e.2.1]) (b := lam e.2.2) (ltsA (lt _) (lts1 hc)) (lt _) h2
    have k := S.join (a := lam e.1 ++ [e.2.1]) (x := lam e.2.2) (b := DL.inv (lam f.1 ++ [e.2.1])) (ltsA (lt _) (lts1 hc)) (lt _) (inv_lts (ltsA (lt _) (lts1 hc))) h1 this
    rw [inv_app, show DL.inv [e.2.1] = [sw e.2.1] from rfl, List.append_assoc] at k
    show H (fold (lam e.1 ++ DL.inv (lam f.1)))
    rw [← fold_cut (v := DL.inv (lam f.1)) (lt e.1) (sw_mem hc) (sw_sw hc).symm]
    exact k
theorem Bq.mrg {ws : List (List Nat)} {E : List Ed} {u v : Nat} (B : Bq ws E) (c : Clash E u v) : Bq ws (DL.mrg u v E) := by
  have n := c.1
  have z := mg0 n
  refine ⟨fun e he => ?_, fun w hw => ?_, fun e he => ?_, ?_⟩
  · obtain ⟨f, hf, rfl⟩ := List.mem_map.mp he
    exact B.sm f hf
  · have := (B.giv w hw).map (mg u v)
    rwa [z] at this
  · obtain ⟨f, hf, rfl⟩ := List.mem_map.mp he
    obtain ⟨w, hw, t⟩ := B.trv f hf
    have := t.map (mg u v)
    rw [z] at this
    exact ⟨w, hw, this⟩
  · obtain ⟨lam, l0, lt, h⟩ := B.lam
    refine ⟨lam, l0, lt, fun H S hH e he => ?_⟩
    obtain ⟨f, hf, rfl⟩ := List.mem_map.mp he
    have hE := h H S hH
    have uv := Bq.link (ws := ws) S B.sm lt hE c
    have one : ∀ p, H (fold (lam (mg u v p) ++ DL.inv (lam p))) := fun p => by
      unfold mg
      split
      · rename_i e
        rcases Nat.le_total u v with y | y
        · rw [e, Nat.max_eq_right y, Nat.min_eq_left y]; exact uv
        · rw [e, Nat.max_eq_left y, Nat.min_eq_right y]; exact S.swap (lt _) (lt _) uv
      · exact S.nil (lt p)
    exact S.move (lt _) (lt _) (lt _) (lt _) (SM_LTR (B.sm f hf)) (hE f hf) (one _) (S.swap (lt _) (lt _) (one _))
/-- what goes round is made of the words -/
theorem Bq.sound {ws : List (List Nat)} {E : List Ed} (B : Bq ws E) {H : List Nat → Prop} (S : Sgp H) (hH : ∀ w ∈ ws, H (fold w)) {w : List Nat} (k : Wlk E 0 w 0) : H (fold w) := by
  obtain ⟨lam, l0, lt, h⟩ := B.lam
  have hE := h H S hH
  have stp : ∀ {p c q : Nat}, Stp E p c q → H (fold (lam p ++ [c] ++ DL.inv (lam q))) := fun {p c q} k => by
    rcases k with ⟨a, b⟩ | ⟨a, a', b⟩
    · exact hE _ b
    · have := S.flip (lt _) (lt _) (SM_LTR a) (hE _ b)
      dsimp only at this
      rwa [sw_sw a'] at this
  have walkd : ∀ {w : List Nat} {p q : Nat}, Wlk E p w q → H (fold (lam p ++ (w ++ DL.inv (lam q)))) := by
    intro w
    induction w with
    | nil =>
      intro p q h
      cases h
      exact S.nil (lt p)
    | cons c w ih =>
      intro p q ⟨r, a, b⟩
      have := S.join (a := lam p ++ [c]) (x := lam r) (b := w ++ DL.inv (lam q)) (ltsA (lt _) (lts1 a.lt)) (lt _) (ltsA b.lts (inv_lts (lt _))) (stp a) (ih b)
      rwa [List.append_assoc] at this
  have := walkd k
  rwa [l0, show DL.inv [] = [] from rfl, List.append_nil, List.nil_append] at this
/-! the same graph as that of the family -/
theorem Bq.rel {ws : List (List Nat)} {l : List Nat} {E : List Ed} (hw : ∀ w ∈ ws, Lts w) (L : Lsq (ptl ws).1 (ptl ws).2.1 (ptl ws).2.2 l) (G : GrOk ws l LTR) (B : Bq ws E) (F : Fld E) :
    (∀ w, Wlk E 0 w 0 → Cls (famG ws l LTR) (DL.fold w)) ∧ (∀ w, Cls (famG ws l LTR) w → Wlk E 0 (DL.fold w) 0) ∧
    Brel (mvs E) (mvs (famG ws l LTR).2) LTR (fun i j => ∃ u, Wlk E 0 u i ∧ Wlk (famG ws l LTR).2 0 u j) 0 0 := by
  have N := G.num hw
  have gv := G.given hw L
  have h12 : ∀ w, Wlk E 0 w 0 → Cls (famG ws l LTR) (DL.fold w) := fun w k => B.sound (cls_sgp N.fld) gv k
  have h21 : ∀ w, Cls (famG ws l LTR) w → Wlk E 0 (DL.fold w) 0 := fun w k => DL.sound (cls_sgp (g := (0, E)) F) hw L G B.giv k
  refine ⟨h12, h21, cls_rel (g1 := (0, E)) F N.fld (fun e he => ?_) (fun e he => ?_) h12 h21⟩
  · obtain ⟨w, hwm, t⟩ := B.trv e he
    exact ⟨_, ⟨fold_lts (hw w hwm), gv w hwm⟩, t⟩
  · obtain ⟨w, hwm, t⟩ := G.trv hw L e he
    exact ⟨_, ⟨fold_lts (hw w hwm), B.giv w hwm⟩, t⟩
theorem Bq.found {ws : List (List Nat)} {E : List Ed} {ls : List Nat} {N : Nat} (B : Bq ws E) (F : Fld E) (hb : ∀ e ∈ E, e.1 < N ∧ e.2.2 < N) (h0 : 0 < N) (hl : ∀ w ∈ ws, ∀ c ∈ fold w, c ∈ ls) (hsw : ∀ c ∈ ls, sw c ∈ ls) :
    ∀ e ∈ E, e.1 ∈ (fw (mvs E) ls 0 N).1 ∧ e.2.2 ∈ (fw (mvs E) ls 0 N).1 := fun e he => by
  have M := mvs_mv hb
  obtain ⟨w, hw, a, b, k⟩ := B.trv e he
  have hwl := hl w hw
  obtain ⟨s1, s2⟩ := Stp.of (B.sm e he) he
  rcases k with ⟨e1, k1, _⟩ | ⟨e1, k1, _⟩
  · rw [e1] at hwl
    have m := fw_all (ls := ls) M h0 (fun c hc => hwl c (List.mem_append_left _ hc)) (k1.wkO F)
    have hc : e.2.1 ∈ ls := hwl _ (List.mem_append_right _ List.mem_cons_self)
    exact ⟨m, fw_cl M h0 m hc (F.step s1)⟩
  · rw [e1] at hwl
    have m := fw_all (ls := ls) M h0 (fun c hc => hwl c (List.mem_append_left _ hc)) (k1.wkO F)
    have hc : sw e.2.1 ∈ ls := hwl _ (List.mem_append_right _ List.mem_cons_self)
    exact ⟨fw_cl M h0 m hc (F.step s2), m⟩
theorem Bq.num {ws : List (List Nat)} {l : List Nat} {E : List Ed} {N : Nat} (hw : ∀ w ∈ ws, Lts w) (L : Lsq (ptl ws).1 (ptl ws).2.1 (ptl ws).2.2 l) (B : Bq ws E) (F : Fld E) (hb : ∀ e ∈ E, e.1 < N ∧ e.2.2 < N) (h0 : 0 < N) :
    numG E LTR 0 N = famG ws l LTR ∧ (fw (mvs E) LTR 0 N).2 = (fw (mvs (famG ws l LTR).2) LTR 0 (famG ws l LTR).1).2 := by
  have G : GrOk ws l LTR := GrOk.of hw L (ptl_in (ls := LTR) (fun c => sw_mem) (fun c h => h) hw)
  have GN := G.num hw
  obtain ⟨_, _, R⟩ := B.rel hw L G F
  have M := mvs_mv hb
  have M2 := mvs_mv GN.bd
  have all := B.found (ls := LTR) F hb h0 (fun w h => fold_lts (hw w h)) fun c => sw_mem
  have W := (WI.range (ls := LTR) M h0 N).1
  have Fr := FwR.all R (max N (max (ptl ws).2.2 (famG ws l LTR).1))
  rw [fw_any M h0 (Nat.le_max_left _ _), G.fw hw (Nat.le_trans (Nat.le_max_left _ _) (Nat.le_max_right _ _))] at Fr
  have e2 := G.fw hw (m := max N (max (ptl ws).2.2 (famG ws l LTR).1)) (Nat.le_trans (Nat.le_max_left _ _) (Nat.le_max_right _ _))
  rw [fw_any M2 GN.pos (Nat.le_trans (Nat.le_max_right _ _) (Nat.le_max_right _ _))] at e2
  have hV : (fw (mvs E) LTR 0 N).1.length = (famG ws l LTR).1 := by
    have := Fr.len
    rwa [List.length_range] at this
  have id : ∀ p, p ∈ (fw (mvs E) LTR 0 N).1 → ∃ u, Wlk E 0 u p ∧ Wlk (famG ws l LTR).2 0 u ((fw (mvs E) LTR 0 N).1.idxOf p) := fun p hp => by
    have hi := List.idxOf_lt_length_of_mem hp
    exact Fr.at' ((fw (mvs E) LTR 0 N).1.idxOf p) p ((fw (mvs E) LTR 0 N).1.idxOf p) (by rw [List.getElem?_eq_getElem hi, List.getElem_idxOf]) (by rw [List.getElem?_range (by rw [← hV]; exact hi)])
  have one : ∀ e ∈ E, nmE (fw (mvs E) LTR 0 N).1 e ∈ (famG ws l LTR).2 := fun e he => by
    obtain ⟨m1, m2⟩ := all e he
    have sm := B.sm e he
    obtain ⟨j2, s2, r2⟩ := R.fwd (SM_LTR sm) (id _ m1) (F.step (Stp.of sm he).1)
    have := R.fn r2 (id _ m2)
    subst this
    rcases stO_mem GN.fld.sm s2 with ⟨_, y⟩ | ⟨y, _⟩
    · exact y
    · exact absurd y (SM_sw sm)
  have two : ∀ e ∈ (famG ws l LTR).2, ∃ f ∈ E, e = nmE (fw (mvs E) LTR 0 N).1 f := fun e he => by
    have sm := GN.fld.sm e he
    obtain ⟨b1, b2⟩ := GN.bd e he
    have g1 : e.1 < (fw (mvs E) LTR 0 N).1.length := by omega
    have g2 : e.2.2 < (fw (mvs E) LTR 0 N).1.length := by omega
    have i1 := id _ (List.getElem_mem g1)
    have i2 := id _ (List.getElem_mem g2)
    rw [List.Nodup.idxOf_getElem W.nd _ g1] at i1
    rw [List.Nodup.idxOf_getElem W.nd _ g2] at i2
    obtain ⟨j2, s2, r2⟩ := R.bwd (SM_LTR sm) i1 (GN.fld.step (Stp.of sm he).1)
    have := R.inj r2 i2
    rw [this] at s2
    rcases stO_mem F.sm s2 with ⟨_, y⟩ | ⟨y, _⟩
    · refine ⟨_, y, ?_⟩
      unfold nmE
      dsimp only
      rw [List.Nodup.idxOf_getElem W.nd _ g1, List.Nodup.idxOf_getElem W.nd _ g2]
    · exact absurd y (SM_sw sm)
  refine ⟨Prod.ext hV ?_, by rw [Fr.wd, e2]⟩
  have hm : ∀ e, e ∈ (famG ws l LTR).2 ↔ e ∈ (numG E LTR 0 N).2 := fun e => ⟨fun h => mem_numG.mpr (two e h), fun h => by
    obtain ⟨f, hf, rfl⟩ := mem_numG.mp h
    exact one f hf⟩
  unfold famG numG at hm ⊢
  dsimp only at hm ⊢
  refine srtE_same (dd_nd _) (dd_nd _) fun e => ?_
  rw [← (srtE_perm (dd (E.map _))).mem_iff, ← (srtE_perm (dd ((fE l (ptl ws).1).map _))).mem_iff]
  exact (hm e).symm
/-! ### the petals -/
def pt (n L i : Nat) : Nat := if i = 0 ∨ i = L then 0 else n + i - 1
def bqE (n : Nat) (w : List Nat) : List Ed := (List.range w.length).map fun i => edB (pt n w.length i) (w.getD i 0) (pt n w.length (i + 1))
def bqW (s : List Ed × Nat) (w : List Nat) : List Ed × Nat := (s.1 ++ bqE s.2 w, s.2 + (w.length - 1))
def bq (ws : List (List Nat)) : List Ed × Nat := (ws.map fold).foldl bqW ([], 1)
theorem bqW_sub (vs : List (List Nat)) : ∀ s : List Ed × Nat, (∀ e ∈ s.1, e ∈ (vs.foldl bqW s).1) ∧ s.2 ≤ (vs.foldl bqW s).2 := by
  induction vs with
  | nil => exact fun s => ⟨fun e h => h, Nat.le_refl _⟩
  | cons v vs ih => exact fun s => ⟨fun e h => (ih (bqW s v)).1 e (List.mem_append_left _ h), Nat.le_trans (Nat.le_add_right _ _) (ih (bqW s v)).2⟩
theorem drop_cons {w : List Nat} {i : Nat} (h : i < w.length) : w.drop i = w.getD i 0 :: w.drop (i + 1) := by
  rw [List.drop_eq_getElem_cons h, List.getD_eq_getElem?_getD, List.getElem?_eq_getElem h]
  rfl
theorem take_snoc {w : List Nat} {i : Nat} (h : i < w.length) : w.take (i + 1) = w.take i ++ [w.getD i 0] := by
  rw [List.take_add_one, List.getD_eq_getElem?_getD, List.getElem?_eq_getElem h]
  rfl
theorem bqE_walks {E : List Ed} {n : Nat} {w : List Nat} (hw : Lts w) (hE : ∀ e ∈ bqE n w, e ∈ E) : (∀ i, i ≤ w.length → Wlk E 0 (w.take i) (pt n w.length i)) ∧ ∀ k, k ≤ w.length → Wlk E (pt n w.length (w.length - k)) (w.drop (w.length - k)) 0 := by
  have st : ∀ i, i < w.length → Stp E (pt n w.length i) (w.getD i 0) (pt n w.length (i + 1)) := fun i hi => edB_stp (hw _ (by rw [List.getD_eq_getElem?_getD, List.getElem?_eq_getElem hi]; exact List.getElem_mem hi)) (hE _ (List.mem_map.mpr ⟨i, List.mem_range.mpr hi, rfl⟩))
  constructor
  · intro i
    induction i with
    | zero => exact fun _ => by show 0 = pt n w.length 0; unfold pt; rw [if_pos (.inl rfl)]
    | succ i ih =>
      intro hi
      rw [take_snoc (by omega)]
      exact (ih (by omega)).app ⟨_, st i (by omega), rfl⟩
  · intro k
    induction k with
    | zero =>
      intro _
      rw [Nat.sub_zero, List.drop_length]
      show pt n w.length w.length = 0
      unfold pt
      rw [if_pos (.inr rfl)]
    | succ k ih =>
      intro hk
      have h1 : w.length - (k + 1) < w.length := by omega
      have h2 := ih (by omega)
      rw [drop_cons h1, show w.length - (k + 1) + 1 = w.length - k by omega]
      refine ⟨_, st _ h1, ?_⟩
      rw [show w.length - (k + 1) + 1 = w.length - k by omega]
      exact h2
theorem bqE_trv {E : List Ed} {n : Nat} {w : List Nat} (hw : Lts w) (hE : ∀ e ∈ bqE n w, e ∈ E) : ∀ e ∈ bqE n w, Trv E w 0 0 e := fun e he => by
  obtain ⟨a, b⟩ := bqE_walks hw hE
  obtain ⟨i, hi, rfl⟩ := List.mem_map.mp he
  have hi := List.mem_range.mp hi
  have hc : w.getD i 0 ∈ LTR := hw _ (by rw [List.getD_eq_getElem?_getD, List.getElem?_eq_getElem hi]; exact List.getElem_mem hi)
  have e1 : w = w.take i ++ w.getD i 0 :: w.drop (i + 1) := by rw [← drop_cons hi, List.take_append_drop]
  have k1 := a i (by omega)
  have k2 := b (w.length - (i + 1)) (by omega)
  rw [show w.length - (w.length - (i + 1)) = i + 1 by omega] at k2
  refine ⟨w.take i, w.drop (i + 1), ?_⟩
  unfold edB
  split
  · exact .inl ⟨e1, k1, k2⟩
  · refine .inr ⟨?_, k1, k2⟩
    rw [show sw (pt n w.length (i + 1), sw (w.getD i 0), pt n w.length i).2.1 = sw (sw (w.getD i 0)) from rfl, sw_sw hc]
    exact e1
/-- the words of the points, kept while petals are put in -/
structure BqL (V : List (List Nat)) (s : List Ed × Nat) (lam : Nat → List Nat) : Prop where
  pos : 0 < s.2
  bd : ∀ e ∈ s.1, e.1 < s.2 ∧ e.2.2 < s.2
  sm : ∀ e ∈ s.1, e.2.1 ∈ SM
  l0 : lam 0 = []
  lt : ∀ p, Lts (lam p)
  ed : ∀ H, Sgp H → (∀ w ∈ V, H (fold w)) → ∀ e ∈ s.1, H (fold (lam e.1 ++ [e.2.1] ++ DL.inv (lam e.2.2)))
theorem pt_lt {n L i : Nat} (h0 : 0 < n) (h : i ≤ L) : pt n L i < n + (L - 1) := by
  unfold pt
  split
  · omega
  · omega
theorem BqL.step {V : List (List Nat)} {s : List Ed × Nat} {lam : Nat → List Nat} (B : BqL V s lam) {w : List Nat} (hw : Lts w) (hr : fold w = w) (hv : w ∈ V) : BqL V (bqW s w) fun p => if s.2 ≤ p ∧ p < s.2 + (w.length - 1) then w.take (p - s.2 + 1) else lam p := by
  have h0 := B.pos
  have lt2 : ∀ p, Lts (if s.2 ≤ p ∧ p < s.2 + (w.length - 1) then w.take (p - s.2 + 1) else lam p) := fun p => by
    split
    · exact fun c hc => hw c (List.mem_of_mem_take hc)
    · exact B.lt p
  have hsw : ∀ c ∈ LTR, c ∉ SM → sw c ∈ SM := by decide
  have hcl : ∀ i, i < w.length → w.getD i 0 ∈ LTR := fun i hi => hw _ (by rw [List.getD_eq_getElem?_getD, List.getElem?_eq_getElem hi]; exact List.getElem_mem hi)
  have old : ∀ e ∈ s.1, (e.1 < s.2 ∧ e.2.2 < s.2) := B.bd
  have at' : ∀ i, i < w.length → (if s.2 ≤ pt s.2 w.length i ∧ pt s.2 w.length i < s.2 + (w.length - 1) then w.take (pt s.2 w.length i - s.2 + 1) else lam (pt s.2 w.length i)) = w.take i := fun i hi => by
    by_cases z : i = 0
    · have e : pt s.2 w.length i = 0 := by unfold pt; rw [if_pos (.inl z)]
      rw [e, if_neg (by omega), B.l0, z, List.take_zero]
    · have e : pt s.2 w.length i = s.2 + i - 1 := by unfold pt; rw [if_neg (by omega)]
      rw [e, if_pos (by omega), show s.2 + i - 1 - s.2 + 1 = i by omega]
  refine ⟨by show 0 < s.2 + (w.length - 1); omega, fun e he => ?_, fun e he => ?_, ?_, lt2, fun H S hH e he => ?_⟩
  · rcases List.mem_append.mp he with z | z
    · obtain ⟨a, b⟩ := B.bd e z
      show e.1 < s.2 + (w.length - 1) ∧ e.2.2 < s.2 + (w.length - 1)
      omega
    · obtain ⟨i, hi, rfl⟩ := List.mem_map.mp z
      have hi := List.mem_range.mp hi
      have a := pt_lt (n := s.2) (L := w.length) (i := i) h0 (by omega)
      have b := pt_lt (n := s.2) (L := w.length) (i := i + 1) h0 (by omega)
      unfold edB
      split
      · exact ⟨a, b⟩
      · exact ⟨b, a⟩
  · rcases List.mem_append.mp he with z | z
    · exact B.sm e z
    · obtain ⟨i, hi, rfl⟩ := List.mem_map.mp z
      unfold edB
      split
      · assumption
      · exact hsw _ (hcl i (List.mem_range.mp hi)) ‹_›
  · show (if s.2 ≤ 0 ∧ 0 < s.2 + (w.length - 1) then w.take (0 - s.2 + 1) else lam 0) = []
    rw [if_neg (by omega)]
    exact B.l0
  · rcases List.mem_append.mp he with z | z
    · obtain ⟨a, b⟩ := B.bd e z
      rw [if_neg (by omega), if_neg (by omega)]
      exact B.ed H S hH e z
    · obtain ⟨i, hi, rfl⟩ := List.mem_map.mp z
      have hi := List.mem_range.mp hi
      have hc := hcl i hi
      have key : H (fold ((if s.2 ≤ pt s.2 w.length i ∧ pt s.2 w.length i < s.2 + (w.length - 1) then w.take (pt s.2 w.length i - s.2 + 1) else lam (pt s.2 w.length i)) ++ [w.getD i 0] ++ DL.inv (if s.2 ≤ pt s.2 w.length (i + 1) ∧ pt s.2 w.length (i + 1) < s.2 + (w.length - 1) then w.take (pt s.2 w.length (i + 1) - s.2 + 1) else lam (pt s.2 w.length (i + 1))))) := by
        rw [at' i hi, ← take_snoc hi]
        by_cases y : i + 1 < w.length
        · rw [at' (i + 1) y]
          exact S.nil fun c hc => hw c (List.mem_of_mem_take hc)
        · have e0 : pt s.2 w.length (i + 1) = 0 := by unfold pt; rw [if_pos (.inr (by omega))]
          rw [e0, if_neg (by omega), B.l0, show DL.inv [] = [] from rfl, List.append_nil, show i + 1 = w.length by omega, List.take_length]
          exact hH w hv
      unfold edB
      split
      · exact key
      · exact S.flip (lt2 _) (lt2 _) hc key
theorem BqL.run {V : List (List Nat)} : ∀ (vs : List (List Nat)) {s : List Ed × Nat} {lam : Nat → List Nat}, BqL V s lam → (∀ v ∈ vs, Lts v ∧ fold v = v ∧ v ∈ V) → ∃ lam', BqL V (vs.foldl bqW s) lam'
  | [], s, lam, B, _ => ⟨lam, B⟩
  | v :: vs, s, lam, B, h => by
    obtain ⟨a, b, c⟩ := h v List.mem_cons_self
    exact BqL.run vs (B.step a b c) fun u hu => h u (List.mem_cons_of_mem _ hu)
theorem bqW_trv {E : List Ed} : ∀ (vs : List (List Nat)) (s : List Ed × Nat), (∀ v ∈ vs, Lts v) → (∀ e ∈ (vs.foldl bqW s).1, e ∈ E) → (∀ v ∈ vs, Wlk E 0 v 0) ∧ ∀ e ∈ (vs.foldl bqW s).1, e ∈ s.1 ∨ ∃ v ∈ vs, Trv E v 0 0 e
  | [], _, _, _ => ⟨(fun _ z => nomatch z), fun e he => .inl he⟩
  | v :: vs, s, hv, hE => by
    obtain ⟨i1, i2⟩ := bqW_trv vs (bqW s v) (fun u hu => hv u (List.mem_cons_of_mem _ hu)) hE
    have sub : ∀ e ∈ bqE s.2 v, e ∈ E := fun e he => hE e ((bqW_sub vs (bqW s v)).1 e (List.mem_append_right _ he))
    have hvl := hv v List.mem_cons_self
    refine ⟨fun u hu => ?_, fun e he => ?_⟩
    · rcases List.mem_cons.mp hu with rfl | hu
      · have := (bqE_walks hvl sub).1 u.length (Nat.le_refl _)
        rw [List.take_length] at this
        have e0 : pt s.2 u.length u.length = 0 := by unfold pt; rw [if_pos (.inr rfl)]
        rwa [e0] at this
      · exact i1 u hu
    · rcases i2 e he with z | ⟨u, hu, t⟩
      · rcases List.mem_append.mp z with y | y
        · exact .inl y
        · exact .inr ⟨v, List.mem_cons_self, bqE_trv hvl sub e y⟩
      · exact .inr ⟨u, List.mem_cons_of_mem _ hu, t⟩
theorem bq_len : ∀ (vs : List (List Nat)) (s : List Ed × Nat), s.2 ≤ s.1.length + 1 → (vs.foldl bqW s).2 ≤ (vs.foldl bqW s).1.length + 1 ∧ (vs.foldl bqW s).1.length = s.1.length + (vs.map List.length).sum
  | [], s, h => ⟨h, by simp⟩
  | v :: vs, s, h => by
    have e : (bqW s v).1.length = s.1.length + v.length := by
      show (s.1 ++ bqE s.2 v).length = _
      rw [List.length_append]
      unfold bqE
      rw [List.length_map, List.length_range]
    obtain ⟨a, b⟩ := bq_len vs (bqW s v) (by rw [e]; show s.2 + (v.length - 1) ≤ _; omega)
    rw [List.foldl_cons]
    refine ⟨a, ?_⟩
    rw [b, e, List.map_cons, List.sum_cons]
    omega
theorem bq_ok {ws : List (List Nat)} (hw : ∀ w ∈ ws, Lts w) : Bq ws (bq ws).1 ∧ 0 < (bq ws).2 ∧ (bq ws).2 ≤ (bq ws).1.length + 1 ∧ (∀ e ∈ (bq ws).1, e.1 < (bq ws).2 ∧ e.2.2 < (bq ws).2) ∧ (bq ws).1.length = (ws.map fun w => (fold w).length).sum := by
  obtain ⟨lam, B⟩ := BqL.run (V := ws.map fold) (ws.map fold) (s := ([], 1)) (lam := fun _ => []) ⟨Nat.one_pos, (fun _ z => nomatch z), (fun _ z => nomatch z), rfl, fun _ => lts0, fun _ _ _ _ z => nomatch z⟩ fun v hv => by
    obtain ⟨u, hu, rfl⟩ := List.mem_map.mp hv
    exact ⟨fold_lts (hw u hu), fold_fold (hw u hu), hv⟩
  obtain ⟨t1, t2⟩ := bqW_trv (E := (bq ws).1) (ws.map fold) ([], 1) (fun v hv => by
    obtain ⟨u, hu, rfl⟩ := List.mem_map.mp hv
    exact fold_lts (hw u hu)) fun _ z => z
  obtain ⟨n1, n2⟩ := bq_len (ws.map fold) ([], 1) (Nat.le_refl _)
  refine ⟨⟨B.sm, fun w h => t1 _ (List.mem_map.mpr ⟨w, h, rfl⟩), fun e he => ?_, lam, B.l0, B.lt, fun H S hH => B.ed H S fun v hv => ?_⟩, B.pos, n1, B.bd, ?_⟩
  · rcases t2 e he with z | ⟨v, hv, t⟩
    · cases z
    · obtain ⟨u, hu, rfl⟩ := List.mem_map.mp hv
      exact ⟨u, hu, t⟩
  · obtain ⟨u, hu, rfl⟩ := List.mem_map.mp hv
    rw [fold_fold (hw u hu)]
    exact hH u hu
  · rw [List.map_map] at n2
    simpa [bq, Function.comp_def] using n2
/-! ### turns: each puts two places together that clash, until none do -/
structure Fos (ws : List (List Nat)) (n k : Nat) (E : List Ed) : Prop where
  ok : Bq ws E
  bd : ∀ e ∈ E, e.1 < n ∧ e.2.2 < n
  pos : 0 < n
  lv : ∃ P : List Nat, 0 ∈ P ∧ (∀ e ∈ E, e.1 ∈ P ∧ e.2.2 ∈ P) ∧ P.length ≤ k
theorem Fos.init {ws : List (List Nat)} (hw : ∀ w ∈ ws, Lts w) : Fos ws (bq ws).2 (bq ws).2 (bq ws).1 := by
  obtain ⟨a, b, c, d, _⟩ := bq_ok hw
  exact ⟨a, d, b, List.range (bq ws).2, List.mem_range.mpr b, fun e he => ⟨List.mem_range.mpr (d e he).1, List.mem_range.mpr (d e he).2⟩, by rw [List.length_range]; exact Nat.le_refl _⟩
theorem Fos.mrg {ws : List (List Nat)} {n k : Nat} {E : List Ed} {u v : Nat} (h : Fos ws n (k + 1) E) (c : Clash E u v) : Fos ws n k (DL.mrg u v E) := by
  obtain ⟨P, z, hP, hl⟩ := h.lv
  have hne := c.1
  have both : u ∈ P ∧ v ∈ P ∧ u < n ∧ v < n := by
    obtain ⟨_, e, he, f, hf, _, k⟩ := id c
    have a := hP e he
    have b := hP f hf
    have a2 := h.bd e he
    have b2 := h.bd f hf
    rcases k with ⟨_, rfl, rfl⟩ | ⟨_, rfl, rfl⟩
    · exact ⟨a.2, b.2, a2.2, b2.2⟩
    · exact ⟨a.1, b.1, a2.1, b2.1⟩
  obtain ⟨pu, pv, nu, nv⟩ := both
  have mx : max u v ∈ P := by rcases Nat.le_total u v with y | y <;> simp only [Nat.max_eq_right, Nat.max_eq_left, y] <;> assumption
  have mn : min u v ∈ P := by rcases Nat.le_total u v with y | y <;> simp only [Nat.min_eq_right, Nat.min_eq_left, y] <;> assumption
  have inP : ∀ p ∈ P, mg u v p ∈ P.filter fun p => decide (p ≠ max u v) := fun p hp => by
    unfold mg
    split
    · exact List.mem_filter.mpr ⟨mn, decide_eq_true (by omega)⟩
    · exact List.mem_filter.mpr ⟨hp, decide_eq_true ‹_›⟩
  have lt : ∀ p, p < n → mg u v p < n := fun p hp => by
    unfold mg
    split <;> omega
  refine ⟨h.ok.mrg c, fun e he => ?_, h.pos, P.filter fun p => decide (p ≠ max u v), ?_, fun e he => ?_, ?_⟩
  · obtain ⟨f, hf, rfl⟩ := List.mem_map.mp he
    exact ⟨lt _ (h.bd f hf).1, lt _ (h.bd f hf).2⟩
  · have := inP 0 z
    rwa [mg0 hne] at this
  · obtain ⟨f, hf, rfl⟩ := List.mem_map.mp he
    exact ⟨inP _ (hP f hf).1, inP _ (hP f hf).2⟩
  · have : (P.filter fun p => decide (p ≠ max u v)).length < P.length := by
      refine List.length_filter_lt_length_iff_exists.mpr ⟨_, mx, by simp⟩
    omega
theorem Fos.some {ws : List (List Nat)} {n k : Nat} {E : List Ed} (h : Fos ws n k E) : 0 < k := by
  obtain ⟨P, z, _, hl⟩ := h.lv
  cases P with
  | nil => cases z
  | cons p P => rw [List.length_cons] at hl; omega
theorem mrg_len (u v : Nat) (E : List Ed) : (mrg u v E).length = E.length := List.length_map _
/-- after so many turns: either there are no clashes, or there is one place less for each turn -/
def FoT (ws : List (List Nat)) (t : Nat) (E : List Ed) : Prop := E.length = (bq ws).1.length ∧ ((∃ k, k + t = (bq ws).2 ∧ Fos ws (bq ws).2 k E) ∨ (Fos ws (bq ws).2 (bq ws).2 E ∧ ∀ u v, ¬ Clash E u v))
theorem FoT.init {ws : List (List Nat)} (hw : ∀ w ∈ ws, Lts w) : FoT ws 0 (bq ws).1 := ⟨rfl, .inl ⟨_, rfl, Fos.init hw⟩⟩
theorem FoT.ok {ws : List (List Nat)} {t : Nat} {E : List Ed} (h : FoT ws t E) : Bq ws E ∧ (∀ e ∈ E, e.1 < (bq ws).2 ∧ e.2.2 < (bq ws).2) ∧ 0 < (bq ws).2 := by
  rcases h.2 with ⟨_, _, a⟩ | ⟨a, _⟩ <;> exact ⟨a.ok, a.bd, a.pos⟩
theorem FoT.mrg {ws : List (List Nat)} {t : Nat} {E : List Ed} (h : FoT ws t E) {u v : Nat} (c : Clash E u v) : FoT ws (t + 1) (DL.mrg u v E) := by
  refine ⟨(mrg_len u v E).trans h.1, ?_⟩
  rcases h.2 with ⟨k, hk, a⟩ | ⟨_, no⟩
  · obtain ⟨k, rfl⟩ : ∃ j, k = j + 1 := ⟨k - 1, by have := a.some; omega⟩
    exact .inl ⟨k, by omega, a.mrg c⟩
  · exact absurd c (no u v)
theorem FoT.stay {ws : List (List Nat)} {t : Nat} {E : List Ed} (h : FoT ws t E) (no : ∀ u v, ¬ Clash E u v) (t' : Nat) : FoT ws t' E := by
  refine ⟨h.1, .inr ⟨?_, no⟩⟩
  rcases h.2 with ⟨k, hk, a⟩ | ⟨a, _⟩
  · obtain ⟨P, z, hP, hl⟩ := a.lv
    exact ⟨a.ok, a.bd, a.pos, P, z, hP, by omega⟩
  · exact a
theorem FoT.done {ws : List (List Nat)} {t : Nat} {E : List Ed} (h : FoT ws t E) (ht : (bq ws).2 ≤ t) : Fld E ∧ Bq ws E ∧ (∀ e ∈ E, e.1 < (bq ws).2 ∧ e.2.2 < (bq ws).2) ∧ 0 < (bq ws).2 := by
  obtain ⟨a, b, c⟩ := h.ok
  refine ⟨?_, a, b, c⟩
  rcases h.2 with ⟨k, hk, f⟩ | ⟨f, no⟩
  · have := f.some
    omega
  · exact fld_of f.ok.sm no
end DL

namespace DL
open PySem PySem.Spec PyProof.Rows L2 TK

/-- words along the edges of a graph, and what goes round in it -/
theorem lam_sound {E : List Ed} {H : List Nat → Prop} {lam : Nat → List Nat} (S : Sgp H) (hs : ∀ e ∈ E, e.2.1 ∈ SM) (l0 : lam 0 = []) (lt : ∀ p, Lts (lam p)) (hE : ∀ e ∈ E, H (fold (lam e.1 ++ [e.2.1] ++ DL.inv (lam e.2.2)))) {w : List Nat} (k : Wlk E 0 w 0) : H (fold w) := by
  have stp : ∀ {p c q : Nat}, Stp E p c q → H (fold (lam p ++ [c] ++ DL.inv (lam q))) := fun {p c q} k => by
    rcases k with ⟨a, b⟩ | ⟨a, a', b⟩
    · exact hE _ b
    · have := S.flip (lt _) (lt _) (SM_LTR a) (hE _ b)
      dsimp only at this
      rwa [sw_sw a'] at this
  have walkd : ∀ {w : List Nat} {p q : Nat}, Wlk E p w q → H (fold (lam p ++ (w ++ DL.inv (lam q)))) := by
    intro w
    induction w with
    | nil =>
      intro p q h
      cases h
      exact S.nil (lt p)
    | cons c w ih =>
      intro p q ⟨r, a, b⟩
      have := S.join (a := lam p ++ [c]) (x := lam r) (b := w ++ DL.inv (lam q)) (ltsA (lt _) (lts1 a.lt)) (lt _) (ltsA b.lts (inv_lts (lt _))) (stp a) (ih b)
      rwa [List.append_assoc] at this
  have := walkd k
  rwa [l0, show DL.inv [] = [] from rfl, List.append_nil, List.nil_append] at this
/-! ### a graph has no more free edges than there are words that are not empty -/
def Rk (m : Nat) (E : List Ed) : Prop := ∃ (D : List Ed) (P : List Nat), (∀ e ∈ E, e ∈ D) ∧ P.Nodup ∧ (∀ p ∈ P, p = 0 ∨ ∃ e ∈ E, p = e.1 ∨ p = e.2.2) ∧ D.length + 1 ≤ P.length + m
theorem Rk.mrg {m : Nat} {E : List Ed} {u v : Nat} (h : Rk m E) (c : Clash E u v) : Rk m (DL.mrg u v E) := by
  obtain ⟨D, P, hD, nd, hP, hl⟩ := h
  obtain ⟨ne, e, he, f, hf, hc, k⟩ := id c
  have hne : e ≠ f := fun z => by
    subst z
    rcases k with ⟨_, a, b⟩ | ⟨_, a, b⟩ <;> exact ne (a.trans b.symm)
  have same : (mg u v e.1, e.2.1, mg u v e.2.2) = (mg u v f.1, f.2.1, mg u v f.2.2) := by
    have uv : mg u v u = mg u v v := by
      unfold mg
      rcases Nat.le_total u v with y | y
      · rw [Nat.max_eq_right y, Nat.min_eq_left y, if_pos rfl, if_neg ne]
      · rw [Nat.max_eq_left y, Nat.min_eq_right y, if_pos rfl, if_neg ne.symm]
    rcases k with ⟨a, rfl, rfl⟩ | ⟨a, rfl, rfl⟩
    · rw [a, hc, uv]
    · rw [a, hc, uv]
  have nd2 : (P.filter fun p => decide (p ≠ max u v)).Nodup := List.Pairwise.sublist List.filter_sublist nd
  have cnt : P.length ≤ (P.filter fun p => decide (p ≠ max u v)).length + 1 := by
    have hsub : P.length ≤ (max u v :: P.filter fun p => decide (p ≠ max u v)).length := List.Nodup.length_le_of_subset nd fun x hx => by
      by_cases z : x = max u v
      · rw [z]; exact List.mem_cons_self
      · exact List.mem_cons_of_mem _ (List.mem_filter.mpr ⟨hx, decide_eq_true z⟩)
    simpa using hsub
  refine ⟨(D.erase f).map fun e => (mg u v e.1, e.2.1, mg u v e.2.2), P.filter fun p => decide (p ≠ max u v), fun x hx => ?_, nd2, fun p hp => ?_, ?_⟩
  · obtain ⟨g, hg, rfl⟩ := List.mem_map.mp hx
    by_cases z : g = f
    · subst z
      rw [← same]
      exact List.mem_map.mpr ⟨e, (List.mem_erase_of_ne hne).mpr (hD e he), rfl⟩
    · exact List.mem_map.mpr ⟨g, (List.mem_erase_of_ne z).mpr (hD g hg), rfl⟩
  · obtain ⟨h1, h2⟩ := List.mem_filter.mp hp
    have h2 : p ≠ max u v := of_decide_eq_true h2
    have fix : mg u v p = p := by unfold mg; rw [if_neg h2]
    rcases hP p h1 with z | ⟨g, hg, z⟩
    · exact .inl z
    · refine .inr ⟨_, List.mem_map.mpr ⟨g, hg, rfl⟩, ?_⟩
      rcases z with rfl | rfl
      · exact .inl fix.symm
      · exact .inr fix.symm
  · rw [List.length_map, List.length_erase_of_mem (hD f hf)]
    have : 0 < D.length := List.length_pos_of_mem (hD f hf)
    omega
theorem bqW_rk : ∀ (vs : List (List Nat)) (s : List Ed × Nat) (m : Nat), 0 < s.2 → (∀ p, p < s.2 → p = 0 ∨ ∃ e ∈ s.1, p = e.1 ∨ p = e.2.2) → s.1.length + 1 ≤ s.2 + m →
    (∀ p, p < (vs.foldl bqW s).2 → p = 0 ∨ ∃ e ∈ (vs.foldl bqW s).1, p = e.1 ∨ p = e.2.2) ∧ (vs.foldl bqW s).1.length + 1 ≤ (vs.foldl bqW s).2 + (m + (vs.filter fun v => decide (v ≠ [])).length)
  | [], s, m, _, h, hl => ⟨h, by simpa using hl⟩
  | v :: vs, s, m, h0, h, hl => by
    have e : (bqW s v).1.length = s.1.length + v.length := by
      show (s.1 ++ bqE s.2 v).length = _
      rw [List.length_append]
      unfold bqE
      rw [List.length_map, List.length_range]
    have hs2 : (bqW s v).2 = s.2 + (v.length - 1) := rfl
    have g1 : ∀ p, p < (bqW s v).2 → p = 0 ∨ ∃ e ∈ (bqW s v).1, p = e.1 ∨ p = e.2.2 := fun p hp => by
      rw [hs2] at hp
      by_cases z : p < s.2
      · rcases h p z with y | ⟨g, hg, y⟩
        · exact .inl y
        · exact .inr ⟨g, List.mem_append_left _ hg, y⟩
      · right
        have hi : p - s.2 < v.length := by omega
        refine ⟨edB (pt s.2 v.length (p - s.2)) (v.getD (p - s.2) 0) (pt s.2 v.length (p - s.2 + 1)), List.mem_append_right _ (List.mem_map.mpr ⟨_, List.mem_range.mpr hi, rfl⟩), ?_⟩
        have e2 : pt s.2 v.length (p - s.2 + 1) = p := by unfold pt; rw [if_neg (by omega)]; omega
        rw [e2]
        unfold edB
        split
        · exact .inr rfl
        · exact .inl rfl
    have g2 : (bqW s v).1.length + 1 ≤ (bqW s v).2 + (m + if v = [] then 0 else 1) := by
      rw [e, hs2]
      by_cases z : v = []
      · have : v.length = 0 := by rw [z]; rfl
        rw [if_pos z]
        omega
      · rw [if_neg z]
        have : 0 < v.length := List.length_pos_iff.mpr z
        omega
    obtain ⟨a, b⟩ := bqW_rk vs (bqW s v) (m + if v = [] then 0 else 1) (by rw [hs2]; omega) g1 g2
    refine ⟨a, ?_⟩
    rw [List.foldl_cons, List.filter_cons]
    by_cases z : v = []
    · rw [if_pos z] at b
      rw [if_neg (by simpa using z)]
      omega
    · rw [if_neg z] at b
      rw [if_pos (by simpa using z), List.length_cons]
      omega
theorem Rk.init (ws : List (List Nat)) : Rk (ws.filter fun w => decide (fold w ≠ [])).length (bq ws).1 := by
  obtain ⟨a, b⟩ := bqW_rk (ws.map fold) ([], 1) 0 Nat.one_pos (fun p hp => .inl (Nat.lt_one_iff.mp hp)) (Nat.le_refl _)
  refine ⟨(bq ws).1, List.range (bq ws).2, fun _ h => h, List.nodup_range, fun p hp => a p (List.mem_range.mp hp), ?_⟩
  rw [List.length_range]
  have e : ((ws.map fold).filter fun v => decide (v ≠ [])).length = (ws.filter fun w => decide (fold w ≠ [])).length := by
    rw [List.filter_map, List.length_map]
    rfl
  rw [e, Nat.zero_add] at b
  exact b
theorem fold_ex {ws : List (List Nat)} (hw : ∀ w ∈ ws, Lts w) : ∃ E, (Fld E ∧ Bq ws E ∧ (∀ e ∈ E, e.1 < (bq ws).2 ∧ e.2.2 < (bq ws).2) ∧ 0 < (bq ws).2) ∧ Rk (ws.filter fun w => decide (fold w ≠ [])).length E := by
  have all : ∀ t, ∃ E, FoT ws t E ∧ Rk (ws.filter fun w => decide (fold w ≠ [])).length E := fun t => by
    induction t with
    | zero => exact ⟨_, FoT.init hw, Rk.init ws⟩
    | succ t ih =>
      obtain ⟨E, T, R⟩ := ih
      by_cases h : ∃ u v, Clash E u v
      · obtain ⟨u, v, c⟩ := h
        exact ⟨_, T.mrg c, R.mrg c⟩
      · exact ⟨E, T.stay (fun u v c => h ⟨u, v, c⟩) _, R⟩
  obtain ⟨E, T, R⟩ := all (bq ws).2
  exact ⟨E, T.done (Nat.le_refl _), R⟩
theorem fam_rank {ws : List (List Nat)} {l : List Nat} (hw : ∀ w ∈ ws, Lts w) (L : Lsq (ptl ws).1 (ptl ws).2.1 (ptl ws).2.2 l) : (famG ws l LTR).2.length + 1 ≤ (famG ws l LTR).1 + (ws.filter fun w => decide (fold w ≠ [])).length := by
  obtain ⟨E, ⟨F, B, hb, h0⟩, D, P, hD, nd, hP, hl⟩ := fold_ex hw
  obtain ⟨e1, _⟩ := B.num hw L F hb h0
  have all := B.found (ls := LTR) F hb h0 (fun w h => fold_lts (hw w h)) fun c => sw_mem
  have W := (WI.range (ls := LTR) (mvs_mv hb) h0 (bq ws).2).1
  have h1 : P.length ≤ (numG E LTR 0 (bq ws).2).1 := List.Nodup.length_le_of_subset nd fun p hp => by
    rcases hP p hp with rfl | ⟨e, he, rfl | rfl⟩
    · exact List.mem_of_getElem? W.zero
    · exact (all e he).1
    · exact (all e he).2
  have h2 : (numG E LTR 0 (bq ws).2).2.length ≤ D.length := by
    have e : (numG E LTR 0 (bq ws).2).2.length = (dd (E.map (nmE (fw (mvs E) LTR 0 (bq ws).2).1))).length := (srtE_perm _).length_eq
    rw [e, ← List.length_map (as := D) (nmE (fw (mvs E) LTR 0 (bq ws).2).1)]
    refine List.Nodup.length_le_of_subset (dd_nd _) fun x hx => ?_
    obtain ⟨g, hg, rfl⟩ := List.mem_map.mp ((dd_mem _ _).mp hx)
    exact List.mem_map.mpr ⟨g, hD g hg, rfl⟩
  rw [← e1]
  omega
/-- words that make the same have the same graph -/
theorem gen_same {ws vs : List (List Nat)} {l m : List Nat} (hw : ∀ w ∈ ws, Lts w) (hv : ∀ w ∈ vs, Lts w) (L : Lsq (ptl ws).1 (ptl ws).2.1 (ptl ws).2.2 l) (L' : Lsq (ptl vs).1 (ptl vs).2.1 (ptl vs).2.2 m) (g : Gen ws vs) : famG ws l LTR = famG vs m LTR := by
  have G : GrOk ws l LTR := GrOk.of hw L (ptl_in (ls := LTR) (fun c => sw_mem) (fun c h => h) hw)
  have G' : GrOk vs m LTR := GrOk.of hv L' (ptl_in (ls := LTR) (fun c => sw_mem) (fun c h => h) hv)
  exact fam_same hw hv L L' G G' ((g _ (cls_sgp (G'.num hv).fld)).mp (G'.given hv L')) ((g _ (cls_sgp (G.num hw).fld)).mpr (G.given hw L))
end DL

/-! set(xs), xs a list of tuples whose items are carried by value; its length -/
namespace TK
open PySem PySem.Spec PyProof.Rows L2
section
variable {P : Program} {w : World} {A : Around} {E : Value → Shared → Prop} {κ : Type} [DecidableEq κ] {knd : PySem.KeyKind P w κ}
theorem SetK.moved {h h2 : Heap} {b : Addr} {rows : List (Addr × List κ)} {es : Array (Int × Value)} {ep : Nat} {t : SetTable} (S : SetK knd h b rows es ep t) (keepB : ∀ o, h.get? b = some o → h2.get? b = some o)
    (keys : ∀ r ∈ rows, IsTupleKey knd h2 r.2 r.1) : SetK knd h2 b rows es ep t := by
  obtain ⟨⟨o, ho, more⟩, a2, a3, a4, _, a6, a7, a8⟩ := S
  exact ⟨⟨o, keepB o ho, more⟩, a2, a3, a4, keys, a6, a7, a8⟩
/-- what is put in so far -/
structure Filled (knd : PySem.KeyKind P w κ) (h0 : Heap) (b : Addr) (ks : List (Addr × List κ)) (i : Nat) (s : Shared) (rows : List (Addr × List κ)) : Prop where
  set : ∃ es ep t, SetK knd s.heap b rows es ep t
  few : rows.length ≤ i
  sub : ∀ r ∈ rows, r ∈ ks
  all : ∀ r ∈ ks.take i, r.2 ∈ rows.map Prod.snd
  old : ∀ c o, h0.get? c = some o → s.heap.get? c = some o
theorem fill_loop {I : Addr} {fp wr : List Addr} {G : Array GenState → Array GenState → Prop} {Pv : Nat → Value → Prop} {St : Nat → Shared → Prop} {R : Result → Shared → Prop} {b : Addr} {ks : List (Addr × List κ)} {h0 : Heap} {s0 : Shared} {n : Nat} (hn : n = ks.length)
    (W : WalksS P w A.in1 I fp wr G n Pv St) (hb : b ∉ fp) (hz : ks.length < 64) (hv : ∀ i v, Pv i v → ∃ r, ks[i]? = some r ∧ v = .ref r.1)
    (hk : ∀ r ∈ ks, IsTupleKey knd h0 r.2 r.1) (hb0 : h0.get? b = none) (hw0 : ∀ c ∈ wr, h0.get? c = none) (hu : A.in1.units < cLine)
    (fin : ∀ s rows, Filled knd h0 b ks ks.length s rows → Moved (b :: wr) G s0 s → R (.ok (.ret .none)) s) :
    ∀ (k i : Nat) (s : Shared) (rows : List (Addr × List κ)), i + k = ks.length → St i s → Moved (b :: wr) G s0 s → Filled knd h0 b ks i s rows → codeAny (model P w) A (.builtin "set.update.loop" ⟨[.ref b, .ref I], []⟩) R s := by
  subst hn
  have up : ∀ c ∈ wr, c ∈ b :: wr := fun c hc => List.mem_cons_of_mem _ hc
  have bw : b ∉ wr := fun z => hb (W.sub _ z)
  have still : ∀ {s s' : Shared} {i : Nat} {rows : List (Addr × List κ)}, Moved wr G s s' → Filled knd h0 b ks i s rows → Filled knd h0 b ks i s' rows := fun {s s' i rows} m f => by
    have old : ∀ c o, h0.get? c = some o → s'.heap.get? c = some o := fun c o e => m.heap c o (fun z => by rw [hw0 c z] at e; cases e) (f.old c o e)
    obtain ⟨es, ep, t, S⟩ := f.set
    exact ⟨⟨es, ep, t, S.moved (fun o e => m.heap b o bw e) fun r hr => key_grown (hk r (f.sub r hr)) old⟩, f.few, f.sub, f.all, old⟩
  intro k
  induction k with
  | zero =>
    intro i s rows e hst m f
    obtain rfl : i = ks.length := by omega
    refine codeAny_builtin F.entry_set_update_loop ?_
    rw [Around.under_plainId F.plain_set_update_loop _]
    show wpAny _ A.in1 (pyNext (.ref I) >>= _) _ _ s
    refine wpAny_bind (W.done s _ _ hst fun s' m' => ?_)
    exact wpAny_pure (fin s' rows (still m' f) (Moved.trans W.gtrans m (m'.mono up)))
  | succ k ih =>
    intro i s rows e hst m f
    refine codeAny_builtin F.entry_set_update_loop ?_
    rw [Around.under_plainId F.plain_set_update_loop _]
    show wpAny _ A.in1 (pyNext (.ref I) >>= _) _ _ s
    refine wpAny_bind (W.item i s _ _ (by omega) hst fun v s' hP hst' m' => ?_)
    obtain ⟨r, hr, rfl⟩ := hv i v hP
    have f' := still m' f
    obtain ⟨es, ep, t, S⟩ := f'.set
    have kx : IsTupleKey knd s'.heap r.2 r.1 := key_grown (hk r (List.mem_of_getElem? hr)) f'.old
    show wpAny _ A.in1 (holding [Value.ref r.1] (setAdd b (.ref r.1)) >>= _) _ _ s'
    refine wpAny_bind (wpAny_holding ?_)
    unfold setAdd
    refine wpAny_holding (wpAny_bind (wpAny_pyHash_tuple hu kx ?_))
    refine put (s := { s' with toks := s'.toks + (r.2.length + 1) }) S kx hu (by have := f'.few; omega) fun yes hp rows2 es2 ep2 t2 sb S2 same more => ?_
    have keepO : ∀ c o, c ∉ b :: wr → s'.heap.get? c = some o → hp.get? c = some o := fun c o hc e => (sb.2 c (fun z => hc (by rw [z]; exact List.mem_cons_self))).trans e
    have m2 : Moved (b :: wr) G s0 { s' with heap := hp, toks := s'.toks + (r.2.length + 1) } := Moved.trans W.gtrans m ((m'.mono up).then_heap (Nat.le_add_right _ _) keepO)
    have old2 : ∀ c o, h0.get? c = some o → hp.get? c = some o := fun c o e => (sb.2 c (fun z => by rw [z, hb0] at e; cases e)).trans (f'.old c o e)
    refine wpAny_pure ⟨plainId_quiet F.plain_set_update_loop _, ih (i + 1) _ rows2 (by omega) (W.frame _ s' _ _ hst' (Nat.le_add_right _ _) fun c hc o e => (sb.2 c (fun z => hb (by rw [← z]; exact hc))).trans e) m2 ?_⟩
    have take : ks.take (i + 1) = ks.take i ++ [r] := by rw [List.take_add_one, hr]; rfl
    by_cases hm : r.2 ∈ rows.map Prod.snd
    · have e := same hm
      subst e
      refine ⟨⟨es2, ep2, t2, S2⟩, by have := f'.few; omega, f'.sub, fun q hq => ?_, old2⟩
      rw [take] at hq
      rcases List.mem_append.mp hq with z | z
      · exact f'.all q z
      · rw [List.mem_singleton.mp z]; exact hm
    · have pm := more hm
      refine ⟨⟨es2, ep2, t2, S2⟩, by rw [pm.length_eq, List.length_cons]; have := f'.few; omega, fun q hq => ?_, fun q hq => ?_, old2⟩
      · rcases List.mem_cons.mp (pm.mem_iff.mp hq) with z | z
        · rw [z]; exact List.mem_of_getElem? hr
        · exact f'.sub q z
      · rw [(pm.map Prod.snd).mem_iff, List.map_cons]
        rw [take] at hq
        rcases List.mem_append.mp hq with z | z
        · exact List.mem_cons_of_mem _ (f'.all q z)
        · rw [List.mem_singleton.mp z]; exact List.mem_cons_self
/-- set(xs): a new set, filled by the loop over the list -/
theorem call_set_any {s : Shared} {l : Addr} {items : Array Value} {ks : List (Addr × List κ)} {Q : Value → Shared → Prop} (hh : A.handled = none) (hl : s.heap.IsList l items) (hit : items.toList = ks.map fun r => Value.ref r.1)
    (hk : ∀ r ∈ ks, IsTupleKey knd s.heap r.2 r.1) (hz : ks.length < 64) (hu : A.units + 3 < cLine)
    (fin : ∀ (s' : Shared) rows, Filled knd s.heap s.heap.objs.size ks ks.length s' rows → s'.gens = s.gens → s'.drawn = s.drawn → s'.os = s.os → Q (.ref s.heap.objs.size) s') :
    wpAny (model P w) A (call (.type "set") [.ref l]) Q E s := by
  obtain ⟨c, tl, hmro⟩ := F.called_set.mro
  have f1 := F.called_set.made
  have f2 := F.called_set.sub
  have f3 := F.called_set.notType
  have f4 := F.called_set.canCreate
  have f5 := F.typeCall_set_1 (.ref l)
  obtain ⟨new, hnew⟩ : ∃ new : Obj, new = { cls := .type "set", dict := none, data := .set #[] 0 (.fresh 0 0 (!w.params.followText "set-order")) } := ⟨_, rfl⟩
  refine wpAny_call (codeAny_of_tree ?_)
  show wpAny _ _ (callAny (.type "set") _) _ _ _
  refine wpAny_pure ⟨Code.quiet_builtin _ (by decide +kernel), codeAny_builtin F.entry_type_call ?_⟩
  rw [Around.under_plain (weight_type_call_type "set" [.ref l] []) rfl]
  repeat (any_goals (first | assumption | wp_step))
  refine codeAny_mono (code_set_led1 (.ref l) (E := E) (Q₁ := fun obj s1 => obj = .ref s.heap.objs.size ∧ s1 = { s with heap := s.heap.push new }) ⟨rfl, by rw [hnew]⟩) fun res s1 hres => ?_
  cases res with
  | error e => exact hres
  | ok fl =>
    cases fl with
    | ret obj =>
      obtain ⟨rfl, rfl⟩ := hres
      have g1 : (s.heap.push new).get? s.heap.objs.size = some new := Heap.get?_push_size _ (by rw [hnew]; rfl)
      have g2 : Shared.TypeIs { s with heap := s.heap.push new } (.ref s.heap.objs.size) "set" := ⟨new, g1, by rw [hnew]⟩
      have g3 := F.called_set.init.lookup
      have g4 := F.called_set.init.bind (.ref s.heap.objs.size)
      repeat (any_goals (first | assumption | wp_step))
      refine codeAny_mono (codeAny_call_builtin (R := wants (fun v s2 => v = .none ∧ ∃ rows, Filled knd s.heap s.heap.objs.size ks ks.length s2 rows ∧ s2.gens = s.gens ∧ s2.drawn = s.drawn ∧ s2.os = s.os) E) F.called_set.init.plain F.entry_set_init (check_set_init_1 g2 ?_)) fun res2 s2 h2 => ?_
      · obtain ⟨u, hu1, hu2, nu, hu3⟩ := hl
        obtain ⟨uc, ud, ux, us⟩ := u
        simp only at hu2 hu3
        subst hu2; subst hu3
        have lt : l < s.heap.objs.size := Heap.lt_size hu1
        have gl : (s.heap.push new).get? l = some { cls := .type "list", dict := ud, data := .seq items nu, slots := us } := Heap.get?_push_of_some _ hu1
        have isl : (s.heap.push new).IsList l items := ⟨_, gl, rfl, nu, rfl⟩
        have k1 := F.sub_list_set
        have k2 := F.sub_list_frozenset
        have k3 : (Value.type "list" == Value.type "dict") = false := by decide
        subst hnew
        unfold Builtin.«set.__init__» noKeywords Builtin.Frozenset.updateFrom
        generalize hit2 : pyIter = it
        wp_walk
        subst hit2
        refine wpAny_pyIter_list isl ?_
        refine wpAny_bind (wpAny_runValue ?_)
        have size : items.size = ks.length := by
          have := congrArg List.length hit
          rwa [Array.length_toList, List.length_map] at this
        have bare : ∀ c, s.heap.objs.size ≤ c → s.heap.get? c = none := fun c hc => by
          cases e : s.heap.get? c with
          | none => rfl
          | some o => exact absurd (Nat.lt_of_lt_of_le (Heap.lt_size e) hc) (Nat.lt_irrefl _)
        generalize hnew : ({ cls := .type "set", dict := none, data := .set #[] 0 (.fresh 0 0 (!w.params.followText "set-order")) } : Obj) = new at isl g1 gl
        have pz : (s.heap.push new).objs.size = s.heap.objs.size + 1 := Heap.size_push ..
        have ne : l ≠ (s.heap.push new).objs.size := Nat.ne_of_lt (by rw [pz]; exact Nat.lt_succ_of_lt lt)
        have away : s.heap.objs.size ∉ [(s.heap.push new).objs.size, l] := by
          rw [pz]
          simp only [List.mem_cons, List.not_mem_nil, or_false, not_or]
          exact ⟨Nat.ne_of_lt (Nat.lt_succ_self _), Nat.ne_of_gt lt⟩
        have two : ∀ {it : Obj} (c : Addr) (o : Obj), (s.heap.push new).get? c = some o → ((s.heap.push new).push it).get? c = some o := fun c o e => Heap.get?_push_of_some _ e
        refine fill_loop (s0 := s) size (Walks.list (A := A.in1.in1.in1) (by simp [hh]) _ l ne items).toS away hz (fun i v hv => ?_) hk (bare _ (Nat.le_refl _)) (fun c hc => bare c (by rw [List.mem_singleton.mp hc, pz]; omega)) hu (fun s' rows f m => ?_) ks.length 0 _ [] (by omega) ⟨⟨_, Heap.get?_push_size _ rfl, rfl, rfl⟩, isl.push _⟩ ⟨fun c o hc e => two c o (Heap.get?_push_of_some _ e), rfl, rfl, rfl, Nat.le_refl _⟩ ⟨⟨_, _, _, fresh (two _ _ (hnew ▸ g1))⟩, Nat.le_refl _, (fun _ z => nomatch z), (fun _ z => nomatch z), fun c o e => two c o (Heap.get?_push_of_some _ e)⟩
        · have e : items.toList[i]? = some v := by rw [Array.getElem?_toList]; exact hv
          rw [hit, List.getElem?_map] at e
          obtain ⟨r, hr, rfl⟩ := Option.map_eq_some_iff.mp e
          exact ⟨r, hr, rfl⟩
        · refine wpAny_pure ?_
          show wpAny _ _ (ret Value.none) _ _ _
          exact wpAny_pure ⟨rfl, rows, f, m.gens, m.drawn, m.os⟩
      · cases res2 with
        | error e => exact h2
        | ok f2 =>
          cases f2 with
          | ret v =>
            obtain ⟨rfl, rows, g5, g6, g7, g8⟩ := h2
            have last := fin s2 rows g5 g6 g7 g8
            show wpAny _ _ (pure (some Value.none)) _ _ _
            refine wpAny_pure ?_
            show wpAny _ _ (ret (Value.ref s.heap.objs.size)) _ _ _
            exact wpAny_pure last
          | _ => exact h2.elim
    | _ => exact hres.elim
end
end TK

namespace DL
open PySem PySem.Spec PyProof.Rows L2
section
variable {env : Nv} {K : PySem.W.Frag} {te : TE} {nx : Nv → Prop} {rt : D → Prop} {bk ct : Nv → Prop}
/-- xs.extend(e) -/
theorem ds_extend {i : Nat} {ds : List D} (hi : env[i]? = some (.own (.lst ds))) (h : De te env fun d => ∃ es, d = .lst es ∧ ds.length + es.length ≤ 1000000 ∧ nx (env.set i (.own (.lst (ds ++ es))))) : Ds (tDrop (tBM K "list" rExtend (tVar i) (tCons te tNil))) env nx rt bk ct := fun B M σ H S E q1 q2 q3 q4 => by
  obtain ⟨p, u, h1, h2, h3, h4, h5⟩ := S.own i _ hi
  cases h5 with
  | @lst vs _ hs =>
    refine ⟨.ref p, h1, .inl ⟨rfl, vs, .of h4⟩, h B M σ H S _ fun v H1 d hd S1 e1 i1 => ?_⟩
    obtain ⟨es, rfl, hz, hd⟩ := hd
    obtain ⟨q, us, rfl, hq, hu, hus⟩ := is_lst i1
    have h4' : H1 p = some (.lst vs) := e1.1 p _ (fun z => h3 (z ▸ S.st0)) h4
    have hs' : Iss B.st M H1 vs ds := S.iss e1 hs
    exact ⟨p, q, vs, us, rfl, rfl, h4', hu, Nat.le_trans (by rw [hs'.length, hus.length]; exact hz) (by decide), q1 M σ _ _ hd (S1.mutate hi h1 h4' (.lst hs') (.lst (hs'.append hus)))⟩
end
/-! ### reduced words in order: those that go on from a word -/
/-- the letters that can come behind a word -/
def chW (ls w : List Nat) : List Nat := ls.filter fun c => decide (w.getLast? ≠ some (sw c))
/-- the words that go on by n letters, in order -/
def extW (ls : List Nat) : Nat → List Nat → List (List Nat)
  | 0, w => [w]
  | n + 1, w => (chW ls w).flatMap fun c => extW ls n (w ++ [c])
theorem extW_back (ls : List Nat) : ∀ (n : Nat) (w : List Nat), extW ls (n + 1) w = (extW ls n w).flatMap fun u => (chW ls u).map fun c => u ++ [c]
  | 0, w => by
    show (chW ls w).flatMap (fun c => [w ++ [c]]) = [w].flatMap fun u => (chW ls u).map fun c => u ++ [c]
    rw [List.flatMap_cons, List.flatMap_nil, List.append_nil]
    have : ∀ l : List Nat, l.flatMap (fun c => [w ++ [c]]) = l.map fun c => w ++ [c] := fun l => by
      induction l with
      | nil => rfl
      | cons a l ih => rw [List.flatMap_cons, ih, List.map_cons]; rfl
    exact this _
  | n + 1, w => by
    show (chW ls w).flatMap (fun c => extW ls (n + 1) (w ++ [c])) = ((chW ls w).flatMap fun c => extW ls n (w ++ [c])).flatMap _
    rw [List.flatMap_assoc]
    congr 1
    funext c
    exact extW_back ls n (w ++ [c])
theorem flatMap_at {α β : Type} {f : α → List β} {m : Nat} (hm : 0 < m) : ∀ (l : List α), (∀ a ∈ l, (f a).length = m) → ∀ (j i : Nat) (a : α), l[j]? = some a → i < m → (l.flatMap f)[j * m + i]? = (f a)[i]?
  | [], _, j, i, a, h, _ => by simp at h
  | b :: l, hl, 0, i, a, h, hi => by
    obtain rfl : b = a := by simpa using h
    rw [List.flatMap_cons, Nat.zero_mul, Nat.zero_add, List.getElem?_append_left (by rw [hl b List.mem_cons_self]; exact hi)]
  | b :: l, hl, j + 1, i, a, h, hi => by
    have hb := hl b List.mem_cons_self
    rw [List.flatMap_cons, Nat.succ_mul, show j * m + m + i = m + (j * m + i) by omega, List.getElem?_append_right (by rw [hb]; omega), hb, Nat.add_sub_cancel_left]
    exact flatMap_at hm l (fun x hx => hl x (List.mem_cons_of_mem _ hx)) j i a (by simpa using h) hi
theorem flatMap_len {α β : Type} {f : α → List β} {m : Nat} : ∀ (l : List α), (∀ a ∈ l, (f a).length = m) → (l.flatMap f).length = l.length * m
  | [], _ => by simp
  | b :: l, hl => by
    rw [List.flatMap_cons, List.length_append, hl b List.mem_cons_self, flatMap_len l fun x hx => hl x (List.mem_cons_of_mem _ hx), List.length_cons, Nat.succ_mul, Nat.add_comm]
/-- how many go on by n letters -/
def cntW (ls : List Nat) (n : Nat) (w : List Nat) : Nat := if w = [] then (if n = 0 then 1 else ls.length * (ls.length - 1) ^ (n - 1)) else (ls.length - 1) ^ n
theorem no_in {ls : List Nat} : ∀ c ∈ ([] : List Nat), c ∈ ls := fun _ z => nomatch z
structure LsOk (ls : List Nat) : Prop where
  asc : Asc ls
  nd : ls.Nodup
  swp : ∀ c ∈ ls, sw c ∈ ls
  lt : ∀ c ∈ ls, c ∈ LTR
  two : 2 ≤ ls.length
theorem chW_nil (ls : List Nat) : chW ls [] = ls := by
  unfold chW
  rw [List.filter_eq_self]
  intro c hc
  exact decide_eq_true (by simp)
theorem filter_ne_len {l : List Nat} {x : Nat} (nd : l.Nodup) (h : x ∈ l) : (l.filter fun c => decide (c ≠ x)).length = l.length - 1 := by
  have e : (l.filter fun c => decide (c ≠ x)) = l.erase x := by
    rw [nd.erase_eq_filter]
    congr 1
    funext c
    by_cases z : c = x <;> simp [z]
  rw [e, List.length_erase_of_mem h]
theorem chW_len {ls w : List Nat} (L : LsOk ls) (hw : ∀ c ∈ w, c ∈ ls) (h0 : w ≠ []) : (chW ls w).length = ls.length - 1 := by
  have hl := List.getLast_mem h0
  have hx := hw _ hl
  have e : chW ls w = ls.filter fun c => decide (c ≠ sw (w.getLast h0)) := by
    unfold chW
    refine List.filter_congr fun c hc => ?_
    rw [List.getLast?_eq_some_getLast h0]
    refine decide_eq_decide.mpr (not_congr ⟨fun z => ?_, fun z => ?_⟩)
    · have := Option.some.inj z
      rw [this, sw_sw (L.lt c hc)]
    · rw [z, sw_sw (L.lt _ hx)]
  rw [e, filter_ne_len L.nd (L.swp _ hx)]
theorem chW_sub {ls w : List Nat} : ∀ c ∈ chW ls w, c ∈ ls := fun c hc => (List.mem_filter.mp hc).1
theorem chW_len2 {ls w : List Nat} (L : LsOk ls) (hw : ∀ c ∈ w, c ∈ ls) : (chW ls w).length = if w = [] then ls.length else ls.length - 1 := by
  split
  · next h => rw [h, chW_nil]
  · next h => exact chW_len L hw h
theorem cntW_step {ls w : List Nat} (L : LsOk ls) (hw : ∀ c ∈ w, c ∈ ls) (n : Nat) (c : Nat) : cntW ls (n + 1) w = (chW ls w).length * cntW ls n (w ++ [c]) := by
  have ne : w ++ [c] ≠ [] := by simp
  rw [chW_len2 L hw]
  unfold cntW
  rw [if_neg ne]
  split
  · rw [if_neg (by omega)]
    rfl
  · rw [Nat.pow_succ, Nat.mul_comm]
theorem cntW_pos {ls : List Nat} (L : LsOk ls) (n : Nat) (w : List Nat) : 0 < cntW ls n w := by
  have := L.two
  have p : ∀ k, 0 < (ls.length - 1) ^ k := fun k => Nat.pow_pos (by omega)
  unfold cntW
  split
  · split
    · exact Nat.one_pos
    · exact Nat.mul_pos (by omega) (p _)
  · exact p _
theorem in_snoc {ls w : List Nat} {c : Nat} (hw : ∀ c ∈ w, c ∈ ls) (hc : c ∈ ls) : ∀ x ∈ w ++ [c], x ∈ ls := fun x hx => (List.mem_append.mp hx).elim (hw x) fun z => by rw [List.mem_singleton.mp z]; exact hc
theorem cntW_same {ls : List Nat} (n : Nat) (w : List Nat) (c d : Nat) : cntW ls n (w ++ [c]) = cntW ls n (w ++ [d]) := by
  unfold cntW
  rw [if_neg (by simp), if_neg (by simp)]
theorem extW_len {ls : List Nat} (L : LsOk ls) : ∀ (n : Nat) (w : List Nat), (∀ c ∈ w, c ∈ ls) → (extW ls n w).length = cntW ls n w
  | 0, w, _ => by
    show 1 = cntW ls 0 w
    unfold cntW
    split <;> simp
  | n + 1, w, hw => by
    show ((chW ls w).flatMap fun c => extW ls n (w ++ [c])).length = _
    rw [cntW_step L hw n 0, flatMap_len (m := cntW ls n (w ++ [0])) _ fun c hc => by rw [extW_len L n _ (in_snoc hw (chW_sub c hc))]; exact cntW_same _ _ _ _]
/-- one letter on: which word stands at a place -/
theorem extW_at {ls : List Nat} (L : LsOk ls) {n : Nat} {w : List Nat} (hw : ∀ c ∈ w, c ∈ ls) {j c i : Nat} (hc : (chW ls w)[j]? = some c) (hi : i < cntW ls n (w ++ [c])) : (extW ls (n + 1) w)[j * cntW ls n (w ++ [c]) + i]? = (extW ls n (w ++ [c]))[i]? :=
  flatMap_at (cntW_pos L n _) (chW ls w) (fun d hd => by rw [extW_len L n _ (in_snoc hw (chW_sub d hd))]; exact cntW_same _ _ _ _) j i c hc hi
theorem extW_mem {ls : List Nat} : ∀ (n : Nat) {w v : List Nat}, v ∈ extW ls n w → ∃ u, v = w ++ u ∧ u.length = n
  | 0, w, v, h => ⟨[], by rw [List.append_nil]; exact List.mem_singleton.mp h, rfl⟩
  | n + 1, w, v, h => by
    obtain ⟨c, hc, hv⟩ := List.mem_flatMap.mp h
    obtain ⟨u, e, hu⟩ := extW_mem n hv
    exact ⟨c :: u, by rw [e, List.append_assoc]; rfl, by rw [List.length_cons, hu]⟩
theorem redW_snoc {w : List Nat} {c : Nat} (hc : c ∈ LTR) : red (w ++ [c]) ↔ red w ∧ w.getLast? ≠ some (sw c) := by
  rw [red_append]
  constructor
  · rintro ⟨a, _, b⟩
    exact ⟨a, fun z => b (sw c) c z rfl rfl⟩
  · rintro ⟨a, b⟩
    refine ⟨a, trivial, fun x y hx hy e => b ?_⟩
    have hy : some c = some y := hy
    rw [hx, e, Option.some.inj hy]
/-- all of them are reduced words, and all reduced words are there -/
theorem extW_red {ls : List Nat} (L : LsOk ls) : ∀ (n : Nat) {w : List Nat}, (∀ c ∈ w, c ∈ ls) → red w → ∀ v, v ∈ extW ls n w ↔ (∃ u, v = w ++ u ∧ u.length = n) ∧ red v ∧ ∀ c ∈ v, c ∈ ls
  | 0, w, hw, hr, v => by
    constructor
    · intro h
      have e : v = w := List.mem_singleton.mp h
      exact ⟨⟨[], by rw [List.append_nil]; exact e, rfl⟩, by rw [e]; exact hr, by rw [e]; exact hw⟩
    · rintro ⟨⟨u, e, hu⟩, _⟩
      rw [List.length_eq_zero_iff.mp hu, List.append_nil] at e
      exact List.mem_singleton.mpr e
  | n + 1, w, hw, hr, v => by
    constructor
    · intro h
      obtain ⟨c, hc, hv⟩ := List.mem_flatMap.mp h
      obtain ⟨h1, h2⟩ := List.mem_filter.mp hc
      have h2 := of_decide_eq_true h2
      obtain ⟨⟨u, e, hu⟩, a, b⟩ := (extW_red L n (in_snoc hw h1) ((redW_snoc (L.lt c h1)).mpr ⟨hr, h2⟩) v).mp hv
      exact ⟨⟨c :: u, by rw [e, List.append_assoc]; rfl, by rw [List.length_cons, hu]⟩, a, b⟩
    · rintro ⟨⟨u, e, hu⟩, a, b⟩
      cases u with
      | nil => cases hu
      | cons c u =>
        have e2 : v = (w ++ [c]) ++ u := by rw [e, List.append_assoc]; rfl
        have hc : c ∈ ls := b c (by rw [e]; simp)
        have hr2 : red (w ++ [c]) := by
          rw [e2] at a
          exact (red_append.mp a).1
        refine List.mem_flatMap.mpr ⟨c, List.mem_filter.mpr ⟨hc, decide_eq_true ((redW_snoc (L.lt c hc)).mp hr2).2⟩, (extW_red L n (in_snoc hw hc) hr2 v).mpr ⟨⟨u, e2, by rw [List.length_cons] at hu; omega⟩, a, b⟩⟩
theorem ltW_more {u v : List Nat} (h : ltW u v = true) : ∀ {a b : List Nat}, a.length = b.length → ltW (u ++ a) (v ++ b) = true := by
  intro a b hl
  induction a generalizing u v b with
  | nil =>
    rw [List.length_eq_zero_iff.mp hl.symm, List.append_nil, List.append_nil]
    exact h
  | cons c a ih =>
    cases b with
    | nil => cases hl
    | cons d b =>
      have := ih (ltW_snoc c d h) (b := b) (by rw [List.length_cons, List.length_cons] at hl; omega)
      rwa [List.append_assoc, List.append_assoc] at this
theorem pw_flatMap {α β : Type} {R : β → β → Prop} {f : α → List β} : ∀ {l : List α}, l.Pairwise (fun a b => ∀ x ∈ f a, ∀ y ∈ f b, R x y) → (∀ a ∈ l, (f a).Pairwise R) → (l.flatMap f).Pairwise R
  | [], _, _ => List.Pairwise.nil
  | a :: l, h, k => by
    obtain ⟨h1, h2⟩ := List.pairwise_cons.mp h
    rw [List.flatMap_cons]
    refine List.pairwise_append.mpr ⟨k a List.mem_cons_self, pw_flatMap h2 fun b hb => k b (List.mem_cons_of_mem _ hb), fun x hx y hy => ?_⟩
    obtain ⟨b, hb, hy⟩ := List.mem_flatMap.mp hy
    exact h1 b hb x hx y hy
theorem extW_srt {ls : List Nat} (L : LsOk ls) : ∀ (n : Nat) (w : List Nat), (extW ls n w).Pairwise fun u v => ltW u v = true
  | 0, w => List.pairwise_singleton _ _
  | n + 1, w => by
    refine pw_flatMap ?_ fun c _ => extW_srt L n (w ++ [c])
    have A : (chW ls w).Pairwise fun a b => ixL a < ixL b := List.Pairwise.sublist List.filter_sublist L.asc
    refine A.imp fun {a b} hab x hx y hy => ?_
    obtain ⟨u, rfl, hu⟩ := extW_mem n hx
    obtain ⟨v, rfl, hv⟩ := extW_mem n hy
    exact ltW_more (ltW_last hab) (by omega)
theorem srt_idx {l : List (List Nat)} (h : l.Pairwise fun u v => ltW u v = true) {i j : Nat} {w : List Nat} (hi : l[i]? = some w) (hj : l[j]? = some w) : i = j := by
  obtain ⟨i1, i2⟩ := List.getElem?_eq_some_iff.mp hi
  obtain ⟨j1, j2⟩ := List.getElem?_eq_some_iff.mp hj
  have irr : ltW w w = true → False := fun z => by rw [ltW_irr] at z; cases z
  rcases Nat.lt_trichotomy i j with z | z | z
  · have := List.pairwise_iff_getElem.mp h i j i1 j1 z
    rw [i2, j2] at this
    exact (irr this).elim
  · exact z
  · have := List.pairwise_iff_getElem.mp h j i j1 i1 z
    rw [i2, j2] at this
    exact (irr this).elim
theorem srt_lt {l : List (List Nat)} (h : l.Pairwise fun u v => ltW u v = true) {i j : Nat} {u v : List Nat} (hi : l[i]? = some u) (hj : l[j]? = some v) (hij : i < j) : ltW u v = true := by
  obtain ⟨i1, i2⟩ := List.getElem?_eq_some_iff.mp hi
  obtain ⟨j1, j2⟩ := List.getElem?_eq_some_iff.mp hj
  have := List.pairwise_iff_getElem.mp h i j i1 j1 hij
  rwa [i2, j2] at this
/-- the words of fewer than n letters -/
def bseW (ls : List Nat) (n : Nat) : Nat := ((List.range n).map fun k => cntW ls k []).sum
theorem bseW_succ (ls : List Nat) (n : Nat) : bseW ls (n + 1) = bseW ls n + cntW ls n [] := by
  unfold bseW
  rw [List.range_succ, List.map_append, List.sum_append]
  simp
/-- the word with an index -/
structure NthW (ls : List Nat) (i : Nat) (w : List Nat) : Prop where
  at' : ∃ k, (extW ls w.length [])[k]? = some w ∧ i = bseW ls w.length + k ∧ k < cntW ls w.length []
theorem NthW.uniq {ls : List Nat} (L : LsOk ls) {i j : Nat} {w : List Nat} (h : NthW ls i w) (k : NthW ls j w) : i = j := by
  obtain ⟨a, h1, h2, _⟩ := h.at'
  obtain ⟨b, k1, k2, _⟩ := k.at'
  rw [h2, k2, srt_idx (extW_srt L _ _) h1 k1]
theorem bseW_mono {ls : List Nat} {m n : Nat} (h : m ≤ n) : bseW ls m ≤ bseW ls n := by
  induction n with
  | zero => rw [show m = 0 by omega]; exact Nat.le_refl _
  | succ n ih =>
    by_cases e : m = n + 1
    · rw [e]; exact Nat.le_refl _
    · rw [bseW_succ]
      exact Nat.le_trans (ih (by omega)) (Nat.le_add_right _ _)
theorem NthW.len {ls : List Nat} {i : Nat} {w : List Nat} (h : NthW ls i w) : bseW ls w.length ≤ i ∧ i < bseW ls (w.length + 1) := by
  obtain ⟨a, h1, h2, h3⟩ := h.at'
  rw [bseW_succ]
  omega
theorem NthW.lt {ls : List Nat} (L : LsOk ls) {i j : Nat} {u v : List Nat} (h : NthW ls i u) (k : NthW ls j v) (hij : i < j) : ltW u v = true := by
  have lu := h.len
  have lv := k.len
  rcases Nat.lt_trichotomy u.length v.length with z | z | z
  · exact ltW_iff.mpr (.inl z)
  · obtain ⟨a, h1, h2, _⟩ := h.at'
    obtain ⟨b, k1, k2, _⟩ := k.at'
    rw [← z] at k1 k2
    exact srt_lt (extW_srt L _ _) h1 k1 (by omega)
  · have := bseW_mono (ls := ls) (show v.length + 1 ≤ u.length from z)
    omega
theorem NthW.same {ls : List Nat} {i : Nat} {u v : List Nat} (h : NthW ls i u) (k : NthW ls i v) : u = v := by
  have lu := h.len
  have lv := k.len
  have z : u.length = v.length := by
    rcases Nat.lt_trichotomy u.length v.length with z | z | z
    · have := bseW_mono (ls := ls) (show u.length + 1 ≤ v.length from z)
      omega
    · exact z
    · have := bseW_mono (ls := ls) (show v.length + 1 ≤ u.length from z)
      omega
  obtain ⟨a, h1, h2, _⟩ := h.at'
  obtain ⟨b, k1, k2, _⟩ := k.at'
  rw [← z] at k1 k2
  obtain rfl : a = b := by omega
  rw [h1] at k1
  exact Option.some.inj k1
theorem NthW.red {ls : List Nat} (L : LsOk ls) {i : Nat} {w : List Nat} (h : NthW ls i w) : DL.red w ∧ ∀ c ∈ w, c ∈ ls := by
  obtain ⟨a, h1, _⟩ := h.at'
  exact ((extW_red L w.length (w := []) no_in trivial w).mp (List.mem_of_getElem? h1)).2
theorem NthW.of {ls : List Nat} (L : LsOk ls) {w : List Nat} (hr : DL.red w) (hw : ∀ c ∈ w, c ∈ ls) : ∃ i, NthW ls i w := by
  obtain ⟨k, hk⟩ := List.mem_iff_getElem?.mp ((extW_red L w.length (w := []) no_in trivial w).mpr ⟨⟨w, rfl, rfl⟩, hr, hw⟩)
  exact ⟨_, ⟨k, hk, rfl, by rw [← extW_len L w.length [] no_in]; exact (List.getElem?_eq_some_iff.mp hk).1⟩⟩
/-- all of at most n letters, in order -/
def allW (ls : List Nat) (n : Nat) : List (List Nat) := (List.range (n + 1)).flatMap fun k => extW ls k []
theorem allW_succ (ls : List Nat) (n : Nat) : allW ls (n + 1) = allW ls n ++ extW ls (n + 1) [] := by
  unfold allW
  rw [List.range_succ, List.flatMap_append]
  simp
theorem allW_len {ls : List Nat} (L : LsOk ls) : ∀ n, (allW ls n).length = bseW ls (n + 1)
  | 0 => by
    unfold allW bseW
    simp [extW, cntW]
  | n + 1 => by rw [allW_succ, List.length_append, allW_len L n, extW_len L _ _ no_in, ← bseW_succ]
theorem allW_nth {ls : List Nat} (L : LsOk ls) : ∀ (n : Nat) {i : Nat} {w : List Nat}, (allW ls n)[i]? = some w → NthW ls i w
  | 0, i, w, h => by
    have e : allW ls 0 = [[]] := by unfold allW; simp [extW]
    rw [e] at h
    cases i with
    | zero =>
      obtain rfl : [] = w := by simpa using h
      exact ⟨0, rfl, rfl, cntW_pos L _ _⟩
    | succ i => simp at h
  | n + 1, i, w, h => by
    rw [allW_succ] at h
    by_cases hi : i < (allW ls n).length
    · rw [List.getElem?_append_left hi] at h
      exact allW_nth L n h
    · rw [List.getElem?_append_right (by omega), allW_len L n] at h
      obtain ⟨u, e, hu⟩ := extW_mem (n + 1) (List.mem_of_getElem? h)
      have hl : w.length = n + 1 := by rw [e]; exact hu
      rw [allW_len L n] at hi
      refine ⟨i - bseW ls (n + 1), by rw [hl]; exact h, by rw [hl]; omega, ?_⟩
      rw [hl, ← extW_len L (n + 1) [] no_in]
      exact (List.getElem?_eq_some_iff.mp h).1
end DL

namespace DL
open PySem PySem.Spec PyProof.Rows L2
/-! ### enumerate(text) -/
def Ies (x : Str) : It :=
  ⟨fun i H => i < x.cps.size, fun i H v H' => ∃ T c, v = .ref T ∧ H T = none ∧ H' = upd H T (.tup [.int (i : Nat), .str ⟨#[c]⟩]) ∧ x.cps[i]? = some c, fun i H => x.cps.size ≤ i⟩
theorem turn_es {P : Program} {w : World} {K : PySem.W.Frag} {elts : List Expr} {kk : Nat} {tpos : Pos} {x : Str} {t : Tok} {e it : Addr} :
    Turn P w K (.Tuple elts kk tpos) (Ies x) [e, it] e (fun i h => (∃ old, IsEnum h e it ((i : Nat) : Int) old) ∧ h.IsStrIter it (strIterType x) x t i ∧ e ≠ it ∧ i ≤ x.cps.size) where
  mem := by simp
  obj := fun i h st b hb => by
    obtain ⟨⟨old, he⟩, ⟨o, ho, hc, hd⟩, _⟩ := st
    have e' : b = e ∨ b = it := by simpa using hb
    rcases e' with rfl | rfl
    · exact ⟨_, he, fun v q => nomatch q⟩
    · exact ⟨o, ho, fun v q => by rw [hd] at q; cases q⟩
  keep := fun i h h' st k => by
    obtain ⟨⟨old, he⟩, ⟨o, ho, r⟩, hne, hn⟩ := st
    exact ⟨⟨old, k e (by simp) _ he⟩, ⟨o, k it (by simp) _ ho, r⟩, hne, hn⟩
  item := by
    intro X hP hw hK hc i pins s σ H E I hf st hg
    subst hP hw hK
    obtain ⟨⟨old, he⟩, hit, hne, _⟩ := st
    have g1 : i < x.cps.size := hg
    have D : Draws X.prog X.w X.A.in1 it [it] _ _ _ := Draws.text (show X.A.in1.handled = none from I.ok.hd hc) it x t
    have hel : e < s.heap.objs.size := Heap.lt_size he
    have hil : it < s.heap.objs.size := by obtain ⟨_, q, _⟩ := hit; exact Heap.lt_size q
    refine wpAny_pyNext_enum_itemD D he hit g1 hne (fun z => by simp [hne] at z) fun x2 h' tk y2 ho hst hT hsz hk => ?_
    obtain ⟨c, u, hcx, rfl⟩ := y2
    refine ⟨_, rfl, wpAny_letOwnedTupleGo_enum (s := { s with heap := h', toks := tk + 1 }) ho fun h'' he' sb => ?_⟩
    have hT2 : h''.get? s.heap.objs.size = some { cls := .type "tuple", data := .seq #[.int i tk, .str ⟨#[c]⟩ u] } := (sb.2 _ (Nat.ne_of_gt hel)).trans hT
    have new : ObjOk X.prog X.w (upd H s.heap.objs.size (.tup [.int (i : Nat), .str ⟨#[c]⟩])) h'' s.heap.objs.size (.tup [.int (i : Nat), .str ⟨#[c]⟩]) :=
      ⟨by show 2 ≤ sizeLine; decide, [.int i tk, .str ⟨#[c]⟩ u], .cons ⟨_, rfl⟩ (.cons ⟨_, rfl⟩ .nil), ⟨_, hT2, rfl, _, rfl⟩⟩
    have I1 : L2.Inv X pins σ (upd H s.heap.objs.size (.tup [.int (i : Nat), .str ⟨#[c]⟩])) { s with heap := h'', toks := tk + 1 } :=
      I.turnedNew (ch := [e, it]) (fun b ob hb q => (sb.2 b (fun z => hb (by simp [z]))).trans (hk b ob (fun z => hb (by simp [z])) (fun z => hb (by simp [z])) q)) hf (Nat.le_refl _) new
    refine ⟨.ref s.heap.objs.size, _, I1, rfl, ⟨_, c, rfl, I.hok.fresh (Nat.le_refl _), rfl, hcx⟩, ⟨⟨.str ⟨#[c]⟩ u, ?_⟩, ?_, hne, g1⟩, fun b hb => ?_⟩
    · have e1 : ((i + 1 : Nat) : Int) = (i : Int) + 1 := by omega
      rw [e1]; exact he'
    · obtain ⟨o1, e1, r1⟩ := hst
      exact ⟨o1, (sb.2 it (Ne.symm hne)).trans e1, r1⟩
    · have hb' : b < s.heap.objs.size := by
        have e' : b = e ∨ b = it := by simpa using hb
        rcases e' with rfl | rfl
        · exact hel
        · exact hil
      rw [upd_ne (Nat.ne_of_lt hb')]
      exact (hf b hb).1
  done := by
    intro X hP hw hK hc i pins s σ H E I hf st hg
    subst hP hw hK
    obtain ⟨⟨old, he⟩, hit, hne, hn⟩ := st
    have g1 : x.cps.size ≤ i := hg
    have D : Draws X.prog X.w X.A.in1 it [it] _ _ _ := Draws.text (show X.A.in1.handled = none from I.ok.hd hc) it x t
    obtain ⟨f0, f1, f2, f3, f4, f5⟩ := hf it (by simp)
    have hni : i = x.cps.size := by omega
    refine wpAny_pyNext_enum_endD D he (hni ▸ hit) fun h' eb => ⟨rfl, I.turned (t' := s.toks) (fun b o hb q => eb b o hb q) f0 f1 f3 f4 f5⟩
  self := fun A i s Q E st h => by
    obtain ⟨⟨_, he⟩, _⟩ := st
    exact wpAny_pyIter_enum he h
def iEs (ta : TA) : TI := fun σ H R => ta σ H fun vs H1 => ∃ x, vs = [.str x] ∧ R (Ies x) H1
theorem pi_es {X : Cx} {e : Expr} {ta : TA} {p pos tpos : Pos} {elts : List Expr} {kk : Nat} (hg : Gl X "enumerate") (hm : X.mg "enumerate" = none) (ha : PA X [e] ta) (hs : starEach [e] X.env = [(false, eval e X.env)] := by rfl) :
    PI X (.Tuple elts kk tpos) (.Call (.Name "enumerate" p) [e] [] pos) (iEs ta) := by
  refine ⟨fun pins s σ H R I h => ?_⟩
  refine Call_ (ld_blt I hg hm boot_enumerate (PyProof.Rows.callWith_type1 (thn (ha.run pos pins s σ H _ I h) fun us s1 ⟨vs, H1, I1, r1, q1⟩ => ?_) hs rfl))
  obtain ⟨x, ex, q⟩ := q1
  subst ex
  cases r1 with
  | cons r rr =>
    cases rr
    obtain ⟨t, rfl⟩ := r
    refine call_en (begins_text x t) trivial fun h' he hi hk => wpAny_pyIter_enum he ?_
    have I2 : L2.Inv X pins σ H1 { s1 with heap := h' } := I1.kept (t' := s1.toks) hk
    refine ⟨s1.heap.objs.size + 1, [s1.heap.objs.size + 1, s1.heap.objs.size], _, _, H1, rfl, I2, turn_es (t := t) (e := s1.heap.objs.size + 1) (it := s1.heap.objs.size), ⟨⟨.none, he⟩, ⟨_, hi, rfl, rfl⟩, Nat.succ_ne_self _, Nat.zero_le _⟩, fun b hb => ?_, q⟩
    have e' : b = s1.heap.objs.size + 1 ∨ b = s1.heap.objs.size := by simpa using hb
    have hle : s1.heap.objs.size ≤ b := by
      rcases e' with z | z <;> rw [z] <;> first | exact Nat.le_refl _ | exact Nat.le_add_right _ _
    exact I1.fpOk hle (I1.hok.fresh hle)
theorem di_es {env : Nv} {tas : TA} {post : List D → Prop} (h : Da tas env fun ds => ∃ l, ds = [.str l] ∧ post (enD (l.map sign))) : Di (iEs tas) env post := fun B M σ H S R q =>
  h B M σ H S _ fun vs H1 d ⟨l, e, hp⟩ S1 e1 i1 => by
    subst e
    cases i1 with
    | cons b r =>
      cases r
      cases is_str b
      have sz : (⟨l.toArray⟩ : Str).cps.size = l.length := by show l.toArray.size = l.length; simp
      refine ⟨⟨l.toArray⟩, rfl, q _ H1 [] _ hp S1 e1 (fun x hx => nomatch hx) ⟨fun M2 H2 hst hM hh => ?_⟩⟩
      refine ⟨fun i hi => ?_, fun i hi => ?_, fun i d x H' hd hy => ?_⟩
      · rw [enD_len, List.length_map] at hi
        show i < (⟨l.toArray⟩ : Str).cps.size
        rw [sz]
        exact hi
      · rw [enD_len, List.length_map] at hi
        show (⟨l.toArray⟩ : Str).cps.size ≤ i
        rw [sz]
        exact hi
      · obtain ⟨T, c, rfl, hT, rfl, hc⟩ := hy
        obtain ⟨r, h2, rfl⟩ := enD_get hd
        rw [List.getElem?_map] at h2
        obtain ⟨c', h3, rfl⟩ := Option.map_eq_some_iff.mp h2
        have hc' : l[i]? = some c := by rw [← hc]; simp
        rw [h3] at hc'
        cases hc'
        exact ⟨.inr ⟨T, _, hT, rfl⟩, is_pair (p := T) hT (.int _) (is_sign _ _ _ _) hM hst⟩
/-! ### s += text -/
theorem ipd_adds {X : Cx} : PIp X .Add rAddS := fun pins s σ H x y v u Q I r1 r2 h => iop_add_str pins s σ H x y v u Q I r1 r2 h
theorem ds_augS {env : Nv} {te : TE} {nx : Nv → Prop} {rt : D → Prop} {bk ct : Nv → Prop} {i : Nat} {a : List Nat} (ha : env[i]? = some (.dat (.str a))) (h : De te env fun d => ∃ b, d = .str b ∧ a.length + b.length ≤ 1000000 ∧ nx (env.set i (.dat (.str (a ++ b))))) : Ds (tAug i te rAddS) env nx rt bk ct := fun B M σ H S E q1 q2 q3 q4 => by
  obtain ⟨x, h1, h2⟩ := S.dat i _ ha
  cases is_str h2
  refine ⟨_, h1, h B M σ H S _ fun v H1 d hd S1 e1 i1 => ?_⟩
  obtain ⟨b, rfl, hz, hd⟩ := hd
  refine dop_adds (post := fun d => d = .str (a ++ b)) hz rfl B.st M H1 (.str ⟨a.toArray⟩) v S1.stm S1.stM S1.trk (.str a) i1 _ fun z H2 d hd' e2 i2 => ?_
  subst hd'
  have S2 := S1.fx e2
  exact q1 M _ H2 _ hd (S2.set i2)
theorem ps_nox {X : Cx} {st : Stmt} {t : TS} (h : PS X.nox st t) : PS X st t := ⟨fun pins s σ H D I hw =>
  wpAny_mono (h.run pins s σ H D (I.wish _) hw) (fun _ _ q => q.unwish) fun _ _ z => False.elim z⟩
end DL

theorem Law.lit_0 : (PySem.Str.ofString "AaBbCc").cps.toList = [65, 97, 66, 98, 67, 99] := by decide +kernel
theorem Law.lit_1 : (PySem.Str.ofString "aAbBcC").cps.toList = [97, 65, 98, 66, 99, 67] := by decide +kernel
theorem Law.lit_2 : (PySem.Str.ofString "").cps.toList = [] := by decide +kernel
theorem Law.lit_3 : (PySem.Str.ofString "rank").cps.toList = [114, 97, 110, 107] := by decide +kernel
theorem Law.lit_4 : (PySem.Str.ofString "index").cps.toList = [105, 110, 100, 101, 120] := by decide +kernel
theorem Law.lit_5 : (PySem.Str.ofString "aA").cps.toList = [97, 65] := by decide +kernel
theorem Law.lit_6 : (PySem.Str.ofString "a").cps.toList = [97] := by decide +kernel
theorem Law.lit_7 : (PySem.Str.ofString "first").cps.toList = [102, 105, 114, 115, 116] := by decide +kernel
theorem Law.lit_8 : (PySem.Str.ofString "second").cps.toList = [115, 101, 99, 111, 110, 100] := by decide +kernel
theorem Law.lit_9 : (PySem.Str.ofString "word").cps.toList = [119, 111, 114, 100] := by decide +kernel
theorem Law.lit_10 : (PySem.Str.ofString "length").cps.toList = [108, 101, 110, 103, 116, 104] := by decide +kernel
local macro_rules | `(tactic| walk_at "str") => `(tactic| first
  | refine DL.de_strL Law.lit_0 ?_
  | refine DL.de_strL Law.lit_1 ?_
  | refine DL.de_strL Law.lit_2 ?_
  | refine DL.de_strL Law.lit_3 ?_
  | refine DL.de_strL Law.lit_4 ?_
  | refine DL.de_strL Law.lit_5 ?_
  | refine DL.de_strL Law.lit_6 ?_
  | refine DL.de_strL Law.lit_7 ?_
  | refine DL.de_strL Law.lit_8 ?_
  | refine DL.de_strL Law.lit_9 ?_
  | refine DL.de_strL Law.lit_10 ?_
  | refine DL.de_str ?_)
local macro_rules | `(tactic| walk_at "cm") => `(tactic| first | exact Or.inl ⟨by omega, by omega⟩ | exact Or.inr ⟨by omega, by omega⟩)
local macro_rules | `(tactic| walk_at "sz") => `(tactic| first | omega | (simp only [List.length_cons, List.length_nil, List.length_append, List.length_map, List.length_take, List.length_drop, List.length_reverse]; omega) | (simp only [List.length_cons, List.length_nil, List.length_append, List.length_map, List.length_reverse] at *; omega))
local macro_rules | `(tactic| walk_at "de") => `(tactic| first
  | ((with_reducible show DL.De (L2.tVar _) _ _); refine DL.de_var rfl ?_)
  | ((with_reducible show DL.De (L2.tC (.int _)) _ _); refine DL.de_int ?_)
  | ((with_reducible show DL.De (L2.tC (.bl _)) _ _); refine DL.de_bl ?_)
  | ((with_reducible show DL.De (L2.tC (.str _)) _ _); walk_at "str")
  | ((with_reducible show DL.De (L2.tC .non) _ _); refine DL.de_non ?_)
  | ((with_reducible show DL.De (L2.tC (.ty _)) _ _); refine DL.de_ty ?_)
  | ((with_reducible show DL.De (L2.tOp _ _ _) _ _); refine DL.de_op ?_)
  | ((with_reducible show DL.De (L2.tUn _ _) _ _); refine DL.de_un ?_)
  | ((with_reducible show DL.De (L2.tCB _ _) _ _); refine DL.de_cb ?_)
  | ((with_reducible show DL.De (L2.tTup _) _ _); refine DL.de_tup ?_)
  | ((with_reducible show DL.De (L2.tLst _) _ _); refine DL.de_lst ?_)
  | ((with_reducible show DL.De (L2.tCall (DL.PF _) _ _ _) _ _); refine DL.de_call ?_)
  | ((with_reducible show DL.De (L2.tChain _ _ _ _ _) _ _); refine DL.de_chain ?_)
  | ((with_reducible show DL.De (L2.tAndV _ _) _ _); refine DL.de_andV ?_)
  | ((with_reducible show DL.De (L2.tOrV _ _) _ _); refine DL.de_orV ?_)
  | ((with_reducible show DL.De (L2.tNotV _) _ _); refine DL.de_notV ?_)
  | ((with_reducible show DL.De (L2.tIf _ _ _) _ _); refine DL.de_if ?_)
  | ((with_reducible show DL.De (L2.tBM _ _ _ _ _) _ _); refine DL.de_bm ?_)
  | ((with_reducible show DL.De (L2.tBM0 _ _ _ _) _ _); refine DL.de_bm0 ?_)
  | ((with_reducible show DL.De (DL.tRevS _) _ _); refine DL.de_revS ?_)
  | ((with_reducible show DL.De (L2.tSl _ _ _ _) _ _); refine DL.de_sl ?_)
  | ((with_reducible show DL.Da L2.tNil _ _); refine DL.da_nil ?_)
  | ((with_reducible show DL.Da (L2.tCons _ _) _ _); refine DL.da_cons ?_)
  | ((with_reducible show DL.Do L2.tNoPart _ _); refine DL.do_none ?_)
  | ((with_reducible show DL.Do (L2.tPart _) _ _); refine DL.do_part ?_)
  | ((with_reducible show DL.Dt (L2.tTest _) _ _); refine DL.dt_test ?_)
  | ((with_reducible show DL.Dt (L2.tB _) _ _); refine DL.dt_B ?_)
  | ((with_reducible show DL.Dt (L2.tAnd _ _) _ _); refine DL.dt_and ?_)
  | ((with_reducible show DL.Dt (L2.tOr _ _) _ _); refine DL.dt_or ?_)
  | ((with_reducible show DL.Dt (L2.tNot _) _ _); refine DL.dt_not ?_)
  | ((with_reducible show DL.Dt L2.tYes _ _); refine DL.dt_yes ?_)
  | ((with_reducible show DL.Dt (DL.tTruD _ _) _ _); refine DL.dt_tru ?_)
  | ((with_reducible show DL.Dop (L2.rI0 _) (.int _) (.int _) _); first | refine DL.dop_i0 ?_ | refine DL.dop_b0 ?_)
  | ((with_reducible show DL.Dop L2.rEq (.int _) (.int _) _); refine DL.dop_eqi ?_)
  | ((with_reducible show DL.Dop L2.rEq (.str _) (.str _) _); refine DL.dop_eqs ?_)
  | ((with_reducible show DL.Dop L2.rEq (.bl _) (.bl _) _); refine DL.dop_eqb ?_)
  | ((with_reducible show DL.Dop L2.rNe (.int _) (.int _) _); refine DL.dop_nei ?_)
  | ((with_reducible show DL.Dop L2.rNe (.str _) (.str _) _); refine DL.dop_nes ?_)
  | ((with_reducible show DL.Dop L2.rIsB (.bl _) (.bl _) _); refine DL.dop_isB ?_)
  | ((with_reducible show DL.Dop L2.rNotB (.bl _) (.bl _) _); refine DL.dop_notB ?_)
  | ((with_reducible show DL.Dop DL.rIsN _ .non _); refine DL.dop_isN ?_)
  | ((with_reducible show DL.Dop DL.rNotN _ .non _); refine DL.dop_notN ?_)
  | ((with_reducible show DL.Dop (L2.rI L2.CMul _) _ _ _); refine DL.dop_i (by walk_at "cm") ?_)
  | ((with_reducible show DL.Dun (L2.rU _) (.int _) _); refine DL.dun_i ?_)
  | ((with_reducible show DL.Dcl DL.rAbs _ _); refine DL.dcl_abs ?_)
  | ((with_reducible show DL.Dcl DL.rInt [.int _] _); refine DL.dcl_int ?_)
  | ((with_reducible show DL.Dcl DL.rInt [.bl _] _); refine DL.dcl_intb ?_)
  | ((with_reducible show DL.Dcl (DL.rIsiD _) [_, .ty _] _); first | refine DL.dcl_isib true (by first | rfl | assumption) (by simp) rfl ?_ | refine DL.dcl_isib false (by first | rfl | assumption) (by simp) rfl ?_)
  | ((with_reducible show DL.Dcl (DL.rListOf _) _ _); refine DL.dcl_listof rfl ?_)
  | ((with_reducible show DL.Dcl (DL.rTupOf _) _ _); first | refine DL.dcl_tupof (fun _ z => nomatch z) rfl ?_ | refine DL.dcl_tupof (by intro ds z; cases z) rfl ?_)
  | ((with_reducible show DL.Dcl (DL.rTupOfF _) _ _); refine DL.dcl_tupofF ?_)
  | ((with_reducible show DL.Dcl (DL.rLen _) _ _); refine DL.dcl_len rfl (by walk_at "sz") ?_)
  | ((with_reducible show DL.Dop DL.rAddS (.str _) (.str _) _); refine DL.dop_adds (by walk_at "sz") ?_)
  | ((with_reducible show DL.Dop (L2.rCatA _) (.tup _) (.tup _) _); refine DL.dop_catt (by walk_at "sz") ?_)
  | ((with_reducible show DL.Dsl (L2.rSlA _) (.tup _) _ _ _); first | refine DL.dsl_tup_to (by omega) ?_ | refine DL.dsl_tup_from (by omega) ?_ | refine DL.dsl_tup_mid (by omega) (by omega) ?_ | refine DL.dsl_tup ?_)
  | ((with_reducible show DL.Dsl L2.rSlS (.str _) _ _ _); first | refine DL.dsl_str_to (by walk_at "sz") (by omega) ?_ | refine DL.dsl_str_from (by walk_at "sz") (by omega) ?_ | refine DL.dsl_str_mid (by walk_at "sz") (by omega) (by omega) ?_ | refine DL.dsl_str (by walk_at "sz") ?_)
  | ((with_reducible show DL.Dop DL.rMulS (.str _) (.int _) _); refine DL.dop_muls (by omega) (by omega) (by walk_at "sz") ?_)
  | ((with_reducible show DL.Dop (L2.rRepT _) (.tup _) (.int _) _); refine DL.dop_rept (by omega) (by omega) (by walk_at "sz") (by simp) ?_)
  | ((with_reducible show DL.Dop L2.rCat (.lst _) (.lst _) _); refine DL.dop_catl (by walk_at "sz") ?_)
  | ((with_reducible show List.length (_ :: _) ≤ 1000000 ∧ _); refine ⟨by walk_at "sz", ?_⟩)
  | ((with_reducible show List.length [] ≤ 1000000 ∧ _); refine ⟨by walk_at "sz", ?_⟩)
  | ((with_reducible show ite (_ = true) _ _); first | refine L2.iteT ?_ | refine L2.iteF ?_)
  | ((with_reducible show ∃ b, DL.D.bl _ = DL.D.bl b ∧ _); refine ⟨_, rfl, ?_⟩)
  | ((with_reducible show ∃ b, DL.D.int _ = DL.D.int b ∧ _); refine ⟨_, rfl, ?_⟩)
  | (dsimp only [List.set]))
local macro_rules | `(tactic| walk_at "dl") => `(tactic| first
  | ((with_reducible show DL.Ds (L2.tSeq _ _) _ _ _ _ _); refine DL.ds_seq ?_)
  | ((with_reducible show DL.Ds (L2.tAsg (L2.tCall _ _ _ _) (L2.gName _)) _ _ _ _ _); refine DL.ds_set ?_)
  | ((with_reducible show DL.Ds (L2.tAsg (L2.tSl _ _ _ _) (L2.gName _)) _ _ _ _ _); refine DL.ds_set ?_)
  | ((with_reducible show DL.Ds (L2.tAsg (L2.tBM _ _ _ _ _) (L2.gName _)) _ _ _ _ _); refine DL.ds_set ?_)
  | ((with_reducible show DL.Ds (L2.tAsg (L2.tVar _) (L2.gName _)) _ _ _ _ _); refine DL.ds_set ?_)
  | ((with_reducible show DL.Ds (L2.tAsg (L2.tC _) (L2.gName _)) _ _ _ _ _); refine DL.ds_set ?_)
  | ((with_reducible show DL.Ds (L2.tAsg (L2.tIf _ _ _) (L2.gName _)) _ _ _ _ _); refine DL.ds_set ?_)
  | ((with_reducible show DL.Ds (L2.tAsg (L2.tUn _ _) (L2.gName _)) _ _ _ _ _); refine DL.ds_set ?_)
  | ((with_reducible show DL.Ds (L2.tAsg (L2.tTup _) (L2.gName _)) _ _ _ _ _); refine DL.ds_set ?_)
  | ((with_reducible show DL.Ds (L2.tAsg (L2.tOp (L2.rI0 _) _ _) (L2.gName _)) _ _ _ _ _); refine DL.ds_set ?_)
  | ((with_reducible show DL.Ds (L2.tAsg (L2.tOp (L2.rI _ _) _ _) (L2.gName _)) _ _ _ _ _); refine DL.ds_set ?_)
  | ((with_reducible show DL.Ds (L2.tAsg (L2.tOp (L2.rIxL _) _ _) (L2.gName _)) _ _ _ _ _); refine DL.ds_set ?_)
  | ((with_reducible show DL.Ds (L2.tAsg (L2.tOp (L2.rIxT _) _ _) (L2.gName _)) _ _ _ _ _); refine DL.ds_set ?_)
  | ((with_reducible show DL.Ds (L2.tAsg (L2.tOp L2.rIxS _ _) (L2.gName _)) _ _ _ _ _); refine DL.ds_set ?_)
  | ((with_reducible show DL.Ds (L2.tAsg (L2.tOp DL.rAddS _ _) (L2.gName _)) _ _ _ _ _); refine DL.ds_set ?_)
  | ((with_reducible show DL.Ds (L2.tAug _ _ _) _ _ _ _ _); refine DL.ds_aug rfl ?_)
  | ((with_reducible show DL.Ds (L2.tDrop (L2.tCall _ _ _ _)) _ _ _ _ _); refine DL.ds_drop ?_)
  | ((with_reducible show DL.Ds L2.tNext _ _ _ _ _); refine DL.ds_next ?_)
  | ((with_reducible show DL.Ds L2.tBreak _ _ _ _ _); refine DL.ds_brk ?_)
  | ((with_reducible show DL.Ds L2.tCont _ _ _ _ _); refine DL.ds_cont ?_)
  | ((with_reducible show DL.Ds (L2.tIfS _ _ _) _ _ _ _ _); refine DL.ds_if ?_)
  | ((with_reducible show DL.Ds (L2.tRet _) _ _ _ _ _); refine DL.ds_ret ?_)
  | ((with_reducible show DL.Ds L2.tRetN _ _ _ _ _); refine DL.ds_retN ?_)
  | walk_at "de")

namespace Law
open PySem PySem.Spec PyProof.Rows L2 DL
def topS (i : Nat) : Stmt := PySem.Challenge.pw_foldedways_k04_whole_reduced_words_count.main.body.getD i (.Pass ⟨0, 0, 0, 0⟩)
abbrev s_law_stream : Stmt := topS 30
abbrev n_law_stream : List Str := ["script"]
theorem sc_law_stream : FnScope n_law_stream ["script"] (defScope s_law_stream) := ⟨rfl, rfl, rfl, by decide +kernel, rfl, by decide +kernel, by decide +kernel⟩
abbrev s_law_opposite : Stmt := topS 35
abbrev n_law_opposite : List Str := ["letter"]
theorem sc_law_opposite : FnScope n_law_opposite ["letter"] (defScope s_law_opposite) := ⟨rfl, rfl, rfl, by decide +kernel, rfl, by decide +kernel, by decide +kernel⟩
abbrev s_law_all_reduced : Stmt := topS 38
abbrev n_law_all_reduced : List Str := ["rank", "most", "found", "layer", "turn", "fresh", "word", "letter"]
theorem sc_law_all_reduced : FnScope n_law_all_reduced ["rank", "most"] (defScope s_law_all_reduced) := ⟨rfl, rfl, rfl, by decide +kernel, rfl, by decide +kernel, by decide +kernel⟩
abbrev s_law_next : Stmt := topS 31
abbrev n_law_next : List Str := ["stream", "many", "k", "cell", "digit"]
theorem sc_law_next : FnScope n_law_next ["stream", "many"] (defScope s_law_next) := ⟨rfl, rfl, rfl, by decide +kernel, rfl, by decide +kernel, by decide +kernel⟩
abbrev s_law_pick : Stmt := topS 34
abbrev n_law_pick : List Str := ["stream", "rows"]
theorem sc_law_pick : FnScope n_law_pick ["stream", "rows"] (defScope s_law_pick) := ⟨rfl, rfl, rfl, by decide +kernel, rfl, by decide +kernel, by decide +kernel⟩
abbrev s_is_integer : Stmt := topS 13
abbrev n_is_integer : List Str := ["value", "least", "most"]
theorem sc_is_integer : FnScope n_is_integer ["value", "least", "most"] (defScope s_is_integer) := ⟨rfl, rfl, rfl, by decide +kernel, rfl, by decide +kernel, by decide +kernel⟩
abbrev s_is_rank : Stmt := topS 14
abbrev n_is_rank : List Str := ["value"]
theorem sc_is_rank : FnScope n_is_rank ["value"] (defScope s_is_rank) := ⟨rfl, rfl, rfl, by decide +kernel, rfl, by decide +kernel, by decide +kernel⟩
abbrev s_check_rank : Stmt := topS 17
abbrev n_check_rank : List Str := ["value"]
theorem sc_check_rank : FnScope n_check_rank ["value"] (defScope s_check_rank) := ⟨rfl, rfl, rfl, by decide +kernel, rfl, by decide +kernel, by decide +kernel⟩
abbrev s_check_integer : Stmt := topS 16
abbrev n_check_integer : List Str := ["value", "least", "most", "name"]
theorem sc_check_integer : FnScope n_check_integer ["value", "least", "most", "name"] (defScope s_check_integer) := ⟨rfl, rfl, rfl, by decide +kernel, rfl, by decide +kernel, by decide +kernel⟩
abbrev s_how_many : Stmt := topS 24
abbrev n_how_many : List Str := ["rank", "length", "many", "_"]
theorem sc_how_many : FnScope n_how_many ["rank", "length"] (defScope s_how_many) := ⟨rfl, rfl, rfl, by decide +kernel, rfl, by decide +kernel, by decide +kernel⟩
abbrev s_letters_of : Stmt := topS 6
abbrev n_letters_of : List Str := ["rank"]
theorem sc_letters_of : FnScope n_letters_of ["rank"] (defScope s_letters_of) := ⟨rfl, rfl, rfl, by decide +kernel, rfl, by decide +kernel, by decide +kernel⟩
abbrev s_opposite : Stmt := topS 7
abbrev n_opposite : List Str := ["letter"]
theorem sc_opposite : FnScope n_opposite ["letter"] (defScope s_opposite) := ⟨rfl, rfl, rfl, by decide +kernel, rfl, by decide +kernel, by decide +kernel⟩
abbrev s_letters_behind : Stmt := topS 28
abbrev n_letters_behind : List Str := ["rank", "word", "letter"]
theorem sc_letters_behind : FnScope n_letters_behind ["rank", "word"] (defScope s_letters_behind) := ⟨rfl, rfl, rfl, by decide +kernel, rfl, by decide +kernel, by decide +kernel⟩
abbrev s_nth_of_length : Stmt := topS 26
abbrev n_nth_of_length : List Str := ["rank", "length", "index", "word", "rest", "alike", "_", "choices"]
theorem sc_nth_of_length : FnScope n_nth_of_length ["rank", "length", "index"] (defScope s_nth_of_length) := ⟨rfl, rfl, rfl, by decide +kernel, rfl, by decide +kernel, by decide +kernel⟩
abbrev s_nth_reduced : Stmt := topS 25
abbrev n_nth_reduced : List Str := ["rank", "index", "length", "rest"]
theorem sc_nth_reduced : FnScope n_nth_reduced ["rank", "index"] (defScope s_nth_reduced) := ⟨rfl, rfl, rfl, by decide +kernel, rfl, by decide +kernel, by decide +kernel⟩
abbrev s_law_told : Stmt := topS 39
abbrev n_law_told : List Str := ["rank", "index", "problem"]
theorem sc_law_told : FnScope n_law_told ["rank", "index"] (defScope s_law_told) := ⟨rfl, rfl, rfl, by decide +kernel, rfl, by decide +kernel, by decide +kernel⟩
abbrev s_law_word : Stmt := topS 37
abbrev n_law_word : List Str := ["stream", "rank", "most", "letters", "k"]
theorem sc_law_word : FnScope n_law_word ["stream", "rank", "most"] (defScope s_law_word) := ⟨rfl, rfl, rfl, by decide +kernel, rfl, by decide +kernel, by decide +kernel⟩
abbrev s_law_reduced : Stmt := topS 36
abbrev n_law_reduced : List Str := ["word", "found", "letter"]
theorem sc_law_reduced : FnScope n_law_reduced ["word"] (defScope s_law_reduced) := ⟨rfl, rfl, rfl, by decide +kernel, rfl, by decide +kernel, by decide +kernel⟩
abbrev s_law_is_integer : Stmt := topS 32
abbrev n_law_is_integer : List Str := ["actual"]
theorem sc_law_is_integer : FnScope n_law_is_integer ["actual"] (defScope s_law_is_integer) := ⟨rfl, rfl, rfl, by decide +kernel, rfl, by decide +kernel, by decide +kernel⟩
abbrev s_law_equal : Stmt := topS 33
abbrev n_law_equal : List Str := ["actual", "due", "at"]
theorem sc_law_equal : FnScope n_law_equal ["actual", "due"] (defScope s_law_equal) := ⟨rfl, rfl, rfl, by decide +kernel, rfl, by decide +kernel, by decide +kernel⟩
abbrev s_is_spelled : Stmt := topS 15
abbrev n_is_spelled : List Str := ["value", "rank", "most", "letters", "letter"]
theorem sc_is_spelled : FnScope n_is_spelled ["value", "rank", "most"] (defScope s_is_spelled) := ⟨rfl, rfl, rfl, by decide +kernel, rfl, by decide +kernel, by decide +kernel⟩
abbrev s_check_word : Stmt := topS 18
abbrev n_check_word : List Str := ["value", "rank", "name"]
theorem sc_check_word : FnScope n_check_word ["value", "rank", "name"] (defScope s_check_word) := ⟨rfl, rfl, rfl, by decide +kernel, rfl, by decide +kernel, by decide +kernel⟩
abbrev s_check_two_words : Stmt := topS 22
abbrev n_check_two_words : List Str := ["first", "second"]
theorem sc_check_two_words : FnScope n_check_two_words ["first", "second"] (defScope s_check_two_words) := ⟨rfl, rfl, rfl, by decide +kernel, rfl, by decide +kernel, by decide +kernel⟩
abbrev s_length_order : Stmt := topS 9
abbrev n_length_order : List Str := ["word", "letter"]
theorem sc_length_order : FnScope n_length_order ["word"] (defScope s_length_order) := ⟨rfl, rfl, rfl, by decide +kernel, rfl, by decide +kernel, by decide +kernel⟩
abbrev s_compare : Stmt := topS 21
abbrev n_compare : List Str := ["first", "second", "left", "right"]
theorem sc_compare : FnScope n_compare ["first", "second"] (defScope s_compare) := ⟨rfl, rfl, rfl, by decide +kernel, rfl, by decide +kernel, by decide +kernel⟩
abbrev s_folded : Stmt := topS 8
abbrev n_folded : List Str := ["word", "kept", "letter", "other"]
theorem sc_folded : FnScope n_folded ["word"] (defScope s_folded) := ⟨rfl, rfl, rfl, by decide +kernel, rfl, by decide +kernel, by decide +kernel⟩
abbrev s_index_of_reduced : Stmt := topS 27
abbrev n_index_of_reduced : List Str := ["rank", "word", "whole", "index", "alike", "at", "letter", "choices", "shorter"]
theorem sc_index_of_reduced : FnScope n_index_of_reduced ["rank", "word"] (defScope s_index_of_reduced) := ⟨rfl, rfl, rfl, by decide +kernel, rfl, by decide +kernel, by decide +kernel⟩
abbrev s_count_reduced : Stmt := topS 23
abbrev n_count_reduced : List Str := ["rank", "length"]
theorem sc_count_reduced : FnScope n_count_reduced ["rank", "length"] (defScope s_count_reduced) := ⟨rfl, rfl, rfl, by decide +kernel, rfl, by decide +kernel, by decide +kernel⟩
abbrev s_law_ways : Stmt := topS 40
abbrev n_law_ways : List Str := ["rank", "many", "found", "k"]
theorem sc_law_ways : FnScope n_law_ways ["rank", "many"] (defScope s_law_ways) := ⟨rfl, rfl, rfl, by decide +kernel, rfl, by decide +kernel, by decide +kernel⟩
abbrev s_law : Stmt := topS 41
abbrev n_law : List Str := ["script", "stream", "rank", "rows", "length", "turn", "at", "index", "told", "following", "word", "short", "due"]
theorem sc_law : FnScope n_law ["script"] (defScope s_law) := ⟨rfl, rfl, rfl, by decide +kernel, rfl, by decide +kernel, by decide +kernel⟩
section
variable {P : Program} {w : World} {K : PySem.W.Frag} {mg : Str → Option Value} {base : Heap}
/-! letters, words -/
def LETS : List Nat := [97, 65, 98, 66, 99, 67]
def LS (r : Int) : List Nat := LETS.take (2 * r).toNat
theorem LS_len {r : Int} (h1 : 1 ≤ r) (h2 : r ≤ 3) : ((LS r).length : Int) = 2 * r := by
  unfold LS
  rw [List.length_take]
  show ((min (2 * r).toNat 6 : Nat) : Int) = 2 * r
  omega
theorem sgl (w : List Nat) : w.map (fun c => D.str [c]) = (w.map fun c => [c]).map D.str := by
  rw [List.map_map]
  rfl
theorem flat_sgl : ∀ w : List Nat, (w.map fun c => [c]).flatten = w
  | [] => rfl
  | c :: w => by
    rw [List.map_cons, List.flatten_cons, flat_sgl w]
    rfl
theorem map_bl_take {α : Type} {f : α → Bool} {l : List α} {i : Nat} {c : α} (h : l[i]? = some c) : ((l.take i).map f).map D.bl ++ [.bl (f c)] = ((l.take (i + 1)).map f).map D.bl := by
  rw [List.take_add_one, h]
  simp
def isInt (v : D) (l m : Int) : Bool := match v with
  | .int i => decide (l ≤ i) && decide (i ≤ m)
  | _ => false
def spelled (v : D) (r m : Int) : Bool := match v with
  | .str l => decide ((l.length : Int) ≤ m) && l.all fun c => decide (c ∈ LS r)
  | _ => false
def szD (v : D) : Prop := ∀ l, v = .str l → l.length ≤ 1000
theorem isInt_iff {r : D} (h : isInt r 1 3 = true) : ∃ i : Int, r = .int i ∧ 1 ≤ i ∧ i ≤ 3 := by
  cases r with
  | int i =>
    simp only [isInt, Bool.and_eq_true, decide_eq_true_eq] at h
    exact ⟨i, rfl, h.1, h.2⟩
  | _ => cases h
theorem rng3 {r : Int} (h1 : 1 ≤ r) (h2 : r ≤ 3) : r = 1 ∨ r = 2 ∨ r = 3 := by omega
def okW (r : Int) (m : Nat) (w : List Nat) : Prop := w.length ≤ m ∧ ∀ c ∈ w, c ∈ LS r
theorem cut_LS {r : Int} : ([97, 65, 98, 66, 99, 67] : List Nat).take (2 * r).toNat = LS r := rfl
theorem sign_at {w : List Nat} {i : Nat} {d : D} (h : (w.map sign)[i]? = some d) : ∃ c, w[i]? = some c ∧ d = sign c := by
  rw [List.getElem?_map] at h
  cases e : w[i]? with
  | none => rw [e] at h; cases h
  | some c =>
    rw [e] at h
    exact ⟨c, rfl, (Option.some.inj h).symm⟩
theorem stk_take {w : List Nat} {i : Nat} {c : Nat} (h : w[i]? = some c) : stk (w.take (i + 1)) = psh (stk (w.take i)) c := by
  rw [List.take_add_one, h, stk_app]
  rfl
theorem cut_but {α : Type} (xs : List α) (x : α) : DL.cutD (xs ++ [x]) none (some (-1)) = xs := by
  unfold DL.cutD
  rw [HT.sIx_none]
  show ((xs ++ [x]).drop 0).take ((if (-1 : Int) < 0 then ((-1 : Int) + ((xs ++ [x]).length : Int)).toNat else min (-1 : Int).toNat (xs ++ [x]).length) - 0) = xs
  rw [if_pos (by decide), List.drop_zero, Nat.sub_zero, List.length_append, List.length_singleton]
  have e : ((-1 : Int) + ((xs.length + 1 : Nat) : Int)).toNat = xs.length := by omega
  rw [e, List.take_left]
theorem stk_len {w : List Nat} (i : Nat) : (stk (w.take i)).length ≤ w.length := by
  have h1 := fold_len (w.take i)
  have h2 : (w.take i).length ≤ w.length := by rw [List.length_take]; omega
  unfold fold at h1
  rw [List.length_reverse] at h1
  omega
theorem LS3 : LS 3 = LTR := rfl
theorem LS_LTR {r : Int} {c : Nat} (h : c ∈ LS r) : c ∈ LTR := List.mem_of_mem_take h
theorem lsR_LS (k : Nat) : lsR k = LS (k : Int) := by
  show List.take (2 * k) [97, 65, 98, 66, 99, 67] = List.take (2 * (k : Int)).toNat [97, 65, 98, 66, 99, 67]
  rw [show (2 * (k : Int)).toNat = 2 * k by omega]
def okF (r : Int) (ws : List (List Nat)) : Prop := 1 ≤ r ∧ r ≤ 3 ∧ ws.length ≤ 4 ∧ ∀ w ∈ ws, okW r 8 w
theorem okF_lts {r : Int} {ws : List (List Nat)} (h : okF r ws) : ∀ w ∈ ws, Lts w ∧ w.length ≤ 8 := fun w hw => ⟨fun c hc => LS_LTR ((h.2.2.2 w hw).2 c hc), (h.2.2.2 w hw).1⟩
theorem LS_swap {r : Int} (h1 : 1 ≤ r) (h3 : r ≤ 3) : ∀ c ∈ LS r, sw c ∈ LS r := by
  rcases rng3 h1 h3 with rfl | rfl | rfl <;> decide
theorem LS_parts {r : Int} (h1 : 1 ≤ r) (h3 : r ≤ 3) : LTR = LS r ++ LTR.drop (LS r).length ∧ ∀ c ∈ LTR.drop (LS r).length, c ∉ LS r := by
  rcases rng3 h1 h3 with rfl | rfl | rfl <;> decide
/-! the graph of a family, whatever rank it is looked at in -/
abbrev SqF (ws : List (List Nat)) (l : List Nat) : Prop := Lsq (ptl ws).1 (ptl ws).2.1 (ptl ws).2.2 l
theorem fam_lts {r : Int} {ws : List (List Nat)} (h : okF r ws) : ∀ w ∈ ws, Lts w := fun w hw => (okF_lts h w hw).1
theorem fam_gr {ws : List (List Nat)} {l : List Nat} (hL : ∀ w ∈ ws, Lts w) (hl : SqF ws l) : GrOk ws l LTR := GrOk.of hL hl (ptl_in (ls := LTR) (fun c => sw_mem) (fun c h => h) hL)
theorem fam_LS {r : Int} {ws : List (List Nat)} {l : List Nat} (hF : okF r ws) (hl : SqF ws l) : famG ws l (LS r) = famG ws l LTR := by
  obtain ⟨h1, h3, h4, hok⟩ := id hF
  have G := fam_gr (fam_lts hF) hl
  obtain ⟨c1, c2⟩ := LS_parts h1 h3
  have hin := ptl_in (ls := LS r) (LS_swap h1 h3) (fun c => LS_LTR) fun w h => (hok w h).2
  unfold famG
  conv => rhs; rw [c1]
  refine (numG_more G.fld.sm (fun e he => ?_) c2).symm
  obtain ⟨f, hf, rfl⟩ := List.mem_map.mp he
  exact hin f hf
theorem fam_len {r : Int} {ws : List (List Nat)} (l ls : List Nat) (hF : okF r ws) : (famG ws l ls).2.length ≤ 32 := by
  obtain ⟨z1, _⟩ := ptl_lens fun w h => (okF_lts hF w h).2
  have h4 := hF.2.2.1
  have e : (famG ws l ls).2.length = (dd ((fE l (ptl ws).1).map (nmE (fw (mvs (fE l (ptl ws).1)) ls 0 (ptl ws).2.2).1))).length := (srtE_perm _).length_eq
  have := dd_len ((fE l (ptl ws).1).map (nmE (fw (mvs (fE l (ptl ws).1)) ls 0 (ptl ws).2.2).1))
  rw [List.length_map, fE_len] at this
  omega
def bel (g : Gr) (w : List Nat) : Bool := decide (wkO (mvs g.2) 0 (fold w) = some 0)
theorem bel_iff {g : Gr} (F : Fld g.2) (w : List Nat) : bel g w = true ↔ Cls g (fold w) := by
  unfold bel
  rw [decide_eq_true_eq]
  exact ⟨fun h => wkO_wlk F.sm h, fun h => Wlk.wkO F h⟩
/-! errors -/
def xBad (n : List Nat) : Xn := ("BadValue", [("name", .str n)])
def q_family : List Nat := [102, 97, 109, 105, 108, 121]
def q_word : List Nat := [119, 111, 114, 100]
def q_rank : List Nat := [114, 97, 110, 107]
theorem fam_V' {ws : List (List Nat)} {l ls : List Nat} (hw : ∀ w ∈ ws, Lts w) (hl : SqF ws l) (G : GrOk ws l ls) : (famG ws l ls).1 ≤ (ptl ws).2.2 := by
  have := (ptl_ok hw).len
  exact (WI.range (ls := ls) (mvs_mv G.bd) (by omega) (ptl ws).2.2).1.len_le
theorem fam_all {r : Int} {ws : List (List Nat)} {l : List Nat} (hF : okF r ws) (hl : SqF ws l) : GrOk ws l (LS r) ∧ GnOk (famG ws l (LS r)) ∧ (famG ws l (LS r)).2.Nodup ∧ (famG ws l (LS r)).2.length ≤ 32 ∧ (famG ws l (LS r)).1 ≤ 33 := by
  obtain ⟨h1, h3, h4, hok⟩ := id hF
  have hL := fam_lts hF
  have G := GrOk.of hL hl (ptl_in (ls := LS r) (LS_swap h1 h3) (fun c => LS_LTR) fun w h => (hok w h).2)
  obtain ⟨z1, _⟩ := ptl_lens fun w h => (okF_lts hF w h).2
  have P1 := (ptl_ok hL).len
  have hV := fam_V' hL hl G
  exact ⟨G, G.num hL, famG_nd _ _ _, fam_len l (LS r) hF, by omega⟩
theorem fam_fw {r : Int} {ws : List (List Nat)} {l : List Nat} (hF : okF r ws) (hl : SqF ws l) : ∀ m, (famG ws l (LS r)).1 ≤ m → fw (mvs (famG ws l (LS r)).2) (LS r) 0 m = (List.range (famG ws l (LS r)).1, (fw (mvs (famG ws l (LS r)).2) (LS r) 0 (famG ws l (LS r)).1).2) := fun m hm => by
  obtain ⟨G, N, _, _, _⟩ := fam_all hF hl
  have M := mvs_mv N.bd
  have a := G.fw (fam_lts hF) (m := max m (ptl ws).2.2) (Nat.le_max_right _ _)
  rw [fw_any M N.pos (Nat.le_trans hm (Nat.le_max_left _ _))] at a
  rw [fw_any M N.pos hm, a]
/-- the paths to the vertices -/
def pthF (r : Int) (g : Gr) : List (List Nat) := (fw (mvs g.2) (LS r) 0 g.1).2
theorem pthF_ok {r : Int} {ws : List (List Nat)} {l : List Nat} (hF : okF r ws) (hl : SqF ws l) : (pthF r (famG ws l (LS r))).length = (famG ws l (LS r)).1 ∧ ∀ k, k < (famG ws l (LS r)).1 → wkO (mvs (famG ws l (LS r)).2) 0 ((pthF r (famG ws l (LS r))).getD k []) = some k ∧ (∀ c ∈ (pthF r (famG ws l (LS r))).getD k [], c ∈ LS r) ∧ ((pthF r (famG ws l (LS r))).getD k []).length ≤ k := by
  obtain ⟨G, N, _, _, _⟩ := fam_all hF hl
  have W := (WI.range (ls := LS r) (mvs_mv N.bd) N.pos (famG ws l (LS r)).1).1
  have e := fam_fw hF hl _ (Nat.le_refl _)
  unfold pthF
  generalize fw (mvs (famG ws l (LS r)).2) (LS r) 0 (famG ws l (LS r)).1 = s at W e
  obtain ⟨s1, s2⟩ := s
  have e1 : s1 = List.range (famG ws l (LS r)).1 := congrArg Prod.fst e
  subst e1
  have ln := W.len
  dsimp only at ln
  rw [List.length_range] at ln
  refine ⟨ln, fun k hk => ?_⟩
  have h := W.way k (s2.getD k []) (by rw [List.getD_eq_getElem?_getD, List.getElem?_eq_getElem (by show k < s2.length; omega)]; rfl)
  rw [show (List.range (famG ws l (LS r)).1)[k]? = some k by rw [List.getElem?_range hk]] at h
  exact h
theorem ix_smC {j c : Nat} (h : SM[j]? = some c) : Builtin.Str.occurrences ⟨([97, 98, 99] : List Nat).toArray⟩ ⟨#[c]⟩ 0 ([97, 98, 99] : List Nat).length 1 = [j] := by
  have hj := (List.getElem?_eq_some_iff.mp h).1
  have e : ∀ j, j < 3 → Builtin.Str.occurrences ⟨([97, 98, 99] : List Nat).toArray⟩ ⟨#[SM.getD j 0]⟩ 0 ([97, 98, 99] : List Nat).length 1 = [j] := by decide +kernel
  have : SM.getD j 0 = c := by rw [List.getD_eq_getElem?_getD, h]; rfl
  rw [← this]
  exact e j hj
theorem first_C {r : List Nat} {q p : Nat} (nd : r.Nodup) (h : r[q]? = some p) : (rowI r)[q]? = some (p : Int) ∧ ∀ m, m < q → (rowI r)[m]? ≠ some (p : Int) := by
  unfold rowI
  constructor
  · rw [List.getElem?_map, h]
    rfl
  · intro m hm e
    rw [List.getElem?_map] at e
    obtain ⟨x, hx, hxp⟩ := Option.map_eq_some_iff.mp e
    have : x = p := by omega
    subst this
    obtain ⟨i1, e1⟩ := List.getElem?_eq_some_iff.mp hx
    obtain ⟨i2, e2⟩ := List.getElem?_eq_some_iff.mp h
    exact List.pairwise_iff_getElem.mp nd _ _ i1 i2 hm (e1.trans e2.symm)
theorem rowE_take (c : Nat) (es : List Ed) (i : Nat) : rowE c (es.take i) <+: rowE c es := by
  have h : rowE c es = rowE c (es.take i) ++ rowE c (es.drop i) := by
    unfold rowE
    rw [← List.map_append, ← List.filter_append, List.take_append_drop]
  rw [h]
  exact List.prefix_append _ _
theorem rowE_snoc {c : Nat} {es : List Ed} {i : Nat} {e : Ed} (h : es[i]? = some e) : rowE c (es.take (i + 1)) = if e.2.1 = c then rowE c (es.take i) ++ [(e.1, e.2.2)] else rowE c (es.take i) := by
  rw [List.take_add_one, h]
  unfold rowE
  rw [Option.toList_some, List.filter_append, List.map_append]
  by_cases z : e.2.1 = c
  · simp [z]
  · simp [z]
theorem outs_snoc (V : Nat) (l : List Nat) : outs (V + 1) l = if V ∈ l then outs V l else outs V l ++ [V] := by
  unfold outs
  rw [List.range_succ, List.filter_append]
  by_cases z : V ∈ l <;> simp [z]
def smL (r : Int) : List Nat := SM.take r.toNat
theorem smL_SM {r : Int} : ∀ c ∈ smL r, c ∈ SM := fun c hc => List.mem_of_mem_take hc
theorem smL_len {r : Int} (h1 : 1 ≤ r) (h3 : r ≤ 3) : ((smL r).length : Int) = r := by
  unfold smL
  rw [List.length_take]
  show ((min r.toNat 3 : Nat) : Int) = r
  omega
theorem fam_let {ls ls' : List Nat} {ws : List (List Nat)} {l : List Nat} (hsw : ∀ c ∈ ls, sw c ∈ ls) (hlt : ∀ c ∈ ls, c ∈ LTR) (hw : ∀ w ∈ ws, ∀ c ∈ w, c ∈ ls) : ∀ e ∈ (famG ws l ls').2, e.2.1 ∈ ls := fun e he => by
  obtain ⟨f, hf, rfl⟩ := mem_numG.mp he
  obtain ⟨f', hf', rfl⟩ := List.mem_map.mp hf
  exact (ptl_in hsw hlt hw f' hf').1
theorem fam_smL {r : Int} {ws : List (List Nat)} {l ls : List Nat} (hF : okF r ws) : ∀ e ∈ (famG ws l ls).2, e.2.1 ∈ SM → e.2.1 ∈ SM.take r.toNat := fun e he hs => by
  obtain ⟨h1, h3, h4, hok⟩ := hF
  have h := fam_let (LS_swap h1 h3) (fun c => LS_LTR) (fun w h => (hok w h).2) e he
  have key : ∀ c ∈ SM, (c ∈ LS 1 → c ∈ SM.take 1) ∧ (c ∈ LS 2 → c ∈ SM.take 2) ∧ (c ∈ LS 3 → c ∈ SM.take 3) := by decide
  obtain ⟨a, b, c⟩ := key _ hs
  rcases rng3 h1 h3 with rfl | rfl | rfl
  · exact a h
  · exact b h
  · exact c h
theorem ascLS (r : Int) : Asc (LS r) := by
  have h : Asc [97, 65, 98, 66, 99, 67] := by unfold Asc; decide
  exact List.Pairwise.sublist (List.take_sublist _ _) h
/-- the paths are reduced, no longer than half the longest word, and the shortest -/
theorem pthF_sh {r : Int} {ws : List (List Nat)} {l : List Nat} (hF : okF r ws) (hl : SqF ws l) {n : Nat} (hn : ∀ w ∈ ws, w.length ≤ n) {k : Nat} (hk : k < (famG ws l (LS r)).1) :
    red ((pthF r (famG ws l (LS r))).getD k []) ∧ 2 * ((pthF r (famG ws l (LS r))).getD k []).length ≤ n := by
  obtain ⟨h1, h3, h4, hok⟩ := id hF
  have hL := fam_lts hF
  obtain ⟨G, N, nd, _, _⟩ := fam_all hF hl
  obtain ⟨pl, pk⟩ := pthF_ok hF hl
  obtain ⟨a, b, _⟩ := pk k hk
  have M := mvs_mv N.bd
  have e := fam_fw hF hl _ (Nat.le_refl _)
  have least : ∀ u : List Nat, (∀ c ∈ u, c ∈ LS r) → wkO (mvs (famG ws l (LS r)).2) 0 u = some k → ((pthF r (famG ws l (LS r))).getD k []).length ≤ u.length := fun u hu hw => by
    obtain ⟨k', v, h1, h2, h3⟩ := fw_min M (ascLS r) N.pos u hu k hw
    rw [show (fw (mvs (famG ws l (LS r)).2) (LS r) 0 (famG ws l (LS r)).1).1 = List.range (famG ws l (LS r)).1 from congrArg Prod.fst e] at h1
    have hk' := (List.getElem?_eq_some_iff.mp h1).1
    rw [List.length_range] at hk'
    rw [List.getElem?_range hk'] at h1
    obtain rfl : k' = k := Option.some.inj h1
    have h2 : (pthF r (famG ws l (LS r)))[k']? = some v := h2
    rw [List.getD_eq_getElem?_getD, h2]
    exact ltW_len h3
  have lt : Lts ((pthF r (famG ws l (LS r))).getD k []) := fun c hc => LS_LTR (b c hc)
  constructor
  · have := fold_full (least (fold ((pthF r (famG ws l (LS r))).getD k [])) (fold_in b) (((wkO_wlk N.fld.sm a).fold N.fld).wkO N.fld))
    rw [← this]
    exact fold_red lt
  · obtain ⟨u, hu, hz, hul⟩ := G.near2 hL hn (fun w h => (hok w h).2) (LS_swap h1 h3) (ascLS r) hl hk
    have := least u hul (hu.wkO N.fld)
    omega
def atD (x : Gr × Nat) : D := .tup [grD x.1, .int (x.2 : Int)]
def kpA (ws : List (List Nat)) (rows : List (List Nat)) : Bool := ws.all fun w => decide (wk (mvs (edgesOf rows)) 0 w = 0)
theorem attS_lab {Q : Nat → Prop} {kvs : List (List Key × V)} (u : List Nat) : ∀ s : As, (∀ e ∈ s.2.1, Q e.2.1) → (∀ c ∈ u, Q (if c ∈ SM then c else sw c)) → ∀ e ∈ (u.foldl (attS kvs) s).2.1, Q e.2.1 := by
  induction u with
  | nil => exact fun s h _ => h
  | cons c u ih =>
    intro s h hu
    rw [List.foldl_cons]
    refine ih _ ?_ fun x hx => hu x (List.mem_cons_of_mem _ hx)
    unfold attS
    split
    · exact h
    · intro e he
      rcases List.mem_append.mp he with he | he
      · exact h e he
      · rw [List.mem_singleton.mp he]
        have := hu c List.mem_cons_self
        unfold edB
        split
        · rename_i z; rwa [if_pos z] at this
        · rename_i z; rwa [if_neg z] at this
theorem attG_smL {r : Int} {g : Gr} {w : List Nat} (h1 : 1 ≤ r) (h3 : r ≤ 3) (hg : ∀ e ∈ g.2, e.2.1 ∈ smL r) (hw : ∀ c ∈ w, c ∈ LS r) : ∀ e ∈ (attG g w).2, e.2.1 ∈ smL r := fun e he => by
  have key : ∀ c ∈ LS r, (if c ∈ SM then c else sw c) ∈ smL r := by
    rcases rng3 h1 h3 with rfl | rfl | rfl <;> decide
  rcases List.mem_append.mp ((srtE_perm _).mem_iff.mp he) with he | he
  · exact hg e he
  · exact attS_lab (Q := fun c => c ∈ smL r) (fold w) (g.1, [], 0) (fun e he => nomatch he) (fun c hc => key c (fold_in hw c hc)) e he
/-- the action that tells a word from a family: it keeps the family's words, and moves the word -/
theorem against_ok {r : Int} {ws : List (List Nat)} {l w : List Nat} (hF : okF r ws) (hl : SqF ws l) (hw : okW r 24 w) :
    okA (attG (famG ws l (LS r)) w).1 (compl (smL r) (attG (famG ws l (LS r)) w)) ∧ (((compl (smL r) (attG (famG ws l (LS r)) w)).length : Nat) : Int) = r ∧ kpA ws (compl (smL r) (attG (famG ws l (LS r)) w)) = true ∧
    wk (mvs (edgesOf (compl (smL r) (attG (famG ws l (LS r)) w)))) 0 w = attE (famG ws l (LS r)) w := by
  obtain ⟨h1, h3, h4, hok⟩ := id hF
  have hL := fam_lts hF
  obtain ⟨G, N, nd, z1, z2⟩ := fam_all hF hl
  have gv := G.given hL hl
  have hwL : Lts w := fun c hc => LS_LTR (hw.2 c hc)
  have hwz := hw.1
  obtain ⟨N2, nd2, b1, b2, b3, b4, b5, b6, b7⟩ := attG_ok N nd hwL
  have hle : ∀ e ∈ (famG ws l (LS r)).2, e.2.1 ∈ smL r := fun e he => fam_smL hF e he (N.fld.sm e he)
  have hle2 := attG_smL h1 h3 hle hw.2
  obtain ⟨hA, hk⟩ := compl_okA N2 nd2 (k := r.toNat) (by omega) (by omega) (by omega)
  have hA : okA (attG (famG ws l (LS r)) w).1 (compl (smL r) (attG (famG ws l (LS r)) w)) := hA
  have hk : (compl (smL r) (attG (famG ws l (LS r)) w)).length = r.toNat := hk
  have hwl : ∀ (u : List Nat) (p q : Nat), Wlk (attG (famG ws l (LS r)) w).2 p u q → wk (mvs (edgesOf (compl (smL r) (attG (famG ws l (LS r)) w)))) p u = q := fun u p q h => compl_wlk N2 nd2 hle2 h
  have hlsr : lsR (compl (smL r) (attG (famG ws l (LS r)) w)).length = LS r := by rw [hk, lsR_LS, show ((r.toNat : Nat) : Int) = r by omega]
  have wf : ∀ u : List Nat, (∀ c ∈ u, c ∈ LS r) → wk (mvs (edgesOf (compl (smL r) (attG (famG ws l (LS r)) w)))) 0 (fold u) = wk (mvs (edgesOf (compl (smL r) (attG (famG ws l (LS r)) w)))) 0 u := fun u hu =>
    wk_fold (okA_act hA) (fun c hc => by rw [hlsr] at hc; exact LS_LTR hc) (fun c hc => by rw [hlsr] at hc ⊢; exact LS_swap h1 h3 c hc) (by have := hA.2.2.1; omega) (fun c hc => by rw [hlsr]; exact hu c hc)
  refine ⟨hA, by omega, List.all_eq_true.mpr fun v hv => decide_eq_true ?_, ?_⟩
  · rw [← wf v (hok v hv).2]
    exact hwl _ _ _ ((gv v hv).sub b6)
  · rw [← wf w hw.2]
    exact hwl _ _ _ b4
/-! derivations -/
def q_given : List Nat := [103, 105, 118, 101, 110]
def q_step : List Nat := [115, 116, 101, 112]
abbrev Fc := List Nat × Int × Int
abbrev Sp := List Nat × List Fc
def fcD (f : Fc) : D := .tup [.str f.1, .int f.2.1, .int f.2.2]
def spD (s : Sp) : D := .tup [.str s.1, .tup (s.2.map fcD)]
/-! graphs put together in other ways -/
theorem sq_ex {ws : List (List Nat)} (hw : ∀ w ∈ ws, Lts w) : ∃ l, SqF ws l := by
  have P := ptl_ok hw
  have P1 := P.len
  have h0 : 0 < (ptl ws).2.2 := by omega
  have all : ∀ t, ∃ l ch, Lt (ptl ws).1 (ptl ws).2.1 (ptl ws).2.2 t l ch := fun t => by
    induction t with
    | zero => exact ⟨_, _, Lt.init _ _ _⟩
    | succ t ih =>
      obtain ⟨l, ch, h⟩ := ih
      cases ch with
      | false => exact ⟨_, _, h.stay⟩
      | true => exact ⟨_, _, h.turn P.eb P.ends h0⟩
  obtain ⟨l, ch, h⟩ := all ((ptl ws).2.2 * (ptl ws).2.2 + 1)
  exact ⟨l, h.done (Nat.lt_succ_self _)⟩
theorem bq_LS {r : Int} {ws : List (List Nat)} {E : List Ed} (h1 : 1 ≤ r) (h3 : r ≤ 3) (hl : ∀ w ∈ ws, ∀ c ∈ w, c ∈ LS r) (B : Bq ws E) : ∀ e ∈ E, e.2.1 ∈ LS r ∧ sw e.2.1 ∈ LS r := fun e he => by
  have hc := SM_LTR (B.sm e he)
  obtain ⟨w, hw, a, b, k⟩ := B.trv e he
  have hf := fold_in (hl w hw)
  rcases k with ⟨e1, _⟩ | ⟨e1, _⟩
  · have : e.2.1 ∈ LS r := hf _ (by rw [e1]; exact List.mem_append_right _ List.mem_cons_self)
    exact ⟨this, LS_swap h1 h3 _ this⟩
  · have : sw e.2.1 ∈ LS r := hf _ (by rw [e1]; exact List.mem_append_right _ List.mem_cons_self)
    have h2 := LS_swap h1 h3 _ this
    rw [sw_sw hc] at h2
    exact ⟨h2, this⟩
theorem num_LS {r : Int} {E : List Ed} (h1 : 1 ≤ r) (h3 : r ≤ 3) (hs : ∀ e ∈ E, e.2.1 ∈ SM) (hl : ∀ e ∈ E, e.2.1 ∈ LS r ∧ sw e.2.1 ∈ LS r) (N : Nat) : numG E LTR 0 N = numG E (LS r) 0 N ∧ fw (mvs E) LTR 0 N = fw (mvs E) (LS r) 0 N := by
  obtain ⟨c1, c2⟩ := LS_parts h1 h3
  constructor
  · conv => lhs; rw [c1]
    exact numG_more hs hl c2
  · conv => lhs; rw [c1]
    refine fw_more (fun c hc p => ?_) N
    cases e : stO (mvs E) p c with
    | none => rfl
    | some q =>
      exfalso
      rcases stO_mem hs e with ⟨_, z⟩ | ⟨_, b, z⟩
      · exact c2 c hc (hl _ z).1
      · have := (hl _ z).2
        dsimp only at this
        rw [sw_sw b] at this
        exact c2 c hc this
/-- all about the graph of any words -/
theorem wrd_all {r : Int} {ws : List (List Nat)} {l : List Nat} (h1 : 1 ≤ r) (h3 : r ≤ 3) (hL : ∀ w ∈ ws, ∀ c ∈ w, c ∈ LS r) (hl : SqF ws l) :
    (∀ w ∈ ws, Lts w) ∧ GrOk ws l (LS r) ∧ GnOk (famG ws l (LS r)) ∧ (famG ws l (LS r)).2.Nodup ∧ famG ws l (LS r) = famG ws l LTR ∧ ∀ e ∈ (famG ws l (LS r)).2, e.2.1 ∈ LS r ∧ sw e.2.1 ∈ LS r := by
  have hT : ∀ w ∈ ws, Lts w := fun w h c hc => LS_LTR (hL w h c hc)
  have hin := ptl_in (ls := LS r) (LS_swap h1 h3) (fun c => LS_LTR) hL
  have G := GrOk.of hT hl hin
  obtain ⟨c1, c2⟩ := LS_parts h1 h3
  have GT := fam_gr hT hl
  refine ⟨hT, G, G.num hT, famG_nd _ _ _, ?_, fun e he => ?_⟩
  · unfold famG
    conv => rhs; rw [c1]
    refine (numG_more GT.fld.sm (fun e he => ?_) c2).symm
    obtain ⟨f, hf, rfl⟩ := List.mem_map.mp he
    exact hin f hf
  · obtain ⟨f, hf, rfl⟩ := mem_numG.mp he
    obtain ⟨f', hf', rfl⟩ := List.mem_map.mp hf
    exact hin f' hf'
theorem bq_num {r : Int} {ws : List (List Nat)} {l : List Nat} {E : List Ed} {N : Nat} (h1 : 1 ≤ r) (h3 : r ≤ 3) (hL : ∀ w ∈ ws, ∀ c ∈ w, c ∈ LS r) (hl : SqF ws l) (B : Bq ws E) (F : Fld E) (hb : ∀ e ∈ E, e.1 < N ∧ e.2.2 < N) (h0 : 0 < N) :
    numG E (LS r) 0 N = famG ws l (LS r) ∧ (fw (mvs E) (LS r) 0 N).2 = pthF r (famG ws l (LS r)) := by
  obtain ⟨hT, G, GN, nd, eq, gl⟩ := wrd_all h1 h3 hL hl
  obtain ⟨a, b⟩ := B.num hT hl F hb h0
  obtain ⟨c, d⟩ := num_LS h1 h3 B.sm (bq_LS h1 h3 hL B) N
  obtain ⟨_, d2⟩ := num_LS h1 h3 GN.fld.sm gl (famG ws l (LS r)).1
  rw [c] at a
  rw [d, ← eq, d2] at b
  exact ⟨a.trans eq.symm, b⟩
def g3D (r : Int) (g : Gr) : D := .tup [.int (g.1 : Int), .tup (g.2.map edD), .lst ((pthF r g).map D.str)]
theorem gtD_mem {α : Type} {l : List α} {i : Nat} (h : i < l.length) (d : α) : l[i]? = some (l.getD i d) ∧ l.getD i d ∈ l := by
  rw [List.getD_eq_getElem?_getD, List.getElem?_eq_getElem h]
  exact ⟨rfl, List.getElem_mem h⟩
theorem wds_at {l : List (List Nat)} {i : Nat} (h : i < l.length) : atI (l.map D.str) (i : Int) = some (.str (l.getD i [])) := atI_at (by omega) (by
  rw [show ((i : Int)).toNat = i by omega, List.getElem?_map, (gtD_mem h []).1]
  rfl)
/-! trees, and words along the other edges -/
def inTr (P : List (List Nat)) (e : Ed) : Bool := decide (P.getD e.2.2 [] = P.getD e.1 [] ++ [e.2.1]) || decide (P.getD e.1 [] = P.getD e.2.2 [] ++ [sw e.2.1])
def frE (P : List (List Nat)) (es : List Ed) : List Ed := es.filter fun e => !inTr P e
def lpW (ways : List (List Nat)) (e : Ed) : List Nat := ways.getD e.1 [] ++ [e.2.1] ++ inv (ways.getD e.2.2 [])
def bsW (r : Int) (g : Gr) : List (List Nat) := (frE (pthF r g) g.2).map (lpW (pthF r g))
theorem pth_par {r : Int} {g : Gr} (N : GnOk g) (pl : (pthF r g).length = g.1) (pk : ∀ k, k < g.1 → wkO (mvs g.2) 0 ((pthF r g).getD k []) = some k) {k : Nat} (h0 : 1 ≤ k) (hk : k < g.1) :
    ∃ t c, t < g.1 ∧ t ≠ k ∧ (pthF r g).getD k [] = (pthF r g).getD t [] ++ [c] ∧ Stp g.2 t c k := by
  have M := mvs_mv N.bd
  have O := OI.range M (ascLS r) N.pos g.1
  have hm := (gtD_mem (l := pthF r g) (i := k) (by omega) []).2
  have wk := pk k hk
  rcases O.form _ hm with e | ⟨t, c, u, _, hu, e⟩
  · rw [e] at wk
    have : some 0 = some k := wk
    have := Option.some.inj this
    omega
  · have ht : t < g.1 := by rw [← pl]; exact (List.getElem?_eq_some_iff.mp hu).1
    have eu : (pthF r g).getD t [] = u := by
      have hu : (pthF r g)[t]? = some u := hu
      rw [List.getD_eq_getElem?_getD, hu]
      rfl
    have wt := pk t ht
    rw [e, wkO_snoc, ← eu, wt, Option.bind_some] at wk
    have st := stO_mem N.fld.sm wk
    refine ⟨t, c, ht, fun z => ?_, by rw [e, eu], st⟩
    subst z
    have := congrArg List.length (e.trans (by rw [eu] : u ++ [c] = (pthF r g).getD t [] ++ [c]))
    simp at this
def trE (P : List (List Nat)) (es : List Ed) (k : Nat) : Ed := edB ((stO (mvs es) k (sw ((P.getD k []).getLastD 0))).getD 0) ((P.getD k []).getLastD 0) k
/-- the edges of the tree, vertex by vertex -/
theorem trE_at {r : Int} {g : Gr} (N : GnOk g) (pl : (pthF r g).length = g.1) (pk : ∀ k, k < g.1 → wkO (mvs g.2) 0 ((pthF r g).getD k []) = some k) {k : Nat} (h0 : 1 ≤ k) (hk : k < g.1) :
    ∃ t c, t < g.1 ∧ t ≠ k ∧ c ∈ LTR ∧ (pthF r g).getD k [] = (pthF r g).getD t [] ++ [c] ∧ Stp g.2 t c k ∧ stO (mvs g.2) k (sw c) = some t ∧ trE (pthF r g) g.2 k = edB t c k := by
  obtain ⟨t, c, ht, ne, e, st⟩ := pth_par N pl pk h0 hk
  have hl : ((pthF r g).getD k []).getLastD 0 = c := by rw [e]; simp
  have sb := N.fld.step st.back
  refine ⟨t, c, ht, ne, st.lt, e, st, sb, ?_⟩
  unfold trE
  rw [hl, sb]
  rfl
theorem edB_in {es : List Ed} {p c q : Nat} (st : Stp es p c q) : edB p c q ∈ es := by
  unfold edB
  rcases st with ⟨a, b⟩ | ⟨a, a', b⟩
  · rw [if_pos a]; exact b
  · rw [if_neg (fun z => absurd z (by have := SM_sw a; rwa [sw_sw a'] at this))]; exact b
/-- an edge is in the tree if its letter ends one of two paths -/
theorem inTr_iff {r : Int} {g : Gr} (N : GnOk g) (pl : (pthF r g).length = g.1) (pk : ∀ k, k < g.1 → wkO (mvs g.2) 0 ((pthF r g).getD k []) = some k) {e : Ed} (he : e ∈ g.2) :
    inTr (pthF r g) e = true ↔ ∃ k, 1 ≤ k ∧ k < g.1 ∧ e = trE (pthF r g) g.2 k := by
  obtain ⟨p, c, q⟩ := e
  obtain ⟨b1, b2⟩ := N.bd _ he
  have b1 : p < g.1 := b1
  have b2 : q < g.1 := b2
  have hs : c ∈ SM := N.fld.sm _ he
  have inj : ∀ i j, i < g.1 → j < g.1 → (pthF r g).getD i [] = (pthF r g).getD j [] → i = j := fun i j hi hj e => by
    have a := pk i hi
    rw [e, pk j hj] at a
    exact (Option.some.inj a).symm
  have one : ∀ k, k < g.1 → ∀ u x, (pthF r g).getD k [] = u ++ [x] → 1 ≤ k := fun k hk u x e => by
    rcases Nat.eq_zero_or_pos k with z | z
    · subst z
      exfalso
      have W := (WI.range (ls := LS r) (mvs_mv N.bd) N.pos g.1).1
      have a := pk 0 hk
      have O := fw_sorted (mvs_mv N.bd) (ascLS r) N.pos g.1
      have z2 := fw_pre (ls := LS r) (mvs_mv N.bd) N.pos 0 g.1
      rw [Nat.zero_add] at z2
      obtain ⟨rest, hr⟩ := z2.2
      have hr : [[]] ++ rest = pthF r g := hr
      rw [← hr] at e
      simp at e
    · exact z
  unfold inTr
  rw [Bool.or_eq_true, decide_eq_true_eq, decide_eq_true_eq]
  dsimp only
  constructor
  · rintro (h | h)
    · have k1 := one q b2 _ _ h
      obtain ⟨t, x, ht, _, hx, e, st, _, tr⟩ := trE_at N pl pk k1 b2
      obtain ⟨e1, e2⟩ := List.append_inj' (h.symm.trans e) rfl
      have := inj _ _ b1 ht e1
      subst this
      obtain rfl : c = x := by simpa using e2
      refine ⟨q, k1, b2, ?_⟩
      rw [tr]
      unfold edB
      rw [if_pos hs]
    · have k1 := one p b1 _ _ h
      obtain ⟨t, x, ht, _, hx, e, st, _, tr⟩ := trE_at N pl pk k1 b1
      obtain ⟨e1, e2⟩ := List.append_inj' (h.symm.trans e) rfl
      have := inj _ _ b2 ht e1
      subst this
      obtain rfl : sw c = x := by simpa using e2
      refine ⟨p, k1, b1, ?_⟩
      rw [tr]
      unfold edB
      rw [if_neg (SM_sw hs), sw_sw (SM_LTR hs)]
  · rintro ⟨k, k1, k2, h⟩
    obtain ⟨t, x, ht, _, hx, e, st, _, tr⟩ := trE_at N pl pk k1 k2
    rw [tr] at h
    unfold edB at h
    split at h
    · cases h
      exact .inl e
    · cases h
      rw [sw_sw hx]
      exact .inr e
/-! bases make the same -/
theorem pth_0 {r : Int} {g : Gr} (N : GnOk g) : (pthF r g).getD 0 [] = [] := by
  have z2 := fw_pre (ls := LS r) (mvs_mv N.bd) N.pos 0 g.1
  rw [Nat.zero_add] at z2
  obtain ⟨rest, hr⟩ := z2.2
  have hr : [[]] ++ rest = pthF r g := hr
  rw [← hr]
  rfl
theorem wrd_pth {r : Int} {ws : List (List Nat)} {l : List Nat} (h1 : 1 ≤ r) (h3 : r ≤ 3) (hL : ∀ w ∈ ws, ∀ c ∈ w, c ∈ LS r) (hl : SqF ws l) : (pthF r (famG ws l (LS r))).length = (famG ws l (LS r)).1 ∧ ∀ k, k < (famG ws l (LS r)).1 → wkO (mvs (famG ws l (LS r)).2) 0 ((pthF r (famG ws l (LS r))).getD k []) = some k ∧ (∀ c ∈ (pthF r (famG ws l (LS r))).getD k [], c ∈ LS r) ∧ ((pthF r (famG ws l (LS r))).getD k []).length ≤ k := by
  obtain ⟨hT, G, N, _, _, _⟩ := wrd_all h1 h3 hL hl
  have M := mvs_mv N.bd
  have W := (WI.range (ls := LS r) M N.pos (famG ws l (LS r)).1).1
  have e := G.fw hT (m := max (famG ws l (LS r)).1 (ptl ws).2.2) (Nat.le_max_right _ _)
  rw [fw_any M N.pos (Nat.le_max_left _ _)] at e
  have e := congrArg Prod.fst e
  unfold pthF
  generalize fw (mvs (famG ws l (LS r)).2) (LS r) 0 (famG ws l (LS r)).1 = s at W e
  obtain ⟨s1, s2⟩ := s
  have e1 : s1 = List.range (famG ws l (LS r)).1 := e
  subst e1
  have ln := W.len
  dsimp only at ln
  rw [List.length_range] at ln
  refine ⟨ln, fun k hk => ?_⟩
  have h := W.way k (s2.getD k []) (by rw [List.getD_eq_getElem?_getD, List.getElem?_eq_getElem (by show k < s2.length; omega)]; rfl)
  rw [show (List.range (famG ws l (LS r)).1)[k]? = some k by rw [List.getElem?_range hk]] at h
  exact h
theorem lp_walk {r : Int} {g : Gr} (N : GnOk g) (pk : ∀ k, k < g.1 → wkO (mvs g.2) 0 ((pthF r g).getD k []) = some k) {e : Ed} (he : e ∈ g.2) : Wlk g.2 0 (lpW (pthF r g) e) 0 := by
  obtain ⟨b1, b2⟩ := N.bd e he
  have k1 := wkO_wlk N.fld.sm (pk _ b1)
  have k2 := wkO_wlk N.fld.sm (pk _ b2)
  unfold lpW
  have k3 : Wlk g.2 e.1 [e.2.1] e.2.2 := ⟨_, (Stp.of (N.fld.sm e he) he).1, rfl⟩
  exact (k1.app k3).app k2.inv
theorem bs_gen {r : Int} {ws : List (List Nat)} {l : List Nat} (h1 : 1 ≤ r) (h3 : r ≤ 3) (hL : ∀ w ∈ ws, ∀ c ∈ w, c ∈ LS r) (hl : SqF ws l) : Gen ws (bsW r (famG ws l (LS r))) := by
  obtain ⟨hT, G, N, _, _, gl⟩ := wrd_all h1 h3 hL hl
  obtain ⟨pl, pk'⟩ := wrd_pth h1 h3 hL hl
  have gv := G.given hT hl
  have pk : ∀ k, k < (famG ws l (LS r)).1 → wkO (mvs (famG ws l (LS r)).2) 0 ((pthF r (famG ws l (LS r))).getD k []) = some k := fun k hk => (pk' k hk).1
  have lt : ∀ p, Lts ((pthF r (famG ws l (LS r))).getD p []) := fun p => by
    by_cases hp : p < (famG ws l (LS r)).1
    · exact fun c hc => LS_LTR ((pk' p hp).2.1 c hc)
    · rw [List.getD_eq_getElem?_getD, List.getElem?_eq_none (by omega)]
      exact lts0
  refine fun H S => ⟨fun hb w hw => ?_, fun hw b hb => ?_⟩
  · have := lam_sound (lam := fun p => (pthF r (famG ws l (LS r))).getD p []) S N.fld.sm (pth_0 N) lt (fun e he => ?_) (gv w hw)
    · rwa [fold_fold (hT w hw)] at this
    · have hc := SM_LTR (N.fld.sm e he)
      cases hi : inTr (pthF r (famG ws l (LS r))) e with
      | true =>
        unfold inTr at hi
        rw [Bool.or_eq_true, decide_eq_true_eq, decide_eq_true_eq] at hi
        rcases hi with hi | hi
        · show H (fold ((pthF r (famG ws l (LS r))).getD e.1 [] ++ [e.2.1] ++ inv ((pthF r (famG ws l (LS r))).getD e.2.2 [])))
          rw [← hi]
          exact S.nil (lt _)
        · have := S.flip (x := (pthF r (famG ws l (LS r))).getD e.2.2 []) (y := (pthF r (famG ws l (LS r))).getD e.1 []) (c := sw e.2.1) (lt _) (lt _) (sw_mem hc) (by rw [← hi]; exact S.nil (lt _))
          rwa [sw_sw hc] at this
      | false => exact hb _ (List.mem_map.mpr ⟨e, List.mem_filter.mpr ⟨he, by rw [hi]; rfl⟩, rfl⟩)
  · obtain ⟨e, he, rfl⟩ := List.mem_map.mp hb
    exact sound S hT hl G hw (lp_walk N pk (List.mem_filter.mp he).1)
theorem gen_LS {r : Int} {ws vs : List (List Nat)} {l m : List Nat} (h1 : 1 ≤ r) (h3 : r ≤ 3) (hL : ∀ w ∈ ws, ∀ c ∈ w, c ∈ LS r) (hV : ∀ w ∈ vs, ∀ c ∈ w, c ∈ LS r) (hl : SqF ws l) (hm : SqF vs m) (g : Gen ws vs) : famG ws l (LS r) = famG vs m (LS r) := by
  obtain ⟨hT, _, _, _, e1, _⟩ := wrd_all h1 h3 hL hl
  obtain ⟨hT2, _, _, _, e2, _⟩ := wrd_all h1 h3 hV hm
  rw [e1, e2]
  exact gen_same hT hT2 hl hm g
theorem rank_LS {r : Int} {ws : List (List Nat)} {l : List Nat} (h1 : 1 ≤ r) (h3 : r ≤ 3) (hL : ∀ w ∈ ws, ∀ c ∈ w, c ∈ LS r) (hl : SqF ws l) : (famG ws l (LS r)).2.length + 1 ≤ (famG ws l (LS r)).1 + (ws.filter fun w => decide (fold w ≠ [])).length := by
  obtain ⟨hT, _, _, _, e1, _⟩ := wrd_all h1 h3 hL hl
  rw [e1]
  exact fam_rank hT hl
theorem red_inv' {w : List Nat} (hw : Lts w) (h : red w) : red (inv w) := by
  have := fold_inv hw
  rw [fold_id hw h] at this
  rw [← this]
  exact fold_red (inv_lts hw)
/-- along a free edge nothing cancels -/
theorem lp_free {r : Int} {g : Gr} (N : GnOk g) (pl : (pthF r g).length = g.1) (pk : ∀ k, k < g.1 → wkO (mvs g.2) 0 ((pthF r g).getD k []) = some k) (pr : ∀ k, k < g.1 → red ((pthF r g).getD k []) ∧ Lts ((pthF r g).getD k [])) {e : Ed} (he : e ∈ frE (pthF r g) g.2) : red (lpW (pthF r g) e) ∧ lpW (pthF r g) e ≠ [] := by
  obtain ⟨hm, hn⟩ := List.mem_filter.mp he
  obtain ⟨b1, b2⟩ := N.bd e hm
  obtain ⟨p, c, q⟩ := e
  have b1 : p < g.1 := b1
  have b2 : q < g.1 := b2
  have hs : c ∈ SM := N.fld.sm _ hm
  have hcl := SM_LTR hs
  have hn : inTr (pthF r g) (p, c, q) = false := by simpa using hn
  unfold inTr at hn
  rw [Bool.or_eq_false_iff, decide_eq_false_iff_not, decide_eq_false_iff_not] at hn
  obtain ⟨n1, n2⟩ := hn
  dsimp only at n1 n2
  obtain ⟨rp, lp⟩ := pr p b1
  obtain ⟨rq, lq⟩ := pr q b2
  have last : ∀ k, k < g.1 → ∀ x, ((pthF r g).getD k []).getLast? = some x → ∃ t, t < g.1 ∧ (pthF r g).getD k [] = (pthF r g).getD t [] ++ [x] ∧ Stp g.2 t x k := fun k hk x hx => by
    obtain ⟨u, hu⟩ := List.getLast?_eq_some_iff.mp hx
    rcases Nat.eq_zero_or_pos k with z | z
    · subst z
      exfalso
      have z2 := fw_pre (ls := LS r) (mvs_mv N.bd) N.pos 0 g.1
      rw [Nat.zero_add] at z2
      obtain ⟨rest, hr⟩ := z2.2
      have hr : [[]] ++ rest = pthF r g := hr
      rw [← hr] at hu
      simp at hu
    · obtain ⟨t, y, ht, _, e, st⟩ := pth_par N pl pk z hk
      obtain ⟨e1, e2⟩ := List.append_inj' (hu.symm.trans e) rfl
      obtain rfl : x = y := by simpa using e2
      exact ⟨t, ht, e, st⟩
  refine ⟨?_, by unfold lpW; simp⟩
  unfold lpW
  dsimp only
  refine red_append.mpr ⟨red_append.mpr ⟨rp, trivial, fun x y hx hy e => ?_⟩, red_inv' lq rq, fun x y hx hy e => ?_⟩
  · cases hy
    rw [e] at hx
    obtain ⟨t, ht, e1, st⟩ := last p b1 _ hx
    have st2 := st.back
    rw [sw_sw hcl] at st2
    have := N.fld.det st2 (.inl ⟨hs, hm⟩)
    subst this
    exact n2 e1
  · obtain rfl : c = x := by simpa using hx
    have hy2 : ((pthF r g).getD q []).getLast? = some (sw y) := by
      have h := hy
      unfold inv at h
      rw [List.head?_map, List.head?_reverse] at h
      obtain ⟨t, ht, rfl⟩ := Option.map_eq_some_iff.mp h
      rw [ht, sw_sw (lq t (List.mem_of_getLast? ht))]
    rw [← e] at hy2
    obtain ⟨t, ht, e1, st⟩ := last q b2 _ hy2
    have := N.fld.det st.back (Stp.of (es := g.2) (e := (p, c, q)) hs hm).2
    subst this
    exact n1 e1
theorem pth_lt {r : Int} {g : Gr} (N : GnOk g) (pl : (pthF r g).length = g.1) {k t c : Nat} (hk : k < g.1) (ht : t < g.1) (e : (pthF r g).getD k [] = (pthF r g).getD t [] ++ [c]) : t < k := by
  have S := fw_sorted (mvs_mv N.bd) (ascLS r) N.pos g.1
  have S : (pthF r g).Pairwise fun u v => ltW u v = true := S
  have ek := (gtD_mem (l := pthF r g) (i := k) (by omega) []).1
  have et := (gtD_mem (l := pthF r g) (i := t) (by omega) []).1
  rcases Nat.lt_trichotomy t k with z | z | z
  · exact z
  · subst z
    have := congrArg List.length e
    simp at this
  · exfalso
    obtain ⟨k1, k2⟩ := List.getElem?_eq_some_iff.mp ek
    obtain ⟨t1, t2⟩ := List.getElem?_eq_some_iff.mp et
    have pw := List.pairwise_iff_getElem.mp S k t k1 t1 z
    rw [k2, t2, e] at pw
    rcases ltW_iff.mp pw with y | ⟨y, _⟩ <;> simp at y <;> omega
theorem filt_split {α : Type} (f : α → Bool) : ∀ l : List α, (l.filter f).length + (l.filter fun x => !f x).length = l.length
  | [] => rfl
  | a :: l => by
    have := filt_split f l
    cases h : f a <;> simp [List.filter_cons, h] <;> omega
theorem fr_count {r : Int} {g : Gr} (N : GnOk g) (nd : g.2.Nodup) (pl : (pthF r g).length = g.1) (pk : ∀ k, k < g.1 → wkO (mvs g.2) 0 ((pthF r g).getD k []) = some k) : (frE (pthF r g) g.2).length + g.1 = g.2.length + 1 := by
  have h1 : (g.2.filter fun e => inTr (pthF r g) e).Perm ((List.range (g.1 - 1)).map fun j => trE (pthF r g) g.2 (j + 1)) := by
    refine (List.perm_ext_iff_of_nodup (List.Pairwise.sublist List.filter_sublist nd) ?_).mpr fun e => ?_
    · refine List.pairwise_map.mpr (List.Pairwise.imp_of_mem (fun {i j} hi hj hne z => hne ?_) List.nodup_range)
      have hi := List.mem_range.mp hi
      have hj := List.mem_range.mp hj
      obtain ⟨t, c, ht, ne, hc, e1, st, _, tr⟩ := trE_at N pl pk (k := i + 1) (by omega) (by omega)
      obtain ⟨t', c', ht', ne', hc', e1', st', _, tr'⟩ := trE_at N pl pk (k := j + 1) (by omega) (by omega)
      have l1 := pth_lt N pl (by omega) ht e1
      have l2 := pth_lt N pl (by omega) ht' e1'
      rw [tr, tr'] at z
      have m : ∀ p c q, max (edB p c q).1 (edB p c q).2.2 = max p q := fun p c q => by
        unfold edB
        split
        · rfl
        · exact Nat.max_comm _ _
      have a := m t c (i + 1)
      rw [z, m] at a
      omega
    · rw [List.mem_filter, List.mem_map]
      constructor
      · rintro ⟨a, b⟩
        obtain ⟨k, k1, k2, rfl⟩ := (inTr_iff N pl pk a).mp b
        exact ⟨k - 1, List.mem_range.mpr (by omega), by rw [show k - 1 + 1 = k by omega]⟩
      · rintro ⟨j, hj, rfl⟩
        have hj := List.mem_range.mp hj
        obtain ⟨t, c, _, _, _, _, st, _, tr⟩ := trE_at N pl pk (k := j + 1) (by omega) (by omega)
        have hin : trE (pthF r g) g.2 (j + 1) ∈ g.2 := by rw [tr]; exact edB_in st
        exact ⟨hin, (inTr_iff N pl pk hin).mpr ⟨j + 1, by omega, by omega, rfl⟩⟩
  have h2 := h1.length_eq
  rw [List.length_map, List.length_range] at h2
  have h3 : (g.2.filter fun e => inTr (pthF r g) e).length + (g.2.filter fun e => !inTr (pthF r g) e).length = g.2.length := filt_split _ _
  have h4 := N.pos
  unfold frE
  omega
/-! derivations: factors, values, needed steps -/
def sgn (w : List Nat) (s : Int) : List Nat := if s = 1 then w else inv w
def valF (ws : List (List Nat)) (st : List Sp) (f : Fc) : List Nat := sgn ((if f.1 = q_given then ws else st.map (·.1)).getD f.2.1.toNat []) f.2.2
def valFs (ws : List (List Nat)) (st : List Sp) (fs : List Fc) : List Nat := fold ((fs.map (valF ws st)).flatten)
/-- a factor that can stand there -/
def fOk (n m : Nat) (f : Fc) : Prop := ((f.1 = q_given ∧ 0 ≤ f.2.1 ∧ f.2.1 < (n : Int)) ∨ (f.1 = q_step ∧ 0 ≤ f.2.1 ∧ f.2.1 < (m : Int))) ∧ (f.2.2 = 1 ∨ f.2.2 = -1)
theorem q_ne : q_given ≠ q_step := by decide
theorem sgn_len (w : List Nat) (s : Int) : (sgn w s).length = w.length := by unfold sgn; split <;> simp [inv_len]
theorem sgn_lts {w : List Nat} (h : Lts w) (s : Int) : Lts (sgn w s) := by unfold sgn; split <;> first | exact h | exact inv_lts h
theorem valF_at {ws : List (List Nat)} {st : List Sp} {f : Fc} (h : fOk ws.length st.length f) : ∃ (l : List (List Nat)) (k : Nat), l = (if f.1 = q_given then ws else st.map (·.1)) ∧ f.2.1 = (k : Int) ∧ k < l.length ∧ (l = ws ∨ l = st.map (·.1)) := by
  obtain ⟨h, _⟩ := h
  rcases h with ⟨a, b, c⟩ | ⟨a, b, c⟩
  · exact ⟨ws, f.2.1.toNat, by rw [if_pos a], by omega, by omega, .inl rfl⟩
  · exact ⟨st.map (·.1), f.2.1.toNat, by rw [if_neg (by rw [a]; exact fun z => q_ne z.symm)], by omega, by rw [List.length_map]; omega, .inr rfl⟩
theorem flat_le {k : Nat} : ∀ (L : List (List Nat)), (∀ w ∈ L, w.length ≤ k) → L.flatten.length ≤ L.length * k
  | [], _ => by simp
  | w :: L, h => by
    have a := h w List.mem_cons_self
    have b := flat_le L fun v hv => h v (List.mem_cons_of_mem _ hv)
    rw [List.flatten_cons, List.length_append, List.length_cons, Nat.succ_mul]
    omega
theorem fOk_le {n m m' : Nat} {f : Fc} (h : fOk n m f) (hm : m ≤ m') : fOk n m' f := ⟨h.1.imp id fun ⟨a, b, c⟩ => ⟨a, b, by omega⟩, h.2⟩
def renF (m : List (Nat × Nat)) (f : Fc) : Fc := if f.1 = q_given then f else (f.1, (((m.lookup f.2.1.toNat).getD 0 : Nat) : Int), f.2.2)
def renS (m : List (Nat × Nat)) (s : Sp) : Sp := (s.1, s.2.map (renF m))
/-- the steps that a step names -/
def nmd (s : Sp) : List Nat := (s.2.filter fun f => decide (f.1 = q_step)).map fun f => f.2.1.toNat
inductive Rch (st : List Sp) : Nat → Prop
  | last : Rch st (st.length - 1)
  | step {k j : Nat} {s : Sp} (h : Rch st k) (hs : st[k]? = some s) (hj : j ∈ nmd s) : Rch st j
/-- factors name earlier steps alone -/
def Erl (st : List Sp) : Prop := ∀ (k : Nat) (s : Sp), st[k]? = some s → ∀ f ∈ s.2, f.1 = q_given ∨ (f.1 = q_step ∧ 0 ≤ f.2.1 ∧ f.2.1 < (k : Int))
theorem Erl.nmd {st : List Sp} (E : Erl st) {k j : Nat} {s : Sp} (hs : st[k]? = some s) (hj : j ∈ nmd s) : j < k := by
  unfold Law.nmd at hj
  obtain ⟨f, hf, rfl⟩ := List.mem_map.mp hj
  obtain ⟨h1, h2⟩ := List.mem_filter.mp hf
  have h2 : f.1 = q_step := of_decide_eq_true h2
  rcases E k s hs f h1 with a | ⟨a, b, c⟩
  · rw [h2] at a
    exact absurd a.symm q_ne
  · omega
theorem Rch.lt {st : List Sp} (E : Erl st) (h0 : 0 < st.length) {k : Nat} (h : Rch st k) : k < st.length := by
  cases h with
  | last => omega
  | step h hs hj =>
    have := E.nmd hs hj
    have := (List.getElem?_eq_some_iff.mp hs).1
    omega
noncomputable def kpt (st : List Sp) : List Nat := (List.range st.length).filter fun k => @decide (Rch st k) (Classical.propDecidable _)
theorem mem_kpt {st : List Sp} (E : Erl st) (h0 : 0 < st.length) {k : Nat} : k ∈ kpt st ↔ Rch st k := by
  unfold kpt
  rw [List.mem_filter, List.mem_range]
  exact ⟨fun h => @of_decide_eq_true _ (Classical.propDecidable _) h.2, fun h => ⟨h.lt E h0, @decide_eq_true _ (Classical.propDecidable _) h⟩⟩
theorem kpt_srt (st : List Sp) : (kpt st).Pairwise (· < ·) := List.Pairwise.sublist List.filter_sublist List.pairwise_lt_range
theorem kpt_nd (st : List Sp) : (kpt st).Nodup := (kpt_srt st).imp fun h => Nat.ne_of_lt h
theorem sorted_only {ks ls : List Nat} {ys : List Int} (h1 : ks.Nodup) (h2 : ls.Pairwise (· < ·)) (hm : ∀ k, k ∈ ks ↔ k ∈ ls) (pm : ys.Perm (rowI ks)) (pw : ys.Pairwise (· ≤ ·)) : ys = rowI ls := by
  have nd2 : ls.Nodup := h2.imp fun h => Nat.ne_of_lt h
  have p : ks.Perm ls := (List.perm_ext_iff_of_nodup h1 nd2).mpr hm
  have p2 : ys.Perm (rowI ls) := pm.trans (p.map _)
  refine List.Perm.eq_of_pairwise (le := fun a b : Int => a ≤ b) (fun a b _ _ x y => Int.le_antisymm x y) pw ?_ p2
  unfold rowI
  exact List.pairwise_map.mpr (h2.imp fun h => by omega)
/-- the trimmed steps -/
noncomputable def trm (st : List Sp) : List Sp := ((kpt st).map fun k => st.getD k ([], [])).map (renS ((kpt st).mapIdx fun i p => (p, i)))
theorem iD_idx (ps : List Nat) : iD (ps.mapIdx fun i p => (p, i)) = nbD ps := by
  unfold iD nbD
  refine List.ext_getElem? fun i => ?_
  rw [List.getElem?_map, List.getElem?_mapIdx, List.getElem?_mapIdx, Option.map_map]
  rfl
theorem look_idx {ps : List Nat} {p : Nat} (nd : ps.Nodup) (h : p ∈ ps) : (ps.mapIdx fun i p => (p, i)).lookup p = some (ps.idxOf p) := by
  have a := nbD_at nd h
  rw [← iD_idx, iD_look] at a
  cases e : (ps.mapIdx fun i p => (p, i)).lookup p with
  | none => rw [e] at a; cases a
  | some q =>
    rw [e] at a
    have a := Option.some.inj a
    injection a with a
    congr 1
    omega
/-- the needed ones, as far as the steps from n - i on name them -/
def Nd (st : List Sp) (i : Nat) (ks : List Nat) : Prop := ks.Nodup ∧ (∀ j, j ∈ ks ↔ (j = st.length - 1 ∨ ∃ k s, st.length - i ≤ k ∧ Rch st k ∧ st[k]? = some s ∧ j ∈ nmd s)) ∧ ∀ j ∈ ks, j < st.length
theorem Nd.at {st : List Sp} (E : Erl st) {i : Nat} {ks : List Nat} (h : Nd st i ks) (hi : i < st.length) : st.length - 1 - i ∈ ks ↔ Rch st (st.length - 1 - i) := by
  rw [h.2.1]
  constructor
  · rintro (a | ⟨k, s, _, hk, hs, hj⟩)
    · rw [a]; exact .last
    · exact .step hk hs hj
  · intro hr
    obtain ⟨a, ha⟩ : ∃ a, a = st.length - 1 - i := ⟨_, rfl⟩
    rw [← ha] at hr ⊢
    cases hr with
    | last => exact .inl rfl
    | @step k _ s hk hs hj =>
      have := E.nmd hs hj
      exact .inr ⟨k, s, by omega, hk, hs, hj⟩
theorem Nd.all {st : List Sp} {ks : List Nat} (h : Nd st st.length ks) (j : Nat) : j ∈ ks ↔ Rch st j := by
  rw [h.2.1]
  constructor
  · rintro (a | ⟨k, s, _, hk, hs, hj⟩)
    · rw [a]; exact .last
    · exact .step hk hs hj
  · intro hr
    cases hr with
    | last => exact .inl rfl
    | step hk hs hj => exact .inr ⟨_, _, by omega, hk, hs, hj⟩

end
structure Txt (mg : Str → Option Value) : Prop where
  n_abs : mg "abs" = none
  n_all : mg "all" = none
  n_bool : mg "bool" = none
  n_enumerate : mg "enumerate" = none
  n_int : mg "int" = none
  n_isinstance : mg "isinstance" = none
  n_len : mg "len" = none
  n_list : mg "list" = none
  n_min : mg "min" = none
  n_range : mg "range" = none
  n_str : mg "str" = none
  n_sum : mg "sum" = none
  n_tuple : mg "tuple" = none
  n_zip : mg "zip" = none
  g_GREATEST_INDEX : ∃ u, mg "GREATEST_INDEX" = some u ∧ RelV (.int 1000000) u
  g_HIGHEST_RANK : ∃ u, mg "HIGHEST_RANK" = some u ∧ RelV (.int 3) u
  g_LETTERS : ∃ u, mg "LETTERS" = some u ∧ RelV (.str "aAbBcC") u
  g_MOST_LETTERS : ∃ u, mg "MOST_LETTERS" = some u ∧ RelV (.int 24) u
structure Txx (K : PySem.W.Frag) (mg : Str → Option Value) : Prop where
  k_TooLarge : ∃ C, mg "TooLarge" = some (.ref C)
  f_TooLarge : ∀ C, mg "TooLarge" = some (.ref C) → XcI K C ∧ PySem.W.findIn K (.ref C) "what" = some none
  e_TooLarge_TooLarge : ∀ C W, mg "TooLarge" = some (.ref C) → mg "TooLarge" = some (.ref W) → PySem.W.exmOne K (.ref C) (.ref W) = some true
theorem txx_mk {K : PySem.W.Frag} {h : Heap} {mg : Str → Option Value} (X : K.In h) (G : h.Ns mainGlobals mg) {C_TooLarge : Addr} (a_TooLarge : PySem.W.nsIn K mainGlobals "TooLarge" = some (some (.ref C_TooLarge))) (f0_TooLarge : PySem.W.isClsIn K C_TooLarge = true) (f1_TooLarge : PySem.W.findIn K (.ref C_TooLarge) "__getattribute__" = some (some (.builtin "BaseException.__getattribute__"))) (f2_TooLarge : PySem.W.findIn K (.ref C_TooLarge) "__getattr__" = some none) (f3_TooLarge : PySem.W.subIn K (.ref C_TooLarge) (.type "BaseException") = some true) (f4_TooLarge : PySem.W.hasDictIn K C_TooLarge = true) (f5_TooLarge : PySem.W.findIn K (.ref C_TooLarge) "__class__" = some (some (.builtin "object.__class__"))) (f6_TooLarge : PySem.W.specialIn K (.builtin "object.__class__") "__get__" = some (some (.builtin "getset_descriptor.__get__"))) (f7_TooLarge : PySem.W.takesIn K (.builtin "object.__class__") = some true) (f8_TooLarge : PySem.W.mroIn K C_TooLarge (.type "object") = some true) (f9_TooLarge : PySem.W.findIn K (.ref C_TooLarge) "what" = some none) (e_TooLarge_TooLarge1 : PySem.W.subIn K (.ref C_TooLarge) (.type "BaseException") = some true) (e_TooLarge_TooLarge2 : PySem.W.isClsIn K C_TooLarge = true) (e_TooLarge_TooLarge3 : PySem.W.typeIn K (.ref C_TooLarge) = some (.type "type")) (e_TooLarge_TooLarge4 : PySem.W.subIn K (.ref C_TooLarge) (.ref C_TooLarge) = some true) : Txx K mg :=
  ⟨⟨_, PySem.W.mg_of X G a_TooLarge⟩,
   (fun C e => by rw [ref_inj (PySem.W.mg_of X G a_TooLarge) e]; exact ⟨xcI_of f0_TooLarge f1_TooLarge f2_TooLarge f3_TooLarge f4_TooLarge f5_TooLarge f6_TooLarge f7_TooLarge f8_TooLarge, f9_TooLarge⟩),
   (fun C W e e2 => by rw [ref_inj (PySem.W.mg_of X G a_TooLarge) e, ref_inj (PySem.W.mg_of X G a_TooLarge) e2]; exact exm_of e_TooLarge_TooLarge1 e_TooLarge_TooLarge2 e_TooLarge_TooLarge3 e_TooLarge_TooLarge4)⟩
abbrev s_TooLarge_init : Stmt := L2.inClass (topS 3) 0
section
variable {P : Program} {w : World} {K : PySem.W.Frag} {mg : Str → Option Value} {base : Heap}
-- _law_stream
theorem ok_law_stream (T : Txt mg) (d_law_stream : Df K mg "_law_stream" s_law_stream ["script"]) : C8.Cal P w K mg base 1 "_law_stream" (spStream K) [] := by
  refine df_raw d_law_stream sc_law_stream (fun vs H Q E h => ?_) fun f cdv A outer s H E hr => ⟨_, (pss_one (ps_ret (pe_lst (pa_cons (pe_callTy cd_listof (by rfl) T.n_list (by decide +kernel) (pa_cons (pv 0) pa_nil)) (pa_cons pe_int (pa_cons pe_int pa_nil)))))), fun vs Q h => ?_⟩
  · obtain ⟨a, ns, rfl, _⟩ := h
    rfl
  · obtain ⟨a, ns, rfl, hS, q⟩ := h
    refine ⟨.ref a, rfl, a, _, rfl, .inl hS, fun b hb => ?_⟩
    refine ⟨Nat.le_trans (show 3 ≤ 1000 by decide) (by decide), fun st hst => ?_⟩
    have ne : b ≠ st := fun z => by
      rw [← z, upd_same] at hst
      cases hst
    exact q b st _ (fun z => ne z.symm) (by rw [upd_ne ne, upd_same]) upd_same
-- _law_opposite
-- src: a59ff4020871
def fs_law_opposite : FS := ⟨Nat, fun c => [.str [c]], fun c => c ∈ LTR, fun c d => d = .str [sw c]⟩
theorem ok_law_opposite (T : Txt mg) (d_law_opposite : Df K mg "_law_opposite" s_law_opposite ["letter"]) : C8.Cal P w K mg base 1 "_law_opposite" (PF fs_law_opposite) [] := by
  refine df_cal d_law_opposite sc_law_opposite (fun _ => rfl) fun f cdv A outer s H E hr => ⟨_, (pss_one (ps_ret (pe_ix ix_str pe_str (pe_bm PySem.F.plainAttrs_str PySem.F.slot_str_index PySem.F.type_str_index md_sindex pe_str (pa_cons (pv 0) pa_nil)) (fun _ _ => rfl)))), fun (c : Nat) hp => ?_⟩
  have hc : c ∈ LTR := hp
  show Ds _ [.dat (.str [c])] _ (fun d => d = .str [sw c]) _ _
  repeat walk_at "dl"
  refine ⟨rfl, ?_⟩
  repeat walk_at "dl"
  refine dmt_sindex (ix_let hc) ?_
  refine dop_ixs (by simp) (ix_at hc) rfl
-- _law_all_reduced: all of them, in order
-- src: e1c92388f6d3
def fs_law_all_reduced : FS := ⟨Int × Nat, fun a => [.int a.1, .int (a.2 : Int)], fun a => 1 ≤ a.1 ∧ a.1 ≤ 3 ∧ a.2 ≤ 7 ∧ bseW (LS a.1) (a.2 + 1) ≤ 10000, fun a d => d = .lst ((allW (LS a.1) a.2).map D.str)⟩
theorem lsOk2 {r : Int} (h1 : 1 ≤ r) (h3 : r ≤ 3) : LsOk (LS r) := by
  refine ⟨ascLS r, ?_, LS_swap h1 h3, fun c => LS_LTR, ?_⟩
  · rcases rng3 h1 h3 with rfl | rfl | rfl <;> decide
  · have := LS_len h1 h3
    omega
theorem ext_words {ls : List Nat} (L : LsOk ls) {n : Nat} {w : List Nat} (h : w ∈ extW ls n []) : w.length = n ∧ ∀ c ∈ w, c ∈ ls := by
  obtain ⟨⟨u, e, hu⟩, _, a⟩ := (extW_red L n (w := []) no_in trivial w).mp h
  exact ⟨by rw [e]; exact hu, a⟩
theorem last_at {w : List Nat} (h : w ≠ []) : atI w (-1) = w.getLast? := by
  rcases List.eq_nil_or_concat w with e | ⟨u, x, e⟩
  · exact absurd e h
  · rw [e, List.concat_eq_append, List.getLast?_concat]
    exact atI_back u x
theorem ok_law_all_reduced (T : Txt mg) (d_law_all_reduced : Df K mg "_law_all_reduced" s_law_all_reduced ["rank", "most"]) (c_law_opposite : C8.Cal P w K mg base 1 "_law_opposite" (PF fs_law_opposite) []) : C8.Cal P w K mg base 2 "_law_all_reduced" (PF fs_law_all_reduced) [] := by
  refine df_cal d_law_all_reduced sc_law_all_reduced (fun _ => rfl) fun f cdv A outer s H E hr => ⟨_, (pss_cons (ps_set (i := 2) sc_law_all_reduced.nd rfl (by first | exact Or.inl rfl | exact Or.inr rfl) (pe_lst (pa_cons pe_str pa_nil))) (pss_cons (ps_set (i := 3) sc_law_all_reduced.nd rfl (by first | exact Or.inl rfl | exact Or.inr rfl) (pe_lst (pa_cons pe_str pa_nil))) (pss_cons (ps_for PassesOwn.never rfl (pi_range1 (by rfl) T.n_range (pa_cons (pv 1) pa_nil)) (pg_name (i := 4) sc_law_all_reduced.nd rfl (by first | exact Or.inl rfl | exact Or.inr rfl)) (pss_cons (ps_set (i := 5) sc_law_all_reduced.nd rfl (by first | exact Or.inl rfl | exact Or.inr rfl) (pe_lst pa_nil)) (pss_cons (ps_for PassesOwn.never rfl (pi_list (pv 3)) (pg_name (i := 6) sc_law_all_reduced.nd rfl (by first | exact Or.inl rfl | exact Or.inr rfl)) (pss_one (ps_expr (pe_bm PySem.F.plainAttrs_list PySem.F.slot_list_extend PySem.F.type_list_extend mt_extend (pv 5) (pa_cons (pe_lc (own := [("letter", 7)]) rfl sc_law_all_reduced.nd (pi_str (pe_slice sl_str pe_str po_none (po_some (pe_op op_mul pe_int (pv 0))))) (blkOk_by (N := n_law_all_reduced) (sc := defScope s_law_all_reduced) (own := [("letter", 7)]) (by decide +kernel)) (fun _ _ _ _ _ => (pg_name (i := 7) sc_law_all_reduced.nd rfl (by first | exact Or.inl rfl | exact Or.inr rfl))) (fun _ _ _ _ _ => (pts_one (PW.pt (pw_or (pt_cmpR op_eq (pv 6) pe_str (nomark _)) (pw_or1 (pt_cmpR op_ne (pe_ix ix_str (pv 6) (pe_un un_neg pe_int) (fun _ _ => rfl)) (C8.pe_c c_law_opposite hr (by first | decide | omega) (by rfl) (pa_cons (pv 7) pa_nil)) (nomark _))))))) (fun _ _ _ _ _ => (pe_op od_add_str (pv 6) (pv 7)))) pa_nil))))) (pss_cons (ps_expr (pe_bm PySem.F.plainAttrs_list PySem.F.slot_list_extend PySem.F.type_list_extend mt_extend (pv 2) (pa_cons (pv 5) pa_nil))) (pss_one (ps_set (i := 3) sc_law_all_reduced.nd rfl (by first | exact Or.inl rfl | exact Or.inr rfl) (pv 5))))))) (pss_one (ps_ret (pv 2)))))), fun a hp => ?_⟩
  obtain ⟨r, m⟩ := a
  obtain ⟨h1, h3, hm, hb⟩ : 1 ≤ r ∧ r ≤ 3 ∧ m ≤ 7 ∧ bseW (LS r) (m + 1) ≤ 10000 := hp
  have L := lsOk2 h1 h3
  have hl := LS_len h1 h3
  show Ds _ [.dat (.int r), .dat (.int (m : Int)), .any, .any, .any, .any, .any, .any] _ (fun d => d = .lst ((allW (LS r) m).map D.str)) _ _
  refine ds_seq (ds_setN (den_lst (da_cons (de_str (da_nil ⟨by simp, ?_⟩)))))
  try dsimp only [List.set]
  refine ds_seq (ds_set (de_lst (da_cons (de_str (da_nil ⟨by simp, ?_⟩)))))
  try dsimp only [List.set]
  have e0 : allW (LS r) 0 = [[]] := by unfold allW; simp [extW]
  refine ds_seq (ds_for (di_range1 (da_cons (de_var rfl (da_nil ⟨(m : Int), rfl, by omega, by omega, fun t e => ∃ x y z u, e = [.dat (.int r), .dat (.int (m : Int)), .own (.lst ((allW (LS r) t).map D.str)), .dat (.lst ((extW (LS r) t []).map D.str)), x, y, z, u], ⟨_, _, _, _, by rw [e0]; rfl⟩, fun t d e hd he => ?_, fun e he => ?_⟩)))))
  · obtain ⟨x, y, z, u, rfl⟩ := he
    have ht : t < m := by
      have := (List.getElem?_eq_some_iff.mp hd).1
      rw [rgI_len] at this
      omega
    have hb1 := bseW_mono (ls := LS r) (show t + 1 + 1 ≤ m + 1 by omega)
    have hb2 := bseW_succ (LS r) (t + 1)
    have hb3 := bseW_succ (LS r) t
    have len1 := allW_len L t
    have len2 := extW_len L t [] no_in
    have len3 := extW_len L (t + 1) [] no_in
    have back := extW_back (LS r) t []
    refine dg_name ?_
    try dsimp only [List.set]
    refine ds_seq (ds_setN (den_lst (da_nil ⟨Nat.zero_le _, ?_⟩)))
    try dsimp only [List.set]
    refine ds_seq (ds_for (di_list (de_var rfl ⟨(extW (LS r) t []).map D.str, rfl, fun i e => ∃ y z, e = [.dat (.int r), .dat (.int (m : Int)), .own (.lst ((allW (LS r) t).map D.str)), .dat (.lst ((extW (LS r) t []).map D.str)), .dat d, .own (.lst ((((extW (LS r) t []).take i).flatMap fun u => (chW (LS r) u).map fun c => u ++ [c]).map D.str)), y, z], ⟨_, _, rfl⟩, fun i d' e hd he => ?_, fun e he => ?_⟩)))
    · obtain ⟨y, z, rfl⟩ := he
      rw [List.getElem?_map] at hd
      obtain ⟨w, hw, rfl⟩ := Option.map_eq_some_iff.mp hd
      obtain ⟨wl, wL⟩ := ext_words L (List.mem_of_getElem? hw)
      have sn : ((extW (LS r) t []).take (i + 1)).flatMap (fun u => (chW (LS r) u).map fun c => u ++ [c]) = ((extW (LS r) t []).take i).flatMap (fun u => (chW (LS r) u).map fun c => u ++ [c]) ++ (chW (LS r) w).map fun c => w ++ [c] := by
        rw [List.take_add_one, hw, List.flatMap_append]
        simp
      have pre : (((extW (LS r) t []).take (i + 1)).flatMap (fun u => (chW (LS r) u).map fun c => u ++ [c])).length ≤ 10000 := by
        have e : (extW (LS r) (t + 1) []) = ((extW (LS r) t []).take (i + 1)).flatMap (fun u => (chW (LS r) u).map fun c => u ++ [c]) ++ ((extW (LS r) t []).drop (i + 1)).flatMap (fun u => (chW (LS r) u).map fun c => u ++ [c]) := by
          rw [back, ← List.flatMap_append, List.take_append_drop]
        have := congrArg List.length e
        rw [List.length_append, len3] at this
        omega
      rw [sn, List.length_append] at pre
      dsimp only
      rw [sn]
      refine dg_name ?_
      try dsimp only [List.set]
      refine ds_extend rfl ?_
      refine de_ofN (den_lc (di_str ?_))
      repeat walk_at "de"
      rw [cut_LS]
      refine ⟨LS r, rfl, by rw [List.length_map]; omega, fun k acc => acc = ((((LS r).take k).filter fun c => decide (w.getLast? ≠ some (sw c))).map fun c => w ++ [c]).map D.str, rfl, fun k d2 acc hd _ ha => ?_, fun acc ha => ?_⟩
      · obtain ⟨c, hc, rfl⟩ := sign_at hd
        have hcl : c ∈ LS r := List.mem_of_getElem? hc
        subst ha
        have sn2 : (((LS r).take (k + 1)).filter fun c => decide (w.getLast? ≠ some (sw c))) = (((LS r).take k).filter fun c => decide (w.getLast? ≠ some (sw c))) ++ if decide (w.getLast? ≠ some (sw c)) = true then [c] else [] := by
          rw [List.take_add_one, hc, List.filter_append, Option.toList_some]
          congr 1
          by_cases z : w.getLast? = some (sw c) <;> simp [z]
        dsimp only
        rw [sn2]
        have yes : w.getLast? ≠ some (sw c) → (((((LS r).take k).filter fun c => decide (w.getLast? ≠ some (sw c))).map fun c => w ++ [c]).map D.str) ++ [.str (w ++ [c])] = (((((LS r).take k).filter fun c => decide (w.getLast? ≠ some (sw c))) ++ if decide (w.getLast? ≠ some (sw c)) = true then [c] else []).map fun c => w ++ [c]).map D.str := fun z => by
          rw [decide_eq_true z, if_pos rfl, List.map_append, List.map_append]
          rfl
        refine dt_or ?_
        repeat walk_at "de"
        by_cases w0 : w = []
        · rw [decide_eq_true w0]
          refine iteT (iteT ?_)
          repeat walk_at "de"
          exact yes (by rw [w0]; simp)
        · rw [decide_eq_false w0]
          refine iteF ?_
          obtain ⟨x, hx⟩ : ∃ x, w.getLast? = some x := ⟨w.getLast w0, List.getLast?_eq_some_getLast w0⟩
          repeat walk_at "de"
          refine dop_ixs (c := x) (by omega) (by rw [last_at w0]; exact hx) ?_
          repeat walk_at "de"
          refine ⟨c, rfl, LS_LTR hcl, fun d hd => ?_⟩
          obtain rfl : d = .str [sw c] := hd
          repeat walk_at "de"
          by_cases hb : x = sw c
          · rw [decide_eq_true (show [x] = [sw c] by rw [hb])]
            refine iteF ?_
            rw [decide_eq_false (show ¬ w.getLast? ≠ some (sw c) by rw [hx, hb]; exact not_not_intro rfl)]
            simp
          · rw [decide_eq_false (show ¬ [x] = [sw c] from fun z => hb (by simpa using z))]
            refine iteT ?_
            repeat walk_at "de"
            exact yes (by rw [hx]; exact fun z => hb (Option.some.inj z))
      · rw [List.length_map, List.take_length] at ha
        subst ha
        refine ⟨_, rfl, by unfold chW at pre ⊢; simp only [List.length_map] at pre ⊢; omega, ?_⟩
        rw [← List.map_append]
        exact ⟨_, _, rfl⟩
    · obtain ⟨y, z, rfl⟩ := he
      rw [List.length_map, List.take_length, ← back]
      refine ds_rel 5 rfl ?_
      try dsimp only [List.set, toD]
      refine ds_seq (ds_extend rfl (de_var rfl ⟨_, rfl, by rw [List.length_map, List.length_map, len1, len3]; omega, ?_⟩))
      try dsimp only [List.set]
      rw [← List.map_append, ← allW_succ]
      refine ds_set (de_var rfl ?_)
      exact ⟨_, _, _, _, rfl⟩
  · obtain ⟨x, y, z, u, rfl⟩ := he
    rw [rgI_len, show ((m : Int)).toNat = m by omega]
    refine ds_rel 2 rfl ?_
    try dsimp only [List.set, toD]
    refine ds_ret (de_var rfl rfl)
-- _law_next
def fs_law_next : FS := ⟨Int, fun m => [.stm, .int m], fun m => 0 < m ∧ m < 1000000, fun m d => ∃ i : Int, d = .int i ∧ 0 ≤ i ∧ i < m⟩
theorem fmod_rng (x : Int) {m : Int} (h : 0 < m) : 0 ≤ x.fmod m ∧ x.fmod m < m := by
  rw [Int.fmod_eq_emod_of_nonneg _ (Int.le_of_lt h)]
  exact ⟨Int.emod_nonneg _ (Int.ne_of_gt h), Int.emod_lt_of_pos _ h⟩
theorem fdiv_nn {x m : Int} (hx : 0 ≤ x) (h : 0 < m) : 0 ≤ x.fdiv m := by
  rw [Int.fdiv_eq_ediv_of_nonneg _ (Int.le_of_lt h)]
  exact Int.ediv_nonneg hx (Int.le_of_lt h)
def tN1 (K : PySem.W.Frag) : TS := tSeq (tAsg (tOp (rI (fun _ j => j ≠ 0) fun i j => .int (i.fmod j)) (tCB DL.rInt (tCons (tOp (rIxL K) (tVar 0) (tC (.int 1))) tNil)) (tVar 1)) (gName 4))
          (tSeq (tAsg (tOp (rI CDivN fun i j => .int (i.fdiv j)) (tOp (rIxL K) (tVar 0) (tC (.int 1))) (tVar 1)) (gSub (tVar 0) (tC (.int 1)) rSetL)) (tRet (tVar 4)))
def tN2 : TS := (tSeq (tAsg (tVar 3) (gSub (tVar 0) (tC (.int 1)) rSetL)) (tAsg (tOp (rI0 fun i j => .int (i + j)) (tVar 2) (tC (.int 1))) (gSub (tVar 0) (tC (.int 2)) rSetL)))
def tN3 : TS := tSeq (tIfS (tTest (tOp (rI0 fun i j => .bl (decide (i < j))) (tVar 3) (tOp (rI CPow fun i j => .int (i ^ j.toNat)) (tC (.int 10)) (tC (.int 18)))))
            (tSeq (tAsg (tOp (rI (fun _ j => j ≠ 0) fun i j => .int (i.fmod j)) (tCB DL.rInt (tCons (tOp (rI0 fun i j => .int (i + j)) (tOp (rI0 fun i j => .int (i + j)) (tOp (rI CMul fun i j => .int (i * j)) (tVar 3) (tC (.int 48271))) (tOp (rI CMul fun i j => .int (i * j)) (tVar 2) (tC (.int 69621)))) (tC (.int 11))) tNil)) (tC (.int 2147483647))) (gName 3))
              (tAsg (tOp (rI0 fun i j => .int (i + j)) (tOp (rI CMul fun i j => .int (i * j)) (tOp (rI (fun _ j => j ≠ 0) fun i j => .int (i.fmod j)) (tCB DL.rInt (tCons (tOp (rI0 fun i j => .int (i + j)) (tOp (rI CMul fun i j => .int (i * j)) (tVar 3) (tC (.int 16807))) (tC (.int 13))) tNil)) (tC (.int 2147483647))) (tC (.int 65537))) (tVar 3)) (gName 3))) tNext) tN2
/-- the stream at st, as the def sees it -/
def StAt (st a : Addr) (ns : List Int) (H0 H : Hp) : Prop := ∃ c k : Int, 0 ≤ c ∧ 0 ≤ k ∧ H = upd H0 st (.lst [.ref a, .int c, .int k])
theorem ok_law_next (T : Txt mg) (d_law_next : Df K mg "_law_next" s_law_next ["stream", "many"]) : C8.Cal P w K mg base 1 "_law_next" (PF fs_law_next) [] := by
  refine df_raw d_law_next sc_law_next (fun vs H Q E h => ?_) fun f cdv A outer s H E hr => ⟨_, (pss_cons (ps_if (pt_cmpR op_eq (pe_ix ix_list (pv 0) pe_int (fun _ _ => rfl)) pe_int (nomark _)) (pss_cons (ps_set (i := 2) sc_law_next.nd rfl (by first | exact Or.inl rfl | exact Or.inr rfl) (pe_ix ix_list (pv 0) pe_int (fun _ _ => rfl))) (pss_cons (ps_set (i := 3) sc_law_next.nd rfl (by first | exact Or.inl rfl | exact Or.inr rfl) (pe_op op_add pe_int (pv 2))) (pss_cons (ps_if (pt_cmpR op_lt (pv 2) (pe_callB cd_len (by rfl) T.n_len (by decide +kernel) (pa_cons (pe_ix ix_list (pv 0) pe_int (fun _ _ => rfl)) pa_nil)) (nomark _)) (pss_one (ps_set (i := 3) sc_law_next.nd rfl (by first | exact Or.inl rfl | exact Or.inr rfl) (pe_callB cd_abs (by rfl) T.n_abs (by decide +kernel) (pa_cons (pe_ix ix_list (pe_ix ix_list (pv 0) pe_int (fun _ _ => rfl)) (pv 2) (fun _ _ => rfl)) pa_nil)))) pss_nil) (pss_cons (ps_if (pt_cmpR op_lt (pv 3) (pe_op op_pow pe_int pe_int) (nomark _)) (pss_cons (ps_set (i := 3) sc_law_next.nd rfl (by first | exact Or.inl rfl | exact Or.inr rfl) (pe_op op_modN (pe_callTy cd_int (by rfl) T.n_int (by decide +kernel) (pa_cons (pe_op op_add (pe_op op_add (pe_op op_mul (pv 3) pe_int) (pe_op op_mul (pv 2) pe_int)) pe_int) pa_nil)) pe_int)) (pss_one (ps_set (i := 3) sc_law_next.nd rfl (by first | exact Or.inl rfl | exact Or.inr rfl) (pe_op op_add (pe_op op_mul (pe_op op_modN (pe_callTy cd_int (by rfl) T.n_int (by decide +kernel) (pa_cons (pe_op op_add (pe_op op_mul (pv 3) pe_int) pe_int) pa_nil)) pe_int) pe_int) (pv 3))))) pss_nil) (pss_cons (ps_asg (pv 3) (pg_sub (pv 0) pe_int set_list)) (pss_one (ps_asg (pe_op op_add (pv 2) pe_int) (pg_sub (pv 0) pe_int set_list)))))))) pss_nil) (pss_cons (ps_set (i := 4) sc_law_next.nd rfl (by first | exact Or.inl rfl | exact Or.inr rfl) (pe_op op_modN (pe_callTy cd_int (by rfl) T.n_int (by decide +kernel) (pa_cons (pe_ix ix_list (pv 0) pe_int (fun _ _ => rfl)) pa_nil)) (pv 1))) (pss_cons (ps_asg (pe_op op_fdivN (pe_ix ix_list (pv 0) pe_int (fun _ _ => rfl)) (pv 1)) (pg_sub (pv 0) pe_int set_list)) (pss_one (ps_ret (pv 4)))))), fun vs Q h => ?_⟩
  · obtain ⟨a, st', M, _, _, _, hs, _⟩ := h
    rw [hs.length]
    rfl
  · obtain ⟨m, st, M, hst, hM, trk, hs, ⟨m1, m2⟩, q⟩ := h
    obtain ⟨a, ns, c, k, ha, hne, h1, h2, h3, h4⟩ := hst
    obtain ⟨v, w, rfl, rfl, rfl⟩ : ∃ v w, vs = [v, w] ∧ v = .ref st ∧ w = .int m := by
      cases hs with
      | cons i r =>
        cases r with
        | cons j r =>
          cases r
          cases is_int j
          cases i
          exact ⟨_, _, rfl, rfl, rfl⟩
    have hS : Stm st M H := ⟨a, ns, c, k, ha, hne, h1, h2, h3, h4⟩
    have fin : ∀ (c2 k2 : Int), 0 ≤ c2 → 0 ≤ k2 → ∀ d : Int, 0 ≤ d → d < m → Q (.int d) (upd H st (.lst [.ref a, .int c2, .int k2])) := fun c2 k2 g1 g2 d d1 d2 =>
      q _ _ (.int d) ⟨d, rfl, d1, d2⟩ (stm_next hS g1 g2 h1) (.int d)
    -- what stands behind the if
    have behind : ∀ (c1 k1 : Int) (σ' : L2.St), 0 ≤ c1 → 0 ≤ k1 → σ'[0]? = some (some (V.ref st)) → σ'[1]? = some (some (V.int m)) → 4 < σ'.length →
        tN1 K { nx := fun _ H' => Q .non H', rt := Q } σ' (upd H st (.lst [.ref a, .int c1, .int k1])) := fun c1 k1 σ' g1 g2 e0 e1 e4 => by
      refine ⟨.ref st, e0, st, _, 1, .int c1, rfl, rfl, .of upd_same, rfl, .inl ⟨c1, rfl, .int m, e1, c1, m, rfl, rfl, by omega, ?_⟩⟩
      have f0 : (σ'.set 4 (some (.int (c1.fmod m))))[0]? = some (some (V.ref st)) := by rw [List.getElem?_set_ne (by decide)]; exact e0
      have f1 : (σ'.set 4 (some (.int (c1.fmod m))))[1]? = some (some (V.int m)) := by rw [List.getElem?_set_ne (by decide)]; exact e1
      have f4 : (σ'.set 4 (some (.int (c1.fmod m))))[4]? = some (some (V.int (c1.fmod m))) := by rw [List.getElem?_set_self e4]
      refine ⟨.ref st, f0, st, _, 1, .int c1, rfl, rfl, .of upd_same, rfl, .int m, f1, c1, m, rfl, rfl, ⟨by omega, by omega⟩, .ref st, f0, st, _, 1, 1, rfl, rfl, upd_same, rfl, ?_⟩
      refine ⟨.int (c1.fmod m), f4, ?_⟩
      rw [upd_upd]
      exact fin (c1.fdiv m) k1 (fdiv_nn g1 m1) g2 _ (fmod_rng c1 m1).1 (fmod_rng c1 m1).2
    have eH : H = upd H st (.lst [.ref a, .int c, .int k]) := by
      funext b
      by_cases z : b = st
      · rw [z, upd_same, h1]
      · rw [upd_ne z]
    refine ⟨.ref st, rfl, st, _, 1, .int c, rfl, rfl, .of h1, rfl, rfl, _, rfl, ite2 (fun _ => ?_) (fun _ => ?_)⟩
    · -- k = stream[2]; cell = 7 + k
      refine ⟨.ref st, rfl, st, _, 2, .int k, rfl, rfl, .of h1, rfl, .int k, rfl, 7, k, rfl, rfl, ?_⟩
      -- if k < len(stream[0]): cell = abs(stream[0][k])
      have tail : ∀ (cell : Int), 0 ≤ cell →
          tN3 { nx := fun σ' H' => tN1 K { nx := fun _ H' => Q .non H', rt := Q } σ' H', rt := Q } [some (.ref st), some (.int m), some (.int k), some (.int cell), none] H := fun cell hc => by
        have store : ∀ (cell2 : Int), 0 ≤ cell2 → tN2 { nx := fun σ' H' => tN1 K { nx := fun _ H' => Q .non H', rt := Q } σ' H', rt := Q } [some (.ref st), some (.int m), some (.int k), some (.int cell2), none] H := fun cell2 hc2 => by
          refine ⟨.int cell2, rfl, .ref st, rfl, st, _, 1, 1, rfl, rfl, h1, rfl, ?_⟩
          refine ⟨.int k, rfl, k, 1, rfl, rfl, .ref st, rfl, st, _, 2, 2, rfl, rfl, upd_same, rfl, ?_⟩
          rw [upd_upd]
          exact behind cell2 (k + 1) _ hc2 (by omega) rfl rfl (by show 4 < 5; decide)
        refine ⟨.int cell, rfl, 10, 18, rfl, rfl, ⟨by decide, by decide, by decide⟩, cell, 10 ^ 18, rfl, rfl, _, rfl, ite2 (fun hlt => ?_) (fun _ => ?_)⟩
        · have hlt' : cell < 10 ^ 18 := of_decide_eq_true hlt
          refine ⟨.int cell, rfl, cell, 48271, rfl, rfl, Or.inr ⟨by decide, by decide⟩, .int k, rfl, k, 69621, rfl, rfl, Or.inr ⟨by decide, by decide⟩, _, _, rfl, rfl, _, 11, rfl, rfl, .inl ⟨_, rfl, _, 2147483647, rfl, rfl, (show (2147483647 : Int) ≠ 0 by decide), ?_⟩⟩
          have hc2 := (fmod_rng (cell * 48271 + k * 69621 + 11) (m := 2147483647) (by decide)).1
          have hc3 := (fmod_rng ((cell * 48271 + k * 69621 + 11).fmod 2147483647 * 16807 + 13) (m := 2147483647) (by decide)).1
          refine ⟨.int ((cell * 48271 + k * 69621 + 11).fmod 2147483647), rfl, _, 16807, rfl, rfl, Or.inr ⟨by decide, by decide⟩, _, 13, rfl, rfl, .inl ⟨_, rfl, _, 2147483647, rfl, rfl, (show (2147483647 : Int) ≠ 0 by decide), _, 65537, rfl, rfl, Or.inr ⟨by decide, by decide⟩, .int ((cell * 48271 + k * 69621 + 11).fmod 2147483647), rfl, _, _, rfl, rfl, ?_⟩⟩
          exact store (((cell * 48271 + k * 69621 + 11).fmod 2147483647 * 16807 + 13).fmod 2147483647 * 65537 + (cell * 48271 + k * 69621 + 11).fmod 2147483647) (by omega)
        · exact store cell hc
      refine ⟨.int k, rfl, .ref st, rfl, st, _, 0, .ref a, rfl, rfl, .of h1, rfl, .ref a, ns.length, rfl, .inl ⟨_, .of h2, by rw [List.length_map]⟩, k, ns.length, rfl, rfl, _, rfl, ite2 (fun hlt => ?_) (fun _ => ?_)⟩
      · have hlt' : k < ns.length := of_decide_eq_true hlt
        have hk : k.toNat < ns.length := by omega
        refine ⟨.ref st, rfl, st, _, 0, .ref a, rfl, rfl, .of h1, rfl, .int k, rfl, a, _, k, .int ns[k.toNat], rfl, rfl, .of h2, atI_at h4 (by rw [List.getElem?_map, List.getElem?_eq_getElem hk]; rfl), _, rfl, ?_⟩
        exact tail _ (by split <;> omega)
      · exact tail (7 + k) (by omega)
    · have b := behind c k [some (.ref st), some (.int m), none, none, none] h3 h4 rfl rfl (by show 4 < 5; decide)
      rw [← eH] at b
      exact b
-- _law_pick
def fs_law_pick : FS := ⟨List D, fun l => [.stm, .lst l], fun l => 0 < l.length ∧ l.length < 1000000, fun l d => d ∈ l⟩
theorem ok_law_pick (T : Txt mg) (d_law_pick : Df K mg "_law_pick" s_law_pick ["stream", "rows"]) (c_law_next : C8.Cal P w K mg base 1 "_law_next" (PF fs_law_next) []) : C8.Cal P w K mg base 2 "_law_pick" (PF fs_law_pick) [] := by
  refine df_cal d_law_pick sc_law_pick (fun _ => rfl) fun f cdv A outer s H E hr => ⟨_, (pss_one (ps_ret (pe_ix ix_list (pv 1) (C8.pe_c c_law_next hr (by first | decide | omega) (by rfl) (pa_cons (pv 0) (pa_cons (pe_callB cd_len (by rfl) T.n_len (by decide +kernel) (pa_cons (pv 1) pa_nil)) pa_nil))) (fun _ _ => rfl)))), fun (l : List D) hp => ?_⟩
  obtain ⟨h1, h2⟩ : 0 < l.length ∧ l.length < 1000000 := hp
  show Ds _ [.dat .stm, .dat (.lst l)] _ (fun d => d ∈ l) _ _
  repeat walk_at "dl"
  refine ⟨(l.length : Int), rfl, ⟨by omega, by omega⟩, fun d hd => ?_⟩
  obtain ⟨i, rfl, i1, i2⟩ := hd
  obtain ⟨x, hx, hm⟩ := atI_lt l i i1 i2
  exact dop_ixl hx hm
-- is_integer
def fs_is_integer : FS := ⟨D × Int × Int, fun a => [a.1, .int a.2.1, .int a.2.2], fun a => okD a.1 = true, fun a d => d = .bl (isInt a.1 a.2.1 a.2.2)⟩
theorem ok_is_integer (T : Txt mg) (d_is_integer : Df K mg "is_integer" s_is_integer ["value", "least", "most"]) : C8.Cal P w K mg base 1 "is_integer" (PF fs_is_integer) [] := by
  refine df_cal d_is_integer sc_is_integer (fun _ => rfl) fun f cdv A outer s H E hr => ⟨_, (pss_one (ps_ret (pe_and (pe_callB cd_isi (by rfl) T.n_isinstance (by decide +kernel) (pa_cons (pv 0) (pa_cons (pe_bltn (v := .ty "int") (by rfl) T.n_int (by decide +kernel) rfl) pa_nil))) (pe_and (pe_not (pe_callB cd_isi (by rfl) T.n_isinstance (by decide +kernel) (pa_cons (pv 0) (pa_cons (pe_bltn (v := .ty "bool") (by rfl) T.n_bool (by decide +kernel) rfl) pa_nil)))) (pe_one (pe_chain op_le op_le (pv 1) (pv 0) (pv 2))))))), fun a hp => ?_⟩
  obtain ⟨v, l, m⟩ := a
  have hv : okD v = true := hp
  show Ds _ [.dat v, .dat (.int l), .dat (.int m)] _ (fun d => d = .bl (isInt v l m)) _ _
  cases v with
  | int i =>
    repeat walk_at "dl"
    by_cases h : l ≤ i
    · rw [decide_eq_true h]
      repeat walk_at "dl"
      show D.bl (decide (i ≤ m)) = .bl (decide (l ≤ i) && decide (i ≤ m))
      rw [decide_eq_true h, Bool.true_and]
    · rw [decide_eq_false h]
      repeat walk_at "dl"
      show D.bl false = .bl (decide (l ≤ i) && decide (i ≤ m))
      rw [decide_eq_false h, Bool.false_and]
  | _ => first | (cases hv; done) | ((repeat walk_at "dl"); rfl)
-- is_rank
def fs_is_rank : FS := ⟨D, fun a => [a], fun a => okD a = true, fun a d => d = .bl (isInt a 1 3)⟩
theorem ok_is_rank (T : Txt mg) (d_is_rank : Df K mg "is_rank" s_is_rank ["value"]) (c_is_integer : C8.Cal P w K mg base 1 "is_integer" (PF fs_is_integer) []) : C8.Cal P w K mg base 2 "is_rank" (PF fs_is_rank) [] := by
  refine df_cal d_is_rank sc_is_rank (fun _ => rfl) fun f cdv A outer s H E hr => ⟨_, (pss_one (ps_ret (C8.pe_c c_is_integer hr (by first | decide | omega) (by rfl) (pa_cons (pv 0) (pa_cons pe_int (pa_cons (C8.pe_gc (by rfl) T.g_HIGHEST_RANK) pa_nil)))))), fun v hv => ?_⟩
  show Ds _ [.dat v] _ (fun d => d = .bl (isInt v 1 3)) _ _
  repeat walk_at "dl"
  exact ⟨(v, 1, 3), rfl, hv, fun d hd => hd⟩
-- check_rank
def fs_check_rank : FS := ⟨Int, fun r => [.int r], fun r => 1 ≤ r ∧ r ≤ 3, fun _ d => d = .non⟩
theorem ok_check_rank (T : Txt mg) (d_check_rank : Df K mg "check_rank" s_check_rank ["value"]) (c_is_rank : C8.Cal P w K mg base 2 "is_rank" (PF fs_is_rank) []) : C8.Cal P w K mg base 3 "check_rank" (PF fs_check_rank) [] := by
  refine df_cal d_check_rank sc_check_rank (fun _ => rfl) fun f cdv A outer s H E hr => ⟨_, (pss_one (ps_if (pt_not (pt_val (C8.pe_c c_is_rank hr (by first | decide | omega) (by rfl) (pa_cons (pv 0) pa_nil)))) (pss_one ps_never) pss_nil)), fun (r : Int) hp => ?_⟩
  obtain ⟨h1, h2⟩ : 1 ≤ r ∧ r ≤ 3 := hp
  show Ds _ [.dat (.int r)] (fun _ => D.non = D.non) (fun d => d = .non) _ _
  repeat walk_at "dl"
  refine ⟨.int r, rfl, rfl, fun d hd => ?_⟩
  have e : isInt (.int r) 1 3 = true := by
    show (decide (1 ≤ r) && decide (r ≤ 3)) = true
    rw [decide_eq_true h1, decide_eq_true h2]
    rfl
  obtain rfl : d = .bl true := hd.trans (congrArg D.bl e)
  repeat walk_at "dl"
-- check_integer
def fs_check_integer : FS := ⟨Int × Int × Int × List Nat, fun a => [.int a.1, .int a.2.1, .int a.2.2.1, .str a.2.2.2], fun a => a.2.1 ≤ a.1 ∧ a.1 ≤ a.2.2.1, fun _ d => d = .non⟩
theorem ok_check_integer (T : Txt mg) (d_check_integer : Df K mg "check_integer" s_check_integer ["value", "least", "most", "name"]) (c_is_integer : C8.Cal P w K mg base 1 "is_integer" (PF fs_is_integer) []) : C8.Cal P w K mg base 2 "check_integer" (PF fs_check_integer) [] := by
  refine df_cal d_check_integer sc_check_integer (fun _ => rfl) fun f cdv A outer s H E hr => ⟨_, (pss_one (ps_if (pt_not (pt_val (C8.pe_c c_is_integer hr (by first | decide | omega) (by rfl) (pa_cons (pv 0) (pa_cons (pv 1) (pa_cons (pv 2) pa_nil)))))) (pss_one ps_never) pss_nil)), fun a hp => ?_⟩
  obtain ⟨i, l, m, n⟩ := a
  obtain ⟨h1, h2⟩ : l ≤ i ∧ i ≤ m := hp
  show Ds _ [.dat (.int i), .dat (.int l), .dat (.int m), .dat (.str n)] (fun _ => D.non = D.non) (fun d => d = .non) _ _
  repeat walk_at "dl"
  refine ⟨(.int i, l, m), rfl, rfl, fun d hd => ?_⟩
  have e : isInt (.int i) l m = true := by
    show (decide (l ≤ i) && decide (i ≤ m)) = true
    rw [decide_eq_true h1, decide_eq_true h2]
    rfl
  obtain rfl : d = .bl true := hd.trans (congrArg D.bl e)
  repeat walk_at "dl"
-- how_many
theorem lsOk {r : Int} (h1 : 1 ≤ r) (h3 : r ≤ 3) : LsOk (LS r) := by
  refine ⟨ascLS r, ?_, LS_swap h1 h3, fun c => LS_LTR, ?_⟩
  · rcases rng3 h1 h3 with rfl | rfl | rfl <;> decide
  · have := LS_len h1 h3
    omega
theorem pow_b (k n : Nat) (hk : k ≤ 5) (hn : n ≤ 24) : k ^ n ≤ 5 ^ 24 := Nat.le_trans (Nat.pow_le_pow_left hk n) (Nat.pow_le_pow_right (by decide) hn)
def fs_how_many : FS := ⟨Int × Nat, fun a => [.int a.1, .int (a.2 : Int)], fun a => 1 ≤ a.1 ∧ a.1 ≤ 3 ∧ a.2 ≤ 25, fun a d => d = .int (cntW (LS a.1) a.2 [] : Nat)⟩
theorem ok_how_many (T : Txt mg) (d_how_many : Df K mg "how_many" s_how_many ["rank", "length"]) : C8.Cal P w K mg base 1 "how_many" (PF fs_how_many) [] := by
  refine df_cal d_how_many sc_how_many (fun _ => rfl) fun f cdv A outer s H E hr => ⟨_, (pss_cons (ps_if (pt_cmpR op_eq (pv 1) pe_int (nomark _)) (pss_one (ps_ret pe_int)) pss_nil) (pss_cons (ps_set (i := 2) sc_how_many.nd rfl (by first | exact Or.inl rfl | exact Or.inr rfl) (pe_op op_mul pe_int (pv 0))) (pss_cons (ps_for PassesOwn.never rfl (pi_range1 (by rfl) T.n_range (pa_cons (pe_op op_sub (pv 1) pe_int) pa_nil)) (pg_name (i := 3) sc_how_many.nd rfl (by first | exact Or.inl rfl | exact Or.inr rfl)) (pss_one (ps_set (i := 2) sc_how_many.nd rfl (by first | exact Or.inl rfl | exact Or.inr rfl) (pe_op op_mul (pv 2) (pe_op op_sub (pe_op op_mul pe_int (pv 0)) pe_int))))) (pss_one (ps_ret (pv 2)))))), fun a hp => ?_⟩
  obtain ⟨r, n⟩ := a
  obtain ⟨h1, h3, hn⟩ : 1 ≤ r ∧ r ≤ 3 ∧ n ≤ 25 := hp
  have hl := LS_len h1 h3
  show Ds _ [.dat (.int r), .dat (.int (n : Int)), .any, .any] _ (fun d => d = .int (cntW (LS r) n [] : Nat)) _ _
  unfold cntW
  rw [if_pos rfl]
  refine ds_seq (ds_if ?_)
  repeat walk_at "de"
  by_cases h0 : n = 0
  · rw [decide_eq_true (by omega), if_pos h0]
    refine iteT (ds_ret (de_int rfl))
  · rw [decide_eq_false (by omega), if_neg h0]
    refine iteF (ds_next ?_)
    refine ds_seq (ds_set ?_)
    repeat walk_at "de"
    try dsimp only [List.set]
    refine ds_seq (ds_for (di_range1 ?_))
    repeat walk_at "de"
    refine ⟨(n : Int) - 1, rfl, by omega, by omega, fun i e => ∃ x, e = [.dat (.int r), .dat (.int (n : Int)), .dat (.int (((LS r).length * ((LS r).length - 1) ^ i : Nat) : Int)), x], ⟨_, by rw [Nat.pow_zero, Nat.mul_one, hl]⟩, fun i d e hd he => ?_, fun e he => ?_⟩
    · obtain ⟨x, rfl⟩ := he
      refine dg_name ?_
      try dsimp only [List.set]
      refine ds_set ?_
      repeat walk_at "de"
      have e1 : 2 * r - 1 = (((LS r).length - 1 : Nat) : Int) := by omega
      have hi : i < ((n : Int) - 1).toNat := by
        have := (List.getElem?_eq_some_iff.mp hd).1
        rwa [rgI_len] at this
      rw [e1, ← Int.natCast_mul, Nat.mul_assoc, ← Nat.pow_succ]
      exact ⟨_, rfl⟩
    · obtain ⟨x, rfl⟩ := he
      rw [rgI_len, show ((n : Int) - 1).toNat = n - 1 by omega]
      refine ds_ret (de_var rfl rfl)
-- letters_of
def fs_letters_of : FS := ⟨Int, fun r => [.int r], fun r => 1 ≤ r ∧ r ≤ 3, fun r d => d = .str (LS r)⟩
theorem ok_letters_of (T : Txt mg) (d_letters_of : Df K mg "letters_of" s_letters_of ["rank"]) : C8.Cal P w K mg base 1 "letters_of" (PF fs_letters_of) [] := by
  refine df_cal d_letters_of sc_letters_of (fun _ => rfl) fun f cdv A outer s H E hr => ⟨_, (pss_one (ps_ret (pe_slice sl_str (C8.pe_gc (by rfl) T.g_LETTERS) po_none (po_some (pe_op op_mul pe_int (pv 0)))))), fun (r : Int) hp => ?_⟩
  obtain ⟨h1, h2⟩ := hp
  show Ds _ [.dat (.int r)] _ (fun d => d = .str (LS r)) _ _
  repeat walk_at "dl"
  exact congrArg D.str cut_LS
-- opposite
def fs_opposite : FS := ⟨Nat, fun c => [.str [c]], fun c => c ∈ LTR, fun c d => d = .str [sw c]⟩
theorem ok_opposite (T : Txt mg) (d_opposite : Df K mg "opposite" s_opposite ["letter"]) : C8.Cal P w K mg base 1 "opposite" (PF fs_opposite) [] := by
  refine df_cal d_opposite sc_opposite (fun _ => rfl) fun f cdv A outer s H E hr => ⟨_, (pss_one (ps_ret (pe_bm0 PySem.F.plainAttrs_str PySem.F.slot_str_swapcase PySem.F.type_str_swapcase md_swap (pv 0)))), fun (c : Nat) hp => ?_⟩
  have hc : c ∈ LTR := hp
  show Ds _ [.dat (.str [c])] _ (fun d => d = .str [sw c]) _ _
  repeat walk_at "dl"
  refine ⟨rfl, dmt_swap (by simp) (fun x hx => by rw [List.mem_singleton.mp hx]; exact hc) ?_⟩
  rfl
-- letters_behind
theorem cut_last (w : List Nat) : DL.cutD w (some (-1)) none = match w.getLast? with | none => [] | some x => [x] := by
  unfold DL.cutD
  rcases List.eq_nil_or_concat w with rfl | ⟨u, x, rfl⟩
  · rfl
  · rw [List.concat_eq_append, List.getLast?_concat]
    show (List.drop (if (-1 : Int) < 0 then ((-1 : Int) + ((u ++ [x]).length : Int)).toNat else min (-1 : Int).toNat (u ++ [x]).length) (u ++ [x])).take (HT.sIx (u ++ [x]).length (u ++ [x]).length none - (if (-1 : Int) < 0 then ((-1 : Int) + ((u ++ [x]).length : Int)).toNat else min (-1 : Int).toNat (u ++ [x]).length)) = [x]
    rw [if_pos (by decide), HT.sIx_none, List.length_append, List.length_singleton, show ((-1 : Int) + ((u.length + 1 : Nat) : Int)).toNat = u.length by omega, List.drop_left, show u.length + 1 - u.length = 1 by omega]
    rfl
theorem cut_ne (w : List Nat) (c : Nat) : decide (DL.cutD w (some (-1)) none ≠ [sw c]) = decide (w.getLast? ≠ some (sw c)) := by
  rw [cut_last]
  refine decide_eq_decide.mpr (not_congr ?_)
  cases w.getLast? with
  | none => simp
  | some x => simp
def fs_letters_behind : FS := ⟨Int × List Nat, fun a => [.int a.1, .str a.2], fun a => 1 ≤ a.1 ∧ a.1 ≤ 3 ∧ a.2.length ≤ 1000, fun a d => d = .str (chW (LS a.1) a.2)⟩
theorem ok_letters_behind (T : Txt mg) (d_letters_behind : Df K mg "letters_behind" s_letters_behind ["rank", "word"]) (c_letters_of : C8.Cal P w K mg base 1 "letters_of" (PF fs_letters_of) []) (c_opposite : C8.Cal P w K mg base 1 "opposite" (PF fs_opposite) []) : C8.Cal P w K mg base 2 "letters_behind" (PF fs_letters_behind) [] := by
  refine df_cal d_letters_behind sc_letters_behind (fun _ => rfl) fun f cdv A outer s H E hr => ⟨_, (pss_one (ps_ret (pe_bm PySem.F.plainAttrs_str PySem.F.slot_str_join PySem.F.type_str_join md_join pe_str (pa_cons (pe_lc (own := [("letter", 2)]) rfl sc_letters_behind.nd (pi_str (C8.pe_c c_letters_of hr (by first | decide | omega) (by rfl) (pa_cons (pv 0) pa_nil))) (blkOk_by (N := n_letters_behind) (sc := defScope s_letters_behind) (own := [("letter", 2)]) (by decide +kernel)) (fun _ _ _ _ _ => (pg_name (i := 2) sc_letters_behind.nd rfl (by first | exact Or.inl rfl | exact Or.inr rfl))) (fun _ _ _ _ _ => (pts_one (pt_cmpR op_ne (pe_slice sl_str (pv 1) (po_some (pe_un un_neg pe_int)) po_none) (C8.pe_c c_opposite hr (by first | decide | omega) (by rfl) (pa_cons (pv 2) pa_nil)) (nomark _)))) (fun _ _ _ _ _ => (pv 2))) pa_nil)))), fun a hp => ?_⟩
  obtain ⟨r, w⟩ := a
  obtain ⟨h1, h3, hw⟩ : 1 ≤ r ∧ r ≤ 3 ∧ w.length ≤ 1000 := hp
  have hL6 : (LS r).length ≤ 6 := by unfold LS LETS; rw [List.length_take]; exact Nat.min_le_right _ _
  show Ds _ [.dat (.int r), .dat (.str w), .any] _ (fun d => d = .str (chW (LS r) w)) _ _
  repeat walk_at "dl"
  refine ⟨rfl, ?_⟩
  repeat walk_at "de"
  refine de_ofN (den_lc (di_str ?_))
  repeat walk_at "de"
  refine ⟨r, rfl, ⟨h1, h3⟩, fun d hd => ?_⟩
  obtain rfl : d = .str (LS r) := hd
  refine ⟨LS r, rfl, by rw [List.length_map]; omega, fun i acc => acc = (((LS r).take i).filter fun c => decide (w.getLast? ≠ some (sw c))).map sign, rfl, fun i d acc hd _ ha => ?_, fun acc ha => ?_⟩
  · obtain ⟨c, hc, rfl⟩ := sign_at hd
    have hcl : c ∈ LS r := List.mem_of_getElem? hc
    subst ha
    have sn : (((LS r).take (i + 1)).filter fun c => decide (w.getLast? ≠ some (sw c))) = (((LS r).take i).filter fun c => decide (w.getLast? ≠ some (sw c))) ++ if decide (w.getLast? ≠ some (sw c)) = true then [c] else [] := by
      rw [List.take_add_one, hc, List.filter_append, Option.toList_some]
      congr 1
      by_cases z : w.getLast? = some (sw c) <;> simp [z]
    dsimp only
    rw [sn]
    repeat walk_at "de"
    refine ⟨c, rfl, LS_LTR hcl, fun d hd => ?_⟩
    obtain rfl : d = .str [sw c] := hd
    repeat walk_at "de"
    rw [← cut_ne]
    by_cases hb : DL.cutD w (some (-1)) none = [sw c]
    · rw [decide_eq_true hb, decide_eq_false (not_not_intro hb)]
      refine iteF ?_
      simp
    · rw [decide_eq_false hb, decide_eq_true hb]
      refine iteT (de_var rfl ?_)
      simp
  · rw [List.length_map, List.take_length] at ha
    subst ha
    repeat walk_at "de"
    refine dmt_join0 (ls := (chW (LS r) w).map fun c => [c]) (by rw [← sgl]; rfl) (by rw [flat_sgl]; have := List.length_filter_le (fun c => decide (w.getLast? ≠ some (sw c))) (LS r); unfold chW; omega) ?_
    rw [flat_sgl]
-- nth_of_length
theorem cntW_b {r : Int} (h1 : 1 ≤ r) (h3 : r ≤ 3) {n : Nat} (hn : n ≤ 25) (w : List Nat) : cntW (LS r) n w ≤ 6 * 5 ^ 25 := by
  have hl := LS_len h1 h3
  have hL : (LS r).length ≤ 6 := by omega
  have p : ∀ k, k ≤ 25 → ((LS r).length - 1) ^ k ≤ 5 ^ 25 := fun k hk => Nat.le_trans (Nat.pow_le_pow_left (show (LS r).length - 1 ≤ 5 by omega) k) (Nat.pow_le_pow_right (by decide) hk)
  unfold cntW
  split
  · split
    · decide
    · exact Nat.mul_le_mul hL (p _ (by omega))
  · exact Nat.le_trans (p _ hn) (by decide)
def fs_nth_of_length : FS := ⟨Int × Nat × Nat, fun a => [.int a.1, .int (a.2.1 : Int), .int (a.2.2 : Int)], fun a => 1 ≤ a.1 ∧ a.1 ≤ 3 ∧ a.2.1 ≤ 24 ∧ a.2.2 < cntW (LS a.1) a.2.1 [] ∧ cntW (LS a.1) a.2.1 [] ≤ 1000000000, fun a d => ∃ w, d = .str w ∧ (extW (LS a.1) a.2.1 [])[a.2.2]? = some w ∧ w.length = a.2.1⟩
theorem ok_nth_of_length (T : Txt mg) (d_nth_of_length : Df K mg "nth_of_length" s_nth_of_length ["rank", "length", "index"]) (c_how_many : C8.Cal P w K mg base 1 "how_many" (PF fs_how_many) []) (c_letters_behind : C8.Cal P w K mg base 2 "letters_behind" (PF fs_letters_behind) []) : C8.Cal P w K mg base 3 "nth_of_length" (PF fs_nth_of_length) [] := by
  refine df_cal d_nth_of_length sc_nth_of_length (fun _ => rfl) fun f cdv A outer s H E hr => ⟨_, (pss_cons (ps_set (i := 3) sc_nth_of_length.nd rfl (by first | exact Or.inl rfl | exact Or.inr rfl) pe_str) (pss_cons (ps_set (i := 4) sc_nth_of_length.nd rfl (by first | exact Or.inl rfl | exact Or.inr rfl) (pv 2)) (pss_cons (ps_set (i := 5) sc_nth_of_length.nd rfl (by first | exact Or.inl rfl | exact Or.inr rfl) (C8.pe_c c_how_many hr (by first | decide | omega) (by rfl) (pa_cons (pv 0) (pa_cons (pv 1) pa_nil)))) (pss_cons (ps_for PassesOwn.never rfl (pi_range1 (by rfl) T.n_range (pa_cons (pv 1) pa_nil)) (pg_name (i := 6) sc_nth_of_length.nd rfl (by first | exact Or.inl rfl | exact Or.inr rfl)) (pss_cons (ps_set (i := 7) sc_nth_of_length.nd rfl (by first | exact Or.inl rfl | exact Or.inr rfl) (C8.pe_c c_letters_behind hr (by first | decide | omega) (by rfl) (pa_cons (pv 0) (pa_cons (pv 3) pa_nil)))) (pss_cons (ps_set (i := 5) sc_nth_of_length.nd rfl (by first | exact Or.inl rfl | exact Or.inr rfl) (pe_op op_fdivN (pv 5) (pe_callB cd_len (by rfl) T.n_len (by decide +kernel) (pa_cons (pv 7) pa_nil)))) (pss_cons (ps_aug (i := 3) sc_nth_of_length.nd rfl (by first | exact Or.inl rfl | exact Or.inr rfl) (pe_ix ix_str (pv 7) (pe_op op_fdivN (pv 4) (pv 5)) (fun _ _ => rfl)) ipd_adds) (pss_one (ps_set (i := 4) sc_nth_of_length.nd rfl (by first | exact Or.inl rfl | exact Or.inr rfl) (pe_op op_modN (pv 4) (pv 5)))))))) (pss_one (ps_ret (pv 3))))))), fun a hp => ?_⟩
  obtain ⟨r, n, i0⟩ := a
  obtain ⟨h1, h3, hn, hi0, hbig⟩ : 1 ≤ r ∧ r ≤ 3 ∧ n ≤ 24 ∧ i0 < cntW (LS r) n [] ∧ cntW (LS r) n [] ≤ 1000000000 := hp
  have L := lsOk h1 h3
  have hl := LS_len h1 h3
  show Ds _ [.dat (.int r), .dat (.int (n : Int)), .dat (.int (i0 : Int)), .any, .any, .any, .any, .any] _ (fun d => ∃ w, d = .str w ∧ (extW (LS r) n [])[i0]? = some w ∧ w.length = n) _ _
  refine ds_seq (ds_set ?_)
  repeat walk_at "de"
  try dsimp only [List.set]
  refine ds_seq (ds_set (de_var rfl ?_))
  try dsimp only [List.set]
  refine ds_seq (ds_set ?_)
  repeat walk_at "de"
  refine ⟨(r, n), rfl, ⟨h1, h3, by show n ≤ 25; omega⟩, fun d hd => ?_⟩
  obtain rfl : d = .int (cntW (LS r) n [] : Nat) := hd
  try dsimp only [List.set]
  refine ds_seq (ds_for (di_range1 ?_))
  repeat walk_at "de"
  refine ⟨(n : Int), rfl, by omega, by omega, fun j e => ∃ w rest x y, e = [.dat (.int r), .dat (.int (n : Int)), .dat (.int (i0 : Int)), .dat (.str w), .dat (.int ((rest : Nat) : Int)), .dat (.int (cntW (LS r) (n - j) w : Nat)), x, y] ∧ w.length = j ∧ (∀ c ∈ w, c ∈ LS r) ∧ (rest < cntW (LS r) (n - j) w ∧ cntW (LS r) (n - j) w ≤ 1000000000) ∧ (extW (LS r) n [])[i0]? = (extW (LS r) (n - j) w)[rest]?, ⟨[], i0, _, _, rfl, rfl, no_in, ⟨hi0, hbig⟩, rfl⟩, fun j d e hd he => ?_, fun e he => ?_⟩
  · obtain ⟨w, rest, x, y, rfl, wl, wL, ⟨hr0, hb9⟩, hat⟩ := he
    have hj : j < n := by
      have := (List.getElem?_eq_some_iff.mp hd).1
      rw [rgI_len] at this
      omega
    obtain ⟨m, hm⟩ : ∃ m, n - j = m + 1 := ⟨n - j - 1, by omega⟩
    have hm2 : n - (j + 1) = m := by omega
    rw [hm] at hr0 hat hb9
    have cst := cntW_step L wL m 0
    have cpos := cntW_pos L m (w ++ [0])
    have clen := chW_len2 L wL
    have cl0 : 0 < (chW (LS r) w).length := by
      have := L.two
      rw [clen]
      split <;> omega
    have cl6 : (chW (LS r) w).length ≤ 6 := by rw [clen]; split <;> omega
    have cb := cntW_b h1 h3 (show m + 1 ≤ 25 by omega) w
    dsimp only
    rw [hm, hm2]
    refine dg_name ?_
    try dsimp only [List.set]
    refine ds_seq (ds_set ?_)
    repeat walk_at "de"
    refine ⟨(r, w), rfl, ⟨h1, h3, by show w.length ≤ 1000; omega⟩, fun d hd => ?_⟩
    obtain rfl : d = .str (chW (LS r) w) := hd
    try dsimp only [List.set]
    refine ds_seq (ds_set ?_)
    repeat walk_at "de"
    refine dop_i ⟨by omega, by omega⟩ ?_
    have q1 : ((cntW (LS r) (m + 1) w : Nat) : Int).fdiv ((chW (LS r) w).length : Int) = (cntW (LS r) m (w ++ [0]) : Nat) := by
      rw [Int.fdiv_eq_ediv_of_nonneg _ (by omega), cst, Int.natCast_mul, Int.mul_ediv_cancel_left _ (by omega)]
    rw [q1]
    have q2 : cntW (LS r) m (w ++ [0]) ≤ 1000000000 := by
      have := Nat.le_mul_of_pos_left (cntW (LS r) m (w ++ [0])) cl0
      omega
    obtain ⟨p, hp⟩ : ∃ p, p = rest / cntW (LS r) m (w ++ [0]) := ⟨_, rfl⟩
    obtain ⟨k, hk⟩ : ∃ k, k = rest % cntW (LS r) m (w ++ [0]) := ⟨_, rfl⟩
    have hpk : rest = p * cntW (LS r) m (w ++ [0]) + k := by rw [hp, hk, Nat.mul_comm]; exact (Nat.div_add_mod _ _).symm
    have hkl : k < cntW (LS r) m (w ++ [0]) := by rw [hk]; exact Nat.mod_lt _ cpos
    have hpl : p < (chW (LS r) w).length := by
      rw [hp]
      exact Nat.div_lt_of_lt_mul (by rw [Nat.mul_comm, ← cst]; exact hr0)
    have hc := List.getElem?_eq_getElem hpl
    obtain ⟨c, ec⟩ : ∃ c, c = (chW (LS r) w)[p] := ⟨_, rfl⟩
    rw [← ec] at hc
    have hcl : c ∈ LS r := chW_sub c (List.mem_of_getElem? hc)
    have same := cntW_same (ls := LS r) m w 0 c
    try dsimp only [List.set]
    refine ds_seq (ds_augS rfl ?_)
    repeat walk_at "de"
    refine dop_i ⟨by omega, by omega⟩ ?_
    have q3 : ((rest : Nat) : Int).fdiv ((cntW (LS r) m (w ++ [0]) : Nat) : Int) = (p : Int) := by
      rw [Int.fdiv_eq_ediv_of_nonneg _ (by omega), hp]
      rfl
    rw [q3]
    refine dop_ixs (c := c) (by omega) (atI_at (by omega) (by rw [show ((p : Int)).toNat = p by omega]; exact hc)) ?_
    refine ⟨[c], rfl, by rw [List.length_singleton]; omega, ?_⟩
    try dsimp only [List.set]
    refine ds_set ?_
    repeat walk_at "de"
    refine dop_i (by omega) ?_
    have q4 : ((rest : Nat) : Int).fmod ((cntW (LS r) m (w ++ [0]) : Nat) : Int) = (k : Int) := by
      rw [Int.fmod_eq_emod_of_nonneg _ (by omega), hk]
      rfl
    rw [q4, same]
    rw [same] at hpk hkl q2
    refine ⟨w ++ [c], k, _, _, rfl, by rw [List.length_append, List.length_singleton, wl], in_snoc wL hcl, ⟨hkl, q2⟩, ?_⟩
    rw [hat, hpk]
    exact extW_at L wL hc hkl
  · obtain ⟨w, rest, x, y, rfl, wl, wL, ⟨hr0, hb9⟩, hat⟩ := he
    rw [rgI_len, show ((n : Int)).toNat = n by omega] at wl hat hr0
    rw [Nat.sub_self] at hat hr0
    have h0 : cntW (LS r) 0 w = 1 := by unfold cntW; split <;> simp
    obtain rfl : rest = 0 := by omega
    refine ds_ret (de_var rfl ⟨w, rfl, hat, wl⟩)
-- nth_reduced
def q_index : List Nat := [105, 110, 100, 101, 120]
def fs_nth_reduced : FS := ⟨Int × Nat, fun a => [.int a.1, .int (a.2 : Int)], fun a => 1 ≤ a.1 ∧ a.1 ≤ 3 ∧ a.2 ≤ 1000000 ∧ a.2 < bseW (LS a.1) 25, fun a d => ∃ w, d = .str w ∧ NthW (LS a.1) a.2 w ∧ w.length ≤ 24⟩
theorem bse_cnt {ls : List Nat} (L : LsOk ls) (h6 : ls.length ≤ 6) {n : Nat} (h : bseW ls n ≤ 1000000) : cntW ls n [] ≤ 10000000 := by
  cases n with
  | zero => unfold cntW; simp
  | succ n =>
    cases n with
    | zero => unfold cntW; simp; omega
    | succ n =>
      have e : cntW ls (n + 1 + 1) [] = cntW ls (n + 1) [] * (ls.length - 1) := by
        unfold cntW
        rw [if_pos rfl, if_neg (by omega), if_pos rfl, if_neg (by omega), Nat.mul_assoc, ← Nat.pow_succ]
        rfl
      have b := bseW_succ ls (n + 1)
      have : cntW ls (n + 1) [] * (ls.length - 1) ≤ 1000000 * 5 := Nat.mul_le_mul (by omega) (by omega)
      omega
theorem ok_nth_reduced (T : Txt mg) (d_nth_reduced : Df K mg "nth_reduced" s_nth_reduced ["rank", "index"]) (c_check_integer : C8.Cal P w K mg base 2 "check_integer" (PF fs_check_integer) []) (c_check_rank : C8.Cal P w K mg base 3 "check_rank" (PF fs_check_rank) []) (c_how_many : C8.Cal P w K mg base 1 "how_many" (PF fs_how_many) []) (c_nth_of_length : C8.Cal P w K mg base 3 "nth_of_length" (PF fs_nth_of_length) []) : C8.Cal P w K mg base 4 "nth_reduced" (PF fs_nth_reduced) [] := by
  refine df_cal d_nth_reduced sc_nth_reduced (fun _ => rfl) fun f cdv A outer s H E hr => ⟨_, (pss_cons (ps_expr (C8.pe_c c_check_rank hr (by first | decide | omega) (by rfl) (pa_cons (pv 0) pa_nil))) (pss_cons (ps_expr (C8.pe_c c_check_integer hr (by first | decide | omega) (by rfl) (pa_cons (pv 1) (pa_cons pe_int (pa_cons (C8.pe_gc (by rfl) T.g_GREATEST_INDEX) (pa_cons pe_str pa_nil)))))) (pss_cons (ps_set (i := 2) sc_nth_reduced.nd rfl (by first | exact Or.inl rfl | exact Or.inr rfl) pe_int) (pss_cons (ps_set (i := 3) sc_nth_reduced.nd rfl (by first | exact Or.inl rfl | exact Or.inr rfl) (pv 1)) (pss_cons (ps_while PassesOwn.never (PW.pt (pw_and (pt_cmpR op_le (pv 2) (C8.pe_gc (by rfl) T.g_MOST_LETTERS) (nomark _)) (pw_and1 (pt_cmpR op_ge (pv 3) (C8.pe_c c_how_many hr (by first | decide | omega) (by rfl) (pa_cons (pv 0) (pa_cons (pv 2) pa_nil))) (nomark _))))) (pss_cons (ps_aug (i := 3) sc_nth_reduced.nd rfl (by first | exact Or.inl rfl | exact Or.inr rfl) (C8.pe_c c_how_many hr (by first | decide | omega) (by rfl) (pa_cons (pv 0) (pa_cons (pv 2) pa_nil))) ip_sub) (pss_one (ps_aug (i := 2) sc_nth_reduced.nd rfl (by first | exact Or.inl rfl | exact Or.inr rfl) pe_int ip_add)))) (pss_cons (ps_if (pt_cmpR op_gt (pv 2) (C8.pe_gc (by rfl) T.g_MOST_LETTERS) (nomark _)) (pss_one ps_never) pss_nil) (pss_one (ps_ret (C8.pe_c c_nth_of_length hr (by first | decide | omega) (by rfl) (pa_cons (pv 0) (pa_cons (pv 2) (pa_cons (pv 3) pa_nil)))))))))))), fun a hp => ?_⟩
  obtain ⟨r, i0⟩ := a
  obtain ⟨h1, h3, hi, hb⟩ : 1 ≤ r ∧ r ≤ 3 ∧ i0 ≤ 1000000 ∧ i0 < bseW (LS r) 25 := hp
  have L := lsOk h1 h3
  have hl := LS_len h1 h3
  show Ds _ [.dat (.int r), .dat (.int (i0 : Int)), .any, .any] _ (fun d => ∃ w, d = .str w ∧ NthW (LS r) i0 w ∧ w.length ≤ 24) _ _
  repeat walk_at "dl"
  refine ⟨r, rfl, ⟨h1, h3⟩, fun d hd => ?_⟩
  obtain rfl : d = .non := hd
  repeat walk_at "dl"
  refine ⟨((i0 : Int), 0, 1000000, [105, 110, 100, 101, 120]), rfl, ⟨by show (0 : Int) ≤ (i0 : Int); omega, by show (i0 : Int) ≤ 1000000; omega⟩, fun d hd => ?_⟩
  obtain rfl : d = .non := hd
  repeat walk_at "dl"
  try dsimp only [List.set]
  refine ds_mid (fun e => ∃ n rest : Nat, e = [.dat (.int r), .dat (.int (i0 : Int)), .dat (.int (n : Int)), .dat (.int (rest : Int))] ∧ n ≤ 24 ∧ bseW (LS r) n + rest = i0 ∧ rest < cntW (LS r) n []) (ds_while (fun m e => ∃ n rest : Nat, m = 25 - n ∧ e = [.dat (.int r), .dat (.int (i0 : Int)), .dat (.int (n : Int)), .dat (.int (rest : Int))] ∧ n ≤ 25 ∧ bseW (LS r) n + rest = i0) 25 ⟨0, i0, rfl, rfl, by omega, by unfold bseW; simp⟩ ?_) fun e he => ?_
  · rintro m e ⟨n, rest, rfl, rfl, hn, hbr⟩
    have hn24 : n ≤ 24 := by
      rcases Nat.lt_or_ge n 25 with z | z
      · omega
      · have := bseW_mono (ls := LS r) z
        omega
    refine dt_and ?_
    repeat walk_at "de"
    rw [decide_eq_true (by omega)]
    refine iteT ?_
    repeat walk_at "de"
    refine ⟨(r, n), rfl, ⟨h1, h3, by show n ≤ 25; omega⟩, fun d hd => ?_⟩
    obtain rfl : d = .int (cntW (LS r) n [] : Nat) := hd
    repeat walk_at "de"
    by_cases hc : cntW (LS r) n [] ≤ rest
    · rw [decide_eq_true (by omega)]
      refine iteT ?_
      refine ds_seq (ds_aug rfl ?_)
      repeat walk_at "de"
      refine ⟨(r, n), rfl, ⟨h1, h3, by show n ≤ 25; omega⟩, fun d hd => ?_⟩
      obtain rfl : d = .int (cntW (LS r) n [] : Nat) := hd
      refine ⟨_, rfl, ?_⟩
      try dsimp only [List.set]
      refine ds_aug rfl (de_int ⟨_, rfl, ?_⟩)
      try dsimp only [List.set]
      refine ⟨25 - (n + 1), by omega, n + 1, rest - cntW (LS r) n [], rfl, ?_, by omega, by rw [bseW_succ]; omega⟩
      rw [show ((rest - cntW (LS r) n [] : Nat) : Int) = (rest : Int) - ((cntW (LS r) n [] : Nat) : Int) by omega, show ((n + 1 : Nat) : Int) = (n : Int) + 1 by omega]
    · rw [decide_eq_false (by omega)]
      exact iteF ⟨n, rest, rfl, hn24, hbr, by omega⟩
  · obtain ⟨n, rest, rfl, hn, hbr, hlt⟩ := he
    have hb10 := bse_cnt L (by omega) (n := n) (by omega)
    refine ds_seq (ds_if ?_)
    repeat walk_at "de"
    rw [decide_eq_false (by omega)]
    refine iteF (ds_next ?_)
    refine ds_ret ?_
    repeat walk_at "de"
    refine ⟨(r, n, rest), rfl, ⟨h1, h3, hn, hlt, by show cntW (LS r) n [] ≤ 1000000000; omega⟩, fun d hd => ?_⟩
    obtain ⟨w, rfl, hw, hwl⟩ := hd
    have hwl : w.length = n := hwl
    exact ⟨w, rfl, ⟨rest, by rw [hwl]; exact hw, by rw [hwl]; omega, by rw [hwl]; exact hlt⟩, by omega⟩
-- nth_reduced: it may raise
def xLarge (n : List Nat) : Xn := ("TooLarge", [("what", .str n)])
def fx_nth_reduced : FSX := ⟨⟨Int × Nat, fun a => [.int a.1, .int (a.2 : Int)], fun a => 1 ≤ a.1 ∧ a.1 ≤ 3 ∧ a.2 ≤ 1000000, fun a d => a.2 < bseW (LS a.1) 25 ∧ ∃ w, d = .str w ∧ NthW (LS a.1) a.2 w ∧ w.length ≤ 24⟩, fun a x => bseW (LS a.1) 25 ≤ a.2 ∧ x = xLarge q_index⟩
theorem okx_nth_reduced (T : Txt mg) (d_nth_reduced : Df K mg "nth_reduced" s_nth_reduced ["rank", "index"]) (m_TooLarge : MakX K mg "TooLarge" ["what"]) (c_check_integer : C8.Cal P w K mg base 2 "check_integer" (PF fs_check_integer) []) (c_check_rank : C8.Cal P w K mg base 3 "check_rank" (PF fs_check_rank) []) (c_how_many : C8.Cal P w K mg base 1 "how_many" (PF fs_how_many) []) (c_nth_of_length : C8.Cal P w K mg base 3 "nth_of_length" (PF fs_nth_of_length) []) : CalX P w K mg base 4 "nth_reduced" (PFX mg fx_nth_reduced) := by
  refine df_calX d_nth_reduced sc_nth_reduced (fun _ => rfl) fun f cdv A outer s H E hr => ⟨_, (pss_cons (ps_expr (C8.pe_c c_check_rank hr (by first | decide | omega) (by rfl) (pa_cons (pv 0) pa_nil))) (pss_cons (ps_expr (C8.pe_c c_check_integer hr (by first | decide | omega) (by rfl) (pa_cons (pv 1) (pa_cons pe_int (pa_cons (C8.pe_gc (by rfl) T.g_GREATEST_INDEX) (pa_cons pe_str pa_nil)))))) (pss_cons (ps_set (i := 2) sc_nth_reduced.nd rfl (by first | exact Or.inl rfl | exact Or.inr rfl) pe_int) (pss_cons (ps_set (i := 3) sc_nth_reduced.nd rfl (by first | exact Or.inl rfl | exact Or.inr rfl) (pv 1)) (pss_cons (DL.ps_nox (ps_while PassesOwn.never (PW.pt (pw_and (pt_cmpR op_le (pv 2) (C8.pe_gc (by rfl) T.g_MOST_LETTERS) (nomark _)) (pw_and1 (pt_cmpR op_ge (pv 3) (C8.pe_c c_how_many hr (by first | decide | omega) (by rfl) (pa_cons (pv 0) (pa_cons (pv 2) pa_nil))) (nomark _))))) (pss_cons (ps_aug (i := 3) sc_nth_reduced.nd rfl (by first | exact Or.inl rfl | exact Or.inr rfl) (C8.pe_c c_how_many hr (by first | decide | omega) (by rfl) (pa_cons (pv 0) (pa_cons (pv 2) pa_nil))) ip_sub) (pss_one (ps_aug (i := 2) sc_nth_reduced.nd rfl (by first | exact Or.inl rfl | exact Or.inr rfl) pe_int ip_add))))) (pss_cons (ps_if (pt_cmpR op_gt (pv 2) (C8.pe_gc (by rfl) T.g_MOST_LETTERS) (nomark _)) (pss_one (ps_raiseX rfl m_TooLarge hr (by first | decide | omega) (by rfl) (takes_of rfl rfl rfl rfl) (pa_cons pe_str pa_nil))) pss_nil) (PSs.nox (pss_one (ps_ret (C8.pe_c c_nth_of_length hr (by first | decide | omega) (by rfl) (pa_cons (pv 0) (pa_cons (pv 2) (pa_cons (pv 3) pa_nil))))))))))))), fun a hp => ?_⟩
  obtain ⟨r, i0⟩ := a
  obtain ⟨h1, h3, hi⟩ : 1 ≤ r ∧ r ≤ 3 ∧ i0 ≤ 1000000 := hp
  have L := lsOk h1 h3
  have hl := LS_len h1 h3
  show DsW mg _ _ [.dat (.int r), .dat (.int (i0 : Int)), .any, .any] _ (fun d => i0 < bseW (LS r) 25 ∧ ∃ w, d = .str w ∧ NthW (LS r) i0 w ∧ w.length ≤ 24) _ _ _
  refine dw_seq (dw_of ?_)
  repeat walk_at "dl"
  refine ⟨r, rfl, ⟨h1, h3⟩, fun d hd => ?_⟩
  obtain rfl : d = .non := hd
  refine dw_seq (dw_of ?_)
  repeat walk_at "dl"
  refine ⟨((i0 : Int), 0, 1000000, [105, 110, 100, 101, 120]), rfl, ⟨by show (0 : Int) ≤ (i0 : Int); omega, by show (i0 : Int) ≤ 1000000; omega⟩, fun d hd => ?_⟩
  obtain rfl : d = .non := hd
  refine dw_seq (dw_of (ds_set (de_int ?_)))
  refine dw_seq (dw_of (ds_set (de_var rfl ?_)))
  try dsimp only [List.set]
  refine dw_seq (dw_of (ds_mid (fun e => ∃ n rest : Nat, e = [.dat (.int r), .dat (.int (i0 : Int)), .dat (.int (n : Int)), .dat (.int (rest : Int))] ∧ n ≤ 25 ∧ bseW (LS r) n + rest = i0 ∧ (n ≤ 24 → rest < cntW (LS r) n [])) (ds_while (fun m e => ∃ n rest : Nat, m = 25 - n ∧ e = [.dat (.int r), .dat (.int (i0 : Int)), .dat (.int (n : Int)), .dat (.int (rest : Int))] ∧ n ≤ 25 ∧ bseW (LS r) n + rest = i0) 25 ⟨0, i0, rfl, rfl, by omega, by unfold bseW; simp⟩ ?_) fun e he => ?_))
  · rintro m e ⟨n, rest, rfl, rfl, hn, hbr⟩
    refine dt_and ?_
    repeat walk_at "de"
    by_cases hn24 : n ≤ 24
    · rw [decide_eq_true (by omega)]
      refine iteT ?_
      repeat walk_at "de"
      refine ⟨(r, n), rfl, ⟨h1, h3, by show n ≤ 25; omega⟩, fun d hd => ?_⟩
      obtain rfl : d = .int (cntW (LS r) n [] : Nat) := hd
      repeat walk_at "de"
      by_cases hc : cntW (LS r) n [] ≤ rest
      · rw [decide_eq_true (by omega)]
        refine iteT ?_
        refine ds_seq (ds_aug rfl ?_)
        repeat walk_at "de"
        refine ⟨(r, n), rfl, ⟨h1, h3, by show n ≤ 25; omega⟩, fun d hd => ?_⟩
        obtain rfl : d = .int (cntW (LS r) n [] : Nat) := hd
        refine ⟨_, rfl, ?_⟩
        try dsimp only [List.set]
        refine ds_aug rfl (de_int ⟨_, rfl, ?_⟩)
        try dsimp only [List.set]
        refine ⟨25 - (n + 1), by omega, n + 1, rest - cntW (LS r) n [], rfl, ?_, by omega, by rw [bseW_succ]; omega⟩
        rw [show ((rest - cntW (LS r) n [] : Nat) : Int) = (rest : Int) - ((cntW (LS r) n [] : Nat) : Int) by omega, show ((n + 1 : Nat) : Int) = (n : Int) + 1 by omega]
      · rw [decide_eq_false (by omega)]
        exact iteF ⟨n, rest, rfl, hn, hbr, fun _ => by omega⟩
    · rw [decide_eq_false (by omega)]
      exact iteF (iteF ⟨n, rest, rfl, hn, hbr, fun z => absurd z hn24⟩)
  · obtain ⟨n, rest, rfl, hn, hbr, hlt⟩ := he
    refine dw_seq (dw_if (dtw_of ?_))
    repeat walk_at "de"
    by_cases hn24 : n ≤ 24
    · have hlt := hlt hn24
      have hb10 := bse_cnt L (by omega) (n := n) (by omega)
      rw [decide_eq_false (by omega)]
      refine iteF (dw_of (ds_next ?_))
      refine dw_of (ds_ret ?_)
      repeat walk_at "de"
      refine ⟨(r, n, rest), rfl, ⟨h1, h3, hn24, hlt, by show cntW (LS r) n [] ≤ 1000000000; omega⟩, fun d hd => ?_⟩
      obtain ⟨w, rfl, hw, hwl⟩ := hd
      have hwl : w.length = n := hwl
      have hbm := bseW_mono (ls := LS r) (show n + 1 ≤ 25 by omega)
      rw [bseW_succ] at hbm
      exact ⟨by omega, w, rfl, ⟨rest, by rw [hwl]; exact hw, by rw [hwl]; omega, by rw [hwl]; exact hlt⟩, by omega⟩
    · rw [decide_eq_true (by omega)]
      refine iteT (dw_raise ?_)
      repeat walk_at "de"
      obtain rfl : n = 25 := by omega
      exact ⟨rfl, by decide, by show bseW (LS r) 25 ≤ i0; omega, rfl⟩
-- _law_told, of k04
noncomputable def nthD (r : Int) (i : Nat) (d : D) : Prop := (i < bseW (LS r) 25 ∧ ∃ w, d = .str w ∧ NthW (LS r) i w ∧ w.length ≤ 24) ∨ (bseW (LS r) 25 ≤ i ∧ d = .lst [.str q_index])
def fs_law_told : FS := ⟨Int × Nat, fun a => [.int a.1, .int (a.2 : Int)], fun a => 1 ≤ a.1 ∧ a.1 ≤ 3 ∧ a.2 ≤ 1000000, fun a d => nthD a.1 a.2 d⟩
theorem ok_law_told (T : Txt mg) (d_law_told : Df K mg "_law_told" s_law_told ["rank", "index"]) (TX : Txx K mg) (cx_nth_reduced : CalX P w K mg base 4 "nth_reduced" (PFX mg fx_nth_reduced)) : C8.Cal P w K mg base 5 "_law_told" (PF fs_law_told) [] := by
  obtain ⟨C_TooLarge, G_TooLarge⟩ := TX.k_TooLarge
  refine df_cal d_law_told sc_law_told (fun _ => rfl) fun f cdv A outer s H E hr => ⟨_, (pss_one (ps_tryA (i := 2) rfl rfl sc_law_told.nd rfl rfl ⟨rfl, by decide, .inl G_TooLarge⟩ takes0 (fun W pn xe tk _ => (pss_one (ps_ret (pe_x cx_nth_reduced hr (by first | decide | omega) (by rfl) tk (pa_cons (pv 0) (pa_cons (pv 1) pa_nil)))))) (fun a oe cls d pn hz hf => (pss_one (ps_ret (pe_lst (pa_cons (pe_xe hz hf (pv 2)) pa_nil))))))), fun a hp => ?_⟩
  obtain ⟨r, i⟩ := a
  obtain ⟨h1, h3, hi⟩ : 1 ≤ r ∧ r ≤ 3 ∧ i ≤ 1000000 := hp
  show Ds _ [.dat (.int r), .dat (.int (i : Int)), .any] _ (fun d => nthD r i d) _ _
  refine ds_try (mg := mg) (fun e x => e = [.dat (.int r), .dat (.int (i : Int)), .any] ∧ bseW (LS r) 25 ≤ i ∧ x = xLarge q_index) (fun W => ?_) fun e x hx C hC => ?_
  · refine dw_ret (dew_call ?_)
    repeat walk_at "de"
    exact ⟨(r, i), rfl, ⟨h1, h3, hi⟩, fun d hd => .inl hd, fun x hx => ⟨rfl, hx.1, hx.2⟩⟩
  · obtain ⟨rfl, hb, rfl⟩ := hx
    obtain ⟨g1, g2⟩ := TX.f_TooLarge C hC
    refine ⟨TX.e_TooLarge_TooLarge C C_TooLarge hC G_TooLarge, fun a dd => ds_ret ?_⟩
    repeat walk_at "de"
    refine de_xe rfl rfl g1.xf g2 (de_var rfl ⟨_, _, _, rfl, rfl, ?_⟩)
    repeat walk_at "de"
    exact .inr ⟨hb, rfl⟩
-- src: 025e3ade30e2
def fs_law_word : FS := ⟨Int × Int, fun a => [.stm, .int a.1, .int a.2], fun a => 1 ≤ a.1 ∧ a.1 ≤ 3 ∧ 0 ≤ a.2 ∧ a.2 ≤ 100, fun a d => ∃ w : List Nat, d = .str w ∧ (w.length : Int) ≤ a.2 ∧ ∀ c ∈ w, c ∈ LS a.1⟩
theorem LS_ne {r : Int} (h1 : 1 ≤ r) (h2 : r ≤ 3) : 2 ≤ (LS r).length ∧ 97 ∈ LS r ∧ 65 ∈ LS r := by
  rcases rng3 h1 h2 with rfl | rfl | rfl <;> decide
theorem LS_last {r : Int} (h1 : 1 ≤ r) (h2 : r ≤ 3) : ∀ l : List Nat, l = DL.cutD (LS r) (some (-2)) none → (∀ c ∈ l, c ∈ LS r) ∧ l ≠ [] ∧ l.length ≤ 6 := by
  intro l hl
  subst hl
  rcases rng3 h1 h2 with rfl | rfl | rfl <;> decide
theorem ok_law_word (T : Txt mg) (d_law_word : Df K mg "_law_word" s_law_word ["stream", "rank", "most"]) (c_law_next : C8.Cal P w K mg base 1 "_law_next" (PF fs_law_next) []) (c_law_pick : C8.Cal P w K mg base 2 "_law_pick" (PF fs_law_pick) []) : C8.Cal P w K mg base 3 "_law_word" (PF fs_law_word) [] := by
  refine df_cal d_law_word sc_law_word (fun _ => rfl) fun f cdv A outer s H E hr => ⟨_, (pss_cons (ps_set (i := 3) sc_law_word.nd rfl (by first | exact Or.inl rfl | exact Or.inr rfl) (pe_slice sl_str pe_str po_none (po_some (pe_op op_mul pe_int (pv 1))))) (pss_cons (ps_if (pt_cmpR op_eq (C8.pe_c c_law_next hr (by first | decide | omega) (by rfl) (pa_cons (pv 0) (pa_cons pe_int pa_nil))) pe_int (nomark _)) (pss_one (ps_set (i := 3) sc_law_word.nd rfl (by first | exact Or.inl rfl | exact Or.inr rfl) (C8.pe_c c_law_pick hr (by first | decide | omega) (by rfl) (pa_cons (pv 0) (pa_cons (pe_lst (pa_cons pe_str (pa_cons pe_str (pa_cons (pe_slice sl_str (pv 3) (po_some (pe_un un_neg pe_int)) po_none) pa_nil)))) pa_nil))))) pss_nil) (pss_one (ps_ret (pe_bm PySem.F.plainAttrs_str PySem.F.slot_str_join PySem.F.type_str_join md_join pe_str (pa_cons (pe_lc (own := [("k", 4)]) rfl sc_law_word.nd (pi_range1 (by rfl) T.n_range (pa_cons (C8.pe_c c_law_next hr (by first | decide | omega) (by rfl) (pa_cons (pv 0) (pa_cons (pe_op op_add (pv 2) pe_int) pa_nil))) pa_nil)) (blkOk_by (N := n_law_word) (sc := defScope s_law_word) (own := [("k", 4)]) (by decide +kernel)) (fun _ _ _ _ _ => (pg_name (i := 4) sc_law_word.nd rfl (by first | exact Or.inl rfl | exact Or.inr rfl))) (fun _ _ _ _ _ => pts_nil) (fun _ _ _ _ _ => (C8.pe_c c_law_pick hr (by first | decide | omega) (by rfl) (pa_cons (pv 0) (pa_cons (pe_callTy (cd_liststr rfl) (by rfl) T.n_list (by decide +kernel) (pa_cons (pv 3) pa_nil)) pa_nil))))) pa_nil)))))), fun a hp => ?_⟩
  obtain ⟨r, m⟩ := a
  obtain ⟨h1, h2, h3, h4⟩ : 1 ≤ r ∧ r ≤ 3 ∧ 0 ≤ m ∧ m ≤ 100 := hp
  obtain ⟨g1, g2, g3⟩ := LS_ne h1 h2
  have g4 := LS_len h1 h2
  show Ds _ [.dat .stm, .dat (.int r), .dat (.int m), .any, .any] _ (fun d => ∃ w : List Nat, d = .str w ∧ (w.length : Int) ≤ m ∧ ∀ c ∈ w, c ∈ LS r) _ _
  refine ds_seq (ds_set ?_)
  repeat walk_at "de"
  rw [cut_LS]
  try dsimp only [List.set]
  refine ds_seq (ds_mid (fun e => ∃ l : List Nat, e = [.dat .stm, .dat (.int r), .dat (.int m), .dat (.str l), .any] ∧ (∀ c ∈ l, c ∈ LS r) ∧ l ≠ [] ∧ l.length ≤ 6) ?_ fun e he => ?_)
  · repeat walk_at "dl"
    refine ⟨(3 : Int), rfl, ⟨by omega, by omega⟩, fun d hd => ?_⟩
    obtain ⟨i, rfl, i1, i2⟩ := hd
    repeat walk_at "dl"
    by_cases h : i = 0
    · rw [decide_eq_true h]
      repeat walk_at "dl"
      obtain ⟨k1, k2, k3⟩ := LS_last h1 h2 _ rfl
      generalize DL.cutD (LS r) (some (-2)) none = l at k1 k2 k3 ⊢
      repeat walk_at "dl"
      refine ⟨_, rfl, ⟨by simp, by simp⟩, fun d hd => ?_⟩
      have hd' : d ∈ [D.str [97, 65], D.str [97], D.str l] := hd
      simp only [List.mem_cons, List.not_mem_nil, or_false] at hd'
      rcases hd' with rfl | rfl | rfl
      · exact ⟨_, rfl, fun c hc => by simp only [List.mem_cons, List.not_mem_nil, or_false] at hc; rcases hc with rfl | rfl <;> assumption, by simp, by simp⟩
      · exact ⟨_, rfl, fun c hc => by simp only [List.mem_cons, List.not_mem_nil, or_false] at hc; rw [hc]; assumption, by simp, by simp⟩
      · exact ⟨_, rfl, k1, k2, k3⟩
    · rw [decide_eq_false h]
      repeat walk_at "dl"
      exact ⟨_, rfl, fun c hc => hc, fun z => by rw [z] at g1; simp at g1, by omega⟩
  · obtain ⟨l, rfl, k1, k2, k3⟩ := he
    repeat walk_at "dl"
    refine ⟨rfl, ?_⟩
    walk_at "dl"
    refine de_ofN (den_lc (di_range1 ?_))
    repeat walk_at "dl"
    refine ⟨m + 1, rfl, ⟨by omega, by omega⟩, fun d hd => ?_⟩
    obtain ⟨n, rfl, n1, n2⟩ := hd
    walk_at "dl"
    refine ⟨n, rfl, by omega, by omega, by rw [rgI_len]; omega, fun i acc => ∃ w : List Nat, acc = w.map (fun c => D.str [c]) ∧ w.length = i ∧ ∀ c ∈ w, c ∈ LS r, ⟨[], rfl, rfl, fun c hc => nomatch hc⟩, fun i d acc hd _ ha => ?_, fun acc ha => ?_⟩
    · repeat walk_at "dl"
      refine dcl_liststr (l := l) (by omega) ?_
      repeat walk_at "dl"
      refine ⟨_, rfl, ⟨by rw [List.length_map]; exact List.length_pos_iff.mpr k2, by rw [List.length_map]; omega⟩, fun d hd => ?_⟩
      obtain ⟨c, hc, rfl⟩ := List.mem_map.mp hd
      obtain ⟨w, rfl, hw, hw2⟩ := ha
      refine ⟨w ++ [c], by simp, by simp [hw], fun x hx => ?_⟩
      rcases List.mem_append.mp hx with z | z
      · exact hw2 x z
      · rw [List.mem_singleton.mp z]
        exact k1 c hc
    · obtain ⟨w, rfl, hw, hw2⟩ := ha
      rw [rgI_len] at hw
      walk_at "dl"
      refine dmt_join0 (ls := w.map fun c => [c]) (by rw [← sgl]; rfl) (by rw [flat_sgl]; omega) ?_
      rw [flat_sgl]
      exact ⟨w, rfl, by omega, hw2⟩
-- src: 5a6a7649d7b0
def fs_law_reduced : FS := ⟨List Nat, fun w => [.str w], fun w => Lts w ∧ w.length ≤ 10000, fun w d => d = .str (fold w)⟩
theorem ok_law_reduced (T : Txt mg) (d_law_reduced : Df K mg "_law_reduced" s_law_reduced ["word"]) (c_law_opposite : C8.Cal P w K mg base 1 "_law_opposite" (PF fs_law_opposite) []) : C8.Cal P w K mg base 2 "_law_reduced" (PF fs_law_reduced) [] := by
  refine df_cal d_law_reduced sc_law_reduced (fun _ => rfl) fun f cdv A outer s H E hr => ⟨_, (pss_cons (ps_set (i := 1) sc_law_reduced.nd rfl (by first | exact Or.inl rfl | exact Or.inr rfl) pe_str) (pss_cons (ps_for PassesOwn.never rfl (pi_str (pv 0)) (pg_name (i := 2) sc_law_reduced.nd rfl (by first | exact Or.inl rfl | exact Or.inr rfl)) (pss_one (ps_if (PW.pt (pw_and (pt_cmpR op_ne (pv 1) pe_str (nomark _)) (pw_and1 (pt_cmpR op_eq (pe_ix ix_str (pv 1) (pe_un un_neg pe_int) (fun _ _ => rfl)) (C8.pe_c c_law_opposite hr (by first | decide | omega) (by rfl) (pa_cons (pv 2) pa_nil)) (nomark _))))) (pss_one (ps_set (i := 1) sc_law_reduced.nd rfl (by first | exact Or.inl rfl | exact Or.inr rfl) (pe_slice sl_str (pv 1) po_none (po_some (pe_un un_neg pe_int))))) (pss_one (ps_set (i := 1) sc_law_reduced.nd rfl (by first | exact Or.inl rfl | exact Or.inr rfl) (pe_op od_add_str (pv 1) (pv 2))))))) (pss_one (ps_ret (pv 1))))), fun (w : List Nat) hp => ?_⟩
  obtain ⟨hw, hz⟩ : Lts w ∧ w.length ≤ 10000 := hp
  show Ds _ [.dat (.str w), .any, .any] _ (fun d => d = .str (fold w)) _ _
  repeat walk_at "dl"
  refine ds_for (di_str (de_var rfl ⟨w, rfl, fun i e => ∃ x, e = [.dat (.str w), .dat (.str (stk (w.take i)).reverse), x], ⟨.any, rfl⟩, fun i d e hd he => ?_, fun e he => ?_⟩))
  · obtain ⟨x, rfl⟩ := he
    obtain ⟨c, hc, rfl⟩ := sign_at hd
    have hcl := hw c (List.mem_of_getElem? hc)
    have hl := stk_len (w := w) i
    refine dg_name ?_
    repeat walk_at "dl"
    rw [stk_take hc]
    cases e : stk (w.take i) with
    | nil =>
      repeat walk_at "dl"
      exact ⟨_, rfl⟩
    | cons y k =>
      rw [e] at hl
      rw [List.length_cons] at hl
      rw [List.reverse_cons, decide_eq_false (show ¬ (k.reverse ++ [y] = []) by simp)]
      repeat walk_at "dl"
      refine dop_ixs (by simp; omega) (atI_back _ y) ?_
      repeat walk_at "dl"
      refine ⟨c, rfl, hcl, fun d hd => ?_⟩
      cases hd
      repeat walk_at "dl"
      rw [psh_cons]
      by_cases h : y = sw c
      · rw [if_pos h, h, decide_eq_true rfl]
        repeat walk_at "dl"
        rw [cut_but]
        repeat walk_at "dl"
        exact ⟨_, rfl⟩
      · rw [if_neg h, decide_eq_false (fun z => h (by simpa using z))]
        refine iteF ?_
        (repeat walk_at "dl")
        refine ⟨.dat (sign c), ?_⟩
        show _ = [_, Sl.dat (.str (c :: y :: k).reverse), _]
        rw [List.reverse_cons, List.reverse_cons]
  · obtain ⟨x, rfl⟩ := he
    rw [List.length_map, List.take_length]
    repeat walk_at "dl"
    rfl
-- _law_is_integer
def fs_law_is_integer : FS := ⟨D, fun v => [v], fun v => okD v = true, fun v d => d = .bl (match v with | .int _ => true | _ => false)⟩
theorem ok_law_is_integer (T : Txt mg) (d_law_is_integer : Df K mg "_law_is_integer" s_law_is_integer ["actual"]) : C8.Cal P w K mg base 1 "_law_is_integer" (PF fs_law_is_integer) [] := by
  refine df_cal d_law_is_integer sc_law_is_integer (fun _ => rfl) fun f cdv A outer s H E hr => ⟨_, (pss_one (ps_ret (pe_and (pe_callB cd_isi (by rfl) T.n_isinstance (by decide +kernel) (pa_cons (pv 0) (pa_cons (pe_bltn (v := .ty "int") (by rfl) T.n_int (by decide +kernel) rfl) pa_nil))) (pe_one (pe_not (pe_callB cd_isi (by rfl) T.n_isinstance (by decide +kernel) (pa_cons (pv 0) (pa_cons (pe_bltn (v := .ty "bool") (by rfl) T.n_bool (by decide +kernel) rfl) pa_nil)))))))), fun (v : D) hp => ?_⟩
  have hv : okD v = true := hp
  cases v with
  | stm => cases hv
  | ty n => cases hv
  | cls n => cases hv
  | exc a b c e => cases hv
  | _ => (show Ds _ [.dat _] _ _ _ _; (repeat walk_at "dl"); rfl)
-- _law_equal, of equal data alone
def dep : Nat → D → Prop
  | 0, _ => False
  | _ + 1, .stm => False
  | _ + 1, .exc .. => False
  | _ + 1, .cls _ => False
  | _ + 1, .ty _ => False
  | _ + 1, .dK _ => False
  | _ + 1, .dT _ => False
  | _ + 1, .dKx .. => False
  | _ + 1, .dTx .. => False
  | _ + 1, .str l => l.length ≤ 100000
  | n + 1, .tup ds => ds.length ≤ 100000 ∧ ∀ d ∈ ds, dep n d
  | n + 1, .ptp ds => ds.length ≤ 100000 ∧ ∀ d ∈ ds, dep n d
  | n + 1, .lst ds => ds.length ≤ 100000 ∧ ∀ d ∈ ds, dep n d
  | _ + 1, _ => True
def fsE (n : Nat) : FS := ⟨D, fun v => [v, v], fun v => dep n v, fun _ d => d = .bl true⟩
abbrev fs_law_equal : FS := fsE 3
theorem all_true (n : Nat) : (List.replicate n true).all id = true := by
  rw [List.all_eq_true]
  intro x hx
  rw [(List.mem_replicate.mp hx).2]
  rfl
theorem dp_opt (o : Option Nat) : dep 3 (optD o) := by cases o <;> trivial
theorem dp_strs {L : List (List Nat)} (h : L.length ≤ 100000) (hz : ∀ w ∈ L, w.length ≤ 100000) : dep 3 (.tup (L.map D.str)) := by
  refine ⟨by rw [List.length_map]; exact h, fun d hd => ?_⟩
  obtain ⟨w, hw, rfl⟩ := List.mem_map.mp hd
  exact hz w hw
theorem dp_act {rows : List (List Nat)} (h3 : rows.length ≤ 1000) (h : ∀ r ∈ rows, r.length ≤ 1000) : dep 3 (actD rows) := by
  refine ⟨by rw [List.length_map]; omega, fun d hd => ?_⟩
  obtain ⟨r, hr, rfl⟩ := List.mem_map.mp hd
  have := h r hr
  refine ⟨by rw [rowI_len]; omega, fun d hd => ?_⟩
  obtain ⟨x, _, rfl⟩ := List.mem_map.mp hd
  trivial
theorem dp_compl {r : Int} {g : Gr} (h1 : 1 ≤ r) (h3 : r ≤ 3) (N : GnOk g) (nd : g.2.Nodup) (hV : g.1 ≤ 1000) : dep 3 (actD (compl (smL r) g)) :=
  dp_act (by unfold compl; rw [List.length_map]; have := smL_len h1 h3; omega) fun r hr => by rw [perm_len (compl_perm N nd r hr)]; exact hV
theorem ok_law_equal (T : Txt mg) (d_law_equal : Df K mg "_law_equal" s_law_equal ["actual", "due"]) (c_law_is_integer : C8.Cal P w K mg base 1 "_law_is_integer" (PF fs_law_is_integer) []) : C8.Cal P w K mg base 5 "_law_equal" (PF fs_law_equal) [] := by
  have zero : C8.Cal P w K mg base 1 "_law_equal" (PF (fsE 0)) [] := df_raw d_law_equal sc_law_equal (fun vs H Q E h => by obtain ⟨a, _, _, _, _, _, _, h, _⟩ := h; exact h.elim) fun f cdv A outer s H E hr => ⟨_, pss_never, fun vs Q h => by obtain ⟨a, _, _, _, _, _, _, h, _⟩ := h; exact h.elim⟩
  have step : ∀ n, n ≤ 10 → C8.Cal P w K mg base (n + 2) "_law_equal" (PF (fsE n)) [] → C8.Cal P w K mg base (n + 3) "_law_equal" (PF (fsE (n + 1))) [] := fun n hn c_law_equal => by
    refine df_cal d_law_equal sc_law_equal (fun _ => rfl) fun f cdv A outer s H E hr => ⟨_, (pss_cons (ps_if (pt_cmpR od_isN (pv 1) pe_non (nomark _)) (pss_one (ps_ret (pe_cmpR od_isN (pv 0) pe_non (nomark _)))) pss_nil) (pss_cons (ps_if (pt_val (pe_callB cd_isi (by rfl) T.n_isinstance (by decide +kernel) (pa_cons (pv 1) (pa_cons (pe_bltn (v := .ty "bool") (by rfl) T.n_bool (by decide +kernel) rfl) pa_nil)))) (pss_one (ps_ret (pe_and (pe_callB cd_isi (by rfl) T.n_isinstance (by decide +kernel) (pa_cons (pv 0) (pa_cons (pe_bltn (v := .ty "bool") (by rfl) T.n_bool (by decide +kernel) rfl) pa_nil))) (pe_one (pe_cmpR op_eq (pv 0) (pv 1) (nomark _)))))) pss_nil) (pss_cons (ps_if (pt_val (pe_callB cd_isi (by rfl) T.n_isinstance (by decide +kernel) (pa_cons (pv 1) (pa_cons (pe_bltn (v := .ty "int") (by rfl) T.n_int (by decide +kernel) rfl) pa_nil)))) (pss_one (ps_ret (pe_and (C8.pe_c c_law_is_integer hr (by first | decide | omega) (by rfl) (pa_cons (pv 0) pa_nil)) (pe_one (pe_cmpR op_eq (pv 0) (pv 1) (nomark _)))))) pss_nil) (pss_cons (ps_if (pt_val (pe_callB cd_isi (by rfl) T.n_isinstance (by decide +kernel) (pa_cons (pv 1) (pa_cons (pe_bltn (v := .ty "str") (by rfl) T.n_str (by decide +kernel) rfl) pa_nil)))) (pss_one (ps_ret (pe_and (pe_callB cd_isi (by rfl) T.n_isinstance (by decide +kernel) (pa_cons (pv 0) (pa_cons (pe_bltn (v := .ty "str") (by rfl) T.n_str (by decide +kernel) rfl) pa_nil))) (pe_one (pe_cmpR op_eq (pv 0) (pv 1) (nomark _)))))) pss_nil) (pss_cons (ps_if (PW.pt (pw_and (pt_val (pe_callB cd_isi (by rfl) T.n_isinstance (by decide +kernel) (pa_cons (pv 1) (pa_cons (pe_bltn (v := .ty "tuple") (by rfl) T.n_tuple (by decide +kernel) rfl) pa_nil)))) (pw_and1 (pt_not (pt_val (pe_callB cd_isi (by rfl) T.n_isinstance (by decide +kernel) (pa_cons (pv 0) (pa_cons (pe_bltn (v := .ty "tuple") (by rfl) T.n_tuple (by decide +kernel) rfl) pa_nil)))))))) (pss_one (ps_ret pe_bl)) pss_nil) (pss_cons (ps_if (PW.pt (pw_and (pt_val (pe_callB cd_isi (by rfl) T.n_isinstance (by decide +kernel) (pa_cons (pv 1) (pa_cons (pe_bltn (v := .ty "list") (by rfl) T.n_list (by decide +kernel) rfl) pa_nil)))) (pw_and1 (pt_not (pt_val (pe_callB cd_isi (by rfl) T.n_isinstance (by decide +kernel) (pa_cons (pv 0) (pa_cons (pe_bltn (v := .ty "list") (by rfl) T.n_list (by decide +kernel) rfl) pa_nil)))))))) (pss_one (ps_ret pe_bl)) pss_nil) (pss_cons (ps_if (pt_cmpR op_ne (pe_callB cd_len (by rfl) T.n_len (by decide +kernel) (pa_cons (pv 0) pa_nil)) (pe_callB cd_len (by rfl) T.n_len (by decide +kernel) (pa_cons (pv 1) pa_nil)) (nomark _)) (pss_one (ps_ret pe_bl)) pss_nil) (pss_one (ps_ret (pe_callB (cd_all rfl) (by rfl) T.n_all (by decide +kernel) (pa_cons (pe_lc (own := [("at", 2)]) rfl sc_law_equal.nd (pi_range1 (by rfl) T.n_range (pa_cons (pe_callB cd_len (by rfl) T.n_len (by decide +kernel) (pa_cons (pv 1) pa_nil)) pa_nil)) (blkOk_by (N := n_law_equal) (sc := defScope s_law_equal) (own := [("at", 2)]) (by decide +kernel)) (fun _ _ _ _ _ => (pg_name (i := 2) sc_law_equal.nd rfl (by first | exact Or.inl rfl | exact Or.inr rfl))) (fun _ _ _ _ _ => pts_nil) (fun _ _ _ _ _ => (C8.pe_c c_law_equal hr (by first | decide | omega) (by rfl) (pa_cons (pe_ix (show IxR _ (rIx K) by exact ix_seq) (pv 0) (pv 2) (fun _ _ => rfl)) (pa_cons (pe_ix (show IxR _ (rIx K) by exact ix_seq) (pv 1) (pv 2) (fun _ _ => rfl)) pa_nil))))) pa_nil))))))))))), fun (v : D) hp => ?_⟩
    have hv : dep (n + 1) v := hp
    show Ds _ [.dat v, .dat v, .any] _ (fun d => d = .bl true) _ _
    have seqs : ∀ (ds : List D), ds.length ≤ 100000 → (∀ d ∈ ds, dep n d) → seqD v = some ds →
        De (tLc (iRng1 (tCons (tCB (DL.rLen K) (tCons (tVar 1) tNil)) tNil)) (gName 2) tYes (tCall (PF (fsE n)) [] C8.E0 (tCons (tOp (rIx K) (tVar 0) (tVar 2)) (tCons (tOp (rIx K) (tVar 1) (tVar 2)) tNil))) [2]) [.dat v, .dat v, .any] (fun x => Da tNil [.dat v, .dat v, .any] fun xs => Dcl (rAll K) (x :: xs) fun d => d = .bl true) := fun ds hz hd hv2 => by
      have hlen : lenD v = some ds.length := by cases v <;> first | (cases hv2; rfl) | (cases hv2; done)
      refine de_ofN (den_lc (di_range1 ?_))
      repeat walk_at "de"
      refine dcl_len hlen (by omega) ?_
      repeat walk_at "de"
      refine ⟨_, rfl, by omega, by omega, by rw [rgI_len]; omega, fun i acc => acc = (List.replicate i true).map D.bl, rfl, fun i d acc hd' _ ha => ?_, fun acc ha => ?_⟩
      · have hi : i < ds.length := by
          have := (List.getElem?_eq_some_iff.mp hd').1
          rw [rgI_len] at this
          omega
        rw [rgI_get _ _ _ (by omega)] at hd'
        cases hd'
        repeat walk_at "de"
        have e : atI ds (0 + (i : Int)) = some ds[i] := atI_at (by omega) (by rw [show (0 + (i : Int)).toNat = i by omega]; exact List.getElem?_eq_getElem hi)
        refine dop_ixg hv2 e ?_
        repeat walk_at "de"
        refine dop_ixg hv2 e ?_
        repeat walk_at "de"
        refine ⟨ds[i], rfl, hd _ (List.getElem_mem hi), fun d hd => ?_⟩
        cases hd
        rw [ha, List.replicate_succ', List.map_append]
        rfl
      · rw [rgI_len] at ha
        subst ha
        repeat walk_at "de"
        refine dcl_all ?_
        rw [all_true]
    cases v with
    | stm => cases hv
    | ty m => cases hv
    | cls m => cases hv
    | exc a b c e => cases hv
    | dK m => cases hv
    | ptp ds =>
      obtain ⟨hz, hd⟩ : ds.length ≤ 100000 ∧ ∀ d ∈ ds, dep n d := hv
      repeat walk_at "dl"
      rw [decide_eq_true rfl]
      repeat walk_at "dl"
      exact seqs ds hz hd rfl
    | dT m => cases hv
    | dKx a b => cases hv
    | dTx a b => cases hv
    | non => (repeat walk_at "dl"); rfl
    | bl b =>
      repeat walk_at "dl"
      rw [decide_eq_true rfl]
    | int b =>
      repeat walk_at "dl"
      refine ⟨.int b, rfl, rfl, fun d hd => ?_⟩
      cases hd
      repeat walk_at "dl"
      rw [decide_eq_true rfl]
    | str l =>
      repeat walk_at "dl"
      rw [decide_eq_true rfl]
    | tup ds =>
      obtain ⟨hz, hd⟩ : ds.length ≤ 100000 ∧ ∀ d ∈ ds, dep n d := hv
      repeat walk_at "dl"
      rw [decide_eq_true rfl]
      repeat walk_at "dl"
      exact seqs ds hz hd rfl
    | lst ds =>
      obtain ⟨hz, hd⟩ : ds.length ≤ 100000 ∧ ∀ d ∈ ds, dep n d := hv
      repeat walk_at "dl"
      rw [decide_eq_true rfl]
      repeat walk_at "dl"
      exact seqs ds hz hd rfl
  have zero2 : C8.Cal P w K mg base 2 "_law_equal" (PF (fsE 0)) [] := cal_mono zero (by decide)
  exact step 2 (by decide) (step 1 (by decide) (step 0 (by decide) zero2))
-- is_spelled
def fs_is_spelled : FS := ⟨D × Int × Int, fun a => [a.1, .int a.2.1, .int a.2.2], fun a => okD a.1 = true ∧ szD a.1 ∧ 1 ≤ a.2.1 ∧ a.2.1 ≤ 3, fun a d => d = .bl (spelled a.1 a.2.1 a.2.2)⟩
theorem ok_is_spelled (T : Txt mg) (d_is_spelled : Df K mg "is_spelled" s_is_spelled ["value", "rank", "most"]) (c_letters_of : C8.Cal P w K mg base 1 "letters_of" (PF fs_letters_of) []) : C8.Cal P w K mg base 2 "is_spelled" (PF fs_is_spelled) [] := by
  refine df_cal d_is_spelled sc_is_spelled (fun _ => rfl) fun f cdv A outer s H E hr => ⟨_, (pss_cons (ps_if (PW.pt (pw_or (pt_not (pt_val (pe_callB cd_isi (by rfl) T.n_isinstance (by decide +kernel) (pa_cons (pv 0) (pa_cons (pe_bltn (v := .ty "str") (by rfl) T.n_str (by decide +kernel) rfl) pa_nil))))) (pw_or1 (pt_cmpR op_gt (pe_callB cd_len (by rfl) T.n_len (by decide +kernel) (pa_cons (pv 0) pa_nil)) (pv 2) (nomark _))))) (pss_one (ps_ret pe_bl)) pss_nil) (pss_cons (ps_set (i := 3) sc_is_spelled.nd rfl (by first | exact Or.inl rfl | exact Or.inr rfl) (C8.pe_c c_letters_of hr (by first | decide | omega) (by rfl) (pa_cons (pv 1) pa_nil))) (pss_one (ps_ret (pe_callB (cd_all rfl) (by rfl) T.n_all (by decide +kernel) (pa_cons (pe_lc (own := [("letter", 4)]) rfl sc_is_spelled.nd (pi_str (pv 0)) (blkOk_by (N := n_is_spelled) (sc := defScope s_is_spelled) (own := [("letter", 4)]) (by decide +kernel)) (fun _ _ _ _ _ => (pg_name (i := 4) sc_is_spelled.nd rfl (by first | exact Or.inl rfl | exact Or.inr rfl))) (fun _ _ _ _ _ => pts_nil) (fun _ _ _ _ _ => (pe_cmpR od_in_sg (pv 4) (pv 3) rfl))) pa_nil)))))), fun a hp => ?_⟩
  obtain ⟨v, r, m⟩ := a
  obtain ⟨hv, hz, h1, h2⟩ := hp
  have hv : okD v = true := hv
  have hz : szD v := hz
  show Ds _ [.dat v, .dat (.int r), .dat (.int m), .any, .any] _ (fun d => d = .bl (spelled v r m)) _ _
  cases v with
  | str l =>
    have hl := hz l rfl
    repeat walk_at "dl"
    by_cases hm : (l.length : Int) ≤ m
    · rw [decide_eq_false (by omega)]
      repeat walk_at "dl"
      refine ⟨r, rfl, ⟨h1, h2⟩, fun d hd => ?_⟩
      cases hd
      repeat walk_at "dl"
      refine de_ofN (den_lc (di_str (de_var rfl ⟨l, rfl, by simp; omega, fun i acc => acc = ((l.take i).map fun c => decide (c ∈ LS r)).map D.bl, by simp, fun i d acc hd _ ha => ?_, fun acc ha => ?_⟩)))
      · rw [List.getElem?_map] at hd
        cases e : l[i]? with
        | none => rw [e] at hd; cases hd
        | some c =>
          rw [e] at hd
          cases hd
          repeat walk_at "dl"
          refine dop_insg ?_
          rw [ha]
          exact map_bl_take e
      · rw [List.length_map] at ha
        rw [List.take_length] at ha
        subst ha
        walk_at "dl"
        refine dcl_all ?_
        show D.bl _ = D.bl (decide ((l.length : Int) ≤ m) && l.all fun c => decide (c ∈ LS r))
        rw [decide_eq_true hm, Bool.true_and, List.all_map]
        rfl
    · rw [decide_eq_true (by omega)]
      repeat walk_at "dl"
      show D.bl false = D.bl (decide ((l.length : Int) ≤ m) && l.all fun c => decide (c ∈ LS r))
      rw [decide_eq_false hm, Bool.false_and]
  | _ => first | (cases hv; done) | ((repeat walk_at "dl"); rfl)
-- check_word
def fs_check_word : FS := ⟨List Nat × Int × List Nat, fun a => [.str a.1, .int a.2.1, .str a.2.2], fun a => 1 ≤ a.2.1 ∧ a.2.1 ≤ 3 ∧ a.1.length ≤ 24 ∧ ∀ c ∈ a.1, c ∈ LS a.2.1, fun _ d => d = .non⟩
theorem spelled_ok {w : List Nat} {r : Int} {m : Int} (h : (w.length : Int) ≤ m) (h2 : ∀ c ∈ w, c ∈ LS r) : spelled (.str w) r m = true := by
  show (decide ((w.length : Int) ≤ m) && w.all fun c => decide (c ∈ LS r)) = true
  rw [decide_eq_true h, Bool.true_and, List.all_eq_true]
  exact fun c hc => decide_eq_true (h2 c hc)
theorem ok_check_word (T : Txt mg) (d_check_word : Df K mg "check_word" s_check_word ["value", "rank", "name"]) (c_is_spelled : C8.Cal P w K mg base 2 "is_spelled" (PF fs_is_spelled) []) : C8.Cal P w K mg base 3 "check_word" (PF fs_check_word) [] := by
  refine df_cal d_check_word sc_check_word (fun _ => rfl) fun f cdv A outer s H E hr => ⟨_, (pss_one (ps_if (pt_not (pt_val (C8.pe_c c_is_spelled hr (by first | decide | omega) (by rfl) (pa_cons (pv 0) (pa_cons (pv 1) (pa_cons (C8.pe_gc (by rfl) T.g_MOST_LETTERS) pa_nil)))))) (pss_one ps_never) pss_nil)), fun a hp => ?_⟩
  obtain ⟨w, r, n⟩ := a
  obtain ⟨h1, h2, h3, h4⟩ : 1 ≤ r ∧ r ≤ 3 ∧ w.length ≤ 24 ∧ ∀ c ∈ w, c ∈ LS r := hp
  show Ds _ [.dat (.str w), .dat (.int r), .dat (.str n)] (fun _ => D.non = D.non) (fun d => d = .non) _ _
  repeat walk_at "dl"
  refine ⟨(.str w, r, 24), rfl, ⟨rfl, fun l e => by cases e; omega, h1, h2⟩, fun d hd => ?_⟩
  cases hd
  have e : spelled (.str w) r 24 = true := spelled_ok (by omega) h4
  rw [e]
  repeat walk_at "dl"
-- check_two_words
def fs_check_two_words : FS := ⟨List Nat × List Nat, fun a => [.str a.1, .str a.2], fun a => Lts a.1 ∧ a.1.length ≤ 24 ∧ Lts a.2 ∧ a.2.length ≤ 24, fun _ d => d = .non⟩
theorem ok_check_two_words (T : Txt mg) (d_check_two_words : Df K mg "check_two_words" s_check_two_words ["first", "second"]) (c_check_word : C8.Cal P w K mg base 3 "check_word" (PF fs_check_word) []) : C8.Cal P w K mg base 4 "check_two_words" (PF fs_check_two_words) [] := by
  refine df_cal d_check_two_words sc_check_two_words (fun _ => rfl) fun f cdv A outer s H E hr => ⟨_, (pss_cons (ps_expr (C8.pe_c c_check_word hr (by first | decide | omega) (by rfl) (pa_cons (pv 0) (pa_cons (C8.pe_gc (by rfl) T.g_HIGHEST_RANK) (pa_cons pe_str pa_nil))))) (pss_one (ps_expr (C8.pe_c c_check_word hr (by first | decide | omega) (by rfl) (pa_cons (pv 1) (pa_cons (C8.pe_gc (by rfl) T.g_HIGHEST_RANK) (pa_cons pe_str pa_nil))))))), fun a hp => ?_⟩
  obtain ⟨u, v⟩ := a
  obtain ⟨hu, lu, hv, lv⟩ : Lts u ∧ u.length ≤ 24 ∧ Lts v ∧ v.length ≤ 24 := hp
  show Ds _ [.dat (.str u), .dat (.str v)] (fun _ => D.non = D.non) (fun d => d = .non) _ _
  repeat walk_at "dl"
  refine ⟨(u, 3, _), rfl, ⟨(by decide : (1 : Int) ≤ 3), (by decide : (3 : Int) ≤ 3), lu, hu⟩, fun d hd => ?_⟩
  repeat walk_at "dl"
  exact ⟨(v, 3, _), rfl, ⟨(by decide : (1 : Int) ≤ 3), (by decide : (3 : Int) ≤ 3), lv, hv⟩, fun d hd => rfl⟩
-- length_order
def fs_length_order : FS := ⟨List Nat, fun w => [.str w], fun w => Lts w ∧ w.length ≤ 1000, fun w d => d = keyT w.length (ks w)⟩
theorem ok_length_order (T : Txt mg) (d_length_order : Df K mg "length_order" s_length_order ["word"]) : C8.Cal P w K mg base 1 "length_order" (PF fs_length_order) [] := by
  refine df_cal d_length_order sc_length_order (fun _ => rfl) fun f cdv A outer s H E hr => ⟨_, (pss_one (ps_ret (pe_tup (pa_cons (pe_callB cd_len (by rfl) T.n_len (by decide +kernel) (pa_cons (pv 0) pa_nil)) (pa_cons (pe_callTy cd_tupof (by rfl) T.n_tuple (by decide +kernel) (pa_cons (pe_lc (own := [("letter", 1)]) rfl sc_length_order.nd (pi_str (pv 0)) (blkOk_by (N := n_length_order) (sc := defScope s_length_order) (own := [("letter", 1)]) (by decide +kernel)) (fun _ _ _ _ _ => (pg_name (i := 1) sc_length_order.nd rfl (by first | exact Or.inl rfl | exact Or.inr rfl))) (fun _ _ _ _ _ => pts_nil) (fun _ _ _ _ _ => (pe_bmK (K := K) rfl (pe_bm PySem.F.plainAttrs_str PySem.F.slot_str_index PySem.F.type_str_index md_sindex (C8.pe_gc (by rfl) T.g_LETTERS) (pa_cons (pv 1) pa_nil))))) pa_nil)) pa_nil))))), fun (w : List Nat) hp => ?_⟩
  obtain ⟨hw, hz⟩ : Lts w ∧ w.length ≤ 1000 := hp
  show Ds _ [.dat (.str w), .any] _ (fun d => d = keyT w.length (ks w)) _ _
  repeat walk_at "dl"
  refine de_ofN (den_lc (di_str (de_var rfl ⟨w, rfl, by simp; omega, fun i acc => acc = (w.take i).map (fun c => D.int (ixL c : Int)), by simp, fun i d acc hd _ ha => ?_, fun acc ha => ?_⟩)))
  · obtain ⟨c, hc, rfl⟩ := sign_at hd
    have hcl := hw c (List.mem_of_getElem? hc)
    repeat walk_at "dl"
    refine ⟨rfl, ?_⟩
    repeat walk_at "dl"
    refine dmt_sindex (ix_let hcl) ?_
    rw [ha, List.take_add_one, hc, List.map_append]
    rfl
  · dsimp only at ha
    rw [List.length_map, List.take_length] at ha
    subst ha
    repeat walk_at "dl"
    show D.tup [.int w.length, .tup (w.map fun c => D.int (ixL c : Int))] = D.tup [.int w.length, .tup ((w.map fun c => (ixL c : Int)).map D.int)]
    rw [List.map_map]
    rfl
-- compare
def fs_compare : FS := ⟨List Nat × List Nat, fun a => [.str a.1, .str a.2], fun a => Lts a.1 ∧ a.1.length ≤ 24 ∧ Lts a.2 ∧ a.2.length ≤ 24, fun a d => d = .int (cmpW a.1 a.2)⟩
theorem ok_compare (T : Txt mg) (d_compare : Df K mg "compare" s_compare ["first", "second"]) (c_check_two_words : C8.Cal P w K mg base 4 "check_two_words" (PF fs_check_two_words) []) (c_length_order : C8.Cal P w K mg base 1 "length_order" (PF fs_length_order) []) : C8.Cal P w K mg base 5 "compare" (PF fs_compare) [] := by
  refine df_cal d_compare sc_compare (fun _ => rfl) fun f cdv A outer s H E hr => ⟨_, (pss_cons (ps_expr (C8.pe_c c_check_two_words hr (by first | decide | omega) (by rfl) (pa_cons (pv 0) (pa_cons (pv 1) pa_nil)))) (pss_cons (ps_set (i := 2) sc_compare.nd rfl (by first | exact Or.inl rfl | exact Or.inr rfl) (C8.pe_c c_length_order hr (by first | decide | omega) (by rfl) (pa_cons (pv 0) pa_nil))) (pss_cons (ps_set (i := 3) sc_compare.nd rfl (by first | exact Or.inl rfl | exact Or.inr rfl) (C8.pe_c c_length_order hr (by first | decide | omega) (by rfl) (pa_cons (pv 1) pa_nil))) (pss_cons (ps_if (pt_cmpR (op_eqD hr.units) (pv 2) (pv 3) (nomark _)) (pss_one (ps_ret pe_int)) pss_nil) (pss_one (ps_ret (pe_ifExp (pt_cmpR (op_ltN hr.units) (pv 2) (pv 3) (nomark _)) (pe_un un_neg pe_int) pe_int))))))), fun a hp => ?_⟩
  obtain ⟨u, v⟩ := a
  obtain ⟨hu, lu, hv, lv⟩ : Lts u ∧ u.length ≤ 24 ∧ Lts v ∧ v.length ≤ 24 := hp
  show Ds _ [.dat (.str u), .dat (.str v), .any, .any] _ (fun d => d = .int (cmpW u v)) _ _
  repeat walk_at "dl"
  refine ⟨(u, v), rfl, ⟨hu, lu, hv, lv⟩, fun d hd => ?_⟩
  repeat walk_at "dl"
  refine ⟨u, rfl, ⟨hu, by omega⟩, fun d hd => ?_⟩
  obtain rfl : d = keyT u.length (ks u) := hd
  repeat walk_at "dl"
  refine ⟨v, rfl, ⟨hv, by omega⟩, fun d hd => ?_⟩
  obtain rfl : d = keyT v.length (ks v) := hd
  repeat walk_at "dl"
  refine dop_eqT ?_
  repeat walk_at "dl"
  by_cases h : sameK u v
  · rw [show decide ((u.length : Int) = (v.length : Int) ∧ ks u = ks v) = true from decide_eq_true h]
    repeat walk_at "dl"
    exact congrArg D.int (if_pos h).symm
  · rw [show decide ((u.length : Int) = (v.length : Int) ∧ ks u = ks v) = false from decide_eq_false h]
    repeat walk_at "dl"
    refine dop_ltT ?_
    repeat walk_at "dl"
    by_cases h2 : ltW u v = true
    · rw [show ltN u.length (ks u) v.length (ks v) = true from h2]
      repeat walk_at "dl"
      exact congrArg D.int (by unfold cmpW; rw [if_neg h, if_pos h2])
    · rw [show ltN u.length (ks u) v.length (ks v) = false from Bool.eq_false_iff.mpr h2]
      repeat walk_at "dl"
      exact congrArg D.int (by unfold cmpW; rw [if_neg h, if_neg h2])
-- folded
def fs_folded : FS := ⟨List Nat, fun w => [.str w], fun w => Lts w ∧ w.length ≤ 300000, fun w d => d = .str (fold w)⟩
theorem ok_folded (T : Txt mg) (d_folded : Df K mg "folded" s_folded ["word"]) : C8.Cal P w K mg base 1 "folded" (PF fs_folded) [] := by
  refine df_cal d_folded sc_folded (fun _ => rfl) fun f cdv A outer s H E hr => ⟨_, (pss_cons (ps_set (i := 1) sc_folded.nd rfl (by first | exact Or.inl rfl | exact Or.inr rfl) (pe_lst pa_nil)) (pss_cons (ps_for PassesOwn.never rfl (pi_ss (by rfl) T.n_zip (pa_cons (pv 0) (pa_cons (pe_bm0 PySem.F.plainAttrs_str PySem.F.slot_str_swapcase PySem.F.type_str_swapcase md_swap (pv 0)) pa_nil))) (pg_tup rfl (pgs_cons (pg_name (i := 2) sc_folded.nd rfl (by first | exact Or.inl rfl | exact Or.inr rfl)) (pgs_cons (pg_name (i := 3) sc_folded.nd rfl (by first | exact Or.inl rfl | exact Or.inr rfl)) pgs_nil))) (pss_one (ps_if (PW.pt (pw_and (ptd (pv 1) (by intro _; rfl)) (pw_and1 (pt_cmpR op_eq (pe_ix ix_list (pv 1) (pe_un un_neg pe_int) (fun _ _ => rfl)) (pv 3) (nomark _))))) (pss_one (ps_expr (pe_bm0 PySem.F.plainAttrs_list PySem.F.slot_list_pop PySem.F.type_list_pop mt_pop (pv 1)))) (pss_one (ps_expr (pe_bm PySem.F.plainAttrs_list PySem.F.slot_list_append PySem.F.type_list_append mt_append (pv 1) (pa_cons (pv 2) pa_nil))))))) (pss_one (ps_ret (pe_bm PySem.F.plainAttrs_str PySem.F.slot_str_join PySem.F.type_str_join md_join pe_str (pa_cons (pv 1) pa_nil)))))), fun (w : List Nat) hp => ?_⟩
  obtain ⟨hw, hz⟩ : Lts w ∧ w.length ≤ 300000 := hp
  show Ds _ [.dat (.str w), .any, .any, .any] _ (fun d => d = .str (fold w)) _ _
  refine ds_seq (ds_setN (den_lst (da_nil ⟨by simp, ?_⟩)))
  refine ds_seq (ds_for (di_ss ?_))
  repeat walk_at "dl"
  refine ⟨rfl, dmt_swap (by omega) hw (da_nil ?_)⟩
  refine ⟨w, w.map sw, rfl, fun i e => ∃ x y, e = [.dat (.str w), .own (.lst ((stk (w.take i)).reverse.map sign)), x, y], ⟨.any, .any, rfl⟩, fun i d e hd he => ?_, fun e he => ?_⟩
  · obtain ⟨x, y, rfl⟩ := he
    obtain ⟨c, c', hc, hc', rfl⟩ := ssD_get hd
    rw [List.getElem?_map, hc] at hc'
    obtain rfl : sw c = c' := Option.some.inj hc'
    have hcl := hw c (List.mem_of_getElem? hc)
    refine dg_tup rfl (dgs_cons (dg_name (dgs_cons (dg_name (dgs_nil ?_)))))
    try dsimp only [List.set]
    refine ds_if (dt_look 1 rfl ?_)
    repeat walk_at "dl"
    rw [stk_take hc]
    have hl : (stk (w.take i)).length ≤ 300000 := by
      have h1 := fold_len (w.take i)
      have h2 : (w.take i).length ≤ w.length := by rw [List.length_take]; omega
      unfold fold at h1
      rw [List.length_reverse] at h1
      omega
    cases e : stk (w.take i) with
    | nil =>
      refine ⟨false, rfl, ?_, fun _ z => nomatch z⟩
      repeat walk_at "dl"
      refine ds_append rfl (by simp) ?_
      repeat walk_at "dl"
      exact ⟨_, _, rfl⟩
    | cons y k =>
      rw [e] at hl
      rw [List.reverse_cons, List.map_append]
      refine ⟨true, by simp [toD, dTru], ?_, fun _ z => nomatch z⟩
      repeat walk_at "dl"
      refine dop_ixl (atI_back _ (sign y)) ?_
      repeat walk_at "dl"
      rw [psh_cons]
      by_cases h : y = sw c
      · rw [if_pos h, h, decide_eq_true rfl]
        refine iteT (ds_pop (ds := k.reverse.map sign) (d := sign (sw c)) rfl ?_)
        exact ⟨_, _, rfl⟩
      · rw [if_neg h, decide_eq_false (fun z => h (by simpa using z))]
        refine iteF (ds_append rfl ?_ ?_)
        · simp only [List.length_append, List.length_map, List.length_reverse, List.length_cons, List.length_nil] at hl ⊢
          omega
        repeat walk_at "dl"
        refine ⟨.dat (sign c), .dat (sign (sw c)), ?_⟩
        show _ = [_, Sl.own (.lst ((c :: y :: k).reverse.map sign)), _, _]
        rw [List.reverse_cons, List.map_append, List.reverse_cons, List.map_append]
        rfl
  · obtain ⟨x, y, rfl⟩ := he
    rw [ssD_len, List.length_map, Nat.min_self, List.take_length]
    refine ds_ret (de_look 1 rfl ?_)
    repeat walk_at "dl"
    refine ⟨rfl, ?_⟩
    repeat walk_at "dl"
    have h1 := fold_len w
    unfold fold at h1
    refine dmt_join0 (ls := (stk w).reverse.map fun c => [c]) (by rw [← sgl]; rfl) (by rw [flat_sgl]; omega) ?_
    rw [flat_sgl]
    exact ⟨trivial, rfl⟩
-- index_of_reduced
def chL (ls : List Nat) (o : Option Nat) : List Nat := ls.filter fun c => decide (o ≠ some (sw c))
theorem chL_ix : ∀ r ∈ [(1 : Int), 2, 3], ∀ o ∈ (none :: (LS r).map some), ∀ i < (chL (LS r) o).length, Builtin.Str.occurrences ⟨(chL (LS r) o).toArray⟩ ⟨#[(chL (LS r) o).getD i 0]⟩ 0 (chL (LS r) o).length 1 = [i] := by decide +kernel
theorem chW_ix {r : Int} (h1 : 1 ≤ r) (h3 : r ≤ 3) {w : List Nat} (hw : ∀ c ∈ w, c ∈ LS r) {i c : Nat} (hc : (chW (LS r) w)[i]? = some c) : Builtin.Str.occurrences ⟨(chW (LS r) w).toArray⟩ ⟨#[c]⟩ 0 (chW (LS r) w).length 1 = [i] := by
  have e : chW (LS r) w = chL (LS r) w.getLast? := rfl
  have hr : r ∈ [(1 : Int), 2, 3] := by rcases rng3 h1 h3 with rfl | rfl | rfl <;> simp
  have ho : w.getLast? ∈ (none :: (LS r).map some) := by
    cases z : w.getLast? with
    | none => exact List.mem_cons_self
    | some x => exact List.mem_cons_of_mem _ (List.mem_map.mpr ⟨x, hw x (List.mem_of_getLast? z), rfl⟩)
  rw [e] at hc ⊢
  have := chL_ix r hr _ ho i (List.getElem?_eq_some_iff.mp hc).1
  rw [List.getD_eq_getElem?_getD, hc] at this
  exact this
def fs_index_of_reduced : FS := ⟨Int × List Nat, fun a => [.int a.1, .str a.2], fun a => 1 ≤ a.1 ∧ a.1 ≤ 3 ∧ okW a.1 24 a.2, fun a d => ∃ i : Nat, d = .int (i : Int) ∧ NthW (LS a.1) i (fold a.2)⟩
theorem ok_index_of_reduced (T : Txt mg) (d_index_of_reduced : Df K mg "index_of_reduced" s_index_of_reduced ["rank", "word"]) (c_check_rank : C8.Cal P w K mg base 3 "check_rank" (PF fs_check_rank) []) (c_check_word : C8.Cal P w K mg base 3 "check_word" (PF fs_check_word) []) (c_folded : C8.Cal P w K mg base 1 "folded" (PF fs_folded) []) (c_how_many : C8.Cal P w K mg base 1 "how_many" (PF fs_how_many) []) (c_letters_behind : C8.Cal P w K mg base 2 "letters_behind" (PF fs_letters_behind) []) : C8.Cal P w K mg base 4 "index_of_reduced" (PF fs_index_of_reduced) [] := by
  refine df_cal d_index_of_reduced sc_index_of_reduced (fun _ => rfl) fun f cdv A outer s H E hr => ⟨_, (pss_cons (ps_expr (C8.pe_c c_check_rank hr (by first | decide | omega) (by rfl) (pa_cons (pv 0) pa_nil))) (pss_cons (ps_expr (C8.pe_c c_check_word hr (by first | decide | omega) (by rfl) (pa_cons (pv 1) (pa_cons (pv 0) (pa_cons pe_str pa_nil))))) (pss_cons (ps_set (i := 2) sc_index_of_reduced.nd rfl (by first | exact Or.inl rfl | exact Or.inr rfl) (C8.pe_c c_folded hr (by first | decide | omega) (by rfl) (pa_cons (pv 1) pa_nil))) (pss_cons (ps_set (i := 3) sc_index_of_reduced.nd rfl (by first | exact Or.inl rfl | exact Or.inr rfl) (pe_callB (cr_sum rfl) (by rfl) T.n_sum (by decide +kernel) (pa_cons (pe_lc (own := [("shorter", 8)]) rfl sc_index_of_reduced.nd (pi_range1 (by rfl) T.n_range (pa_cons (pe_callB cd_len (by rfl) T.n_len (by decide +kernel) (pa_cons (pv 2) pa_nil)) pa_nil)) (blkOk_by (N := n_index_of_reduced) (sc := defScope s_index_of_reduced) (own := [("shorter", 8)]) (by decide +kernel)) (fun _ _ _ _ _ => (pg_name (i := 8) sc_index_of_reduced.nd rfl (by first | exact Or.inl rfl | exact Or.inr rfl))) (fun _ _ _ _ _ => pts_nil) (fun _ _ _ _ _ => (C8.pe_c c_how_many hr (by first | decide | omega) (by rfl) (pa_cons (pv 0) (pa_cons (pv 8) pa_nil))))) pa_nil))) (pss_cons (ps_set (i := 4) sc_index_of_reduced.nd rfl (by first | exact Or.inl rfl | exact Or.inr rfl) (C8.pe_c c_how_many hr (by first | decide | omega) (by rfl) (pa_cons (pv 0) (pa_cons (pe_callB cd_len (by rfl) T.n_len (by decide +kernel) (pa_cons (pv 2) pa_nil)) pa_nil)))) (pss_cons (ps_for PassesOwn.never rfl (pi_es (by rfl) T.n_enumerate (pa_cons (pv 2) pa_nil)) (pg_tup rfl (pgs_cons (pg_name (i := 5) sc_index_of_reduced.nd rfl (by first | exact Or.inl rfl | exact Or.inr rfl)) (pgs_cons (pg_name (i := 6) sc_index_of_reduced.nd rfl (by first | exact Or.inl rfl | exact Or.inr rfl)) pgs_nil))) (pss_cons (ps_set (i := 7) sc_index_of_reduced.nd rfl (by first | exact Or.inl rfl | exact Or.inr rfl) (C8.pe_c c_letters_behind hr (by first | decide | omega) (by rfl) (pa_cons (pv 0) (pa_cons (pe_slice sl_str (pv 2) po_none (po_some (pv 5))) pa_nil)))) (pss_cons (ps_set (i := 4) sc_index_of_reduced.nd rfl (by first | exact Or.inl rfl | exact Or.inr rfl) (pe_op op_fdivN (pv 4) (pe_callB cd_len (by rfl) T.n_len (by decide +kernel) (pa_cons (pv 7) pa_nil)))) (pss_one (ps_aug (i := 3) sc_index_of_reduced.nd rfl (by first | exact Or.inl rfl | exact Or.inr rfl) (pe_op op_mul (pe_bm PySem.F.plainAttrs_str PySem.F.slot_str_index PySem.F.type_str_index md_sindex (pv 7) (pa_cons (pv 6) pa_nil)) (pv 4)) ip_add))))) (pss_one (ps_ret (pv 3))))))))), fun a hp => ?_⟩
  obtain ⟨r, w0⟩ := a
  obtain ⟨h1, h3, hw0⟩ : 1 ≤ r ∧ r ≤ 3 ∧ okW r 24 w0 := hp
  have L := lsOk h1 h3
  have hl := LS_len h1 h3
  have w24 := hw0.1
  have wT : Lts w0 := fun c hc => LS_LTR (hw0.2 c hc)
  show Ds _ [.dat (.int r), .dat (.str w0), .any, .any, .any, .any, .any, .any, .any] _ (fun d => ∃ i : Nat, d = .int (i : Int) ∧ NthW (LS r) i (fold w0)) _ _
  repeat walk_at "dl"
  refine ⟨r, rfl, ⟨h1, h3⟩, fun d hd => ?_⟩
  obtain rfl : d = .non := hd
  repeat walk_at "dl"
  refine ⟨(w0, r, [119, 111, 114, 100]), rfl, ⟨h1, h3, hw0.1, hw0.2⟩, fun d hd => ?_⟩
  obtain rfl : d = .non := hd
  repeat walk_at "dl"
  refine ⟨w0, rfl, ⟨wT, by omega⟩, fun d hd => ?_⟩
  obtain rfl : d = .str (fold w0) := hd
  try dsimp only [List.set]
  repeat walk_at "dl"
  have fl := fold_len w0
  have fr := fold_red wT
  have fL : ∀ c ∈ fold w0, c ∈ LS r := fold_in hw0.2
  generalize fold w0 = w at fl fr fL
  refine ds_set ?_
  repeat walk_at "de"
  refine de_ofN (den_lc (di_range1 ?_))
  repeat walk_at "de"
  refine ⟨(w.length : Int), rfl, by omega, by omega, by rw [rgI_len]; omega, fun i acc => acc = ((List.range i).map fun k => (cntW (LS r) k [] : Int)).map D.int, rfl, fun i d acc hd _ ha => ?_, fun acc ha => ?_⟩
  · have ht : i < ((w.length : Int)).toNat := by
      have := (List.getElem?_eq_some_iff.mp hd).1
      rwa [rgI_len] at this
    rw [rgI_get _ _ _ ht] at hd
    obtain rfl : d = .int (i : Int) := by rw [← Option.some.inj hd, Int.zero_add]
    subst ha
    try dsimp only [List.set]
    refine dt_yes (iteT ?_)
    repeat walk_at "de"
    refine ⟨(r, i), rfl, ⟨h1, h3, by show i ≤ 25; omega⟩, fun d hd => ?_⟩
    obtain rfl : d = .int (cntW (LS r) i [] : Nat) := hd
    rw [List.range_succ, List.map_append, List.map_append]
    rfl
  rw [rgI_len, show ((w.length : Int)).toNat = w.length by omega] at ha
  subst ha
  repeat walk_at "de"
  refine dcl_sum ?_
  have es : ((List.range w.length).map fun k => (cntW (LS r) k [] : Int)).sum = (bseW (LS r) w.length : Nat) := by
    unfold bseW
    generalize List.range w.length = l
    induction l with
    | nil => rfl
    | cons a l ih => rw [List.map_cons, List.sum_cons, ih, List.map_cons, List.sum_cons, Int.natCast_add]
  rw [es]
  try dsimp only [List.set]
  refine ds_seq (ds_set ?_)
  repeat walk_at "de"
  refine ⟨(r, w.length), rfl, ⟨h1, h3, by show w.length ≤ 25; omega⟩, fun d hd => ?_⟩
  obtain rfl : d = .int (cntW (LS r) w.length [] : Nat) := hd
  try dsimp only [List.set]
  refine ds_seq (ds_for (di_es ?_))
  repeat walk_at "de"
  refine ⟨w, rfl, fun j e => ∃ (k : Nat) (x y z : Sl), e = [.dat (.int r), .dat (.str w0), .dat (.str w), .dat (.int ((bseW (LS r) w.length + k : Nat) : Int)), .dat (.int (cntW (LS r) (w.length - j) (w.take j) : Nat)), x, y, z, .any] ∧ k + cntW (LS r) (w.length - j) (w.take j) ≤ cntW (LS r) w.length [] ∧ ∀ i, i < cntW (LS r) (w.length - j) (w.take j) → (extW (LS r) w.length [])[k + i]? = (extW (LS r) (w.length - j) (w.take j))[i]?, ⟨0, _, _, _, rfl, by rw [Nat.zero_add]; exact Nat.le_refl _, fun i _ => by rw [Nat.zero_add]; rfl⟩, fun j d e hd he => ?_, fun e he => ?_⟩
  · obtain ⟨k, x, y, z, rfl, hle, hat⟩ := he
    obtain ⟨d0, hd0, rfl⟩ := enD_get hd
    obtain ⟨c, hc, rfl⟩ := sign_at hd0
    have hj : j < w.length := (List.getElem?_eq_some_iff.mp hc).1
    obtain ⟨m, hm⟩ : ∃ m, w.length - j = m + 1 := ⟨w.length - j - 1, by omega⟩
    have hm2 : w.length - (j + 1) = m := by omega
    have hcl : c ∈ LS r := fL c (List.mem_of_getElem? hc)
    have tL : ∀ c ∈ w.take j, c ∈ LS r := fun c hc => fL c (List.mem_of_mem_take hc)
    have tk : w.take (j + 1) = w.take j ++ [c] := by rw [List.take_add_one, hc]; rfl
    have rd : red (w.take (j + 1)) := by
      have := fr
      rw [← List.take_append_drop (j + 1) w] at this
      exact (red_append.mp this).1
    have cch : c ∈ chW (LS r) (w.take j) := by
      rw [tk] at rd
      exact List.mem_filter.mpr ⟨hcl, decide_eq_true ((redW_snoc (LS_LTR hcl)).mp rd).2⟩
    obtain ⟨p, hp⟩ := List.mem_iff_getElem?.mp cch
    have hpl := (List.getElem?_eq_some_iff.mp hp).1
    rw [hm] at hle hat
    have cst := cntW_step L tL m c
    have cpos := cntW_pos L m (w.take j ++ [c])
    have clen := chW_len2 L tL
    have cl0 : 0 < (chW (LS r) (w.take j)).length := by omega
    have cl6 : (chW (LS r) (w.take j)).length ≤ 6 := by rw [clen]; split <;> omega
    have cb := cntW_b h1 h3 (show m ≤ 25 by omega) (w.take j ++ [c])
    have tl : (w.take j).length ≤ 24 := by rw [List.length_take]; omega
    dsimp only
    rw [hm, hm2, tk]
    refine dg_tup rfl (dgs_cons (dg_name (dgs_cons (dg_name (dgs_nil ?_)))))
    try dsimp only [List.set]
    refine ds_seq (ds_set ?_)
    repeat walk_at "de"
    rw [show ((j : Int)).toNat = j by omega]
    refine ⟨(r, w.take j), rfl, ⟨h1, h3, by show (w.take j).length ≤ 1000; omega⟩, fun d hd => ?_⟩
    obtain rfl : d = .str (chW (LS r) (w.take j)) := hd
    try dsimp only [List.set]
    refine ds_seq (ds_set ?_)
    repeat walk_at "de"
    refine dop_i ⟨by omega, by omega⟩ ?_
    have q1 : ((cntW (LS r) (m + 1) (w.take j) : Nat) : Int).fdiv ((chW (LS r) (w.take j)).length : Int) = (cntW (LS r) m (w.take j ++ [c]) : Nat) := by
      rw [Int.fdiv_eq_ediv_of_nonneg _ (by omega), cst, Int.natCast_mul, Int.mul_ediv_cancel_left _ (by omega)]
    rw [q1]
    try dsimp only [List.set]
    refine ds_aug rfl ?_
    repeat walk_at "de"
    refine ⟨rfl, ?_⟩
    repeat walk_at "de"
    refine dmt_sindex (chW_ix h1 h3 tL hp) ?_
    repeat walk_at "de"
    have hpp : (p + 1) * cntW (LS r) m (w.take j ++ [c]) ≤ (chW (LS r) (w.take j)).length * cntW (LS r) m (w.take j ++ [c]) := Nat.mul_le_mul_right _ hpl
    rw [Nat.succ_mul] at hpp
    rw [← Int.natCast_mul, ← Int.natCast_add, Nat.add_assoc]
    refine ⟨k + p * cntW (LS r) m (w.take j ++ [c]), _, _, _, rfl, by omega, fun i hi => ?_⟩
    rw [Nat.add_assoc, hat _ (by omega)]
    exact extW_at L tL hp hi
  · obtain ⟨k, x, y, z, rfl, hle, hat⟩ := he
    rw [enD_len, List.length_map, Nat.sub_self, List.take_length] at hat hle
    have h0 : cntW (LS r) 0 w = 1 := by unfold cntW; split <;> simp
    have h := hat 0 (by omega)
    rw [Nat.add_zero] at h
    refine ds_ret (de_var rfl ⟨_, rfl, ⟨k, by rw [h]; rfl, rfl, by omega⟩⟩)
-- count_reduced
def fs_count_reduced : FS := ⟨Int × Nat, fun a => [.int a.1, .int (a.2 : Int)], fun a => 1 ≤ a.1 ∧ a.1 ≤ 3 ∧ a.2 ≤ 24, fun a d => d = .int (cntW (LS a.1) a.2 [] : Nat)⟩
theorem ok_count_reduced (T : Txt mg) (d_count_reduced : Df K mg "count_reduced" s_count_reduced ["rank", "length"]) (c_check_integer : C8.Cal P w K mg base 2 "check_integer" (PF fs_check_integer) []) (c_check_rank : C8.Cal P w K mg base 3 "check_rank" (PF fs_check_rank) []) (c_how_many : C8.Cal P w K mg base 1 "how_many" (PF fs_how_many) []) : C8.Cal P w K mg base 4 "count_reduced" (PF fs_count_reduced) [] := by
  refine df_cal d_count_reduced sc_count_reduced (fun _ => rfl) fun f cdv A outer s H E hr => ⟨_, (pss_cons (ps_expr (C8.pe_c c_check_rank hr (by first | decide | omega) (by rfl) (pa_cons (pv 0) pa_nil))) (pss_cons (ps_expr (C8.pe_c c_check_integer hr (by first | decide | omega) (by rfl) (pa_cons (pv 1) (pa_cons pe_int (pa_cons (C8.pe_gc (by rfl) T.g_MOST_LETTERS) (pa_cons pe_str pa_nil)))))) (pss_one (ps_ret (C8.pe_c c_how_many hr (by first | decide | omega) (by rfl) (pa_cons (pv 0) (pa_cons (pv 1) pa_nil))))))), fun a hp => ?_⟩
  obtain ⟨r, n⟩ := a
  obtain ⟨h1, h3, hn⟩ : 1 ≤ r ∧ r ≤ 3 ∧ n ≤ 24 := hp
  show Ds _ [.dat (.int r), .dat (.int (n : Int))] _ (fun d => d = .int (cntW (LS r) n [] : Nat)) _ _
  repeat walk_at "dl"
  refine ⟨r, rfl, ⟨h1, h3⟩, fun d hd => ?_⟩
  obtain rfl : d = .non := hd
  repeat walk_at "dl"
  refine ⟨((n : Int), 0, 24, [108, 101, 110, 103, 116, 104]), rfl, ⟨by show (0 : Int) ≤ (n : Int); omega, by show (n : Int) ≤ 24; omega⟩, fun d hd => ?_⟩
  obtain rfl : d = .non := hd
  repeat walk_at "dl"
  exact ⟨(r, n), rfl, ⟨h1, h3, by show n ≤ 25; omega⟩, fun d hd => hd⟩
-- src: ed781ab3ea55
def fs_law_ways : FS := ⟨Int × Nat, fun a => [.int a.1, .int (a.2 : Int)], fun a => 1 ≤ a.1 ∧ a.1 ≤ 3 ∧ a.2 ≤ 25, fun a d => d = .int (((LS a.1).length - 1) ^ a.2 : Nat)⟩
theorem ok_law_ways (T : Txt mg) (d_law_ways : Df K mg "_law_ways" s_law_ways ["rank", "many"]) : C8.Cal P w K mg base 1 "_law_ways" (PF fs_law_ways) [] := by
  refine df_cal d_law_ways sc_law_ways (fun _ => rfl) fun f cdv A outer s H E hr => ⟨_, (pss_cons (ps_set (i := 2) sc_law_ways.nd rfl (by first | exact Or.inl rfl | exact Or.inr rfl) pe_int) (pss_cons (ps_for PassesOwn.never rfl (pi_range1 (by rfl) T.n_range (pa_cons (pv 1) pa_nil)) (pg_name (i := 3) sc_law_ways.nd rfl (by first | exact Or.inl rfl | exact Or.inr rfl)) (pss_one (ps_set (i := 2) sc_law_ways.nd rfl (by first | exact Or.inl rfl | exact Or.inr rfl) (pe_op op_mul (pv 2) (pe_op op_sub (pe_op op_mul pe_int (pv 0)) pe_int))))) (pss_one (ps_ret (pv 2))))), fun a hp => ?_⟩
  obtain ⟨r, n⟩ := a
  obtain ⟨h1, h3, hn⟩ : 1 ≤ r ∧ r ≤ 3 ∧ n ≤ 25 := hp
  have hl := LS_len h1 h3
  show Ds _ [.dat (.int r), .dat (.int (n : Int)), .any, .any] _ (fun d => d = .int (((LS r).length - 1) ^ n : Nat)) _ _
  refine ds_seq (ds_set (de_int ?_))
  try dsimp only [List.set]
  refine ds_seq (ds_for (di_range1 ?_))
  repeat walk_at "de"
  refine ⟨(n : Int), rfl, by omega, by omega, fun i e => ∃ x, e = [.dat (.int r), .dat (.int (n : Int)), .dat (.int (((LS r).length - 1) ^ i : Nat)), x], ⟨_, rfl⟩, fun i d e hd he => ?_, fun e he => ?_⟩
  · obtain ⟨x, rfl⟩ := he
    refine dg_name ?_
    try dsimp only [List.set]
    refine ds_set ?_
    repeat walk_at "de"
    have e1 : 2 * r - 1 = (((LS r).length - 1 : Nat) : Int) := by omega
    rw [e1, ← Int.natCast_mul, ← Nat.pow_succ]
    exact ⟨_, rfl⟩
  · obtain ⟨x, rfl⟩ := he
    rw [rgI_len, show ((n : Int)).toNat = n by omega]
    refine ds_ret (de_var rfl rfl)
-- law k04
theorem cnt_filt {ls : List Nat} (L : LsOk ls) (n : Nat) : ∀ m, ((allW ls m).filter fun w => decide ((w.length : Int) = (n : Int))).length = if n ≤ m then cntW ls n [] else 0 := by
  have one : ∀ k, ((extW ls k []).filter fun w => decide ((w.length : Int) = (n : Int))) = if k = n then extW ls n [] else [] := fun k => by
    split
    · next h =>
      rw [h, List.filter_eq_self]
      exact fun w hw => decide_eq_true (by have := (ext_words L hw).1; omega)
    · next h =>
      rw [List.filter_eq_nil_iff]
      exact fun w hw => by have := (ext_words L hw).1; simp; omega
  intro m
  induction m with
  | zero =>
    have e0 : allW ls 0 = extW ls 0 [] := by unfold allW; simp
    rw [e0, one]
    split
    · next h => rw [← h, if_pos (by omega), extW_len L _ _ no_in]
    · next h => rw [if_neg (by omega)]; rfl
  | succ m ih =>
    rw [allW_succ, List.filter_append, List.length_append, ih, one]
    by_cases h : m + 1 = n
    · rw [if_neg (by omega), if_pos h, if_pos (by omega), extW_len L _ _ no_in, Nat.zero_add]
    · rw [if_neg h]
      by_cases h2 : n ≤ m
      · rw [if_pos h2, if_pos (by omega)]; rfl
      · rw [if_neg h2, if_neg (by omega)]; rfl
theorem bse1 : bseW (LS 1) 25 = 49 := by decide +kernel
theorem bse2 : 1000000 < bseW (LS 2) 25 ∧ bseW (LS 2) 5 ≤ 10000 := by decide +kernel
theorem bse3 : 1000000 < bseW (LS 3) 25 ∧ bseW (LS 3) 4 ≤ 10000 := by decide +kernel
theorem bse0 : bseW (LS 1) 5 ≤ 10000 := by decide +kernel
theorem ok_law {f : Addr} {fd : FuncData} (T : Txt mg) (F : Fun K "law" "law" s_law f fd) (c_law_all_reduced : C8.Cal P w K mg base 2 "_law_all_reduced" (PF fs_law_all_reduced) []) (c_law_equal : C8.Cal P w K mg base 5 "_law_equal" (PF fs_law_equal) []) (c_law_next : C8.Cal P w K mg base 1 "_law_next" (PF fs_law_next) []) (c_law_pick : C8.Cal P w K mg base 2 "_law_pick" (PF fs_law_pick) []) (c_law_reduced : C8.Cal P w K mg base 2 "_law_reduced" (PF fs_law_reduced) []) (c_law_stream : C8.Cal P w K mg base 1 "_law_stream" (spStream K) []) (c_law_told : C8.Cal P w K mg base 5 "_law_told" (PF fs_law_told) []) (c_law_ways : C8.Cal P w K mg base 1 "_law_ways" (PF fs_law_ways) []) (c_law_word : C8.Cal P w K mg base 3 "_law_word" (PF fs_law_word) []) (c_compare : C8.Cal P w K mg base 5 "compare" (PF fs_compare) []) (c_count_reduced : C8.Cal P w K mg base 4 "count_reduced" (PF fs_count_reduced) []) (c_index_of_reduced : C8.Cal P w K mg base 4 "index_of_reduced" (PF fs_index_of_reduced) []) (c_nth_reduced : C8.Cal P w K mg base 4 "nth_reduced" (PF fs_nth_reduced) []) : FnOk P w K mg base CX0 6 f fd ["script"] (spLaw K) := by
  refine F.ok sc_law (fun vs H Q E h => ?_) (fun cdv A outer s H vs Q E hr h => ⟨_, (pss_cons (ps_set (i := 1) sc_law.nd rfl (by first | exact Or.inl rfl | exact Or.inr rfl) (C8.pe_c c_law_stream hr (by first | decide | omega) (by rfl) (pa_cons (pv 0) pa_nil))) (pss_cons (ps_set (i := 2) sc_law.nd rfl (by first | exact Or.inl rfl | exact Or.inr rfl) (pe_op op_add pe_int (C8.pe_c c_law_next hr (by first | decide | omega) (by rfl) (pa_cons (pv 1) (pa_cons pe_int pa_nil))))) (pss_cons (ps_set (i := 3) sc_law.nd rfl (by first | exact Or.inl rfl | exact Or.inr rfl) (C8.pe_c c_law_all_reduced hr (by first | decide | omega) (by rfl) (pa_cons (pv 2) (pa_cons (pe_op op_sub pe_int (pe_callTy cd_int (by rfl) T.n_int (by decide +kernel) (pa_cons (pe_cmpR op_eq (pv 2) pe_int (nomark _)) pa_nil))) pa_nil)))) (pss_cons (ps_for PassesOwn.never rfl (pi_range1 (by rfl) T.n_range (pa_cons pe_int pa_nil)) (pg_name (i := 4) sc_law.nd rfl (by first | exact Or.inl rfl | exact Or.inr rfl)) (pss_one (ps_if (pt_not (pt_val (C8.pe_c c_law_equal hr (by first | decide | omega) (by rfl) (pa_cons (C8.pe_c c_count_reduced hr (by first | decide | omega) (by rfl) (pa_cons (pv 2) (pa_cons (pv 4) pa_nil))) (pa_cons (pe_callB cd_len (by rfl) T.n_len (by decide +kernel) (pa_cons (pe_lc (own := [("word", 10)]) rfl sc_law.nd (pi_list (pv 3)) (blkOk_by (N := n_law) (sc := defScope s_law) (own := [("word", 10)]) (by decide +kernel)) (fun _ _ _ _ _ => (pg_name (i := 10) sc_law.nd rfl (by first | exact Or.inl rfl | exact Or.inr rfl))) (fun _ _ _ _ _ => (pts_one (pt_cmpR op_eq (pe_callB (show CallR _ (.builtin "len") (DL.rLen K) by exact cd_len) (by rfl) T.n_len (by decide +kernel) (pa_cons (pv 10) pa_nil)) (pv 4) (nomark _)))) (fun _ _ _ _ _ => (pv 10))) pa_nil)) pa_nil))))) (pss_one (ps_ret pe_bl)) pss_nil))) (pss_cons (ps_for PassesOwn.never rfl (pi_range1 (by rfl) T.n_range (pa_cons pe_int pa_nil)) (pg_name (i := 5) sc_law.nd rfl (by first | exact Or.inl rfl | exact Or.inr rfl)) (pss_cons (ps_set (i := 6) sc_law.nd rfl (by first | exact Or.inl rfl | exact Or.inr rfl) (C8.pe_c c_law_next hr (by first | decide | omega) (by rfl) (pa_cons (pv 1) (pa_cons (pe_callB cd_len (by rfl) T.n_len (by decide +kernel) (pa_cons (pv 3) pa_nil)) pa_nil)))) (pss_one (ps_if (pt_not (pt_val (C8.pe_c c_law_equal hr (by first | decide | omega) (by rfl) (pa_cons (pe_lst (pa_cons (C8.pe_c c_nth_reduced hr (by first | decide | omega) (by rfl) (pa_cons (pv 2) (pa_cons (pv 6) pa_nil))) (pa_cons (C8.pe_c c_index_of_reduced hr (by first | decide | omega) (by rfl) (pa_cons (pv 2) (pa_cons (pe_ix ix_list (pv 3) (pv 6) (fun _ _ => rfl)) pa_nil))) pa_nil))) (pa_cons (pe_lst (pa_cons (pe_ix ix_list (pv 3) (pv 6) (fun _ _ => rfl)) (pa_cons (pv 6) pa_nil))) pa_nil))))) (pss_one (ps_ret pe_bl)) pss_nil)))) (pss_cons (ps_set (i := 7) sc_law.nd rfl (by first | exact Or.inl rfl | exact Or.inr rfl) (C8.pe_c c_law_pick hr (by first | decide | omega) (by rfl) (pa_cons (pv 1) (pa_cons (pe_lst (pa_cons (C8.pe_c c_law_next hr (by first | decide | omega) (by rfl) (pa_cons (pv 1) (pa_cons pe_int pa_nil))) (pa_cons (C8.pe_c c_law_next hr (by first | decide | omega) (by rfl) (pa_cons (pv 1) (pa_cons pe_int pa_nil))) (pa_cons pe_int (pa_cons (pe_op op_sub pe_int (C8.pe_c c_law_next hr (by first | decide | omega) (by rfl) (pa_cons (pv 1) (pa_cons pe_int pa_nil)))) (pa_cons pe_int (pa_cons pe_int pa_nil))))))) pa_nil)))) (pss_cons (ps_set (i := 8) sc_law.nd rfl (by first | exact Or.inl rfl | exact Or.inr rfl) (C8.pe_c c_law_told hr (by first | decide | omega) (by rfl) (pa_cons (pv 2) (pa_cons (pv 7) pa_nil)))) (pss_cons (ps_if (PW.pt (pw_and (pt_cmpR op_eq (pv 2) pe_int (nomark _)) (pw_and1 (pt_cmpR op_gt (pv 7) pe_int (nomark _))))) (pss_one (ps_ret (pe_cmpR (op_eqD hr.units) (pv 8) (pe_lst (pa_cons pe_str pa_nil)) (nomark _)))) pss_nil) (pss_cons (ps_if (PW.pt (pw_or (pt_not (pt_val (pe_callB cd_isi (by rfl) T.n_isinstance (by decide +kernel) (pa_cons (pv 8) (pa_cons (pe_bltn (v := .ty "str") (by rfl) T.n_str (by decide +kernel) rfl) pa_nil))))) (pw_or (pt_cmpR op_ne (pv 8) (C8.pe_c c_law_reduced hr (by first | decide | omega) (by rfl) (pa_cons (pv 8) pa_nil)) (nomark _)) (pw_or1 (pt_not (pt_val (C8.pe_c c_law_equal hr (by first | decide | omega) (by rfl) (pa_cons (C8.pe_c c_index_of_reduced hr (by first | decide | omega) (by rfl) (pa_cons (pv 2) (pa_cons (pv 8) pa_nil))) (pa_cons (pv 7) pa_nil))))))))) (pss_one (ps_ret pe_bl)) pss_nil) (pss_cons (ps_set (i := 9) sc_law.nd rfl (by first | exact Or.inl rfl | exact Or.inr rfl) (C8.pe_c c_law_told hr (by first | decide | omega) (by rfl) (pa_cons (pv 2) (pa_cons (pe_callB (cd_min2 rfl) (by rfl) T.n_min (by decide +kernel) (pa_cons (pe_op op_add (pv 7) pe_int) (pa_cons pe_int pa_nil))) pa_nil)))) (pss_cons (ps_if (PW.pt (pw_and (pt_val (pe_callB cd_isi (by rfl) T.n_isinstance (by decide +kernel) (pa_cons (pv 9) (pa_cons (pe_bltn (v := .ty "str") (by rfl) T.n_str (by decide +kernel) rfl) pa_nil)))) (pw_and1 (pt_cmpR op_ne (C8.pe_c c_compare hr (by first | decide | omega) (by rfl) (pa_cons (pv 8) (pa_cons (pv 9) pa_nil))) (pe_ifExp (pt_cmpR op_lt (pv 7) pe_int (nomark _)) (pe_op op_sub pe_int pe_int) pe_int) (nomark _))))) (pss_one (ps_ret pe_bl)) pss_nil) (pss_cons (ps_set (i := 10) sc_law.nd rfl (by first | exact Or.inl rfl | exact Or.inr rfl) (C8.pe_c c_law_word hr (by first | decide | omega) (by rfl) (pa_cons (pv 1) (pa_cons (pv 2) (pa_cons pe_int pa_nil))))) (pss_cons (ps_set (i := 11) sc_law.nd rfl (by first | exact Or.inl rfl | exact Or.inr rfl) (C8.pe_c c_law_reduced hr (by first | decide | omega) (by rfl) (pa_cons (pv 10) pa_nil))) (pss_cons (ps_set (i := 12) sc_law.nd rfl (by first | exact Or.inl rfl | exact Or.inr rfl) (pe_callB (cr_sum rfl) (by rfl) T.n_sum (by decide +kernel) (pa_cons (pe_lc (own := [("length", 4)]) rfl sc_law.nd (pi_range1 (by rfl) T.n_range (pa_cons (pe_callB cd_len (by rfl) T.n_len (by decide +kernel) (pa_cons (pv 11) pa_nil)) pa_nil)) (blkOk_by (N := n_law) (sc := defScope s_law) (own := [("length", 4)]) (by decide +kernel)) (fun _ _ _ _ _ => (pg_name (i := 4) sc_law.nd rfl (by first | exact Or.inl rfl | exact Or.inr rfl))) (fun _ _ _ _ _ => pts_nil) (fun _ _ _ _ _ => (pe_ifExp (pt_cmpR op_gt (pv 4) pe_int (nomark _)) (pe_op op_mul (pe_op op_mul pe_int (pv 2)) (C8.pe_c c_law_ways hr (by first | decide | omega) (by rfl) (pa_cons (pv 2) (pa_cons (pe_op op_sub (pv 4) pe_int) pa_nil)))) pe_int))) pa_nil))) (pss_one (ps_ret (pe_and (pe_cmpR op_eq (C8.pe_c c_index_of_reduced hr (by first | decide | omega) (by rfl) (pa_cons (pv 2) (pa_cons (pv 10) pa_nil))) (C8.pe_c c_index_of_reduced hr (by first | decide | omega) (by rfl) (pa_cons (pv 2) (pa_cons (pv 11) pa_nil))) (nomark _)) (pe_one (pe_chain op_le op_lt (pv 12) (C8.pe_c c_index_of_reduced hr (by first | decide | omega) (by rfl) (pa_cons (pv 2) (pa_cons (pv 10) pa_nil))) (pe_op op_add (pv 12) (C8.pe_c c_count_reduced hr (by first | decide | omega) (by rfl) (pa_cons (pv 2) (pa_cons (pe_callB cd_len (by rfl) T.n_len (by decide +kernel) (pa_cons (pv 11) pa_nil)) pa_nil))))))))))))))))))))))), law_read rfl ?_ vs H Q E h⟩)
  · obtain ⟨a, ns, rfl, _⟩ := h
    rfl
  show Ds _ [.any, .dat .stm, .any, .any, .any, .any, .any, .any, .any, .any, .any, .any, .any] _ _ _ _
  refine ds_seq (ds_set ?_)
  repeat walk_at "de"
  refine ⟨(3 : Int), rfl, ⟨by decide, by decide⟩, fun d hd => ?_⟩
  obtain ⟨i, rfl, i1, i2⟩ := hd
  repeat walk_at "de"
  try dsimp only [List.set]
  obtain ⟨r, hr⟩ : ∃ r : Int, r = 1 + i := ⟨_, rfl⟩
  rw [← hr]
  have h1 : 1 ≤ r := by omega
  have h3 : r ≤ 3 := by omega
  have L := lsOk h1 h3
  have hl := LS_len h1 h3
  refine ds_seq (ds_set ?_)
  repeat walk_at "de"
  obtain ⟨m, hm⟩ : ∃ m : Nat, 4 - (if decide (r = 3) = true then 1 else 0) = (m : Int) := by
    by_cases z : r = 3
    · exact ⟨3, by rw [decide_eq_true z]; rfl⟩
    · exact ⟨4, by rw [decide_eq_false z]; rfl⟩
  have hm34 : 3 ≤ m ∧ m ≤ 4 ∧ (r = 3 → m = 3) := by
    by_cases z : r = 3
    · rw [decide_eq_true z, if_pos rfl] at hm; omega
    · rw [decide_eq_false z, if_neg (by decide)] at hm; omega
  have hbm : bseW (LS r) (m + 1) ≤ 10000 := by
    rcases rng3 h1 h3 with rfl | rfl | rfl
    · exact Nat.le_trans (bseW_mono (show m + 1 ≤ 5 by omega)) bse0
    · exact Nat.le_trans (bseW_mono (show m + 1 ≤ 5 by omega)) bse2.2
    · exact Nat.le_trans (bseW_mono (show m + 1 ≤ 4 by have := hm34.2.2 rfl; omega)) bse3.2
  rw [hm]
  refine ⟨(r, m), rfl, ⟨h1, h3, by show m ≤ 7; omega, hbm⟩, fun d hd => ?_⟩
  obtain rfl : d = .lst ((allW (LS r) m).map D.str) := hd
  have alen := allW_len L m
  have b25 : bseW (LS r) (m + 1) ≤ bseW (LS r) 25 := bseW_mono (by omega)
  have apos : 0 < bseW (LS r) (m + 1) := by rw [bseW_succ]; have := cntW_pos L m []; omega
  try dsimp only [List.set]
  refine ds_seq (ds_for (di_range1 ?_))
  repeat walk_at "de"
  refine ⟨(4 : Int), rfl, by decide, by decide, fun i e => ∃ x y z u v a b c f, e = [.any, .dat .stm, .dat (.int r), .dat (.lst ((allW (LS r) m).map D.str)), x, y, z, u, v, a, b, c, f], ⟨_, _, _, _, _, _, _, _, _, rfl⟩, fun i d e hd he => ?_, fun e he => ?_⟩
  · obtain ⟨x, y, z, u, v, a, b, c, f', rfl⟩ := he
    have ht : i < Int.toNat 4 := by
      have := (List.getElem?_eq_some_iff.mp hd).1
      rwa [rgI_len] at this
    rw [rgI_get _ _ _ ht] at hd
    obtain rfl : d = .int (i : Int) := by rw [← Option.some.inj hd, Int.zero_add]
    have hi4 : i < 4 := ht
    refine dg_name ?_
    try dsimp only [List.set]
    refine ds_if ?_
    repeat walk_at "de"
    refine ⟨(r, i), rfl, ⟨h1, h3, by show i ≤ 24; omega⟩, fun d hd => ?_⟩
    obtain rfl : d = .int (cntW (LS r) i [] : Nat) := hd
    repeat walk_at "de"
    refine de_ofN (den_lc (di_list (de_var rfl ⟨(allW (LS r) m).map D.str, rfl, by rw [List.length_map]; omega, fun k acc => acc = (((allW (LS r) m).take k).filter fun w => decide ((w.length : Int) = (i : Int))).map D.str, rfl, fun k d acc hd _ ha => ?_, fun acc ha => ?_⟩)))
    · rw [List.getElem?_map] at hd
      obtain ⟨w, hw, rfl⟩ := Option.map_eq_some_iff.mp hd
      have hwl : w.length ≤ 24 := by have := (allW_nth L m hw).len; have h2 : w.length < 25 := by
                                       rcases Nat.lt_or_ge w.length (m + 1) with z | z
                                       · omega
                                       · have := bseW_mono (ls := LS r) z
                                         have hk := (List.getElem?_eq_some_iff.mp hw).1
                                         omega
                                     omega
      subst ha
      have sn : (((allW (LS r) m).take (k + 1)).filter fun w => decide ((w.length : Int) = (i : Int))) = (((allW (LS r) m).take k).filter fun w => decide ((w.length : Int) = (i : Int))) ++ if decide ((w.length : Int) = (i : Int)) = true then [w] else [] := by
        rw [List.take_add_one, hw, List.filter_append, Option.toList_some]
        congr 1
        by_cases z : (w.length : Int) = (i : Int) <;> simp [z]
      dsimp only
      rw [sn]
      repeat walk_at "de"
      by_cases z : (w.length : Int) = (i : Int)
      · rw [decide_eq_true z]
        refine iteT (de_var rfl ?_)
        simp
      · rw [decide_eq_false z]
        refine iteF ?_
        simp
    rw [List.length_map, List.take_length] at ha
    subst ha
    have cf := cnt_filt L i m
    rw [if_pos (by omega)] at cf
    have cl : ((((allW (LS r) m).filter fun w => decide ((w.length : Int) = (i : Int))).map D.str)).length = cntW (LS r) i [] := by rw [List.length_map, cf]
    refine da_nil (dcl_len rfl (by rw [cl, ← cf]; exact Nat.le_trans (List.length_filter_le _ _) (by omega)) ?_)
    rw [cl]
    repeat walk_at "de"
    refine ⟨.int (cntW (LS r) i [] : Nat), rfl, trivial, fun d hd => ?_⟩
    obtain rfl : d = .bl true := hd
    repeat walk_at "de"
    exact ds_next ⟨_, _, _, _, _, _, _, _, _, rfl⟩
  · obtain ⟨x, y, z, u, v, a, b, c, f', rfl⟩ := he
    refine ds_seq (ds_for (di_range1 ?_))
    repeat walk_at "de"
    refine ⟨(12 : Int), rfl, by decide, by decide, fun i e => ∃ x y z u v a b c f, e = [.any, .dat .stm, .dat (.int r), .dat (.lst ((allW (LS r) m).map D.str)), x, y, z, u, v, a, b, c, f], ⟨_, _, _, _, _, _, _, _, _, rfl⟩, fun i d e hd he => ?_, fun e he => ?_⟩
    · obtain ⟨x, y, z, u, v, a, b, c, f', rfl⟩ := he
      refine dg_name ?_
      try dsimp only [List.set]
      refine ds_seq (ds_set ?_)
      repeat walk_at "de"
      refine ⟨((bseW (LS r) (m + 1) : Nat) : Int), by rw [List.length_map, alen]; rfl, ⟨by omega, by omega⟩, fun d' hd' => ?_⟩
      obtain ⟨k0, rfl, k1, k2⟩ := hd'
      obtain ⟨k, rfl⟩ : ∃ k : Nat, k0 = (k : Int) := ⟨k0.toNat, by omega⟩
      have hk : k < (allW (LS r) m).length := by omega
      have hw := List.getElem?_eq_getElem hk
      generalize (allW (LS r) m)[k] = w at hw
      have N := allW_nth L m hw
      obtain ⟨Nr, NL⟩ := N.red L
      have NT : Lts w := fun c hc => LS_LTR (NL c hc)
      have hwl : w.length ≤ 24 := by
        have := N.len
        rcases Nat.lt_or_ge w.length (m + 1) with z | z
        · omega
        · have := bseW_mono (ls := LS r) z
          omega
      try dsimp only [List.set]
      refine ds_if ?_
      repeat walk_at "de"
      refine ⟨(r, k), rfl, ⟨h1, h3, by show k ≤ 1000000; omega, by show k < bseW (LS r) 25; omega⟩, fun d' hd' => ?_⟩
      obtain ⟨w', rfl, N', _⟩ := hd'
      obtain rfl : w' = w := N'.same N
      repeat walk_at "de"
      refine dop_ixl (c := .str w') (atI_at (by omega) (by rw [show ((k : Int)).toNat = k by omega, List.getElem?_map, hw]; rfl)) ?_
      repeat walk_at "de"
      refine ⟨(r, w'), rfl, ⟨h1, h3, hwl, NL⟩, fun d' hd' => ?_⟩
      obtain ⟨k', rfl, N2⟩ := hd'
      rw [show ((r, w') : Int × List Nat).2 = w' from rfl, fold_id NT Nr] at N2
      obtain rfl : k' = k := N2.uniq L N
      repeat walk_at "de"
      refine dop_ixl (c := .str w') (atI_at (by omega) (by rw [show ((k' : Int)).toNat = k' by omega, List.getElem?_map, hw]; rfl)) ?_
      repeat walk_at "de"
      refine ⟨.lst [.str w', .int (k' : Int)], rfl, ⟨by simp, fun d hd => ?_⟩, fun d' hd' => ?_⟩
      · simp only [List.mem_cons, List.not_mem_nil, or_false] at hd
        rcases hd with rfl | rfl
        · show w'.length ≤ 100000; omega
        · trivial
      · obtain rfl : d' = .bl true := hd'
        repeat walk_at "de"
        exact ds_next ⟨_, _, _, _, _, _, _, _, _, rfl⟩
    · obtain ⟨x, y, z, u, v, a, b, c, f', rfl⟩ := he
      repeat walk_at "dl"
      refine ⟨(60 : Int), rfl, ⟨by decide, by decide⟩, fun d hd => ?_⟩
      obtain ⟨j1, rfl, j1a, j1b⟩ := hd
      repeat walk_at "dl"
      refine ⟨(3000 : Int), rfl, ⟨by decide, by decide⟩, fun d hd => ?_⟩
      obtain ⟨j2, rfl, j2a, j2b⟩ := hd
      repeat walk_at "dl"
      refine ⟨(900000 : Int), rfl, ⟨by decide, by decide⟩, fun d hd => ?_⟩
      obtain ⟨j3, rfl, j3a, j3b⟩ := hd
      repeat walk_at "dl"
      refine ⟨[.int j1, .int j2, .int 1000000, .int (999999 - j3), .int 48, .int 49], rfl, ⟨by show 0 < 6; decide, by show 6 < 1000000; decide⟩, fun d hd => ?_⟩
      obtain ⟨ix, rfl, ix1⟩ : ∃ ix : Nat, d = .int (ix : Int) ∧ ix ≤ 1000000 := by
        have hd : d ∈ [D.int j1, .int j2, .int 1000000, .int (999999 - j3), .int 48, .int 49] := hd
        simp only [List.mem_cons, List.not_mem_nil, or_false] at hd
        rcases hd with rfl | rfl | rfl | rfl | rfl | rfl
        · exact ⟨j1.toNat, by rw [show ((j1.toNat : Nat) : Int) = j1 by omega], by omega⟩
        · exact ⟨j2.toNat, by rw [show ((j2.toNat : Nat) : Int) = j2 by omega], by omega⟩
        · exact ⟨1000000, rfl, by omega⟩
        · exact ⟨(999999 - j3).toNat, by rw [show (((999999 - j3).toNat : Nat) : Int) = 999999 - j3 by omega], by omega⟩
        · exact ⟨48, rfl, by omega⟩
        · exact ⟨49, rfl, by omega⟩
      try dsimp only [List.set]
      repeat walk_at "dl"
      refine ⟨(r, ix), rfl, ⟨h1, h3, ix1⟩, fun d hd => ?_⟩
      have hd : nthD r ix d := hd
      try dsimp only [List.set]
      refine ds_seq (ds_mid (fun e => e = [.any, .dat .stm, .dat (.int r), .dat (.lst ((allW (LS r) m).map D.str)), x, y, z, .dat (.int (ix : Int)), .dat d, a, b, c, f'] ∧ ix < bseW (LS r) 25) (ds_if (dt_and ?_)) fun e he => ?_)
      · repeat walk_at "de"
        by_cases r1 : r = 1
        · subst r1
          rw [decide_eq_true rfl]
          refine iteT ?_
          repeat walk_at "de"
          rw [show bseW (LS 1) 25 = 49 from bse1]
          by_cases g48 : (48 : Int) < (ix : Int)
          · rw [decide_eq_true g48]
            refine iteT (ds_ret ?_)
            rcases hd with ⟨z, _⟩ | ⟨_, rfl⟩
            · rw [bse1] at z; omega
            · repeat walk_at "de"
              refine dop_eqG 5 (by decide) rfl rfl ?_
              exact congrArg D.bl (eqv_same 5 rfl)
          · rw [decide_eq_false g48]
            exact iteF (ds_next ⟨rfl, by omega⟩)
        · rw [decide_eq_false r1]
          refine iteF (iteF (ds_next ⟨rfl, ?_⟩))
          rcases rng3 h1 h3 with rfl | rfl | rfl
          · exact absurd rfl r1
          · exact Nat.lt_of_le_of_lt ix1 bse2.1
          · exact Nat.lt_of_le_of_lt ix1 bse3.1
      · obtain ⟨rfl, hlt⟩ := he
        obtain ⟨w, rfl, N, hwl⟩ : ∃ w, d = .str w ∧ NthW (LS r) ix w ∧ w.length ≤ 24 := by
          rcases hd with ⟨_, z⟩ | ⟨z, _⟩
          · exact z
          · omega
        obtain ⟨Nr, NL⟩ := N.red L
        have NT : Lts w := fun c hc => LS_LTR (NL c hc)
        have fw := fold_id NT Nr
        refine ds_seq (ds_if (dt_or ?_))
        repeat walk_at "de"
        refine ⟨w, rfl, ⟨NT, by omega⟩, fun d hd => ?_⟩
        obtain rfl : d = .str (fold w) := hd
        repeat walk_at "de"
        rw [fw, decide_eq_true rfl]
        refine iteF ?_
        repeat walk_at "de"
        refine ⟨(r, w), rfl, ⟨h1, h3, hwl, NL⟩, fun d' hd' => ?_⟩
        obtain ⟨k', rfl, N2⟩ := hd'
        rw [show ((r, w) : Int × List Nat).2 = w from rfl, fw] at N2
        obtain rfl : k' = ix := N2.uniq L N
        repeat walk_at "de"
        refine ⟨.int (k' : Int), rfl, trivial, fun d' hd' => ?_⟩
        obtain rfl : d' = .bl true := hd'
        repeat walk_at "de"
        refine ds_next ?_
        refine ds_seq (ds_set ?_)
        repeat walk_at "de"
        refine dcl_min2 ?_
        obtain ⟨jx, hjx, hj1⟩ : ∃ jx : Nat, (if (1000000 : Int) < (k' : Int) + 1 then (1000000 : Int) else (k' : Int) + 1) = (jx : Int) ∧ ((k' < 1000000 ∧ jx = k' + 1) ∨ (k' = 1000000 ∧ jx = k')) := by
          by_cases z : (1000000 : Int) < (k' : Int) + 1
          · exact ⟨k', by rw [if_pos z]; omega, .inr ⟨by omega, rfl⟩⟩
          · exact ⟨k' + 1, by rw [if_neg z]; omega, .inl ⟨by omega, rfl⟩⟩
        rw [hjx]
        repeat walk_at "de"
        refine ⟨(r, jx), rfl, ⟨h1, h3, by show jx ≤ 1000000; omega⟩, fun d hd2 => ?_⟩
        have hd2 : nthD r jx d := hd2
        try dsimp only [List.set]
        refine ds_seq (ds_mid (fun e => e = [.any, .dat .stm, .dat (.int r), .dat (.lst ((allW (LS r) m).map D.str)), x, y, z, .dat (.int (k' : Int)), .dat (.str w), .dat d, b, c, f']) (ds_if (dt_and ?_)) fun e he => ?_)
        · rcases hd2 with ⟨_, w2, rfl, N3, hwl2⟩ | ⟨_, rfl⟩
          · obtain ⟨Nr2, NL2⟩ := N3.red L
            have NT2 : Lts w2 := fun c hc => LS_LTR (NL2 c hc)
            have key1 : (k' : Int) < 1000000 → cmpW w w2 = -1 := fun z => by
              have lt := N.lt L N3 (by omega)
              have ns : ¬ sameK w w2 := fun sm => by
                have e : ltW w w2 = ltW w2 w2 := by unfold ltW; rw [sm.2, show w.length = w2.length by have := sm.1; omega]
                rw [lt, ltW_irr] at e
                cases e
              exact cmp_m.mpr ⟨ns, lt⟩
            have key2 : ¬ (k' : Int) < 1000000 → cmpW w w2 = 0 := fun z => by
              rw [show jx = k' by omega] at N3
              rw [N3.same N, cmp_self]
            clear hj1 hjx
            repeat walk_at "de"
            refine ⟨(w, w2), rfl, ⟨NT, hwl, NT2, hwl2⟩, fun d hd => ?_⟩
            obtain rfl : d = .int (cmpW w w2) := hd
            obtain ⟨N6, hN6⟩ : ∃ N6 : Int, N6 = 1000000 := ⟨_, rfl⟩
            rw [← hN6] at key1 key2
            refine de_if (dt_test (de_op (de_var rfl (de_mono (post := fun d => d = .int 1000000) (de_int rfl) fun d hd => ?_))))
            rw [← hN6] at hd
            subst hd
            refine dop_b0 ⟨_, rfl, ?_⟩
            by_cases z1 : (k' : Int) < N6
            · rw [decide_eq_true z1, key1 z1]
              refine iteT ?_
              repeat walk_at "de"
              exact ds_next rfl
            · rw [decide_eq_false z1, key2 z1]
              refine iteF ?_
              repeat walk_at "de"
              exact ds_next rfl
          · refine dt_B (de_cb (da_cons (de_var rfl (da_cons (de_ty (da_nil (dcl_isib false rfl (by simp) rfl ⟨_, rfl, ?_⟩)))))))
            exact iteF (iteF (ds_next rfl))
        · subst he
          repeat walk_at "dl"
          refine ⟨(r, (24 : Int)), rfl, ⟨h1, h3, by show (0 : Int) ≤ 24; decide, by show (24 : Int) ≤ 100; decide⟩, fun d' hd' => ?_⟩
          obtain ⟨u, rfl, u24, ul⟩ := hd'
          have u24 : (u.length : Int) ≤ 24 := u24
          have uT : Lts u := fun c hc => LS_LTR (ul c hc)
          repeat walk_at "dl"
          refine ⟨u, rfl, ⟨uT, by omega⟩, fun d' hd' => ?_⟩
          obtain rfl : d' = .str (fold u) := hd'
          have sl := fold_len u
          have sL : ∀ c ∈ fold u, c ∈ LS r := fold_in ul
          have sT : Lts (fold u) := fold_lts uT
          have ss : fold (fold u) = fold u := fold_fold uT
          generalize hsu : fold u = s1 at sl sL sT ss
          try dsimp only [List.set]
          refine ds_seq (ds_set ?_)
          repeat walk_at "de"
          refine de_ofN (den_lc (di_range1 ?_))
          repeat walk_at "de"
          refine ⟨(s1.length : Int), rfl, by omega, by omega, by rw [rgI_len]; omega, fun i acc => acc = ((List.range i).map fun k => (cntW (LS r) k [] : Int)).map D.int, rfl, fun i d acc hd _ ha => ?_, fun acc ha => ?_⟩
          · have ht : i < ((s1.length : Int)).toNat := by
              have := (List.getElem?_eq_some_iff.mp hd).1
              rwa [rgI_len] at this
            rw [rgI_get _ _ _ ht] at hd
            obtain rfl : d = .int (i : Int) := by rw [← Option.some.inj hd, Int.zero_add]
            subst ha
            try dsimp only [List.set]
            refine dt_yes (iteT (de_if ?_))
            repeat walk_at "de"
            by_cases i0 : i = 0
            · rw [decide_eq_false (by omega)]
              refine iteF (de_int ?_)
              rw [i0]
              rfl
            · rw [decide_eq_true (by omega)]
              refine iteT ?_
              repeat walk_at "de"
              refine ⟨(r, i - 1), by show [D.int r, D.int ((i : Int) - 1)] = [D.int r, D.int ((i - 1 : Nat) : Int)]; rw [show ((i - 1 : Nat) : Int) = (i : Int) - 1 by omega], ⟨h1, h3, by show i - 1 ≤ 25; omega⟩, fun d' hd' => ?_⟩
              obtain rfl : d' = .int (((LS r).length - 1) ^ (i - 1) : Nat) := hd'
              repeat walk_at "de"
              rw [List.range_succ, List.map_append, List.map_append, ← hl, ← Int.natCast_mul]
              show _ = _ ++ [D.int (cntW (LS r) i [] : Nat)]
              unfold cntW
              rw [if_pos rfl, if_neg i0]
          rw [rgI_len, show ((s1.length : Int)).toNat = s1.length by omega] at ha
          subst ha
          repeat walk_at "de"
          refine dcl_sum ?_
          have es : ((List.range s1.length).map fun k => (cntW (LS r) k [] : Int)).sum = (bseW (LS r) s1.length : Nat) := by
            unfold bseW
            generalize List.range s1.length = l
            induction l with
            | nil => rfl
            | cons a l ih => rw [List.map_cons, List.sum_cons, ih, List.map_cons, List.sum_cons, Int.natCast_add]
          rw [es]
          try dsimp only [List.set]
          refine ds_ret ?_
          repeat walk_at "de"
          refine ⟨(r, u), rfl, ⟨h1, h3, by show u.length ≤ 24; omega, ul⟩, fun d' hd' => ?_⟩
          obtain ⟨iu, rfl, Nu⟩ := hd'
          rw [show ((r, u) : Int × List Nat).2 = u from rfl, hsu] at Nu
          repeat walk_at "de"
          refine ⟨(r, s1), rfl, ⟨h1, h3, by show s1.length ≤ 24; omega, sL⟩, fun d' hd' => ?_⟩
          obtain ⟨is, rfl, Ns⟩ := hd'
          rw [show ((r, s1) : Int × List Nat).2 = s1 from rfl, ss] at Ns
          obtain rfl : is = iu := Ns.uniq L Nu
          have nl := Ns.len
          rw [bseW_succ] at nl
          repeat walk_at "de"
          rw [decide_eq_true rfl]
          refine iteT ?_
          repeat walk_at "de"
          refine ⟨(r, u), rfl, ⟨h1, h3, by show u.length ≤ 24; omega, ul⟩, fun d' hd' => ?_⟩
          obtain ⟨iu2, rfl, Nu2⟩ := hd'
          rw [show ((r, u) : Int × List Nat).2 = u from rfl, hsu] at Nu2
          obtain rfl : iu2 = is := Nu2.uniq L Ns
          have nl1 : bseW (LS r) s1.length ≤ iu2 := nl.1
          have nl2 : iu2 < bseW (LS r) s1.length + cntW (LS r) s1.length [] := nl.2
          repeat walk_at "de"
          repeat (first | rw [decide_eq_true (by omega)] | refine iteT ?_)
          repeat walk_at "de"
          refine ⟨(r, s1.length), rfl, ⟨h1, h3, by show s1.length ≤ 24; omega⟩, fun d' hd' => ?_⟩
          obtain rfl : d' = .int (cntW (LS r) s1.length [] : Nat) := hd'
          repeat walk_at "de"
          exact congrArg D.bl (decide_eq_true (by omega))
end
end Law
namespace Law
open PySem PySem.Spec PyProof.Rows L2 DL
theorem all_mk {l : PySem.W.OpenLaw} {w : World} {K : PySem.W.Frag} {h : Heap} {mg : Str → Option Value} {fa f : Addr} (X : K.In h) (G : h.Ns mainGlobals mg) (hfa : mg "law" = some (.ref fa)) (T : Txt mg)
    (d_law_stream : Df K mg "_law_stream" s_law_stream ["script"])
    (d_law_opposite : Df K mg "_law_opposite" s_law_opposite ["letter"])
    (d_law_all_reduced : Df K mg "_law_all_reduced" s_law_all_reduced ["rank", "most"])
    (d_law_next : Df K mg "_law_next" s_law_next ["stream", "many"])
    (d_law_pick : Df K mg "_law_pick" s_law_pick ["stream", "rows"])
    (d_is_integer : Df K mg "is_integer" s_is_integer ["value", "least", "most"])
    (d_is_rank : Df K mg "is_rank" s_is_rank ["value"])
    (d_check_rank : Df K mg "check_rank" s_check_rank ["value"])
    (d_check_integer : Df K mg "check_integer" s_check_integer ["value", "least", "most", "name"])
    (d_how_many : Df K mg "how_many" s_how_many ["rank", "length"])
    (d_letters_of : Df K mg "letters_of" s_letters_of ["rank"])
    (d_opposite : Df K mg "opposite" s_opposite ["letter"])
    (d_letters_behind : Df K mg "letters_behind" s_letters_behind ["rank", "word"])
    (d_nth_of_length : Df K mg "nth_of_length" s_nth_of_length ["rank", "length", "index"])
    (d_nth_reduced : Df K mg "nth_reduced" s_nth_reduced ["rank", "index"])
    (d_law_told : Df K mg "_law_told" s_law_told ["rank", "index"])
    (d_law_word : Df K mg "_law_word" s_law_word ["stream", "rank", "most"])
    (d_law_reduced : Df K mg "_law_reduced" s_law_reduced ["word"])
    (d_law_is_integer : Df K mg "_law_is_integer" s_law_is_integer ["actual"])
    (d_law_equal : Df K mg "_law_equal" s_law_equal ["actual", "due"])
    (d_is_spelled : Df K mg "is_spelled" s_is_spelled ["value", "rank", "most"])
    (d_check_word : Df K mg "check_word" s_check_word ["value", "rank", "name"])
    (d_check_two_words : Df K mg "check_two_words" s_check_two_words ["first", "second"])
    (d_length_order : Df K mg "length_order" s_length_order ["word"])
    (d_compare : Df K mg "compare" s_compare ["first", "second"])
    (d_folded : Df K mg "folded" s_folded ["word"])
    (d_index_of_reduced : Df K mg "index_of_reduced" s_index_of_reduced ["rank", "word"])
    (d_count_reduced : Df K mg "count_reduced" s_count_reduced ["rank", "length"])
    (d_law_ways : Df K mg "_law_ways" s_law_ways ["rank", "many"])
     (m_TooLarge : MakX K mg "TooLarge" ["what"]) (TX : Txx K mg)
    {oc kV dc pm cd ct : Value} {od an : Option Addr} {sl : Array (Option Value)} (a : PySem.W.nsIn K mainGlobals "law" = some (some (.ref f))) (lk : K.lookup f = some ⟨oc, od, .func (PySem.W.fnOf "law" "law" (defArgs s_law) (defBody s_law) (defScope s_law) .none kV dc pm an cd ct), sl⟩) (c : PySem.W.codeIn K cd "law" = true) (k : PySem.W.keepIn K (.ref f) = true) :
    ∃ fd : FuncData, (∀ (s : Shared) (v : Value), BindsTo s fd ⟨[v], []⟩ [("script", v)]) ∧ ∀ base : Heap, K.In base → base.Ns mainGlobals mg → FnOk l.prog w K mg base CX0 6 fa fd ["script"] (spLaw K) := by
  have e := hfa.symm.trans (PySem.W.mg_of X G a)
  cases e
  refine ⟨PySem.W.fnOf "law" "law" (defArgs s_law) (defBody s_law) (defScope s_law) .none kV dc pm an cd ct, fun s v => .of_eq rfl, fun base _ _ => ?_⟩
  have c_law_stream : C8.Cal l.prog w K mg base 1 "_law_stream" (spStream K) [] := ok_law_stream T d_law_stream
  have c_law_opposite : C8.Cal l.prog w K mg base 1 "_law_opposite" (PF fs_law_opposite) [] := ok_law_opposite T d_law_opposite
  have c_law_all_reduced : C8.Cal l.prog w K mg base 2 "_law_all_reduced" (PF fs_law_all_reduced) [] := ok_law_all_reduced T d_law_all_reduced c_law_opposite
  have c_law_next : C8.Cal l.prog w K mg base 1 "_law_next" (PF fs_law_next) [] := ok_law_next T d_law_next
  have c_law_pick : C8.Cal l.prog w K mg base 2 "_law_pick" (PF fs_law_pick) [] := ok_law_pick T d_law_pick c_law_next
  have c_is_integer : C8.Cal l.prog w K mg base 1 "is_integer" (PF fs_is_integer) [] := ok_is_integer T d_is_integer
  have c_is_rank : C8.Cal l.prog w K mg base 2 "is_rank" (PF fs_is_rank) [] := ok_is_rank T d_is_rank c_is_integer
  have c_check_rank : C8.Cal l.prog w K mg base 3 "check_rank" (PF fs_check_rank) [] := ok_check_rank T d_check_rank c_is_rank
  have c_check_integer : C8.Cal l.prog w K mg base 2 "check_integer" (PF fs_check_integer) [] := ok_check_integer T d_check_integer c_is_integer
  have c_how_many : C8.Cal l.prog w K mg base 1 "how_many" (PF fs_how_many) [] := ok_how_many T d_how_many
  have c_letters_of : C8.Cal l.prog w K mg base 1 "letters_of" (PF fs_letters_of) [] := ok_letters_of T d_letters_of
  have c_opposite : C8.Cal l.prog w K mg base 1 "opposite" (PF fs_opposite) [] := ok_opposite T d_opposite
  have c_letters_behind : C8.Cal l.prog w K mg base 2 "letters_behind" (PF fs_letters_behind) [] := ok_letters_behind T d_letters_behind c_letters_of c_opposite
  have c_nth_of_length : C8.Cal l.prog w K mg base 3 "nth_of_length" (PF fs_nth_of_length) [] := ok_nth_of_length T d_nth_of_length c_how_many c_letters_behind
  have c_nth_reduced : C8.Cal l.prog w K mg base 4 "nth_reduced" (PF fs_nth_reduced) [] := ok_nth_reduced T d_nth_reduced c_check_integer c_check_rank c_how_many c_nth_of_length
  have cx_nth_reduced : CalX l.prog w K mg base 4 "nth_reduced" (PFX mg fx_nth_reduced) := okx_nth_reduced T d_nth_reduced m_TooLarge c_check_integer c_check_rank c_how_many c_nth_of_length
  have c_law_told : C8.Cal l.prog w K mg base 5 "_law_told" (PF fs_law_told) [] := ok_law_told T d_law_told TX cx_nth_reduced
  have c_law_word : C8.Cal l.prog w K mg base 3 "_law_word" (PF fs_law_word) [] := ok_law_word T d_law_word c_law_next c_law_pick
  have c_law_reduced : C8.Cal l.prog w K mg base 2 "_law_reduced" (PF fs_law_reduced) [] := ok_law_reduced T d_law_reduced c_law_opposite
  have c_law_is_integer : C8.Cal l.prog w K mg base 1 "_law_is_integer" (PF fs_law_is_integer) [] := ok_law_is_integer T d_law_is_integer
  have c_law_equal : C8.Cal l.prog w K mg base 5 "_law_equal" (PF fs_law_equal) [] := ok_law_equal T d_law_equal c_law_is_integer
  have c_is_spelled : C8.Cal l.prog w K mg base 2 "is_spelled" (PF fs_is_spelled) [] := ok_is_spelled T d_is_spelled c_letters_of
  have c_check_word : C8.Cal l.prog w K mg base 3 "check_word" (PF fs_check_word) [] := ok_check_word T d_check_word c_is_spelled
  have c_check_two_words : C8.Cal l.prog w K mg base 4 "check_two_words" (PF fs_check_two_words) [] := ok_check_two_words T d_check_two_words c_check_word
  have c_length_order : C8.Cal l.prog w K mg base 1 "length_order" (PF fs_length_order) [] := ok_length_order T d_length_order
  have c_compare : C8.Cal l.prog w K mg base 5 "compare" (PF fs_compare) [] := ok_compare T d_compare c_check_two_words c_length_order
  have c_folded : C8.Cal l.prog w K mg base 1 "folded" (PF fs_folded) [] := ok_folded T d_folded
  have c_index_of_reduced : C8.Cal l.prog w K mg base 4 "index_of_reduced" (PF fs_index_of_reduced) [] := ok_index_of_reduced T d_index_of_reduced c_check_rank c_check_word c_folded c_how_many c_letters_behind
  have c_count_reduced : C8.Cal l.prog w K mg base 4 "count_reduced" (PF fs_count_reduced) [] := ok_count_reduced T d_count_reduced c_check_integer c_check_rank c_how_many
  have c_law_ways : C8.Cal l.prog w K mg base 1 "_law_ways" (PF fs_law_ways) [] := ok_law_ways T d_law_ways
  exact ok_law T (fun_mk (st := s_law) lk c k) c_law_all_reduced c_law_equal c_law_next c_law_pick c_law_reduced c_law_stream c_law_told c_law_ways c_law_word c_compare c_count_reduced c_index_of_reduced c_nth_reduced
end Law
open PySem PySem.W PyProof.Rows L2 DL
set_option maxRecDepth 100000 in
set_option maxHeartbeats 0 in
theorem PySem.Challenge.cw_foldedways_k04_whole_reduced_words_count_holds : PySem.Challenge.rw_foldedways_k04_whole_reduced_words_count.Holds := by
  w_on; o_law; k_head; (case hw => w_witness2)
  k_fill
  refine L2.walk_of (l := PySem.Challenge.rw_foldedways_k04_whole_reduced_words_count) (n := 63) (k := 6) (x := "script") (CX := fun _ => L2.CX0) (sp := fun w => DL.spLaw _) rfl (by decide) rfl ⟨rfl, by decide, by decide⟩ (fun w h Y => PySem.W.kIn_of Y) ?F (fun _ _ a ns hl _ hS => ⟨a, ns, rfl, hS, hl, fun _ => rfl⟩) (fun _ _ _ _ _ h => h)
  case F =>
    intro w mg fa h KX G hmg
    have T : Law.Txt mg := by
      have c_GREATEST_INDEX : ∃ u, mg "GREATEST_INDEX" = some u ∧ RelV (.int 1000000) u := by
        refine' mg_intK KX G ?zzq
        (case zzq => k_is)
      have c_HIGHEST_RANK : ∃ u, mg "HIGHEST_RANK" = some u ∧ RelV (.int 3) u := by
        refine' mg_intK KX G ?zzq
        (case zzq => k_is)
      have c_LETTERS : ∃ u, mg "LETTERS" = some u ∧ RelV (.str "aAbBcC") u := by
        refine' mg_strK KX G ?zzq
        (case zzq => k_is)
      have c_MOST_LETTERS : ∃ u, mg "MOST_LETTERS" = some u ∧ RelV (.int 24) u := by
        refine' mg_intK KX G ?zzq
        (case zzq => k_is)
      refine ⟨?b_abs, ?b_all, ?b_bool, ?b_enumerate, ?b_int, ?b_isinstance, ?b_len, ?b_list, ?b_min, ?b_range, ?b_str, ?b_sum, ?b_tuple, ?b_zip, c_GREATEST_INDEX, c_HIGHEST_RANK, c_LETTERS, c_MOST_LETTERS⟩
      (case b_abs => (refine' PySem.W.mg_none_of KX G ?zzq; (case zzq => k_is)))
      (case b_all => (refine' PySem.W.mg_none_of KX G ?zzq; (case zzq => k_is)))
      (case b_bool => (refine' PySem.W.mg_none_of KX G ?zzq; (case zzq => k_is)))
      (case b_enumerate => (refine' PySem.W.mg_none_of KX G ?zzq; (case zzq => k_is)))
      (case b_int => (refine' PySem.W.mg_none_of KX G ?zzq; (case zzq => k_is)))
      (case b_isinstance => (refine' PySem.W.mg_none_of KX G ?zzq; (case zzq => k_is)))
      (case b_len => (refine' PySem.W.mg_none_of KX G ?zzq; (case zzq => k_is)))
      (case b_list => (refine' PySem.W.mg_none_of KX G ?zzq; (case zzq => k_is)))
      (case b_min => (refine' PySem.W.mg_none_of KX G ?zzq; (case zzq => k_is)))
      (case b_range => (refine' PySem.W.mg_none_of KX G ?zzq; (case zzq => k_is)))
      (case b_str => (refine' PySem.W.mg_none_of KX G ?zzq; (case zzq => k_is)))
      (case b_sum => (refine' PySem.W.mg_none_of KX G ?zzq; (case zzq => k_is)))
      (case b_tuple => (refine' PySem.W.mg_none_of KX G ?zzq; (case zzq => k_is)))
      (case b_zip => (refine' PySem.W.mg_none_of KX G ?zzq; (case zzq => k_is)))
    have m_TooLarge := DL.makX1 (x := "TooLarge") (f := "what") (qual := "TooLarge.__init__") (st := Law.s_TooLarge_init) KX G (by k_is) (DL.oexC_of (by k_is) (by decide +kernel) (by k_is) (by k_is) (by k_is) (by k_is)) (by k_is) (by k_is) (by k_is) (by k_is) (by k_is) (by k_is) ⟨rfl, rfl, rfl, by decide +kernel, rfl, by decide +kernel, by decide +kernel⟩ rfl (by first | exact Or.inl rfl | exact Or.inr (Or.inl rfl) | exact Or.inr (Or.inr rfl)) (by first | exact Or.inl rfl | exact Or.inr (Or.inl rfl) | exact Or.inr (Or.inr rfl)) (by decide) (by decide) (fun _ _ _ _ _ _ us hl => match us, hl with | [_, _], _ => rfl)
    have TX := Law.txx_mk KX G (by k_is) (by k_is) (by k_is) (by k_is) (by k_is) (by k_is) (by k_is) (by k_is) (by k_is) (by k_is) (by k_is) (by k_is) (by k_is) (by k_is) (by k_is)
    have d_law_stream := DL.df_mk (x := "_law_stream") (st := Law.s_law_stream) (ps := ["script"]) KX G (by k_is) (by k_is) (by k_is) (by k_is) (fun _ _ _ _ _ _ us hl => match us, hl with | [_], _ => rfl)
    have d_law_opposite := DL.df_mk (x := "_law_opposite") (st := Law.s_law_opposite) (ps := ["letter"]) KX G (by k_is) (by k_is) (by k_is) (by k_is) (fun _ _ _ _ _ _ us hl => match us, hl with | [_], _ => rfl)
    have d_law_all_reduced := DL.df_mk (x := "_law_all_reduced") (st := Law.s_law_all_reduced) (ps := ["rank", "most"]) KX G (by k_is) (by k_is) (by k_is) (by k_is) (fun _ _ _ _ _ _ us hl => match us, hl with | [_, _], _ => rfl)
    have d_law_next := DL.df_mk (x := "_law_next") (st := Law.s_law_next) (ps := ["stream", "many"]) KX G (by k_is) (by k_is) (by k_is) (by k_is) (fun _ _ _ _ _ _ us hl => match us, hl with | [_, _], _ => rfl)
    have d_law_pick := DL.df_mk (x := "_law_pick") (st := Law.s_law_pick) (ps := ["stream", "rows"]) KX G (by k_is) (by k_is) (by k_is) (by k_is) (fun _ _ _ _ _ _ us hl => match us, hl with | [_, _], _ => rfl)
    have d_is_integer := DL.df_mk (x := "is_integer") (st := Law.s_is_integer) (ps := ["value", "least", "most"]) KX G (by k_is) (by k_is) (by k_is) (by k_is) (fun _ _ _ _ _ _ us hl => match us, hl with | [_, _, _], _ => rfl)
    have d_is_rank := DL.df_mk (x := "is_rank") (st := Law.s_is_rank) (ps := ["value"]) KX G (by k_is) (by k_is) (by k_is) (by k_is) (fun _ _ _ _ _ _ us hl => match us, hl with | [_], _ => rfl)
    have d_check_rank := DL.df_mk (x := "check_rank") (st := Law.s_check_rank) (ps := ["value"]) KX G (by k_is) (by k_is) (by k_is) (by k_is) (fun _ _ _ _ _ _ us hl => match us, hl with | [_], _ => rfl)
    have d_check_integer := DL.df_mk (x := "check_integer") (st := Law.s_check_integer) (ps := ["value", "least", "most", "name"]) KX G (by k_is) (by k_is) (by k_is) (by k_is) (fun _ _ _ _ _ _ us hl => match us, hl with | [_, _, _, _], _ => rfl)
    have d_how_many := DL.df_mk (x := "how_many") (st := Law.s_how_many) (ps := ["rank", "length"]) KX G (by k_is) (by k_is) (by k_is) (by k_is) (fun _ _ _ _ _ _ us hl => match us, hl with | [_, _], _ => rfl)
    have d_letters_of := DL.df_mk (x := "letters_of") (st := Law.s_letters_of) (ps := ["rank"]) KX G (by k_is) (by k_is) (by k_is) (by k_is) (fun _ _ _ _ _ _ us hl => match us, hl with | [_], _ => rfl)
    have d_opposite := DL.df_mk (x := "opposite") (st := Law.s_opposite) (ps := ["letter"]) KX G (by k_is) (by k_is) (by k_is) (by k_is) (fun _ _ _ _ _ _ us hl => match us, hl with | [_], _ => rfl)
    have d_letters_behind := DL.df_mk (x := "letters_behind") (st := Law.s_letters_behind) (ps := ["rank", "word"]) KX G (by k_is) (by k_is) (by k_is) (by k_is) (fun _ _ _ _ _ _ us hl => match us, hl with | [_, _], _ => rfl)
    have d_nth_of_length := DL.df_mk (x := "nth_of_length") (st := Law.s_nth_of_length) (ps := ["rank", "length", "index"]) KX G (by k_is) (by k_is) (by k_is) (by k_is) (fun _ _ _ _ _ _ us hl => match us, hl with | [_, _, _], _ => rfl)
    have d_nth_reduced := DL.df_mk (x := "nth_reduced") (st := Law.s_nth_reduced) (ps := ["rank", "index"]) KX G (by k_is) (by k_is) (by k_is) (by k_is) (fun _ _ _ _ _ _ us hl => match us, hl with | [_, _], _ => rfl)
    have d_law_told := DL.df_mk (x := "_law_told") (st := Law.s_law_told) (ps := ["rank", "index"]) KX G (by k_is) (by k_is) (by k_is) (by k_is) (fun _ _ _ _ _ _ us hl => match us, hl with | [_, _], _ => rfl)
    have d_law_word := DL.df_mk (x := "_law_word") (st := Law.s_law_word) (ps := ["stream", "rank", "most"]) KX G (by k_is) (by k_is) (by k_is) (by k_is) (fun _ _ _ _ _ _ us hl => match us, hl with | [_, _, _], _ => rfl)
    have d_law_reduced := DL.df_mk (x := "_law_reduced") (st := Law.s_law_reduced) (ps := ["word"]) KX G (by k_is) (by k_is) (by k_is) (by k_is) (fun _ _ _ _ _ _ us hl => match us, hl with | [_], _ => rfl)
    have d_law_is_integer := DL.df_mk (x := "_law_is_integer") (st := Law.s_law_is_integer) (ps := ["actual"]) KX G (by k_is) (by k_is) (by k_is) (by k_is) (fun _ _ _ _ _ _ us hl => match us, hl with | [_], _ => rfl)
    have d_law_equal := DL.df_mk (x := "_law_equal") (st := Law.s_law_equal) (ps := ["actual", "due"]) KX G (by k_is) (by k_is) (by k_is) (by k_is) (fun _ _ _ _ _ _ us hl => match us, hl with | [_, _], _ => rfl)
    have d_is_spelled := DL.df_mk (x := "is_spelled") (st := Law.s_is_spelled) (ps := ["value", "rank", "most"]) KX G (by k_is) (by k_is) (by k_is) (by k_is) (fun _ _ _ _ _ _ us hl => match us, hl with | [_, _, _], _ => rfl)
    have d_check_word := DL.df_mk (x := "check_word") (st := Law.s_check_word) (ps := ["value", "rank", "name"]) KX G (by k_is) (by k_is) (by k_is) (by k_is) (fun _ _ _ _ _ _ us hl => match us, hl with | [_, _, _], _ => rfl)
    have d_check_two_words := DL.df_mk (x := "check_two_words") (st := Law.s_check_two_words) (ps := ["first", "second"]) KX G (by k_is) (by k_is) (by k_is) (by k_is) (fun _ _ _ _ _ _ us hl => match us, hl with | [_, _], _ => rfl)
    have d_length_order := DL.df_mk (x := "length_order") (st := Law.s_length_order) (ps := ["word"]) KX G (by k_is) (by k_is) (by k_is) (by k_is) (fun _ _ _ _ _ _ us hl => match us, hl with | [_], _ => rfl)
    have d_compare := DL.df_mk (x := "compare") (st := Law.s_compare) (ps := ["first", "second"]) KX G (by k_is) (by k_is) (by k_is) (by k_is) (fun _ _ _ _ _ _ us hl => match us, hl with | [_, _], _ => rfl)
    have d_folded := DL.df_mk (x := "folded") (st := Law.s_folded) (ps := ["word"]) KX G (by k_is) (by k_is) (by k_is) (by k_is) (fun _ _ _ _ _ _ us hl => match us, hl with | [_], _ => rfl)
    have d_index_of_reduced := DL.df_mk (x := "index_of_reduced") (st := Law.s_index_of_reduced) (ps := ["rank", "word"]) KX G (by k_is) (by k_is) (by k_is) (by k_is) (fun _ _ _ _ _ _ us hl => match us, hl with | [_, _], _ => rfl)
    have d_count_reduced := DL.df_mk (x := "count_reduced") (st := Law.s_count_reduced) (ps := ["rank", "length"]) KX G (by k_is) (by k_is) (by k_is) (by k_is) (fun _ _ _ _ _ _ us hl => match us, hl with | [_, _], _ => rfl)
    have d_law_ways := DL.df_mk (x := "_law_ways") (st := Law.s_law_ways) (ps := ["rank", "many"]) KX G (by k_is) (by k_is) (by k_is) (by k_is) (fun _ _ _ _ _ _ us hl => match us, hl with | [_, _], _ => rfl)
    refine' Law.all_mk KX G hmg T d_law_stream d_law_opposite d_law_all_reduced d_law_next d_law_pick d_is_integer d_is_rank d_check_rank d_check_integer d_how_many d_letters_of d_opposite d_letters_behind d_nth_of_length d_nth_reduced d_law_told d_law_word d_law_reduced d_law_is_integer d_law_equal d_is_spelled d_check_word d_check_two_words d_length_order d_compare d_folded d_index_of_reduced d_count_reduced d_law_ways m_TooLarge TX ?zza ?zzl ?zzc ?zzk
    (case zza => k_is); (case zzl => k_is); (case zzc => k_is); (case zzk => k_is)
