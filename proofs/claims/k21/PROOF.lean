import PyProof.Rows.All
import Wide.All
import OpenK.AllK
import Wide.FinOn
import HandS.ForMost
import HandS.IsInst
import HandS.Evl
import HandS.Codes
import HandS.TupMul
import HandS.TupAny
import HandS.Style
import HandS.Conv
import HandS.Replace
import KE.KDictKeyed
import KE.KDictLaw
import HandS.ToBytes
import KE.LtSeq
import KE.GoesEnum
import HandS.SortInts
import HandS.Strs
import KE.KDictList
import HandS.WordsDict
import KE.DataCmp
import HandS.DictComp
import HandS.TupSets
import KE.GoesSet
import KE.KSortTupG
import KE.SortLaws
import HandS.SetBool
import HandS.Iter
import HandS.Deep
import HandS.ExcInit
import HandS.ExcField
import KE.KExcIs
import HandS.WordsExc
import HandS.StrMore
import KE.DataMinMax
import HandS.RevRange
import HandS.More
import KE.DataEq
import HandS.TupLen
import HandS.SetKeys
import PyProof.DictMoreH
import KE.KMinKey
import HandS.NoneIn
import HandS.Zip
import HandS.ReCall
import PySem.Challenge.RW_foldedways_k21_neat_graphs
set_option Elab.async false
set_option linter.all false
set_option maxRecDepth 100000
set_option maxHeartbeats 4000000
namespace DL
open PySem PySem.Spec PyProof.Rows L2

/-! ### a dict whose keys are tuples that hold tuples: a cell of one's own over HO.ext -/
abbrev NRow := NestedKey × Addr × Value
def nestP (P : Program) (w : World) (a : Addr) (xs : List NRow) : Heap → Prop := fun h => xs.length ≤ sizeLine ∧ (a == sysModules) = false ∧
  ∃ o es ep, h.get? a = some o ∧ o.ExactDict ∧ o.data = Data.dict es ep ∧ es.toList = xs.map (entryOfKey (nestedKind P w)) ∧ (xs.map fun x => x.1).Nodup
def nestO (P : Program) (w : World) (a : Addr) (xs : List NRow) : HO := .ext (nestP P w a xs)
inductive D where
  | obn | non | bl (b : Bool) | int (i : Int) | str (s : List Nat) | ty (n : String) | stm | exc (a dd : Addr) (ns : List Str) (ds : List D) | cls (a : Addr)
  | tup (ds : List D) | ptp (ds : List D) | lst (ds : List D) | dK (kvs : List (Key × V)) | dT (kvs : List (List Key × V)) | dKx (ks : List Key) (ds : List D) | dTx (ks : List (List Key)) (ds : List D)

mutual
inductive Is (st : Addr) (M : List Addr) (H : Hp) : V → D → Prop
  | non : Is st M H .non .non
  | obn (p : Addr) : Is st M H (.ref p) .obn
  | bl (b : Bool) : Is st M H (.bl b) (.bl b)
  | int (i : Int) : Is st M H (.int i) (.int i)
  | str (s : List Nat) : Is st M H (.str ⟨s.toArray⟩) (.str s)
  | ty (n : String) : Is st M H (.ty n) (.ty n)
  | stm : Is st M H (.ref st) .stm
  | cls (a : Addr) : Is st M H (.ref a) (.cls a)
  | exc {a dd : Addr} {vs : List V} {ns : List Str} {ds : List D} (hm : dd ∉ M) (h : H dd = some (.xd (ns.zip vs))) (hl : ns.length = vs.length) (hs : Iss st M H vs ds) : Is st M H (.ref a) (.exc a dd ns ds)
  | tup {p : Addr} {vs : List V} {ds : List D} (h : H p = some (.tup vs)) (hs : Iss st M H vs ds) : Is st M H (.ref p) (.tup ds)
  | ptp {p : Addr} {o : Obj} {vs : List V} {ds : List D} (hm : p ∉ M) (h : H p = some (.frz o (.tup vs))) (hc : o.cls = .type "tuple" ∧ o.dict = none) (hs : Iss st M H vs ds) : Is st M H (.ref p) (.ptp ds)
  | lst {p : Addr} {vs : List V} {ds : List D} (hm : p ∉ M) (h : H p = some (.lst vs)) (hs : Iss st M H vs ds) : Is st M H (.ref p) (.lst ds)
  | dK {p : Addr} {kvs : List (Key × V)} (hm : p ∉ M) (h : H p = some (.dK kvs)) (hf : ∀ kv ∈ kvs, flatV kv.2 = true) : Is st M H (.ref p) (.dK kvs)
  | dT {p : Addr} {kvs : List (List Key × V)} (hm : p ∉ M) (h : H p = some (.dT kvs)) (hf : ∀ kv ∈ kvs, flatV kv.2 = true) : Is st M H (.ref p) (.dT kvs)
  | dKx {p : Addr} {ks : List Key} {vs : List V} {ds : List D} (hm : p ∉ M) (h : H p = some (.dK (ks.zip vs))) (hl : ks.length = vs.length) (hs : Iss st M H vs ds) : Is st M H (.ref p) (.dKx ks ds)
  | dTx {p : Addr} {ks : List (List Key)} {vs : List V} {ds : List D} (hm : p ∉ M) (h : H p = some (.dT (ks.zip vs))) (hl : ks.length = vs.length) (hs : Iss st M H vs ds) : Is st M H (.ref p) (.dTx ks ds)
inductive Iss (st : Addr) (M : List Addr) (H : Hp) : List V → List D → Prop
  | nil : Iss st M H [] []
  | cons {v : V} {d : D} {vs : List V} {ds : List D} (h : Is st M H v d) (hs : Iss st M H vs ds) : Iss st M H (v :: vs) (d :: ds)
end

/-- all but the stream stands as it did, the stream may have moved on -/
def Fx (st : Addr) (H H' : Hp) : Prop := (∀ b o, b ≠ st → H b = some o → H' b = some o) ∧
  ∀ (a : Addr) (c k : Int), 0 ≤ c → 0 ≤ k → H st = some (.lst [.ref a, .int c, .int k]) → ∃ c' k' : Int, 0 ≤ c' ∧ 0 ≤ k' ∧ H' st = some (.lst [.ref a, .int c', .int k'])
theorem Fx.refl (st : Addr) (H : Hp) : Fx st H H := ⟨fun _ _ _ h => h, fun _ c k h1 h2 h => ⟨c, k, h1, h2, h⟩⟩
theorem Fx.trans {st : Addr} {H H1 H2 : Hp} (a : Fx st H H1) (b : Fx st H1 H2) : Fx st H H2 := ⟨fun x o n h => b.1 x o n (a.1 x o n h), fun x c k h1 h2 h => by
  obtain ⟨c', k', g1, g2, g⟩ := a.2 x c k h1 h2 h
  exact b.2 x c' k' g1 g2 g⟩
theorem Fx.new {st : Addr} {H : Hp} {p : Addr} {o : HO} (h : H p = none) : Fx st H (upd H p o) := by
  refine ⟨fun a u _ e => ?_, fun a c k h1 h2 e => ⟨c, k, h1, h2, ?_⟩⟩
  · rw [upd_ne (ne_of_none e h)]
    exact e
  · rw [upd_ne (ne_of_none e h)]
    exact e
/-- the stream: a list of the script's list and two ints -/
def Stm (st : Addr) (M : List Addr) (H : Hp) : Prop := ∃ (a : Addr) (ns : List Int) (c k : Int), a ∉ M ∧ a ≠ st ∧ H st = some (.lst [.ref a, .int c, .int k]) ∧ H a = some (.lst (ns.map V.int)) ∧ 0 ≤ c ∧ 0 ≤ k

mutual
theorem Is.mono {st : Addr} {M M' : List Addr} {H H' : Hp} (hM : ∀ b ∈ M', b ∈ M) (hS : st ∈ M) (e : Fx st H H') (ht : ∀ vs, H st ≠ some (.tup vs)) : ∀ {v : V} {d : D}, Is st M H v d → Is st M' H' v d
  | _, _, .non => .non
  | _, _, .bl b => .bl b
  | _, _, .int i => .int i
  | _, _, .str s => .str s
  | _, _, .ty n => .ty n
  | _, _, .stm => .stm
  | _, _, .obn p => .obn p
  | _, _, .cls a => .cls a
  | _, _, .exc hm h hl hs => .exc (fun z => hm (hM _ z)) (e.1 _ _ (fun z => hm (z ▸ hS)) h) hl (Iss.mono hM hS e ht hs)
  | _, _, .tup h hs => .tup (e.1 _ _ (fun z => ht _ (z ▸ h)) h) (Iss.mono hM hS e ht hs)
  | _, _, .ptp hm h hc hs => .ptp (fun z => hm (hM _ z)) (e.1 _ _ (fun z => hm (z ▸ hS)) h) hc (Iss.mono hM hS e ht hs)
  | _, _, .lst hm h hs => .lst (fun z => hm (hM _ z)) (e.1 _ _ (fun z => hm (z ▸ hS)) h) (Iss.mono hM hS e ht hs)
  | _, _, .dK hm h hf => .dK (fun z => hm (hM _ z)) (e.1 _ _ (fun z => hm (z ▸ hS)) h) hf
  | _, _, .dT hm h hf => .dT (fun z => hm (hM _ z)) (e.1 _ _ (fun z => hm (z ▸ hS)) h) hf
  | _, _, .dKx hm h hl hs => .dKx (fun z => hm (hM _ z)) (e.1 _ _ (fun z => hm (z ▸ hS)) h) hl (Iss.mono hM hS e ht hs)
  | _, _, .dTx hm h hl hs => .dTx (fun z => hm (hM _ z)) (e.1 _ _ (fun z => hm (z ▸ hS)) h) hl (Iss.mono hM hS e ht hs)
theorem Iss.mono {st : Addr} {M M' : List Addr} {H H' : Hp} (hM : ∀ b ∈ M', b ∈ M) (hS : st ∈ M) (e : Fx st H H') (ht : ∀ vs, H st ≠ some (.tup vs)) : ∀ {vs : List V} {ds : List D}, Iss st M H vs ds → Iss st M' H' vs ds
  | _, _, .nil => .nil
  | _, _, .cons h hs => .cons (Is.mono hM hS e ht h) (Iss.mono hM hS e ht hs)
end
mutual
/-- one address outside M changes: data that do not reach it stay; and M may take in a new address -/
theorem Is.upd {st : Addr} {M : List Addr} {H : Hp} {p : Addr} {o : HO} (hp : p ∈ M) (ht : ∀ vs, H p ≠ some (.tup vs)) : ∀ {v : V} {d : D}, Is st M H v d → Is st M (upd H p o) v d
  | _, _, .non => .non
  | _, _, .bl b => .bl b
  | _, _, .int i => .int i
  | _, _, .str s => .str s
  | _, _, .ty n => .ty n
  | _, _, .stm => .stm
  | _, _, .obn p => .obn p
  | _, _, .cls a => .cls a
  | _, _, .exc hm h hl hs => .exc hm (by rw [upd_ne (fun z => hm (by rw [z]; exact hp))]; exact h) hl (Iss.upd hp ht hs)
  | _, _, .tup h hs => .tup (by rw [upd_ne (fun z => ht _ (by rw [← z]; exact h))]; exact h) (Iss.upd hp ht hs)
  | _, _, .ptp hm h hc hs => .ptp hm (by rw [upd_ne (fun z => hm (by rw [z]; exact hp))]; exact h) hc (Iss.upd hp ht hs)
  | _, _, .lst hm h hs => .lst hm (by rw [upd_ne (fun z => hm (by rw [z]; exact hp))]; exact h) (Iss.upd hp ht hs)
  | _, _, .dK hm h hf => .dK hm (by rw [upd_ne (fun z => hm (by rw [z]; exact hp))]; exact h) hf
  | _, _, .dT hm h hf => .dT hm (by rw [upd_ne (fun z => hm (by rw [z]; exact hp))]; exact h) hf
  | _, _, .dKx hm h hl hs => .dKx hm (by rw [upd_ne (fun z => hm (by rw [z]; exact hp))]; exact h) hl (Iss.upd hp ht hs)
  | _, _, .dTx hm h hl hs => .dTx hm (by rw [upd_ne (fun z => hm (by rw [z]; exact hp))]; exact h) hl (Iss.upd hp ht hs)
theorem Iss.upd {st : Addr} {M : List Addr} {H : Hp} {p : Addr} {o : HO} (hp : p ∈ M) (ht : ∀ vs, H p ≠ some (.tup vs)) : ∀ {vs : List V} {ds : List D}, Iss st M H vs ds → Iss st M (upd H p o) vs ds
  | _, _, .nil => .nil
  | _, _, .cons h hs => .cons (Is.upd hp ht h) (Iss.upd hp ht hs)
end
mutual
/-- a new address is taken into M -/
theorem Is.more {st : Addr} {M : List Addr} {H : Hp} {p : Addr} (hp : H p = none) : ∀ {v : V} {d : D}, Is st M H v d → Is st (p :: M) H v d
  | _, _, .non => .non
  | _, _, .bl b => .bl b
  | _, _, .int i => .int i
  | _, _, .str s => .str s
  | _, _, .ty n => .ty n
  | _, _, .stm => .stm
  | _, _, .obn p => .obn p
  | _, _, .cls a => .cls a
  | _, _, .exc hm h hl hs => .exc (fun z => (List.mem_cons.mp z).elim (ne_of_none h hp) hm) h hl (Iss.more hp hs)
  | _, _, .tup h hs => .tup h (Iss.more hp hs)
  | _, _, .ptp hm h hc hs => .ptp (fun z => (List.mem_cons.mp z).elim (ne_of_none h hp) hm) h hc (Iss.more hp hs)
  | _, _, .lst hm h hs => .lst (fun z => (List.mem_cons.mp z).elim (ne_of_none h hp) hm) h (Iss.more hp hs)
  | _, _, .dK hm h hf => .dK (fun z => (List.mem_cons.mp z).elim (ne_of_none h hp) hm) h hf
  | _, _, .dT hm h hf => .dT (fun z => (List.mem_cons.mp z).elim (ne_of_none h hp) hm) h hf
  | _, _, .dKx hm h hl hs => .dKx (fun z => (List.mem_cons.mp z).elim (ne_of_none h hp) hm) h hl (Iss.more hp hs)
  | _, _, .dTx hm h hl hs => .dTx (fun z => (List.mem_cons.mp z).elim (ne_of_none h hp) hm) h hl (Iss.more hp hs)
theorem Iss.more {st : Addr} {M : List Addr} {H : Hp} {p : Addr} (hp : H p = none) : ∀ {vs : List V} {ds : List D}, Iss st M H vs ds → Iss st (p :: M) H vs ds
  | _, _, .nil => .nil
  | _, _, .cons h hs => .cons (Is.more hp h) (Iss.more hp hs)
end
theorem Iss.length {st : Addr} {M : List Addr} {H : Hp} : ∀ {vs : List V} {ds : List D}, Iss st M H vs ds → vs.length = ds.length
  | _, _, .nil => rfl
  | _, _, .cons _ hs => by rw [List.length_cons, List.length_cons, Iss.length hs]
theorem Iss.get {st : Addr} {M : List Addr} {H : Hp} : ∀ {vs : List V} {ds : List D} {i : Nat} {d : D}, Iss st M H vs ds → ds[i]? = some d → ∃ v, vs[i]? = some v ∧ Is st M H v d
  | _, _, _, _, .nil, e => by simp at e
  | _, _, 0, _, .cons h _, e => by simp at e; subst e; exact ⟨_, rfl, h⟩
  | _, _, i + 1, d, .cons _ hs, e => by
    obtain ⟨v, h1, h2⟩ := Iss.get (i := i) (d := d) hs (by simpa using e)
    exact ⟨v, by simpa using h1, h2⟩
theorem Iss.append {st : Addr} {M : List Addr} {H : Hp} : ∀ {vs ws : List V} {ds es : List D}, Iss st M H vs ds → Iss st M H ws es → Iss st M H (vs ++ ws) (ds ++ es)
  | _, _, _, _, .nil, s => s
  | _, _, _, _, .cons h t, s => .cons h (Iss.append t s)
theorem Iss.take {st : Addr} {M : List Addr} {H : Hp} : ∀ {vs : List V} {ds : List D} (n : Nat), Iss st M H vs ds → Iss st M H (vs.take n) (ds.take n)
  | _, _, 0, _ => .nil
  | _, _, _ + 1, .nil => .nil
  | _, _, n + 1, .cons h t => .cons h (Iss.take n t)
theorem Iss.drop {st : Addr} {M : List Addr} {H : Hp} : ∀ {vs : List V} {ds : List D} (n : Nat), Iss st M H vs ds → Iss st M H (vs.drop n) (ds.drop n)
  | _, _, 0, h => h
  | _, _, _ + 1, .nil => .nil
  | _, _, n + 1, .cons _ t => Iss.drop n t
theorem Iss.set {st : Addr} {M : List Addr} {H : Hp} {v : V} {d : D} (h : Is st M H v d) : ∀ {vs : List V} {ds : List D} (n : Nat), Iss st M H vs ds → Iss st M H (vs.set n v) (ds.set n d)
  | _, _, _, .nil => .nil
  | _, _, 0, .cons _ t => .cons h t
  | _, _, n + 1, .cons q t => .cons q (Iss.set h n t)

mutual
def toNK : D → Option NestedKey
  | .non => some .none
  | .int i => some (.num i)
  | .str s => some (.text ⟨s.toArray⟩)
  | .tup ds => (toNKs ds).map .tup
  | _ => none
def toNKs : List D → Option (List NestedKey)
  | [] => some []
  | d :: ds => (toNK d).bind fun k => (toNKs ds).map fun ks => k :: ks
end
/-- what is known of a slot -/
inductive Ow where
  | dN (P : Program) (w : World) (ks : List D) (vs : List V)
  | lst (ds : List D) | dK (kvs : List (Key × V)) | dT (kvs : List (List Key × V)) | dKx (ks : List Key) (ds : List D) | dTx (ks : List (List Key)) (ds : List D)
/-- what a field of an object holds: data that stay, or a list or dict of the object's own -/
inductive Fv where
  | val (d : D) | cell (q : Addr) (o : Ow)
/-- obj: an object that is changed by its methods (true) or only read (false) -/
inductive Sl where
  | any | dat (d : D) | own (o : Ow) | obj (b : Bool) (p C : Addr) (fs : List (Str × Fv))
abbrev Nv := List Sl
def cells : List (Str × Fv) → List Addr
  | [] => []
  | (_, .val _) :: r => cells r
  | (_, .cell q _) :: r => q :: cells r
inductive OwOk (st : Addr) (M : List Addr) (H : Hp) : HO → Ow → Prop
  | lst {vs : List V} {ds : List D} (h : Iss st M H vs ds) : OwOk st M H (.lst vs) (.lst ds)
  | dK {kvs : List (Key × V)} (hf : ∀ kv ∈ kvs, flatV kv.2 = true) : OwOk st M H (.dK kvs) (.dK kvs)
  | dT {kvs : List (List Key × V)} (hf : ∀ kv ∈ kvs, flatV kv.2 = true) : OwOk st M H (.dT kvs) (.dT kvs)
  | dKx {ks : List Key} {vs : List V} {ds : List D} (hl : ks.length = vs.length) (hs : Iss st M H vs ds) : OwOk st M H (.dK (ks.zip vs)) (.dKx ks ds)
  | dTx {ks : List (List Key)} {vs : List V} {ds : List D} (hl : ks.length = vs.length) (hs : Iss st M H vs ds) : OwOk st M H (.dT (ks.zip vs)) (.dTx ks ds)
  | dN {P : Program} {w : World} {c : Addr} {xs : List NRow} {ks : List D} {vs : List V} (hk : Iss st M H (xs.map fun x => V.ref x.2.1) ks) (hn : toNKs ks = some (xs.map fun x => x.1)) (h8 : ∀ x ∈ xs, x.1.depth ≤ 8) (hf : ∀ v ∈ vs, flatV v = true)
    (hv : Vals vs (xs.map fun x => x.2.2)) : OwOk st M H (nestO P w c xs) (.dN P w ks vs)
theorem OwOk.notup {st : Addr} {M : List Addr} {H : Hp} {h : HO} {o : Ow} (k : OwOk st M H h o) : ∀ vs, h ≠ .tup vs := by
  cases k <;> (intro vs z; cases z)
theorem OwOk.mut {st : Addr} {M : List Addr} {H : Hp} {h : HO} {o : Ow} (k : OwOk st M H h o) : Mut (some h) := by
  cases k <;> trivial

theorem Iss.tr {st : Addr} {M M' : List Addr} {H H' : Hp} (f : ∀ {v : V} {d : D}, Is st M H v d → Is st M' H' v d) : ∀ {vs : List V} {ds : List D}, Iss st M H vs ds → Iss st M' H' vs ds
  | _, _, .nil => .nil
  | _, _, .cons h hs => .cons (f h) (Iss.tr f hs)
theorem OwOk.tr {st : Addr} {M M' : List Addr} {H H' : Hp} (f : ∀ {v : V} {d : D}, Is st M H v d → Is st M' H' v d) {h : HO} {o : Ow} (k : OwOk st M H h o) : OwOk st M' H' h o := by
  cases k with
  | lst h => exact .lst (h.tr f)
  | dK hf => exact .dK hf
  | dT hf => exact .dT hf
  | dKx hl hs => exact .dKx hl (hs.tr f)
  | dTx hl hs => exact .dTx hl (hs.tr f)
  | dN hk hn h8 hf hv => exact .dN (hk.tr f) hn h8 hf hv
inductive FdOk (st : Addr) (M : List Addr) (H : Hp) : List (Str × V) → List (Str × Fv) → Prop
  | nil : FdOk st M H [] []
  | val {n : Str} {v : V} {d : D} {kvs : List (Str × V)} {fs : List (Str × Fv)} (h : Is st M H v d) (t : FdOk st M H kvs fs) : FdOk st M H ((n, v) :: kvs) ((n, .val d) :: fs)
  | cell {n : Str} {q : Addr} {h : HO} {o : Ow} {kvs : List (Str × V)} {fs : List (Str × Fv)} (hq : H q = some h) (k : OwOk st M H h o) (t : FdOk st M H kvs fs) : FdOk st M H ((n, .ref q) :: kvs) ((n, .cell q o) :: fs)
theorem FdOk.tr {st : Addr} {M M' : List Addr} {H H' : Hp} (f : ∀ {v : V} {d : D}, Is st M H v d → Is st M' H' v d) : ∀ {kvs : List (Str × V)} {fs : List (Str × Fv)}, (∀ x ∈ cells fs, ∀ o, H x = some o → H' x = some o) → FdOk st M H kvs fs → FdOk st M' H' kvs fs
  | _, _, _, .nil => .nil
  | _, _, hq, .val h t => .val (f h) (FdOk.tr f hq t)
  | _, _, hq, .cell h k t => .cell (hq _ List.mem_cons_self _ h) (k.tr f) (FdOk.tr f (fun x hx => hq x (List.mem_cons_of_mem _ hx)) t)
/-- an object as it lies in the heap -/
structure ObAt (st : Addr) (M : List Addr) (H : Hp) (p C : Addr) (fs : List (Str × Fv)) : Prop where
  ins : ∃ dx kvs, H p = some (.ins C dx kvs) ∧ FdOk st M H kvs fs
  nd : (p :: cells fs).Nodup
  inM : ∀ x ∈ p :: cells fs, x ∈ M
structure ObOk (st : Addr) (M0 M : List Addr) (σ : L2.St) (H : Hp) (env : Nv) (i : Nat) (b : Bool) (p C : Addr) (fs : List (Str × Fv)) : Prop where
  at_ : σ[i]? = some (some (.ref p))
  ob : ObAt st M H p C fs
  no0 : b = true → ∀ x ∈ p :: cells fs, x ∉ M0
  dis : ∀ (j : Nat) o r, env[j]? = some (.own o) → σ[j]? = some (some (.ref r)) → r ∉ p :: cells fs
  nst : ∀ x ∈ p :: cells fs, x ≠ st
  one : ∀ (j : Nat) b' p' C' fs', env[j]? = some (.obj b' p' C' fs') → j = i
theorem ObAt.tr {st : Addr} {M M' : List Addr} {H H' : Hp} {p C : Addr} {fs : List (Str × Fv)} (O : ObAt st M H p C fs) (hM : ∀ x ∈ p :: cells fs, x ∈ M')
    (hH : ∀ x ∈ p :: cells fs, ∀ o, H x = some o → H' x = some o) (f : ∀ {v : V} {d : D}, Is st M H v d → Is st M' H' v d) : ObAt st M' H' p C fs := by
  obtain ⟨dx, kvs, h1, h2⟩ := O.ins
  exact ⟨⟨dx, kvs, hH p List.mem_cons_self _ h1, h2.tr f fun x hx => hH x (List.mem_cons_of_mem _ hx)⟩, O.nd, hM⟩
theorem ObOk.tr {st : Addr} {M0 M M' : List Addr} {σ σ' : L2.St} {H H' : Hp} {env env' : Nv} {i : Nat} {b : Bool} {p C : Addr} {fs : List (Str × Fv)} (O : ObOk st M0 M σ H env i b p C fs) (hσ : σ'[i]? = σ[i]?) (hM : ∀ x ∈ p :: cells fs, x ∈ M')
    (hH : ∀ x ∈ p :: cells fs, ∀ o, H x = some o → H' x = some o) (f : ∀ {v : V} {d : D}, Is st M H v d → Is st M' H' v d)
    (hd : ∀ (j : Nat) o r, env'[j]? = some (.own o) → σ'[j]? = some (some (.ref r)) → r ∉ p :: cells fs) (h1 : ∀ (j : Nat) b' p' C' fs', env'[j]? = some (.obj b' p' C' fs') → j = i) : ObOk st M0 M' σ' H' env' i b p C fs :=
  ⟨by rw [hσ]; exact O.at_, O.ob.tr hM hH f, O.no0, hd, O.nst, h1⟩
theorem setAt {α : Type} {l : List α} {i j : Nat} {x y : α} (hj : (l.set i x)[j]? = some y) : (j = i ∧ y = x) ∨ (j ≠ i ∧ l[j]? = some y) := by
  by_cases q : i = j
  · subst q
    have hl : i < l.length := by
      have := (List.getElem?_eq_some_iff.mp hj).1
      rwa [List.length_set] at this
    rw [List.getElem?_set_self hl] at hj
    exact .inl ⟨rfl, (Option.some.inj hj).symm⟩
  · rw [List.getElem?_set_ne q] at hj
    exact .inr ⟨fun z => q z.symm, hj⟩

/-- what stays through a def's run: the stream, what may not be reached ahead, the heap at the entry, data that are kept in mind -/
structure Bs where
  st : Addr
  M0 : List Addr
  H0 : Hp
  hid : List (V × D)
structure Sr (B : Bs) (M : List Addr) (σ : L2.St) (H : Hp) (env : Nv) : Prop where
  stm : Stm B.st M H
  stM : B.st ∈ M
  keep : Fx B.st B.H0 H
  sub : ∀ b ∈ B.M0, b ∈ M
  fresh : ∀ b ∈ M, b ∈ B.M0 ∨ B.H0 b = none
  trk : ∀ b ∈ M, ∃ o, H b = some o
  st0 : B.st ∈ B.M0
  trk0 : ∀ b ∈ B.M0, ∃ o, B.H0 b = some o
  len : σ.length = env.length
  dat : ∀ (i : Nat) d, env[i]? = some (.dat d) → ∃ v, σ[i]? = some (some v) ∧ Is B.st M H v d
  own : ∀ (i : Nat) o, env[i]? = some (.own o) → ∃ p h, σ[i]? = some (some (.ref p)) ∧ p ∈ M ∧ p ∉ B.M0 ∧ H p = some h ∧ OwOk B.st M H h o
  inj : ∀ (i j : Nat) p o u, env[i]? = some (.own o) → env[j]? = some (.own u) → σ[i]? = some (some (.ref p)) → σ[j]? = some (some (.ref p)) → i = j
  hid : ∀ x ∈ B.hid, Is B.st M H x.1 x.2
  ob : ∀ (i : Nat) b p C fs, env[i]? = some (.obj b p C fs) → ObOk B.st B.M0 M σ H env i b p C fs

section
variable {st : Addr} {B : Bs} {M : List Addr} {H H' : Hp} {σ : L2.St} {env : Nv}
theorem Stm.notup (h : Stm st M H) : ∀ vs, H st ≠ some (.tup vs) := fun vs z => by
  obtain ⟨a, ns, c, k, _, _, e, _⟩ := h
  rw [e] at z
  cases z
theorem Stm.fx {M' : List Addr} (h : Stm st M H) (e : Fx st H H') (hM : ∀ b ∈ M', b ∈ M) : Stm st M' H' := by
  obtain ⟨a, ns, c, k, h1, h2, h3, h4, h5, h6⟩ := h
  obtain ⟨c', k', g1, g2, g3⟩ := e.2 a c k h5 h6 h3
  exact ⟨a, ns, c', k', fun z => h1 (hM _ z), h2, g3, e.1 _ _ h2 h4, g1, g2⟩
theorem Sr.nt (S : Sr B M σ H env) : ∀ vs, H B.st ≠ some (.tup vs) := S.stm.notup
theorem Sr.is (S : Sr B M σ H env) (e : Fx B.st H H') {v : V} {d : D} (h : Is B.st M H v d) : Is B.st M H' v d := h.mono (fun _ z => z) S.stM e S.nt
theorem Sr.iss (S : Sr B M σ H env) (e : Fx B.st H H') {v : List V} {d : List D} (h : Iss B.st M H v d) : Iss B.st M H' v d := h.mono (fun _ z => z) S.stM e S.nt
theorem Sr.newM (S : Sr B M σ H env) {p : Addr} (hp : H p = none) : p ∉ M := fun z => by
  obtain ⟨o, e⟩ := S.trk p z
  rw [hp] at e
  cases e
theorem Sr.new0 (S : Sr B M σ H env) {p : Addr} (hp : H p = none) : B.H0 p = none := by
  cases e : B.H0 p with
  | none => rfl
  | some o =>
    have hs : p ≠ B.st := fun z => S.newM hp (z ▸ S.stM)
    rw [S.keep.1 p o hs e] at hp
    cases hp
theorem OwOk.fx (hS : st ∈ M) (e : Fx st H H') (ht : ∀ vs, H st ≠ some (.tup vs)) {h : HO} {o : Ow} (k : OwOk st M H h o) : OwOk st M H' h o := by
  cases k with
  | lst h => exact .lst (h.mono (fun _ z => z) hS e ht)
  | dK hf => exact .dK hf
  | dT hf => exact .dT hf
  | dKx hl hs => exact .dKx hl (hs.mono (fun _ z => z) hS e ht)
  | dTx hl hs => exact .dTx hl (hs.mono (fun _ z => z) hS e ht)
  | dN hk hn h8 hf hv => exact .dN (hk.mono (fun _ z => z) hS e ht) hn h8 hf hv
/-- the heap grows, the stream may move -/
theorem Sr.fx (S : Sr B M σ H env) (e : Fx B.st H H') : Sr B M σ H' env where
  stm := S.stm.fx e fun _ z => z
  stM := S.stM
  keep := S.keep.trans e
  sub := S.sub
  fresh := S.fresh
  trk := fun b hb => by
    by_cases z : b = B.st
    · obtain ⟨a, ns, c, k, _, _, h3, _⟩ := S.stm.fx (M' := M) e fun _ z => z
      exact ⟨_, z ▸ h3⟩
    · obtain ⟨o, q⟩ := S.trk b hb
      exact ⟨o, e.1 b o z q⟩
  st0 := S.st0
  trk0 := S.trk0
  len := S.len
  dat := fun i d h => by
    obtain ⟨v, h1, h2⟩ := S.dat i d h
    exact ⟨v, h1, S.is e h2⟩
  own := fun i o h => by
    obtain ⟨p, u, h1, h2, h3, h4, h5⟩ := S.own i o h
    exact ⟨p, u, h1, h2, h3, e.1 p u (fun z => h3 (z ▸ S.st0)) h4, h5.fx S.stM e S.nt⟩
  inj := S.inj
  hid := fun x hx => S.is e (S.hid x hx)
  ob := fun i b p C fs h => let O := S.ob i b p C fs h; O.tr rfl O.ob.inM (fun x hx o => e.1 x o (O.nst x hx)) (S.is e) O.dis O.one
/-- a new object -/
theorem Sr.new (S : Sr B M σ H env) {p : Addr} {o : HO} (hp : H p = none) : Sr B M σ (upd H p o) env := S.fx (Fx.new hp)
end

/-! ### judgements over data -/
def De (te : TE) (env : Nv) (post : D → Prop) : Prop := ∀ B M σ H, Sr B M σ H env → ∀ Q : VK,
  (∀ v H' d, post d → Sr B M σ H' env → Fx B.st H H' → Is B.st M H' v d → Q v H') → te σ H Q
def Dt (tt : TT) (env : Nv) (post : Bool → Prop) : Prop := ∀ B M σ H, Sr B M σ H env → ∀ Q : Bool → Hp → Prop,
  (∀ b H', post b → Sr B M σ H' env → Fx B.st H H' → Q b H') → tt σ H Q
def Da (ta : TA) (env : Nv) (post : List D → Prop) : Prop := ∀ B M σ H, Sr B M σ H env → ∀ Q : List V → Hp → Prop,
  (∀ vs H' ds, post ds → Sr B M σ H' env → Fx B.st H H' → Iss B.st M H' vs ds → Q vs H') → ta σ H Q
def Do (to : TO) (env : Nv) (post : Option Int → Prop) : Prop := ∀ B M σ H, Sr B M σ H env → ∀ Q : Option Int → Hp → Prop,
  (∀ o H', post o → Sr B M σ H' env → Fx B.st H H' → Q o H') → to σ H Q
def Ds (ts : TS) (env : Nv) (nx : Nv → Prop) (rt : D → Prop) (bk ct : Nv → Prop) : Prop := ∀ B M σ H, Sr B M σ H env → ∀ D : Ends,
  (∀ M' σ' H' env', nx env' → Sr B M' σ' H' env' → D.nx σ' H') →
  (∀ v H' d, rt d → Fx B.st B.H0 H' → Is B.st B.M0 H' v d → D.rt v H') →
  (∀ M' σ' H' env', bk env' → Sr B M' σ' H' env' → D.bk σ' H') →
  (∀ M' σ' H' env', ct env' → Sr B M' σ' H' env' → D.ct σ' H') → ts D σ H

section
variable {env : Nv} {post : D → Prop} {ta tb tc te : TE} {t u : TT} {tas : TA} {r r' : R2}
theorem de_var {i : Nat} {d : D} (h : env[i]? = some (.dat d)) (k : post d) : De (tVar i) env post := fun B M σ H S Q q => by
  obtain ⟨v, h1, h2⟩ := S.dat i d h
  exact ⟨v, h1, q v H d k S (Fx.refl _ _) h2⟩
theorem de_int {i : Int} (k : post (.int i)) : De (tC (.int i)) env post := fun B M σ H S Q q => q _ H _ k S (Fx.refl _ _) (.int i)
theorem de_bl {i : Bool} (k : post (.bl i)) : De (tC (.bl i)) env post := fun B M σ H S Q q => q _ H _ k S (Fx.refl _ _) (.bl i)
theorem is_strS (st : Addr) (M : List Addr) (H : Hp) (x : Str) : Is st M H (.str x) (.str x.cps.toList) := by
  have h := Is.str (st := st) (M := M) (H := H) x.cps.toList
  rw [Array.toArray_toList] at h
  exact h
theorem de_str {i : Str} (k : post (.str i.cps.toList)) : De (tC (.str i)) env post := fun B M σ H S Q q => q _ H _ k S (Fx.refl _ _) (is_strS _ _ _ i)
theorem de_ty {i : String} (k : post (.ty i)) : De (tC (.ty i)) env post := fun B M σ H S Q q => q _ H _ k S (Fx.refl _ _) (.ty i)
theorem de_strL {i : Str} {l : List Nat} (e : i.cps.toList = l) (k : post (.str l)) : De (tC (.str i)) env post := de_str (e ▸ k)
theorem de_non (k : post .non) : De (tC .non) env post := fun B M σ H S Q q => q _ H _ k S (Fx.refl _ _) .non
/-- an operation on values, over data -/
def Dop (r : R2) (x y : D) (post : D → Prop) : Prop := ∀ (st : Addr) (M : List Addr) (H : Hp) (v w : V), Stm st M H → st ∈ M → (∀ b ∈ M, ∃ o, H b = some o) → Is st M H v x → Is st M H w y → ∀ Q : VK,
  (∀ z H' d, post d → Fx st H H' → Is st M H' z d → Q z H') → r v w H Q
theorem de_op (h : De ta env fun x => De tb env fun y => Dop r x y post) : De (tOp r ta tb) env post := fun B M σ H S Q q =>
  h B M σ H S _ fun v H1 x hx S1 e1 i1 => hx B M σ H1 S1 _ fun w H2 y hy S2 e2 i2 =>
    hy B.st M H2 v w S2.stm S2.stM S2.trk (S1.is e2 i1) i2 Q fun z H3 d hd e3 i3 => q z H3 d hd (S2.fx e3) ((e1.trans e2).trans e3) i3
def Dun (r : V → Hp → VK → Prop) (x : D) (post : D → Prop) : Prop := ∀ (st : Addr) (M : List Addr) (H : Hp) (v : V), Stm st M H → st ∈ M → (∀ b ∈ M, ∃ o, H b = some o) → Is st M H v x → ∀ Q : VK,
  (∀ z H' d, post d → Fx st H H' → Is st M H' z d → Q z H') → r v H Q
theorem de_un {r : V → Hp → VK → Prop} (h : De ta env fun x => Dun r x post) : De (tUn r ta) env post := fun B M σ H S Q q =>
  h B M σ H S _ fun v H2 y hy S2 e2 i2 =>
    hy B.st M H2 v S2.stm S2.stM S2.trk i2 Q fun z H3 d hd e3 i3 => q z H3 d hd (S2.fx e3) (e2.trans e3) i3
def Dcl (r : List V → Hp → VK → Prop) (xs : List D) (post : D → Prop) : Prop := ∀ (st : Addr) (M : List Addr) (H : Hp) (vs : List V), Stm st M H → st ∈ M → (∀ b ∈ M, ∃ o, H b = some o) → Iss st M H vs xs → ∀ Q : VK,
  (∀ z H' d, post d → Fx st H H' → Is st M H' z d → Q z H') → r vs H Q
theorem de_cb {r : List V → Hp → VK → Prop} (h : Da tas env fun xs => Dcl r xs post) : De (tCB r tas) env post := fun B M σ H S Q q =>
  h B M σ H S _ fun v H2 y hy S2 e2 i2 =>
    hy B.st M H2 v S2.stm S2.stM S2.trk i2 Q fun z H3 d hd e3 i3 => q z H3 d hd (S2.fx e3) (e2.trans e3) i3
theorem da_nil {post : List D → Prop} (k : post []) : Da tNil env post := fun B M σ H S Q q => q [] H [] k S (Fx.refl _ _) .nil
theorem da_cons {post : List D → Prop} (h : De ta env fun x => Da tas env fun xs => post (x :: xs)) : Da (tCons ta tas) env post := fun B M σ H S Q q =>
  h B M σ H S _ fun v H1 x hx S1 e1 i1 => hx B M σ H1 S1 _ fun vs H2 xs hy S2 e2 i2 => q _ H2 _ hy S2 (e1.trans e2) (.cons (S1.is e2 i1) i2)
/-- a def's promise over data: its arguments told by an a, where it is asked, what may come -/
structure FS where
  α : Type
  arg : α → List D
  pre : α → Prop
  rel : α → D → Prop
def PF (F : FS) : Sp := fun vs H Q _ => ∃ (a : F.α) (st : Addr) (M : List Addr), Stm st M H ∧ st ∈ M ∧ (∀ b ∈ M, ∃ o, H b = some o) ∧ Iss st M H vs (F.arg a) ∧ F.pre a ∧
  ∀ r H' d, F.rel a d → Fx st H H' → Is st M H' r d → Q r H'
theorem de_call {F : FS} {E : XK} (h : Da tas env fun xs => ∃ a : F.α, xs = F.arg a ∧ F.pre a ∧ ∀ d, F.rel a d → post d) : De (tCall (PF F) [] E tas) env post := fun B M σ H S Q q =>
  h B M σ H S _ fun vs H2 xs ⟨a, ea, hy1, hy2⟩ S2 e2 i2 => ⟨a, B.st, M, S2.stm, S2.stM, S2.trk, by rw [List.append_nil, ← ea]; exact i2, hy1, fun r H' d hd e3 i3 => q r H' d (hy2 d hd) (S2.fx e3) (e2.trans e3) i3⟩
theorem de_tup (h : Da tas env fun xs => xs.length ≤ 1000000 ∧ post (.tup xs)) : De (tTup tas) env post := fun B M σ H S Q q =>
  h B M σ H S _ fun vs H2 xs hy S2 e2 i2 => ⟨Nat.le_trans (by rw [i2.length]; exact hy.1) (by decide), fun p hp => q _ _ _ hy.2 (S2.new hp) (e2.trans (Fx.new hp)) (.tup upd_same (S2.iss (Fx.new hp) i2))⟩
theorem de_lst (h : Da tas env fun xs => xs.length ≤ 1000000 ∧ post (.lst xs)) : De (tLst tas) env post := fun B M σ H S Q q =>
  h B M σ H S _ fun vs H2 xs hy S2 e2 i2 => ⟨Nat.le_trans (by rw [i2.length]; exact hy.1) (by decide), fun p hp => q _ _ _ hy.2 (S2.new hp) (e2.trans (Fx.new hp)) (.lst (S2.newM hp) upd_same (S2.iss (Fx.new hp) i2))⟩
theorem is_bl {st : Addr} {M : List Addr} {H : Hp} {v : V} {b : Bool} (h : Is st M H v (.bl b)) : v = .bl b := by cases h; rfl
theorem is_int {st : Addr} {M : List Addr} {H : Hp} {v : V} {b : Int} (h : Is st M H v (.int b)) : v = .int b := by cases h; rfl
theorem is_str {st : Addr} {M : List Addr} {H : Hp} {v : V} {b : List Nat} (h : Is st M H v (.str b)) : v = .str ⟨b.toArray⟩ := by cases h; rfl
theorem is_non {st : Addr} {M : List Addr} {H : Hp} {v : V} (h : Is st M H v .non) : v = .non := by cases h; rfl
theorem is_tup {st : Addr} {M : List Addr} {H : Hp} {v : V} {ds : List D} (h : Is st M H v (.tup ds)) : ∃ p vs, v = .ref p ∧ H p = some (.tup vs) ∧ Iss st M H vs ds := by cases h with | tup h hs => exact ⟨_, _, rfl, h, hs⟩
theorem is_ptp {st : Addr} {M : List Addr} {H : Hp} {v : V} {ds : List D} (h : Is st M H v (.ptp ds)) : ∃ p vs o, v = .ref p ∧ H p = some (.frz o (.tup vs)) ∧ (o.cls = .type "tuple" ∧ o.dict = none) ∧ Iss st M H vs ds := by cases h with | ptp hm h hc hs => exact ⟨_, _, _, rfl, h, hc, hs⟩
/-- a tuple, read -/
def SqD : D → List D → Prop
  | .tup l, ds => l = ds
  | .ptp l, ds => l = ds
  | _, _ => False
theorem _root_.L2.SqT.ofF {K : PySem.W.Frag} {H : Hp} {p : Addr} {o : Obj} {vs : List V} (h : H p = some (.frz o (.tup vs))) : SqT K H p vs := .inl (.inr ⟨_, h⟩)
theorem is_sq {K : PySem.W.Frag} {st : Addr} {M : List Addr} {H : Hp} {v : V} {d : D} {ds : List D} (hd : SqD d ds) (h : Is st M H v d) : ∃ p vs, v = .ref p ∧ SqT K H p vs ∧ Iss st M H vs ds := by
  cases h with
  | tup h hs => cases hd; exact ⟨_, _, rfl, .of h, hs⟩
  | ptp hm h hc hs => cases hd; exact ⟨_, _, rfl, .ofF h, hs⟩
  | _ => exact hd.elim
theorem is_lst {st : Addr} {M : List Addr} {H : Hp} {v : V} {ds : List D} (h : Is st M H v (.lst ds)) : ∃ p vs, v = .ref p ∧ p ∉ M ∧ H p = some (.lst vs) ∧ Iss st M H vs ds := by cases h with | lst hm h hs => exact ⟨_, _, rfl, hm, h, hs⟩
/-! tests -/
theorem dt_test {postb : Bool → Prop} (h : De te env fun x => ∃ b, x = .bl b ∧ postb b) : Dt (tTest te) env postb := fun B M σ H S Q q =>
  h B M σ H S _ fun v H1 x ⟨b, e, hb⟩ S1 e1 i1 => by
    subst e
    exact ⟨b, is_bl i1, q b H1 hb S1 e1⟩
theorem dt_B {postb : Bool → Prop} (h : De te env fun x => ∃ b, x = .bl b ∧ postb b) : Dt (tB te) env postb := fun B M σ H S Q q =>
  h B M σ H S _ fun v H1 x ⟨b, e, hb⟩ S1 e1 i1 => by
    subst e
    exact ⟨b, is_bl i1, q b H1 hb S1 e1⟩
theorem dt_and {postb : Bool → Prop} (h : Dt t env fun b => if b = true then Dt u env postb else postb false) : Dt (tAnd t u) env postb := fun B M σ H S Q q =>
  h B M σ H S _ fun b H1 hb S1 e1 => by
    cases b with
    | true => exact hb B M σ H1 S1 Q fun b2 H2 h2 S2 e2 => q b2 H2 h2 S2 (e1.trans e2)
    | false => exact q false H1 hb S1 e1
theorem dt_or {postb : Bool → Prop} (h : Dt t env fun b => if b = true then postb true else Dt u env postb) : Dt (tOr t u) env postb := fun B M σ H S Q q =>
  h B M σ H S _ fun b H1 hb S1 e1 => by
    cases b with
    | false => exact hb B M σ H1 S1 Q fun b2 H2 h2 S2 e2 => q b2 H2 h2 S2 (e1.trans e2)
    | true => exact q true H1 hb S1 e1
theorem dt_not {postb : Bool → Prop} (h : Dt t env fun b => postb (!b)) : Dt (tNot t) env postb := fun B M σ H S Q q =>
  h B M σ H S _ fun b H1 hb S1 e1 => q _ H1 hb S1 e1
theorem de_andV (h : De ta env fun x => ∃ b, x = .bl b ∧ if b = true then De tb env post else post (.bl false)) : De (tAndV ta tb) env post := fun B M σ H S Q q =>
  h B M σ H S _ fun v H1 x ⟨b, e, hb⟩ S1 e1 i1 => by
    subst e
    refine ⟨b, is_bl i1, ?_⟩
    cases b with
    | true => exact hb B M σ H1 S1 Q fun v2 H2 d h2 S2 e2 => q v2 H2 d h2 S2 (e1.trans e2)
    | false => exact q _ H1 _ hb S1 e1 (.bl false)
theorem de_orV (h : De ta env fun x => ∃ b, x = .bl b ∧ if b = true then post (.bl true) else De tb env post) : De (tOrV ta tb) env post := fun B M σ H S Q q =>
  h B M σ H S _ fun v H1 x ⟨b, e, hb⟩ S1 e1 i1 => by
    subst e
    refine ⟨b, is_bl i1, ?_⟩
    cases b with
    | false => exact hb B M σ H1 S1 Q fun v2 H2 d h2 S2 e2 => q v2 H2 d h2 S2 (e1.trans e2)
    | true => exact q _ H1 _ hb S1 e1 (.bl true)
theorem de_notV (h : De ta env fun x => ∃ b, x = .bl b ∧ post (.bl (!b))) : De (tNotV ta) env post := fun B M σ H S Q q =>
  h B M σ H S _ fun v H1 x ⟨b, e, hb⟩ S1 e1 i1 => by
    subst e
    exact ⟨b, is_bl i1, q _ H1 _ hb S1 e1 (.bl (!b))⟩
theorem de_if (h : Dt t env fun b => if b = true then De ta env post else De tb env post) : De (tIf t ta tb) env post := fun B M σ H S Q q =>
  h B M σ H S _ fun b H1 hb S1 e1 => by
    cases b with
    | true => exact hb B M σ H1 S1 Q fun v2 H2 d h2 S2 e2 => q v2 H2 d h2 S2 (e1.trans e2)
    | false => exact hb B M σ H1 S1 Q fun v2 H2 d h2 S2 e2 => q v2 H2 d h2 S2 (e1.trans e2)
theorem de_chain (h : De ta env fun x => De tb env fun y => Dop r x y fun z => ∃ b, z = .bl b ∧ if b = true then De tc env (fun w => Dop r' y w post) else post (.bl false)) : De (tChain r r' ta tb tc) env post := by
  intro B M σ H S Q q
  refine h B M σ H S _ fun v H1 x hx S1 e1 i1 => hx B M σ H1 S1 _ fun w H2 y hy S2 e2 i2 => ?_
  refine hy B.st M H2 v w S2.stm S2.stM S2.trk (S1.is e2 i1) i2 _ fun z H3 d hd e3 i3 => ?_
  obtain ⟨b, eb, hb⟩ := hd
  subst eb
  have S3 := S2.fx e3
  refine ⟨b, is_bl i3, ?_⟩
  cases b with
  | true =>
    refine hb B M σ H3 S3 _ fun w2 H4 y2 hy2 S4 e4 i4 => ?_
    refine hy2 B.st M H4 w w2 S4.stm S4.stM S4.trk (S3.is e4 (S2.is e3 i2)) i4 Q fun z5 H5 d5 hd5 e5 i5 => ?_
    exact q z5 H5 d5 hd5 (S4.fx e5) ((((e1.trans e2).trans e3).trans e4).trans e5) i5
  | false => exact q _ H3 _ hb S3 ((e1.trans e2).trans e3) (.bl false)
/-- truth -/
def tTruD (K : PySem.W.Frag) (te : TE) : TT := fun σ H Q => te σ H fun x H' => ∃ k, TruV K x H' k ∧ Q k H'
def dTru : D → Option Bool
  | .non => some false
  | .bl b => some b
  | .int i => some (i != 0)
  | .str s => some (!s.isEmpty)
  | .lst ds => some (!ds.isEmpty)
  | .tup ds => some (!ds.isEmpty)
  | .ptp ds => some (!ds.isEmpty)
  | _ => none
end
end DL

namespace DL
open PySem PySem.Spec PyProof.Rows L2

section
variable {B : Bs} {M M' : List Addr} {H H' : Hp} {σ : L2.St} {env env' : Nv} {nx : Nv → Prop} {rt : D → Prop} {bk ct : Nv → Prop} {t u : TS} {c : TT} {te ta tb : TE} {tas : TA} {post : D → Prop} {K : PySem.W.Frag}
theorem ds_seq (h : Ds t env (fun e => Ds u e nx rt bk ct) rt bk ct) : Ds (tSeq t u) env nx rt bk ct := fun B M σ H S E q1 q2 q3 q4 =>
  h B M σ H S _ (fun M' σ' H' e' he S' => he B M' σ' H' S' E q1 q2 q3 q4) q2 q3 q4
theorem ds_mid (Mid : Nv → Prop) (h : Ds t env Mid rt bk ct) (k : ∀ e, Mid e → nx e) : Ds t env nx rt bk ct := fun B M σ H S E q1 q2 q3 q4 =>
  h B M σ H S E (fun M' σ' H' e' he S' => q1 M' σ' H' e' (k e' he) S') q2 q3 q4
theorem ds_next (h : nx env) : Ds tNext env nx rt bk ct := fun B M σ H S E q1 q2 q3 q4 => q1 M σ H env h S
theorem ds_brk (h : bk env) : Ds tBreak env nx rt bk ct := fun B M σ H S E q1 q2 q3 q4 => q3 M σ H env h S
theorem ds_cont (h : ct env) : Ds tCont env nx rt bk ct := fun B M σ H S E q1 q2 q3 q4 => q4 M σ H env h S
theorem ds_if (h : Dt c env fun b => if b = true then Ds t env nx rt bk ct else Ds u env nx rt bk ct) : Ds (tIfS c t u) env nx rt bk ct := fun B M σ H S E q1 q2 q3 q4 =>
  h B M σ H S _ fun b H1 hb S1 e1 => by
    cases b with
    | true => exact hb B M σ H1 S1 E q1 q2 q3 q4
    | false => exact hb B M σ H1 S1 E q1 q2 q3 q4
theorem ds_ret (h : De te env rt) : Ds (tRet te) env nx rt bk ct := fun B M σ H S E q1 q2 q3 q4 =>
  h B M σ H S _ fun v H1 d hd S1 e1 i1 => q2 v H1 d hd S1.keep (i1.mono S1.sub S1.stM (Fx.refl _ _) S1.nt)
theorem ds_retN (h : rt .non) : Ds tRetN env nx rt bk ct := fun B M σ H S E q1 q2 q3 q4 => q2 .non H .non h S.keep .non
theorem ds_drop (h : De te env fun _ => nx env) : Ds (tDrop te) env nx rt bk ct := fun B M σ H S E q1 q2 q3 q4 =>
  h B M σ H S _ fun v H1 d hd S1 e1 i1 => q1 M σ H1 env hd S1
theorem Sr.set (S : Sr B M σ H env) {i : Nat} {v : V} {d : D} (h : Is B.st M H v d) : Sr B M (σ.set i (some v)) H (env.set i (.dat d)) where
  stm := S.stm
  stM := S.stM
  keep := S.keep
  sub := S.sub
  fresh := S.fresh
  trk := S.trk
  st0 := S.st0
  trk0 := S.trk0
  len := by rw [List.length_set, List.length_set, S.len]
  dat := fun j e hj => by
    by_cases q : i = j
    · subst q
      have hl : i < env.length := by
        have := (List.getElem?_eq_some_iff.mp hj).1
        rwa [List.length_set] at this
      rw [List.getElem?_set_self hl] at hj
      cases hj
      exact ⟨v, by rw [List.getElem?_set_self (by rw [S.len]; exact hl)], h⟩
    · rw [List.getElem?_set_ne q] at hj
      rw [List.getElem?_set_ne q]
      exact S.dat j e hj
  own := fun j o hj => by
    by_cases q : i = j
    · subst q
      have hl : i < env.length := by
        have := (List.getElem?_eq_some_iff.mp hj).1
        rwa [List.length_set] at this
      rw [List.getElem?_set_self hl] at hj
      cases hj
    · rw [List.getElem?_set_ne q] at hj
      rw [List.getElem?_set_ne q]
      exact S.own j o hj
  inj := fun j k p o u hj hk h1 h2 => by
    have nj : i ≠ j := fun q => by
      subst q
      have hl : i < env.length := by
        have := (List.getElem?_eq_some_iff.mp hj).1
        rwa [List.length_set] at this
      rw [List.getElem?_set_self hl] at hj
      cases hj
    have nk : i ≠ k := fun q => by
      subst q
      have hl : i < env.length := by
        have := (List.getElem?_eq_some_iff.mp hk).1
        rwa [List.length_set] at this
      rw [List.getElem?_set_self hl] at hk
      cases hk
    rw [List.getElem?_set_ne nj] at hj h1
    rw [List.getElem?_set_ne nk] at hk h2
    exact S.inj j k p o u hj hk h1 h2
  hid := S.hid
  ob := fun j b p C fs hj => by
    rcases setAt hj with ⟨_, z⟩ | ⟨nj, hj⟩
    · cases z
    · have O := S.ob j b p C fs hj
      refine O.tr (List.getElem?_set_ne fun z => nj z.symm) O.ob.inM (fun _ _ _ h => h) (fun h => h) (fun k o r hk hr => ?_) fun k b' p' C' fs' hk => ?_
      · rcases setAt hk with ⟨_, z⟩ | ⟨nk, hk⟩
        · cases z
        · rw [List.getElem?_set_ne fun z => nk z.symm] at hr
          exact O.dis k o r hk hr
      · rcases setAt hk with ⟨_, z⟩ | ⟨nk, hk⟩
        · cases z
        · exact O.one k b' p' C' fs' hk
theorem ds_set {i : Nat} (h : De te env fun d => nx (env.set i (.dat d))) : Ds (tAsg te (gName i)) env nx rt bk ct := fun B M σ H S E q1 q2 q3 q4 =>
  h B M σ H S _ fun v H1 d hd S1 e1 i1 => q1 M _ H1 _ hd (S1.set i1)
/-- name op= e -/
theorem ds_aug {i : Nat} {f : Int → Int → Int} {a : Int} (ha : env[i]? = some (.dat (.int a))) (h : De te env fun d => ∃ b, d = .int b ∧ nx (env.set i (.dat (.int (f a b))))) : Ds (tAug i te (ipI f)) env nx rt bk ct := fun B M σ H S E q1 q2 q3 q4 => by
  obtain ⟨x, h1, h2⟩ := S.dat i _ ha
  cases is_int h2
  refine ⟨.int a, h1, h B M σ H S _ fun v H1 d hd S1 e1 i1 => ?_⟩
  obtain ⟨b, rfl, hd⟩ := hd
  cases is_int i1
  exact ⟨a, b, rfl, rfl, q1 M _ H1 _ hd (S1.set (.int _))⟩

/-! ### lists of one's own -/
def toD : Ow → D
  | .lst ds => .lst ds
  | .dK kvs => .dK kvs
  | .dT kvs => .dT kvs
  | .dKx ks ds => .dKx ks ds
  | .dTx ks ds => .dTx ks ds
  | .dN .. => .obn
theorem OwOk.is {st p : Addr} {h : HO} {o : Ow} (k : OwOk st M H h o) (hp : p ∉ M) (e : H p = some h) : Is st M H (.ref p) (toD o) := by
  cases k with
  | lst hs => exact .lst hp e hs
  | dK hf => exact .dK hp e hf
  | dT hf => exact .dT hp e hf
  | dKx hl hs => exact .dKx hp e hl hs
  | dTx hl hs => exact .dTx hp e hl hs
  | dN hk hn h8 hf hv => exact .obn _
theorem OwOk.mono {st : Addr} (hM : ∀ b ∈ M', b ∈ M) (hS : st ∈ M) (e : Fx st H H') (ht : ∀ vs, H st ≠ some (.tup vs)) {h : HO} {o : Ow} (k : OwOk st M H h o) : OwOk st M' H' h o := by
  cases k with
  | lst h => exact .lst (h.mono hM hS e ht)
  | dK hf => exact .dK hf
  | dT hf => exact .dT hf
  | dKx hl hs => exact .dKx hl (hs.mono hM hS e ht)
  | dTx hl hs => exact .dTx hl (hs.mono hM hS e ht)
  | dN hk hn h8 hf hv => exact .dN (hk.mono hM hS e ht) hn h8 hf hv
/-- a fresh object comes, reached by nothing -/
def DeN (te : TE) (env : Nv) (post : Ow → Prop) : Prop := ∀ B M σ H, Sr B M σ H env → ∀ Q : VK,
  (∀ p H' h o, post o → Sr B (p :: M) σ H' env → Fx B.st H H' → H' p = some h → OwOk B.st (p :: M) H' h o → H p = none → Q (.ref p) H') → te σ H Q
theorem Sr.less (S : Sr B M σ H env) (hs : ∀ b ∈ M', b ∈ M) (h0 : ∀ b ∈ B.M0, b ∈ M') (ho : ∀ (i : Nat) o p, env[i]? = some (.own o) → σ[i]? = some (some (.ref p)) → p ∈ M')
    (hob : ∀ (i : Nat) b p C fs, env[i]? = some (.obj b p C fs) → ∀ x ∈ p :: cells fs, x ∈ M') : Sr B M' σ H env where
  stm := S.stm.fx (Fx.refl _ _) hs
  stM := h0 _ S.st0
  keep := S.keep
  sub := h0
  fresh := fun b hb => S.fresh b (hs b hb)
  trk := fun b hb => S.trk b (hs b hb)
  st0 := S.st0
  trk0 := S.trk0
  len := S.len
  dat := fun i d h => by
    obtain ⟨v, h1, h2⟩ := S.dat i d h
    exact ⟨v, h1, h2.mono hs S.stM (Fx.refl _ _) S.nt⟩
  own := fun i o h => by
    obtain ⟨p, u, h1, h2, h3, h4, h5⟩ := S.own i o h
    exact ⟨p, u, h1, ho i o p h h1, h3, h4, h5.mono hs S.stM (Fx.refl _ _) S.nt⟩
  inj := S.inj
  hid := fun x hx => (S.hid x hx).mono hs S.stM (Fx.refl _ _) S.nt
  ob := fun i b p C fs h => let O := S.ob i b p C fs h; O.tr rfl (hob i b p C fs h) (fun _ _ _ z => z) (fun z => z.mono hs S.stM (Fx.refl _ _) S.nt) O.dis O.one
theorem de_ofN (h : DeN te env fun o => post (toD o)) : De te env post := fun B M σ H S Q q =>
  h B M σ H S Q fun p H' u o hp S' e hu ko hn => by
    have nM : p ∉ M := S.newM hn
    have sub : ∀ b ∈ M, b ∈ p :: M := fun b hb => List.mem_cons_of_mem _ hb
    exact q _ H' _ hp (S.fx e) e ((ko.mono sub S'.stM (Fx.refl _ _) S'.nt).is nM hu)
/-- a slot is given up -/
def Nv.free (env : Nv) (i : Nat) : Nv := env.set i .any
theorem Sr.any (S : Sr B M σ H env) {i : Nat} {v : Option V} : Sr B M (σ.set i v) H (env.set i .any) where
  stm := S.stm
  stM := S.stM
  keep := S.keep
  sub := S.sub
  fresh := S.fresh
  trk := S.trk
  st0 := S.st0
  trk0 := S.trk0
  len := by rw [List.length_set, List.length_set, S.len]
  dat := fun j e hj => by
    by_cases q : i = j
    · subst q
      have hl : i < env.length := by
        have := (List.getElem?_eq_some_iff.mp hj).1
        rwa [List.length_set] at this
      rw [List.getElem?_set_self hl] at hj
      cases hj
    · rw [List.getElem?_set_ne q] at hj
      rw [List.getElem?_set_ne q]
      exact S.dat j e hj
  own := fun j o hj => by
    by_cases q : i = j
    · subst q
      have hl : i < env.length := by
        have := (List.getElem?_eq_some_iff.mp hj).1
        rwa [List.length_set] at this
      rw [List.getElem?_set_self hl] at hj
      cases hj
    · rw [List.getElem?_set_ne q] at hj
      rw [List.getElem?_set_ne q]
      exact S.own j o hj
  inj := fun j k p o u hj hk h1 h2 => by
    have nj : i ≠ j := fun q => by
      subst q
      have hl : i < env.length := by
        have := (List.getElem?_eq_some_iff.mp hj).1
        rwa [List.length_set] at this
      rw [List.getElem?_set_self hl] at hj
      cases hj
    have nk : i ≠ k := fun q => by
      subst q
      have hl : i < env.length := by
        have := (List.getElem?_eq_some_iff.mp hk).1
        rwa [List.length_set] at this
      rw [List.getElem?_set_self hl] at hk
      cases hk
    rw [List.getElem?_set_ne nj] at hj h1
    rw [List.getElem?_set_ne nk] at hk h2
    exact S.inj j k p o u hj hk h1 h2
  hid := S.hid
  ob := fun j b p C fs hj => by
    rcases setAt hj with ⟨_, z⟩ | ⟨nj, hj⟩
    · cases z
    · have O := S.ob j b p C fs hj
      refine O.tr (List.getElem?_set_ne fun z => nj z.symm) O.ob.inM (fun _ _ _ h => h) (fun h => h) (fun k o r hk hr => ?_) fun k b' p' C' fs' hk => ?_
      · rcases setAt hk with ⟨_, z⟩ | ⟨nk, hk⟩
        · cases z
        · rw [List.getElem?_set_ne fun z => nk z.symm] at hr
          exact O.dis k o r hk hr
      · rcases setAt hk with ⟨_, z⟩ | ⟨nk, hk⟩
        · cases z
        · exact O.one k b' p' C' fs' hk
/-- what is known of slots may be forgotten -/
theorem Sr.weak (S : Sr B M σ H env) (hl : env'.length = env.length) (h : ∀ (i : Nat) s, env'[i]? = some s → s = .any ∨ env[i]? = some s) : Sr B M σ H env' where
  stm := S.stm
  stM := S.stM
  keep := S.keep
  sub := S.sub
  fresh := S.fresh
  trk := S.trk
  st0 := S.st0
  trk0 := S.trk0
  len := S.len.trans hl.symm
  dat := fun j e hj => (h j _ hj).elim (fun z => nomatch z) fun z => S.dat j e z
  own := fun j e hj => (h j _ hj).elim (fun z => nomatch z) fun z => S.own j e z
  inj := fun j k p o u hj hk => S.inj j k p o u ((h j _ hj).elim (fun z => nomatch z) id) ((h k _ hk).elim (fun z => nomatch z) id)
  hid := S.hid
  ob := fun j b p C fs hj => by
    have O := S.ob j b p C fs ((h j _ hj).elim (fun z => nomatch z) id)
    exact O.tr rfl O.ob.inM (fun _ _ _ h => h) (fun h => h) (fun k o r hk hr => O.dis k o r ((h k _ hk).elim (fun z => nomatch z) id) hr) fun k b' p' C' fs' hk => O.one k b' p' C' fs' ((h k _ hk).elim (fun z => nomatch z) id)
/-- a slot takes a fresh object for its own -/
theorem Sr.setN (S : Sr B (p :: M) σ H env) (S0 : Sr B M σ H' env) {i : Nat} (hn : H' p = none) {h : HO} {o : Ow} (e : H p = some h) (k : OwOk B.st (p :: M) H h o) : Sr B (p :: M) (σ.set i (some (.ref p))) H (env.set i (.own o)) := by
  have A := S.any (i := i) (v := some (.ref p))
  have ne : ∀ (j : Nat) u q, env[j]? = some (.own u) → σ[j]? = some (some (.ref q)) → q ≠ p := fun j u q h1 h2 z => by
    obtain ⟨p2, x, g1, g2, g3, g4, g5⟩ := S0.own j u h1
    rw [h2] at g1
    cases g1
    rw [z, hn] at g4
    cases g4
  have set_at : ∀ {α : Type} {l : List α} {j : Nat} {x y : α}, (l.set i x)[j]? = some y → (j = i ∧ y = x) ∨ (j ≠ i ∧ l[j]? = some y) := fun {α l j x y} hj => by
    by_cases q : i = j
    · subst q
      have hl : i < l.length := by
        have := (List.getElem?_eq_some_iff.mp hj).1
        rwa [List.length_set] at this
      rw [List.getElem?_set_self hl] at hj
      exact .inl ⟨rfl, (Option.some.inj hj).symm⟩
    · rw [List.getElem?_set_ne q] at hj
      exact .inr ⟨fun z => q z.symm, hj⟩
  refine ⟨A.stm, A.stM, A.keep, A.sub, A.fresh, A.trk, A.st0, A.trk0, by rw [List.length_set, List.length_set, S.len], fun j d hj => ?_, fun j u hj => ?_, fun j l q u w hj hk h1 h2 => ?_, A.hid, fun j b p' C fs hj => ?_⟩
  · rcases set_at hj with ⟨_, z⟩ | ⟨nj, hj⟩
    · cases z
    · rw [List.getElem?_set_ne (fun z => nj z.symm)]
      exact S.dat j d hj
  · rcases set_at hj with ⟨rfl, z⟩ | ⟨nj, hj'⟩
    · cases z
      have hl : j < env.length := by
        have := (List.getElem?_eq_some_iff.mp hj).1
        rwa [List.length_set] at this
      refine ⟨p, h, by rw [List.getElem?_set_self (by rw [S.len]; exact hl)], List.mem_cons_self, fun z => ?_, e, k⟩
      obtain ⟨x, hx⟩ := S0.trk p (S0.sub p z)
      rw [hn] at hx
      cases hx
    · rw [List.getElem?_set_ne (fun z => nj z.symm)]
      exact S.own j u hj'
  · rcases set_at hj with ⟨rfl, _⟩ | ⟨nj, hj'⟩
    · rcases set_at hk with ⟨rfl, _⟩ | ⟨nk, hk'⟩
      · rfl
      · rw [List.getElem?_set_ne (fun z => nk z.symm)] at h2
        have hl : j < σ.length := by
          have := (List.getElem?_eq_some_iff.mp h1).1
          rwa [List.length_set] at this
        rw [List.getElem?_set_self hl] at h1
        cases h1
        exact absurd rfl (ne l w p hk' h2)
    · rw [List.getElem?_set_ne (fun z => nj z.symm)] at h1
      rcases set_at hk with ⟨rfl, _⟩ | ⟨nk, hk'⟩
      · have hl : l < σ.length := by
          have := (List.getElem?_eq_some_iff.mp h2).1
          rwa [List.length_set] at this
        rw [List.getElem?_set_self hl] at h2
        cases h2
        exact absurd rfl (ne j u p hj' h1)
      · rw [List.getElem?_set_ne (fun z => nk z.symm)] at h2
        exact S.inj j l q u w hj' hk' h1 h2
  · rcases set_at hj with ⟨_, z⟩ | ⟨nj, hj'⟩
    · cases z
    · have O := S.ob j b p' C fs hj'
      have O0 := S0.ob j b p' C fs hj'
      refine O.tr (List.getElem?_set_ne fun z => nj z.symm) O.ob.inM (fun _ _ _ h => h) (fun h => h) (fun k o r hk hr => ?_) fun k b' p2 C' fs' hk => ?_
      · rcases set_at hk with ⟨rfl, z⟩ | ⟨nk, hk⟩
        · have hl : k < σ.length := by
            have := (List.getElem?_eq_some_iff.mp hr).1
            rwa [List.length_set] at this
          rw [List.getElem?_set_self hl] at hr
          cases hr
          intro z
          obtain ⟨x, hx⟩ := S0.trk p (O0.ob.inM p z)
          rw [hn] at hx
          cases hx
        · rw [List.getElem?_set_ne fun z => nk z.symm] at hr
          exact O.dis k o r hk hr
      · rcases set_at hk with ⟨_, z⟩ | ⟨nk, hk⟩
        · cases z
        · exact O.one k b' p2 C' fs' hk
theorem ds_setN {i : Nat} (h : DeN te env fun o => nx (env.set i (.own o))) : Ds (tAsg te (gName i)) env nx rt bk ct := fun B M σ H S E q1 q2 q3 q4 =>
  h B M σ H S _ fun p H' u o hp S' e hu ko hn => q1 _ _ H' _ hp (S'.setN S hn hu ko)
/-- a new object is laid and taken into M -/
theorem Sr.newIn (S2 : Sr B M σ H env) {p : Addr} (hn : H p = none) (o : HO) : Sr B (p :: M) σ (upd H p o) env := by
  have S3 : Sr B M σ (upd H p o) env := S2.new hn
  have hk : ∀ b ∈ (p :: M), b ∈ B.M0 ∨ B.H0 b = none := fun b hb => (List.mem_cons.mp hb).elim (fun z => .inr (z ▸ S2.new0 hn)) (S2.fresh b)
  have mo : ∀ {v : V} {d : D}, Is B.st M H v d → Is B.st (p :: M) (upd H p o) v d := fun h => (h.more hn).mono (fun _ z => z) (List.mem_cons_of_mem _ S2.stM) (Fx.new hn) S2.nt
  have moo : ∀ {v : List V} {d : List D}, Iss B.st M H v d → Iss B.st (p :: M) (upd H p o) v d := fun h => (h.more hn).mono (fun _ z => z) (List.mem_cons_of_mem _ S2.stM) (Fx.new hn) S2.nt
  have ne : p ≠ B.st := fun z => S2.newM hn (z ▸ S2.stM)
  refine ⟨?_, List.mem_cons_of_mem _ S2.stM, S3.keep, fun b hb => List.mem_cons_of_mem _ (S2.sub b hb), hk, fun b hb => ?_, S2.st0, S2.trk0, S2.len, fun i d hd => ?_, fun i u ho => ?_, S2.inj, fun x hx => mo (S2.hid x hx), fun i b q C fs h => let O := S2.ob i b q C fs h; O.tr rfl (fun x hx => List.mem_cons_of_mem _ (O.ob.inM x hx)) (fun x hx u hu => by rw [upd_ne (ne_of_none hu hn)]; exact hu) mo O.dis O.one⟩
  · obtain ⟨a, ns, c, k, h1, h2, h3, h4, h5⟩ := S3.stm
    refine ⟨a, ns, c, k, fun z => (List.mem_cons.mp z).elim (fun z => ?_) h1, h2, h3, h4, h5⟩
    obtain ⟨a', ns', c', k', g1, g2, g3, g4, g5⟩ := S2.stm
    have h3' : H B.st = some (.lst [.ref a, .int c, .int k]) := by
      rw [← h3, upd_ne (fun z => ne z.symm)]
    rw [h3'] at g3
    have : a = a' := by injection g3 with g3; injection g3 with g3; injection g3 with g3 _; injection g3
    rw [← this, z, hn] at g4
    cases g4
  · by_cases z : b = p
    · subst z
      exact ⟨o, upd_same⟩
    · exact S3.trk b ((List.mem_cons.mp hb).resolve_left z)
  · obtain ⟨v, h1, h2⟩ := S2.dat i d hd
    exact ⟨v, h1, mo h2⟩
  · obtain ⟨p', u', h1, h2, h3, h4, h5⟩ := S2.own i u ho
    refine ⟨p', u', h1, List.mem_cons_of_mem _ h2, h3, by rw [upd_ne (ne_of_none h4 hn)]; exact h4, ?_⟩
    cases h5 with
    | lst h => exact .lst (moo h)
    | dK hf => exact .dK hf
    | dT hf => exact .dT hf
    | dKx hl hs => exact .dKx hl (moo hs)
    | dTx hl hs => exact .dTx hl (moo hs)
    | dN hk hn h8 hf hv => exact .dN (moo hk) hn h8 hf hv
theorem Sr.newIs (S2 : Sr B M σ H env) {p : Addr} (hn : H p = none) (o : HO) {v : List V} {d : List D} (h : Iss B.st M H v d) : Iss B.st (p :: M) (upd H p o) v d :=
  (h.more hn).mono (fun _ z => z) (List.mem_cons_of_mem _ S2.stM) (Fx.new hn) S2.nt
theorem fresh_back {H H' : Hp} {p st : Addr} (e : Fx st H H') (ne : p ≠ st) (h : H' p = none) : H p = none := by
  cases z : H p with
  | none => rfl
  | some o =>
    rw [e.1 p o ne z] at h
    cases h
theorem Sr.nst (S : Sr B M σ H env) {p : Addr} (hn : H p = none) : p ≠ B.st := fun z => S.newM hn (z ▸ S.stM)
theorem den_lst {postN : Ow → Prop} (h : Da tas env fun xs => xs.length ≤ 1000000 ∧ postN (.lst xs)) : DeN (tLst tas) env postN := fun B M σ H S Q q =>
  h B M σ H S _ fun vs H2 xs hy S2 e2 i2 => ⟨Nat.le_trans (by rw [i2.length]; exact hy.1) (by decide), fun p hn =>
    q p _ (.lst vs) (.lst xs) hy.2 (S2.newIn hn _) (e2.trans (Fx.new hn)) upd_same (.lst (S2.newIs hn _ i2)) (fresh_back e2 (S2.nst hn) hn)⟩

/-! ### giving up what is one's own; looking at it -/
theorem Sr.rel (S : Sr B M σ H env) {i : Nat} {o : Ow} (hi : env[i]? = some (.own o)) : ∃ M', (∀ b ∈ M', b ∈ M) ∧ Sr B M' σ H (env.set i (.dat (toD o))) ∧ ∀ b ∈ M, b ∉ M' → σ[i]? = some (some (.ref b)) := by
  obtain ⟨p, u, h1, h2, h3, h4, h5⟩ := S.own i o hi
  have hl : i < env.length := (List.getElem?_eq_some_iff.mp hi).1
  have hM : ∀ b ∈ M.filter (fun b => decide (b ≠ p)), b ∈ M := fun b hb => (List.mem_filter.mp hb).1
  have h0 : ∀ b ∈ B.M0, b ∈ M.filter (fun b => decide (b ≠ p)) := fun b hb => List.mem_filter.mpr ⟨S.sub b hb, decide_eq_true fun z => h3 (z ▸ hb)⟩
  have S1 : Sr B M σ H (env.set i .any) := S.weak (by rw [List.length_set]) fun j s hj => by
    by_cases q : i = j
    · subst q
      rw [List.getElem?_set_self hl] at hj
      exact .inl (Option.some.inj hj).symm
    · rw [List.getElem?_set_ne q] at hj
      exact .inr hj
  have S2 : Sr B (M.filter fun b => decide (b ≠ p)) σ H (env.set i .any) := S1.less hM h0 (fun j w q h6 h7 => by
    by_cases z : i = j
    · subst z
      rw [List.getElem?_set_self hl] at h6
      cases h6
    · rw [List.getElem?_set_ne z] at h6
      obtain ⟨p2, u2, g1, g2, g3, g4, g5⟩ := S.own j w h6
      rw [h7] at g1
      cases g1
      exact List.mem_filter.mpr ⟨g2, decide_eq_true fun y => z (S.inj i j p o w hi h6 h1 (y ▸ h7))⟩
   ) fun j b p' C fs h6 x hx => by
    rcases setAt h6 with ⟨_, z⟩ | ⟨_, h6⟩
    · cases z
    · have O := S.ob j b p' C fs h6
      exact List.mem_filter.mpr ⟨O.ob.inM x hx, decide_eq_true fun y => O.dis i o p hi h1 (y ▸ hx)⟩
  have hp : p ∉ M.filter (fun b => decide (b ≠ p)) := fun z => (of_decide_eq_true (List.mem_filter.mp z).2) rfl
  have S3 := S2.set (i := i) ((h5.mono hM S.stM (Fx.refl _ _) S.nt).is hp h4)
  refine ⟨_, hM, ?_, fun b hb hn => ?_⟩
  · rw [List.set_set] at S3
    have e : σ.set i (some (.ref p)) = σ := by
      apply List.ext_getElem?
      intro j
      by_cases q : i = j
      · subst q
        rw [List.getElem?_set_self (by rw [S.len]; exact hl), h1]
      · rw [List.getElem?_set_ne q]
    rw [e] at S3
    exact S3
  · have : b = p := Decidable.byContradiction fun z => hn (List.mem_filter.mpr ⟨hb, decide_eq_true z⟩)
    rw [this]
    exact h1
theorem ds_rel (i : Nat) {o : Ow} (hi : env[i]? = some (.own o)) (h : Ds t (env.set i (.dat (toD o))) nx rt bk ct) : Ds t env nx rt bk ct := fun B M σ H S E q1 q2 q3 q4 => by
  obtain ⟨M', _, S', _⟩ := S.rel hi
  exact h B M' σ H S' E q1 q2 q3 q4
/-- flat data reach nothing -/
def flatD : D → Prop
  | .non => True
  | .bl _ => True
  | .int _ => True
  | .str _ => True
  | .ty _ => True
  | _ => False
theorem Is.flat {st : Addr} {v : V} {d : D} (h : Is st M H v d) (f : flatD d) : Is st M' H' v d := by
  cases h with
  | non => exact .non
  | bl b => exact .bl b
  | int b => exact .int b
  | str b => exact .str b
  | ty b => exact .ty b
  | _ => exact f.elim
theorem de_look (i : Nat) {o : Ow} (hi : env[i]? = some (.own o)) (h : De te (env.set i (.dat (toD o))) fun d => flatD d ∧ post d) : De te env post := fun B M σ H S Q q => by
  obtain ⟨M', hM, S', _⟩ := S.rel hi
  exact h B M' σ H S' Q fun v H1 d hd S1 e1 i1 => q v H1 d hd.2 (S.fx e1) e1 (i1.flat hd.1)
theorem dt_look (i : Nat) {o : Ow} (hi : env[i]? = some (.own o)) {postb : Bool → Prop} (h : Dt c (env.set i (.dat (toD o))) postb) : Dt c env postb := fun B M σ H S Q q => by
  obtain ⟨M', hM, S', _⟩ := S.rel hi
  exact h B M' σ H S' Q fun b H1 hb S1 e1 => q b H1 hb (S.fx e1) e1
/-- what is one's own changes -/
theorem Sr.mutate (S : Sr B M σ H env) {i : Nat} {o o' : Ow} {p : Addr} {h h' : HO} (hi : env[i]? = some (.own o)) (hσ : σ[i]? = some (some (.ref p))) (hp : H p = some h) (k : OwOk B.st M H h o) (k' : OwOk B.st M H h' o') : Sr B M σ (upd H p h') (env.set i (.own o')) := by
  obtain ⟨p2, u, h1, h2, h3, h4, h5⟩ := S.own i o hi
  rw [hσ] at h1
  cases h1
  rw [hp] at h4
  cases h4
  have hl : i < env.length := (List.getElem?_eq_some_iff.mp hi).1
  have ne : p ≠ B.st := fun z => h3 (z ▸ S.st0)
  have nt : ∀ vs, H p ≠ some (.tup vs) := fun vs z => by
    rw [hp] at z
    exact k.notup vs (Option.some.inj z)
  have mo : ∀ {h : HO} {o : Ow}, OwOk B.st M H h o → OwOk B.st M (upd H p h') h o := fun k => by
    cases k with
    | lst h => exact .lst (h.upd h2 nt)
    | dK hf => exact .dK hf
    | dT hf => exact .dT hf
    | dKx hl hs => exact .dKx hl (hs.upd h2 nt)
    | dTx hl hs => exact .dTx hl (hs.upd h2 nt)
    | dN hk hn h8 hf hv => exact .dN (hk.upd h2 nt) hn h8 hf hv
  refine ⟨?_, S.stM, ⟨fun b u hb e => ?_, fun a c k q1 q2 e => ?_⟩, S.sub, S.fresh, fun b hb => ?_, S.st0, S.trk0, by rw [List.length_set]; exact S.len, fun j d hj => ?_, fun j w hj => ?_, fun j l q w x hj hk g1 g2 => ?_, fun x hx => (S.hid x hx).upd h2 nt, fun j b p' C fs hj => ?_⟩
  · obtain ⟨a, ns, c, k, g1, g2, g3, g4, g5⟩ := S.stm
    refine ⟨a, ns, c, k, g1, g2, by rw [upd_ne (fun z => ne z.symm)]; exact g3, by rw [upd_ne (fun z => g1 (by rw [z]; exact h2))]; exact g4, g5⟩
  · have nb : b ≠ p := fun z => by
      rcases S.fresh p h2 with y | y
      · exact h3 y
      · rw [z, y] at e
        cases e
    rw [upd_ne nb]
    exact S.keep.1 b u hb e
  · obtain ⟨c', k', r1, r2, r3⟩ := S.keep.2 a c k q1 q2 e
    exact ⟨c', k', r1, r2, by rw [upd_ne (fun z => ne z.symm)]; exact r3⟩
  · by_cases z : b = p
    · exact ⟨h', by rw [z, upd_same]⟩
    · rw [upd_ne z]
      exact S.trk b hb
  · by_cases q : i = j
    · subst q
      rw [List.getElem?_set_self hl] at hj
      cases hj
    · rw [List.getElem?_set_ne q] at hj
      obtain ⟨v, g1, g2⟩ := S.dat j d hj
      exact ⟨v, g1, g2.upd h2 nt⟩
  · by_cases q : i = j
    · subst q
      rw [List.getElem?_set_self hl] at hj
      cases hj
      exact ⟨p, h', hσ, h2, h3, upd_same, mo k'⟩
    · rw [List.getElem?_set_ne q] at hj
      obtain ⟨p3, u3, g1, g2, g3, g4, g5⟩ := S.own j w hj
      refine ⟨p3, u3, g1, g2, g3, by rw [upd_ne (fun z => q (S.inj i j p o w hi hj hσ (by rw [← z]; exact g1)))]; exact g4, mo g5⟩
  · have back : ∀ {j : Nat} {w : Ow}, (env.set i (.own o'))[j]? = some (.own w) → ∃ w', env[j]? = some (.own w') := fun {j w} hj => by
      by_cases q : i = j
      · subst q
        exact ⟨o, hi⟩
      · rw [List.getElem?_set_ne q] at hj
        exact ⟨w, hj⟩
    obtain ⟨w1, e1⟩ := back hj
    obtain ⟨w2, e2⟩ := back hk
    exact S.inj j l q w1 w2 e1 e2 g1 g2
  · rcases setAt hj with ⟨_, z⟩ | ⟨nj, hj⟩
    · cases z
    · have O := S.ob j b p' C fs hj
      refine O.tr rfl O.ob.inM (fun x hx u hu => ?_) (fun h => h.upd h2 nt) (fun k o r hk hr => ?_) fun k b' p2 C' fs' hk => ?_
      · rw [upd_ne (fun z : x = p => O.dis i _ p hi hσ (z ▸ hx))]
        exact hu
      · rcases setAt hk with ⟨rfl, z⟩ | ⟨nk, hk⟩
        · exact O.dis k _ r hi hr
        · exact O.dis k o r hk hr
      · rcases setAt hk with ⟨_, z⟩ | ⟨nk, hk⟩
        · cases z
        · exact O.one k b' p2 C' fs' hk
/-- xs.append(e) -/
theorem ds_append {i : Nat} {ds : List D} (hi : env[i]? = some (.own (.lst ds))) (hz : ds.length < 1000000) (h : De te env fun d => nx (env.set i (.own (.lst (ds ++ [d]))))) : Ds (tDrop (tBM K "list" rAppend (tVar i) (tCons te tNil))) env nx rt bk ct := fun B M σ H S E q1 q2 q3 q4 => by
  obtain ⟨p, u, h1, h2, h3, h4, h5⟩ := S.own i _ hi
  cases h5 with
  | @lst vs _ hs =>
    refine ⟨.ref p, h1, .inl ⟨rfl, vs, .of h4⟩, h B M σ H S _ fun v H1 d hd S1 e1 i1 => ?_⟩
    have h4' : H1 p = some (.lst vs) := e1.1 p _ (fun z => h3 (z ▸ S.st0)) h4
    have hs' : Iss B.st M H1 vs ds := S.iss e1 hs
    exact ⟨p, vs, v, rfl, rfl, h4', Nat.lt_of_lt_of_le (by rw [hs'.length]; exact hz) (by decide), q1 M σ _ _ hd (S1.mutate hi h1 h4' (.lst hs') (.lst (hs'.append (.cons i1 .nil))))⟩
/-- xs.pop(), its answer dropped -/
theorem ds_pop {i : Nat} {ds : List D} {d : D} (hi : env[i]? = some (.own (.lst (ds ++ [d])))) (h : nx (env.set i (.own (.lst ds)))) : Ds (tDrop (tBM0 K "list" rPop (tVar i))) env nx rt bk ct := fun B M σ H S E q1 q2 q3 q4 => by
  obtain ⟨p, u, h1, h2, h3, h4, h5⟩ := S.own i _ hi
  cases h5 with
  | @lst vs _ hs =>
    have hl := hs.length
    rw [List.length_append, List.length_singleton] at hl
    obtain ⟨y, hy, _⟩ := hs.get (i := ds.length) (d := d) (by simp)
    have hd : Iss B.st M H vs.dropLast ds := by
      have := hs.take ds.length
      rw [List.take_left] at this
      have e : vs.dropLast = vs.take ds.length := by rw [List.dropLast_eq_take, hl, Nat.add_sub_cancel]
      rw [e]
      exact this
    refine ⟨.ref p, h1, .inl ⟨rfl, vs, .of h4⟩, p, vs, y, rfl, rfl, h4, by rw [hl, Nat.add_sub_cancel]; exact hy, q1 M σ _ _ h (S.mutate hi h1 h4 (.lst hs) (.lst hd))⟩
/-- xs[j] = e -/
theorem ds_setItem {i : Nat} {ds : List D} (hi : env[i]? = some (.own (.lst ds))) (h : De te env fun d => De tb env fun j => ∃ n : Nat, j = .int n ∧ n < ds.length ∧ nx (env.set i (.own (.lst (ds.set n d))))) : Ds (tAsg te (gSub (tVar i) tb rSetL)) env nx rt bk ct := fun B M σ H S E q1 q2 q3 q4 => by
  refine h B M σ H S _ fun v H1 d hd S1 e1 i1 => ?_
  obtain ⟨p, u, h1, h2, h3, h4, h5⟩ := S1.own i _ hi
  cases h5 with
  | @lst vs _ hs =>
    refine ⟨.ref p, h1, hd B M σ H1 S1 _ fun w H2 j hj S2 e2 i2 => ?_⟩
    obtain ⟨n, rfl, hn, hj⟩ := hj
    cases is_int i2
    have h4' : H2 p = some (.lst vs) := e2.1 p _ (fun z => h3 (z ▸ S.st0)) h4
    have hs' : Iss B.st M H2 vs ds := S1.iss e2 hs
    refine ⟨p, vs, n, n, rfl, rfl, h4', ?_, q1 M σ _ _ hj (S2.mutate hi h1 h4' (.lst hs') (.lst (hs'.set (S1.is e2 i1) n)))⟩
    unfold ixN
    rw [if_pos (Int.natCast_nonneg n), if_pos (by rw [hs'.length]; omega), Int.toNat_natCast]
end
end DL

namespace DL
open PySem PySem.Spec PyProof.Rows L2

section
variable {B : Bs} {M M' : List Addr} {H H' H1 : Hp} {σ : L2.St} {env env' : Nv} {nx : Nv → Prop} {rt : D → Prop} {bk ct : Nv → Prop} {t u : TS} {c : TT} {te ta tb : TE} {tas : TA} {post : D → Prop} {K : PySem.W.Frag}
theorem Sr.hide (S : Sr B M σ H env) {hv : List (V × D)} (h : ∀ x ∈ hv, Is B.st M H x.1 x.2) : Sr { B with hid := hv ++ B.hid } M σ H env :=
  ⟨S.stm, S.stM, S.keep, S.sub, S.fresh, S.trk, S.st0, S.trk0, S.len, S.dat, S.own, S.inj, fun x hx => (List.mem_append.mp hx).elim (h x) (S.hid x), S.ob⟩
theorem Sr.show {hv : List (V × D)} (S : Sr { B with hid := hv ++ B.hid } M σ H env) : Sr B M σ H env :=
  ⟨S.stm, S.stM, S.keep, S.sub, S.fresh, S.trk, S.st0, S.trk0, S.len, S.dat, S.own, S.inj, fun x hx => S.hid x (List.mem_append_right _ hx), S.ob⟩
theorem Sr.hv {hv : List (V × D)} (S : Sr { B with hid := hv ++ B.hid } M σ H env) : ∀ x ∈ hv, Is B.st M H x.1 x.2 := fun x hx => S.hid x (List.mem_append_left _ hx)

/-! ### what a loop walks -/
structure ItD (J : It) (st : Addr) (hv : List (V × D)) (ds : List D) : Prop where
  run : ∀ M H, Stm st M H → st ∈ M → (∀ x ∈ hv, Is st M H x.1 x.2) → (∀ i, i < ds.length → J.go i H) ∧ (∀ i, ds.length ≤ i → J.stop i H) ∧
    ∀ (i : Nat) d x H', ds[i]? = some d → J.yld i H x H' → (H' = H ∨ ∃ T o, H T = none ∧ H' = upd H T o) ∧ Is st M H' x d
def Di (wi : TI) (env : Nv) (post : List D → Prop) : Prop := ∀ B M σ H, Sr B M σ H env → ∀ R : It → Hp → Prop,
  (∀ J H' hv ds, post ds → Sr B M σ H' env → Fx B.st H H' → (∀ x ∈ hv, Is B.st M H' x.1 x.2) → ItD J B.st hv ds → R J H') → wi σ H R
theorem di_list {post : List D → Prop} (h : De te env fun d => ∃ ds, d = .lst ds ∧ post ds) : Di (iList K te) env post := fun B M σ H S R q =>
  h B M σ H S _ fun v H1 d ⟨ds, e, hp⟩ S1 e1 i1 => by
    subst e
    obtain ⟨p, vs, rfl, hm, hl, hs⟩ := is_lst i1
    refine ⟨p, rfl, ⟨vs, .of hl⟩, q _ H1 [(.ref p, .lst ds)] ds hp S1 e1 (fun x hx => ?_) ⟨fun M2 H2 hst hM hh => ?_⟩⟩
    · rw [List.mem_singleton.mp hx]
      exact i1
    · obtain ⟨p2, vs2, e2, hm2, hl2, hs2⟩ := is_lst (hh _ (List.mem_singleton.mpr rfl))
      cases e2
      refine ⟨fun i hi => ?_, fun i hi => ⟨vs2, .of hl2, by rw [hs2.length]; exact hi⟩, fun i d x H' hd hy => ?_⟩
      · obtain ⟨v, hv, _⟩ := hs2.get (List.getElem?_eq_getElem hi)
        exact ⟨vs2, v, .of hl2, hv⟩
      · obtain ⟨rfl, hy⟩ := hy
        obtain ⟨v, hv, iv⟩ := hs2.get hd
        have := hy vs2 (.of hl2)
        rw [hv] at this
        cases this
        exact ⟨.inl rfl, iv⟩
theorem di_tup {post : List D → Prop} (h : De te env fun d => ∃ ds, d = .tup ds ∧ post ds) : Di (iTup K te) env post := fun B M σ H S R q =>
  h B M σ H S _ fun v H1 d ⟨ds, e, hp⟩ S1 e1 i1 => by
    subst e
    obtain ⟨p, vs, rfl, hl, hs⟩ := is_tup i1
    refine ⟨p, rfl, ⟨vs, .of hl⟩, q _ H1 [(.ref p, .tup ds)] ds hp S1 e1 (fun x hx => ?_) ⟨fun M2 H2 hst hM hh => ?_⟩⟩
    · rw [List.mem_singleton.mp hx]
      exact i1
    · obtain ⟨p2, vs2, e2, hl2, hs2⟩ := is_tup (hh _ (List.mem_singleton.mpr rfl))
      cases e2
      refine ⟨fun i hi => ?_, fun i hi => ⟨vs2, .of hl2, by rw [hs2.length]; exact hi⟩, fun i d x H' hd hy => ?_⟩
      · obtain ⟨v, hv, _⟩ := hs2.get (List.getElem?_eq_getElem hi)
        exact ⟨vs2, v, .of hl2, hv⟩
      · obtain ⟨rfl, hy⟩ := hy
        obtain ⟨v, hv, iv⟩ := hs2.get hd
        have := hy vs2 (.of hl2)
        rw [hv] at this
        cases this
        exact ⟨.inl rfl, iv⟩
abbrev sign (c : Nat) : D := .str [c]
theorem di_str {post : List D → Prop} (h : De te env fun d => ∃ s, d = .str s ∧ post (s.map sign)) : Di (iStr te) env post := fun B M σ H S R q =>
  h B M σ H S _ fun v H1 d ⟨s, e, hp⟩ S1 e1 i1 => by
    subst e
    cases is_str i1
    refine ⟨⟨s.toArray⟩, rfl, q _ H1 [] _ hp S1 e1 (fun x hx => nomatch hx) ⟨fun M2 H2 hst hM hh => ?_⟩⟩
    refine ⟨fun i hi => ?_, fun i hi => ?_, fun i d x H' hd hy => ?_⟩
    · rw [List.length_map] at hi
      show i < s.toArray.size
      rw [List.size_toArray]
      exact hi
    · rw [List.length_map] at hi
      show s.toArray.size ≤ i
      rw [List.size_toArray]
      exact hi
    · obtain ⟨rfl, c, hc, rfl⟩ := hy
      rw [List.getElem?_map] at hd
      have : s[i]? = some c := by
        rw [← hc]
        simp
      rw [this] at hd
      cases hd
      exact ⟨.inl rfl, .str [c]⟩
def rgI (lo : Int) (n : Nat) : List D := (List.range n).map fun i => .int (lo + (i : Nat))
theorem rgI_len (lo : Int) (n : Nat) : (rgI lo n).length = n := by unfold rgI; rw [List.length_map, List.length_range]
theorem rgI_get (lo : Int) (n i : Nat) (h : i < n) : (rgI lo n)[i]? = some (.int (lo + (i : Nat))) := by
  unfold rgI
  rw [List.getElem?_map, List.getElem?_range h]
  rfl
theorem itd_range {st : Addr} (lo : Int) (n : Nat) : ItD (Itr lo n) st [] (rgI lo n) := ⟨fun M2 H2 hst hM hh => by
  rw [rgI_len]
  refine ⟨fun i hi => hi, fun i hi => hi, fun i d x H' hd hy => ?_⟩
  obtain ⟨rfl, rfl⟩ := hy
  have hi : i < n := by
    have := (List.getElem?_eq_some_iff.mp hd).1
    rwa [rgI_len] at this
  rw [rgI_get lo n i hi] at hd
  cases hd
  exact ⟨.inl rfl, .int _⟩⟩
theorem di_range1 {post : List D → Prop} (h : Da tas env fun ds => ∃ n : Int, ds = [.int n] ∧ -1000000 ≤ n ∧ n ≤ 1000000 ∧ post (rgI 0 n.toNat)) : Di (iRng1 tas) env post := fun B M σ H S R q =>
  h B M σ H S _ fun vs H1 d ⟨n, e, h1, h2, hp⟩ S1 e1 i1 => by
    subst e
    cases i1 with
    | cons a b =>
      cases b
      cases is_int a
      exact ⟨n, rfl, by omega, by omega, q _ H1 [] _ hp S1 e1 (fun x hx => nomatch hx) (itd_range 0 _)⟩
theorem di_range2 {post : List D → Prop} (h : Da tas env fun ds => ∃ m n : Int, ds = [.int m, .int n] ∧ -1000000 ≤ m ∧ m ≤ 1000000 ∧ -1000000 ≤ n ∧ n ≤ 1000000 ∧ post (rgI m (n - m).toNat)) : Di (iRng2 tas) env post := fun B M σ H S R q =>
  h B M σ H S _ fun vs H1 d ⟨m, n, e, h1, h2, h3, h4, hp⟩ S1 e1 i1 => by
    subst e
    cases i1 with
    | cons a b =>
      cases b with
      | cons b c =>
        cases c
        cases is_int a
        cases is_int b
        exact ⟨m, n, rfl, ⟨by omega, by omega, by omega, by omega⟩, q _ H1 [] _ hp S1 e1 (fun x hx => nomatch hx) (itd_range m _)⟩

/-! ### targets -/
def Dg (g : TG) (d : D) (env : Nv) (post : Nv → Prop) : Prop := ∀ B M σ H v, Sr B M σ H env → Is B.st M H v d → ∀ Q : L2.St → Hp → Prop, (∀ σ' env', post env' → Sr B M σ' H env' → Q σ' H) → g v σ H Q
def Dgs (g : TGs) (ds : List D) (env : Nv) (post : Nv → Prop) : Prop := ∀ B M σ H vs, Sr B M σ H env → Iss B.st M H vs ds → ∀ Q : L2.St → Hp → Prop, (∀ σ' env', post env' → Sr B M σ' H env' → Q σ' H) → g vs σ H Q
theorem dg_name {i : Nat} {d : D} {post : Nv → Prop} (h : post (env.set i (.dat d))) : Dg (gName i) d env post := fun B M σ H v S iv Q q => q _ _ h (S.set iv)
theorem dgs_nil {post : Nv → Prop} (h : post env) : Dgs gNil [] env post := fun B M σ H v S iv Q q => by
  cases iv
  exact ⟨rfl, q _ _ h S⟩
theorem dgs_cons {g : TG} {gs : TGs} {d : D} {ds : List D} {post : Nv → Prop} (h : Dg g d env fun e => Dgs gs ds e post) : Dgs (gCons g gs) (d :: ds) env post := fun B M σ H v S iv Q q => by
  cases iv with
  | cons a b => exact ⟨_, _, rfl, h B M σ H _ S a _ fun σ' env' h' S' => h' B M σ' H _ S' b Q q⟩
theorem dg_tup {n : Nat} {gs : TGs} {ds : List D} {post : Nv → Prop} (hn : ds.length = n) (h : Dgs gs ds env post) : Dg (gTup K n gs) (.tup ds) env post := fun B M σ H v S iv Q q => by
  obtain ⟨p, vs, rfl, hl, hs⟩ := is_tup iv
  exact ⟨p, vs, rfl, .of hl, by rw [hs.length]; exact hn, h B M σ H vs S hs Q q⟩
/-- a, b = e -/
theorem ds_asg {g : TG} (h : De te env fun d => Dg g d env nx) : Ds (tAsg te g) env nx rt bk ct := fun B M σ H S E q1 q2 q3 q4 =>
  h B M σ H S _ fun v H1 d hd S1 e1 i1 => hd B M σ H1 v S1 i1 _ fun σ' env' h' S' => q1 M σ' H1 env' h' S'

/-! ### loops -/
theorem ds_for {wi : TI} {g : TG} {tb' : TS} (h : Di wi env fun ds => ∃ Iv : Nat → Nv → Prop, Iv 0 env ∧
      (∀ i d env', ds[i]? = some d → Iv i env' → Dg g d env' fun e2 => Ds tb' e2 (Iv (i + 1)) rt nx (Iv (i + 1))) ∧ ∀ env', Iv ds.length env' → nx env') : Ds (tFor wi g tb') env nx rt bk ct := fun B M σ H S E q1 q2 q3 q4 => by
  refine h B M σ H S _ fun J H1 hv ds ⟨Iv, h0, hs, hd⟩ S1 e1 hh T => ?_
  refine ⟨fun i m σ H => m = ds.length - i ∧ i ≤ ds.length ∧ ∃ M' env', Iv i env' ∧ Sr { B with hid := hv ++ B.hid } M' σ H env', ⟨_, rfl, Nat.zero_le _, M, env, h0, S1.hide hh⟩, ?_⟩
  rintro i m σ2 H2 ⟨rfl, hi, M2, env2, hI, S2⟩
  obtain ⟨t1, t2, t3⟩ := T.run M2 H2 S2.stm S2.stM S2.hv
  by_cases hlt : i < ds.length
  · refine .inr ⟨t1 i hlt, fun σ' H' => ∃ M' env', Iv (i + 1) env' ∧ Sr { B with hid := hv ++ B.hid } M' σ' H' env', fun σ' H' ⟨M', env', a, b⟩ => ⟨_, by omega, rfl, hlt, M', env', a, b⟩, fun x H3 hy => ?_⟩
    obtain ⟨hH, ix⟩ := t3 i _ x H3 (List.getElem?_eq_getElem hlt) hy
    have S3 : Sr { B with hid := hv ++ B.hid } M2 σ2 H3 env2 := by
      rcases hH with z | ⟨T, o, hT, z⟩
      · rw [z]; exact S2
      · rw [z]; exact S2.new hT
    refine hs i _ env2 (List.getElem?_eq_getElem hlt) hI _ M2 σ2 H3 x S3 ix _ fun σ4 env4 h4 S4 => ?_
    exact h4 _ M2 σ4 H3 S4 _ (fun M' σ' H' e' he S' => ⟨M', e', he, S'⟩) q2 (fun M' σ' H' e' he S' => q1 M' σ' H' e' he S'.show) (fun M' σ' H' e' he S' => ⟨M', e', he, S'⟩)
  · have e : i = ds.length := by omega
    subst e
    exact .inl ⟨t2 _ (Nat.le_refl _), q1 M2 σ2 H2 env2 (hd env2 hI) S2.show⟩
theorem ds_while {tb' : TS} (Iv : Nat → Nv → Prop) (m0 : Nat) (h0 : Iv m0 env)
    (hs : ∀ m env', Iv m env' → Dt c env' fun b => if b = true then Ds tb' env' (fun e => ∃ m', m' < m ∧ Iv m' e) rt nx (fun e => ∃ m', m' < m ∧ Iv m' e) else nx env') : Ds (tWhile c tb') env nx rt bk ct := fun B M σ H S E q1 q2 q3 q4 => by
  refine ⟨fun m σ H => ∃ M' env', Iv m env' ∧ Sr B M' σ H env', ⟨m0, M, env, h0, S⟩, ?_⟩
  rintro m σ2 H2 ⟨M2, env2, hI, S2⟩
  refine hs m env2 hI B M2 σ2 H2 S2 _ fun b H3 hb S3 e3 => ?_
  cases b with
  | true =>
    refine ⟨fun σ' H' => ∃ m', m' < m ∧ ∃ M' env', Iv m' env' ∧ Sr B M' σ' H' env', fun σ' H' ⟨m', hm, w⟩ => ⟨m', hm, w⟩, ?_⟩
    exact hb B M2 σ2 H3 S3 _ (fun M' σ' H' e' ⟨m', hm, hi⟩ S' => ⟨m', hm, M', e', hi, S'⟩) q2 (fun M' σ' H' e' he S' => q1 M' σ' H' e' he S') (fun M' σ' H' e' ⟨m', hm, hi⟩ S' => ⟨m', hm, M', e', hi, S'⟩)
  | false => exact q1 M2 σ2 H3 env2 hb S3

/-! ### comprehensions -/
theorem Sr.newIn' (S : Sr B M σ H env) {p : Addr} {o : HO} (hn : H p = none) (e : Fx B.st H H') (hp : H' p = some o) : Sr B (p :: M) σ H' env := by
  have S3 : Sr B M σ H' env := S.fx e
  have mo : ∀ {v : V} {d : D}, Is B.st M H v d → Is B.st (p :: M) H' v d := fun h => (h.more hn).mono (fun _ z => z) (List.mem_cons_of_mem _ S.stM) e S.nt
  have moo : ∀ {v : List V} {d : List D}, Iss B.st M H v d → Iss B.st (p :: M) H' v d := fun h => (h.more hn).mono (fun _ z => z) (List.mem_cons_of_mem _ S.stM) e S.nt
  refine ⟨?_, List.mem_cons_of_mem _ S.stM, S3.keep, fun b hb => List.mem_cons_of_mem _ (S.sub b hb), fun b hb => (List.mem_cons.mp hb).elim (fun z => .inr (z ▸ S.new0 hn)) (S.fresh b), fun b hb => ?_, S.st0, S.trk0, S.len, fun i d hd => ?_, fun i u ho => ?_, S.inj, fun x hx => mo (S.hid x hx), fun i b q C fs h => let O := S.ob i b q C fs h; O.tr rfl (fun x hx => List.mem_cons_of_mem _ (O.ob.inM x hx)) (fun x hx u hu => e.1 x u (O.nst x hx) hu) mo O.dis O.one⟩
  · obtain ⟨a, ns, c, k, g1, g2, g3, g4, g5, g6⟩ := S.stm
    obtain ⟨c', k', r1, r2, r3⟩ := e.2 a c k g5 g6 g3
    exact ⟨a, ns, c', k', fun z => (List.mem_cons.mp z).elim (ne_of_none g4 hn) g1, g2, r3, e.1 _ _ g2 g4, r1, r2⟩
  · by_cases z : b = p
    · subst z
      exact ⟨o, hp⟩
    · exact S3.trk b ((List.mem_cons.mp hb).resolve_left z)
  · obtain ⟨v, h1, h2⟩ := S.dat i d hd
    exact ⟨v, h1, mo h2⟩
  · obtain ⟨p', u', h1, h2, h3, h4, h5⟩ := S.own i u ho
    refine ⟨p', u', h1, List.mem_cons_of_mem _ h2, h3, e.1 _ _ (fun z => h3 (z ▸ S.st0)) h4, ?_⟩
    cases h5 with
    | lst h => exact .lst (moo h)
    | dK hf => exact .dK hf
    | dT hf => exact .dT hf
    | dKx hl hs => exact .dKx hl (moo hs)
    | dTx hl hs => exact .dTx hl (moo hs)
    | dN hk hn h8 hf hv => exact .dN (moo hk) hn h8 hf hv
theorem Fx.mut {st p : Addr} {o : HO} (e : Fx st H H') (hn : H p = none) (ne : p ≠ st) : Fx st H (upd H' p o) :=
  ⟨fun b u hb h => by rw [upd_ne (ne_of_none h hn)]; exact e.1 b u hb h, fun a c k h1 h2 h => by
    obtain ⟨c', k', r1, r2, r3⟩ := e.2 a c k h1 h2 h
    exact ⟨c', k', r1, r2, by rw [upd_ne (fun z => ne z.symm)]; exact r3⟩⟩
theorem den_lc {wi : TI} {j : Nat} {tt : TT} {postN : Ow → Prop} (h : Di wi env fun ds => ds.length ≤ 1000000 ∧ ∃ Iv : Nat → List D → Prop, Iv 0 [] ∧
      (∀ i d acc, ds[i]? = some d → acc.length ≤ i → Iv i acc → Dt tt ((env.set j .any).set j (.dat d)) fun b => if b = true then De te ((env.set j .any).set j (.dat d)) fun y => Iv (i + 1) (acc ++ [y]) else Iv (i + 1) acc) ∧
      ∀ acc, Iv ds.length acc → postN (.lst acc)) : DeN (tLc wi (gName j) tt te [j]) env postN := fun B M σ H S Q q => by
  refine h B M σ H S _ fun J H1 hv ds ⟨hz, Iv, h0, hs, hd⟩ S1 e1 hh T Dl hn => ?_
  have ne : Dl ≠ B.st := S1.nst hn
  refine ⟨fun i m H' => m = ds.length - i ∧ i ≤ ds.length ∧ ∃ acc accv, acc.length ≤ i ∧ Iv i acc ∧ Fx B.st H1 H' ∧ H' Dl = some (.lst accv) ∧ Iss B.st (Dl :: M) H' accv acc, ⟨_, rfl, Nat.zero_le _, [], [], Nat.le_refl _, h0, Fx.new hn, upd_same, .nil⟩, ?_⟩
  rintro i m H2 ⟨rfl, hi, acc, accv, hal, hI, f2, hD, ha⟩
  have S2 : Sr { B with hid := hv ++ B.hid } (Dl :: M) (σ.set j none) H2 (env.set j .any) := ((S1.hide hh).newIn' (B := { B with hid := hv ++ B.hid }) hn f2 hD).any
  obtain ⟨t1, t2, t3⟩ := T.run _ H2 S2.stm S2.stM S2.hv
  by_cases hlt : i < ds.length
  · refine .inr ⟨t1 i hlt, fun H' => ∃ acc accv, acc.length ≤ i + 1 ∧ Iv (i + 1) acc ∧ Fx B.st H1 H' ∧ H' Dl = some (.lst accv) ∧ Iss B.st (Dl :: M) H' accv acc, fun H' hN => ⟨_, by omega, rfl, hlt, hN⟩, fun x H3 hy => ?_⟩
    obtain ⟨hH, ix⟩ := t3 i _ x H3 (List.getElem?_eq_getElem hlt) hy
    have e3 : Fx B.st H2 H3 := by
      rcases hH with z | ⟨T, o, hT, z⟩
      · rw [z]; exact Fx.refl _ _
      · rw [z]; exact Fx.new hT
    have S3 := (S2.fx e3).set (i := j) ix
    refine ⟨?_, ?_⟩
    · show (((σ.set j none).set j (some x)).set j none) = σ.set j none
      rw [List.set_set, List.set_set]
    · refine hs i _ acc (List.getElem?_eq_getElem hlt) hal hI _ _ _ H3 S3 _ fun b H4 hb S4 e4 => ?_
      have nD : Dl ∉ ({ B with hid := hv ++ B.hid } : Bs).M0 := fun z => by
        obtain ⟨o, ho⟩ := S1.trk Dl (S1.sub Dl z)
        rw [hn] at ho
        cases ho
      have f4 : Fx B.st H1 H4 := (f2.trans e3).trans e4
      have a4 : Iss B.st (Dl :: M) H4 accv acc := S2.iss (e3.trans e4) ha
      have D4 : H4 Dl = some (.lst accv) := e4.1 _ _ ne (e3.1 _ _ ne hD)
      cases b with
      | true =>
        refine hb _ _ _ H4 S4 _ fun y H5 d5 h5 S5 e5 i5 => ?_
        have a5 : Iss B.st (Dl :: M) H5 accv acc := S4.iss e5 a4
        have D5 : H5 Dl = some (.lst accv) := e5.1 _ _ ne D4
        have nt : ∀ vs, H5 Dl ≠ some (.tup vs) := fun vs z => by rw [D5] at z; cases z
        refine ⟨accv, D5, Nat.lt_of_le_of_lt (by rw [a5.length]; exact hal) (Nat.lt_of_lt_of_le (Nat.lt_of_lt_of_le hlt hz) (by decide)), acc ++ [d5], accv ++ [y], by rw [List.length_append, List.length_singleton]; omega, h5, (f4.trans e5).mut hn ne, upd_same, ?_⟩
        exact (a5.append (.cons i5 .nil)).upd List.mem_cons_self nt
      | false => exact ⟨acc, accv, by omega, hb, f4, D4, a4⟩
  · have e : i = ds.length := by omega
    subst e
    refine .inl ⟨t2 _ (Nat.le_refl _), q Dl H2 (.lst accv) (.lst acc) (hd acc hI) (S1.newIn' hn f2 hD) (e1.trans f2) hD (.lst ha) (fresh_back e1 ne hn)⟩
theorem dt_yes {postb : Bool → Prop} (h : postb true) : Dt tYes env postb := fun B M σ H S Q q => q true H h S (Fx.refl _ _)
end

/-! ### a def's promise from its body -/
theorem sr_start {F : FS} {N : List Str} {st : Addr} {M : List Addr} {H : Hp} {vs : List V} {ds : List D} (h1 : Stm st M H) (h2 : st ∈ M) (h3 : ∀ b ∈ M, ∃ o, H b = some o) (hs : Iss st M H vs ds) :
    Sr ⟨st, M, H, []⟩ M (L2.start N vs) H (ds.map Sl.dat ++ List.replicate (N.length - ds.length) Sl.any) := by
  have hl : vs.length = ds.length := hs.length
  have anyat : ∀ (i : Nat) s, (ds.map Sl.dat ++ List.replicate (N.length - ds.length) Sl.any)[i]? = some s → (∃ d, ds[i]? = some d ∧ s = .dat d) ∨ s = .any := fun i s h => by
    by_cases hi : i < (ds.map Sl.dat).length
    · rw [List.getElem?_append_left hi, List.getElem?_map] at h
      cases e : ds[i]? with
      | none => rw [e] at h; cases h
      | some d => rw [e] at h; exact .inl ⟨d, rfl, (Option.some.inj h).symm⟩
    · rw [List.getElem?_append_right (by omega)] at h
      obtain ⟨_, h⟩ := List.getElem?_eq_some_iff.mp h
      rw [List.getElem_replicate] at h
      exact .inr h.symm
  refine ⟨h1, h2, Fx.refl _ _, fun _ z => z, fun _ z => .inl z, h3, h2, h3, ?_, fun i d h => ?_, fun i o h => ?_, fun i j p o u h => ?_, (fun x hx => nomatch hx), fun i b p C fs h => (by rcases anyat i _ h with ⟨d', e, z⟩ | z <;> cases z)⟩
  · unfold L2.start
    rw [List.length_append, List.length_append, List.length_map, List.length_map, List.length_replicate, List.length_replicate, hl]
  · rcases anyat i _ h with ⟨d', e, z⟩ | z
    · cases z
      obtain ⟨v, hv, iv⟩ := hs.get e
      refine ⟨v, ?_, iv⟩
      have hi : i < (vs.map some).length := by
        rw [List.length_map]
        exact (List.getElem?_eq_some_iff.mp hv).1
      unfold L2.start
      rw [List.getElem?_append_left hi, List.getElem?_map, hv]
      rfl
    · cases z
  · rcases anyat i _ h with ⟨d', e, z⟩ | z <;> cases z
  · rcases anyat i _ h with ⟨d', e, z⟩ | z <;> cases z
/-- a def of the text where the module's name has it -/
structure Df (K : PySem.W.Frag) (mg : Str → Option Value) (x : Str) (st : Stmt) (ps : List Str) : Prop where
  ex : ∃ (f : Addr) (fd : FuncData), Fun K x x st f fd ∧ mg x = some (.ref f) ∧ Binds K fd ps []
/-- its promise, over values -/
theorem df_raw {P : Program} {w : World} {K : PySem.W.Frag} {mg : Str → Option Value} {base : Heap} {x : Str} {st : Stmt} {N ps : List Str} {k : Nat} {sp : Sp} (d : Df K mg x st ps) (S : FnScope N ps (defScope st))
    (len : ∀ vs H Q E, sp vs H Q E → vs.length = ps.length)
    (hbody : ∀ (f : Addr) (cdv : Value) (A : Around) (outer : List PySem.Env) (s : Shared) (H : Hp) (E : XK), Room k (A.deeper (envOfC x (defScope st) s.heap.objs.size f cdv)) →
      ∃ t, PSs (cxOf CX0 P w K mg base N x (defScope st) f cdv A outer s H E).nox (defBody st) t ∧ ∀ vs Q, sp vs H Q E → t { nx := fun _ H' => Q .non H', rt := Q } (L2.start N vs) H) : C8.Cal P w K mg base (k + 1) x sp [] := by
  obtain ⟨f, fd, Fn, hm, hb⟩ := d.ex
  refine ⟨f, fd, ps, [], Fn.ok S len (fun cdv A outer s H vs Q E hr h => ?_), hm, Fn.kp, hb, .nil⟩
  obtain ⟨t, ht, q⟩ := hbody f cdv A outer s H E hr
  exact ⟨t, ht, q vs Q h⟩
/-- .. over data -/
theorem df_cal {P : Program} {w : World} {K : PySem.W.Frag} {mg : Str → Option Value} {base : Heap} {x : Str} {st : Stmt} {N ps : List Str} {k : Nat} {F : FS} (d : Df K mg x st ps) (S : FnScope N ps (defScope st))
    (len : ∀ a, (F.arg a).length = ps.length)
    (hbody : ∀ (f : Addr) (cdv : Value) (A : Around) (outer : List PySem.Env) (s : Shared) (H : Hp) (E : XK), Room k (A.deeper (envOfC x (defScope st) s.heap.objs.size f cdv)) →
      ∃ t, PSs (cxOf CX0 P w K mg base N x (defScope st) f cdv A outer s H E).nox (defBody st) t ∧
        ∀ a, F.pre a → Ds t ((F.arg a).map Sl.dat ++ List.replicate (N.length - (F.arg a).length) Sl.any) (fun _ => F.rel a .non) (F.rel a) (fun _ => False) (fun _ => False)) : C8.Cal P w K mg base (k + 1) x (PF F) [] := by
  refine df_raw d S (fun vs H Q E h => ?_) (fun f cdv A outer s H E hr => ?_)
  · obtain ⟨a, st', M, _, _, _, hs, _⟩ := h
    rw [hs.length]
    exact len a
  · obtain ⟨t, ht, hd⟩ := hbody f cdv A outer s H E hr
    refine ⟨t, ht, fun vs Q h => ?_⟩
    obtain ⟨a, st', M, h1, h2, h3, hs, hp, q⟩ := h
    exact hd a hp _ M _ H (sr_start (F := F) h1 h2 h3 hs) _ (fun M' σ' H' e' he S' => q .non H' .non he S'.keep .non) (fun v H' d hr fx iv => q v H' d hr fx iv) (fun M' σ' H' e' he S' => he) (fun M' σ' H' e' he S' => he)
end DL

namespace DL
open PySem PySem.Spec PyProof.Rows L2

/-! ### names for readings -/
def rAddS : R2 := fun x y H Q => ∃ i j, x = .str i ∧ y = .str j ∧ i.length + j.length ≤ sizeLine ∧ Q (.str (i ++ j)) H
def rInSg : R2 := fun x y H Q => ∃ (c : Nat) (z : Str), x = .str ⟨#[c]⟩ ∧ y = .str z ∧ Q (.bl (decide (c ∈ z.cps.toList))) H
def rNotInSg : R2 := fun x y H Q => ∃ (c : Nat) (z : Str), x = .str ⟨#[c]⟩ ∧ y = .str z ∧ Q (.bl (!decide (c ∈ z.cps.toList))) H
def rIsN : R2 := fun x y H Q => y = .non ∧ Q (.bl (decide (x = .non))) H
def rNotN : R2 := fun x y H Q => y = .non ∧ Q (.bl (!decide (x = .non))) H
def rLen (K : PySem.W.Frag) : List V → Hp → VK → Prop := fun xs H Q => ∃ x n, xs = [x] ∧ LenV K x H n ∧ Q (.int n) H
def rAbs : List V → Hp → VK → Prop := fun xs H Q => ∃ i, xs = [.int i] ∧ Q (.int (if i < 0 then -i else i)) H
def rInt : List V → Hp → VK → Prop := fun xs H Q => (∃ i, xs = [.int i] ∧ Q (.int i) H) ∨ ∃ k, xs = [.bl k] ∧ Q (.int (if k then 1 else 0)) H
def rMax2 : List V → Hp → VK → Prop := fun xs H Q => ∃ i j, xs = [.int i, .int j] ∧ Q (.int (if j > i then j else i)) H
def rMin2 : List V → Hp → VK → Prop := fun xs H Q => ∃ i j, xs = [.int i, .int j] ∧ Q (.int (if j < i then j else i)) H
def rListOf (K : PySem.W.Frag) : List V → Hp → VK → Prop := fun xs H Q => ∃ p ys, xs = [.ref p] ∧ (SqL K H p ys ∨ SqT K H p ys) ∧ ∀ l, H l = none → Q (.ref l) (upd H l (.lst ys))
def rTupOf (K : PySem.W.Frag) : List V → Hp → VK → Prop := fun xs H Q => ∃ p ys, xs = [.ref p] ∧ ((SqL K H p ys ∧ ∀ l, H l = none → Q (.ref l) (upd H l (.tup ys))) ∨ (SqT K H p ys ∧ Q (.ref p) H))
/-- tuple(xs), xs a list: the new object known -/
def rTupOfF (K : PySem.W.Frag) : List V → Hp → VK → Prop := fun xs H Q => ∃ p ys, xs = [.ref p] ∧ SqL K H p ys ∧ ∀ (l : Addr) (o : Obj), H l = none → o.cls = .type "tuple" → o.dict = none → Q (.ref l) (upd H l (.frz o (.tup ys)))
/-- isinstance of a tuple whose object is known -/
def rIsiF (K : PySem.W.Frag) : List V → Hp → VK → Prop := fun xs H Q => ∃ (p : Addr) (o : Obj) (vs : List V) (c : V) (u : Value) (b : Bool), xs = [.ref p, c] ∧ ClsV c u ∧ H p = some (.frz o (.tup vs)) ∧ o.cls = .type "tuple" ∧ PySem.W.kitOne K (.type "tuple") u = some b ∧ Q (.bl b) H
def rIsiD (K : PySem.W.Frag) : List V → Hp → VK → Prop := fun xs H Q => rIsi K xs H Q ∨ rIsiF K xs H Q
def rJoin (K : PySem.W.Frag) : V → List V → Hp → VK → Prop := fun x xs H Q => ∃ a p, ∃ ys : List Str, x = .str a ∧ xs = [.ref p] ∧ (SqL K H p (ys.map V.str) ∨ SqT K H p (ys.map V.str)) ∧ (ys.map (·.length)).sum + ys.length * a.length ≤ 16777216 ∧ Q (.str (Txt.join a ys)) H
def rSIndex : V → List V → Hp → VK → Prop := fun x xs H Q => ∃ a b i rest, x = .str a ∧ xs = [.str b] ∧ Builtin.Str.occurrences a b 0 a.length 1 = i :: rest ∧ Q (.int (i : Nat)) H
section
variable {X : Cx}
theorem od_add_str : OpR X (binaryOp .Add) rAddS := op_add_str
theorem od_in_sg : OpR X (compareOp .In) rInSg := op_in_sign
theorem od_isN : OpR X (compareOp .Is) rIsN := op_isN
theorem od_notN : OpR X (compareOp .IsNot) rNotN := op_notN
theorem cd_len : CallR X (.builtin "len") (rLen X.K) := call_len
theorem cd_abs : CallR X (.builtin "abs") rAbs := call_abs
theorem cd_int : CallR X (.type "int") rInt := call_int1
theorem cd_max2 (hc : X.calm = true) : CallR X (.builtin "max") rMax2 := call_max2 hc
theorem cd_min2 (hc : X.calm = true) : CallR X (.builtin "min") rMin2 := call_min2 hc
theorem cd_listof : CallR X (.type "list") (rListOf X.K) := call_list_of
theorem cd_tupof : CallR X (.type "tuple") (rTupOf X.K) := call_tuple_of
theorem cd_isiF : CallR X (.builtin "isinstance") (rIsiF X.K) := by
  intro pins s σ H xs us Q I r h
  obtain ⟨p, o, vs, c, u, b, rfl, k, hp, hc, e, q⟩ := h
  obtain ⟨u1, u2, rfl, r1, r2⟩ := vals2 r
  have e2 := k.eq r2
  subst e2
  cases r1
  obtain ⟨h1, _⟩ := (show ObjOk X.prog X.w H s.heap p (.frz o (.tup vs)) from I.hok p _ hp)
  exact PySem.W.kia_one PySem.W.kitx_tuple I.kIn ⟨o, h1, hc⟩ e (fun z => nomatch z) fun tk => ⟨.bl b, H, I.tok tk, rfl, q⟩
theorem cd_isi : CallR X (.builtin "isinstance") (rIsiD X.K) := CallR.or call_isi cd_isiF
theorem cd_all (hc : X.calm = true) : CallR X (.builtin "all") (rAll X.K) := cr_all hc
theorem md_join : MtR X "str.join" (rJoin X.K) := mt_join
theorem ptd {e : Expr} {te : TE} (ha : PE X e te) (he : ∀ whole, isTrue e X.env whole = (do let v ← whole; standAt e.pos; holding [v] (truthy v))) : PT X e (tTruD X.K te) := pt_truth ha he
end

section
variable {env : Nv} {post : D → Prop} {K : PySem.W.Frag} {ta tb te : TE} {tl th : TO} {tas : TA}
/-! ### ints -/
theorem dop_i0 {f : Int → Int → Int} {i j : Int} (h : post (.int (f i j))) : Dop (rI0 fun i j => .int (f i j)) (.int i) (.int j) post := fun st M H v w _ _ _ iv iw Q q => by
  cases is_int iv
  cases is_int iw
  exact ⟨i, j, rfl, rfl, q _ H _ h (Fx.refl _ _) (.int _)⟩
theorem dop_b0 {f : Int → Int → Bool} {i j : Int} (h : post (.bl (f i j))) : Dop (rI0 fun i j => .bl (f i j)) (.int i) (.int j) post := fun st M H v w _ _ _ iv iw Q q => by
  cases is_int iv
  cases is_int iw
  exact ⟨i, j, rfl, rfl, q _ H _ h (Fx.refl _ _) (.bl _)⟩
theorem dop_i {C : Int → Int → Prop} {f : Int → Int → Int} {i j : Int} (hc : C i j) (h : post (.int (f i j))) : Dop (rI C fun i j => .int (f i j)) (.int i) (.int j) post := fun st M H v w _ _ _ iv iw Q q => by
  cases is_int iv
  cases is_int iw
  exact ⟨i, j, rfl, rfl, hc, q _ H _ h (Fx.refl _ _) (.int _)⟩
theorem dun_i {f : Int → Int} {i : Int} (h : post (.int (f i))) : Dun (rU fun i => .int (f i)) (.int i) post := fun st M H v _ _ _ iv Q q => by
  cases is_int iv
  exact ⟨i, rfl, q _ H _ h (Fx.refl _ _) (.int _)⟩
/-! ### == -/
def eqD : D → D → Option Bool
  | .non, .non => some true
  | .int a, .int b => some (decide (a = b))
  | .bl a, .bl b => some (decide (a = b))
  | .str a, .str b => some (decide (a = b))
  | .non, .int _ => some false | .int _, .non => some false | .non, .bl _ => some false | .bl _, .non => some false | .non, .str _ => some false | .str _, .non => some false
  | .int _, .str _ => some false | .str _, .int _ => some false | .bl _, .str _ => some false | .str _, .bl _ => some false
  | _, _ => none
theorem str_inj {a b : List Nat} : V.str ⟨a.toArray⟩ = V.str ⟨b.toArray⟩ ↔ a = b := by
  constructor
  · intro h
    injection h with h
    injection h with h
    simpa using h
  · intro h; rw [h]
theorem eqD_ok {st : Addr} {M : List Addr} {H : Hp} {v w : V} {x y : D} {b : Bool} (iv : Is st M H v x) (iw : Is st M H w y) (h : eqD x y = some b) : scal v w = true ∧ decide (v = w) = b := by
  cases iv <;> cases iw <;> first
    | (cases h; done)
    | (cases h; refine ⟨rfl, decide_eq_decide.mpr ?_⟩; simp [str_inj]; done)
    | (cases h; refine ⟨rfl, ?_⟩; simp; done)
theorem dop_eq {x y : D} {b : Bool} (e : eqD x y = some b) (h : post (.bl b)) : Dop rEq x y post := fun st M H v w _ _ _ iv iw Q q => by
  obtain ⟨h1, h2⟩ := eqD_ok iv iw e
  exact ⟨h1, q _ H _ h (Fx.refl _ _) (by rw [h2]; exact .bl _)⟩
theorem dop_ne {x y : D} {b : Bool} (e : eqD x y = some b) (h : post (.bl (!b))) : Dop rNe x y post := fun st M H v w _ _ _ iv iw Q q => by
  obtain ⟨h1, h2⟩ := eqD_ok iv iw e
  exact ⟨h1, q _ H _ h (Fx.refl _ _) (by rw [h2]; exact .bl _)⟩
theorem dop_eqi {i j : Int} (h : post (.bl (decide (i = j)))) : Dop rEq (.int i) (.int j) post := dop_eq rfl h
theorem dop_eqs {i j : List Nat} (h : post (.bl (decide (i = j)))) : Dop rEq (.str i) (.str j) post := dop_eq rfl h
theorem dop_eqb {i j : Bool} (h : post (.bl (decide (i = j)))) : Dop rEq (.bl i) (.bl j) post := dop_eq rfl h
theorem dop_nei {i j : Int} (h : post (.bl (!decide (i = j)))) : Dop rNe (.int i) (.int j) post := dop_ne rfl h
theorem dop_nes {i j : List Nat} (h : post (.bl (!decide (i = j)))) : Dop rNe (.str i) (.str j) post := dop_ne rfl h
theorem dop_isB {a b : Bool} (h : post (.bl (decide (a = b)))) : Dop rIsB (.bl a) (.bl b) post := fun st M H v w _ _ _ iv iw Q q => by
  cases is_bl iv
  cases is_bl iw
  exact ⟨a, b, rfl, rfl, q _ H _ h (Fx.refl _ _) (.bl _)⟩
theorem dop_notB {a b : Bool} (h : post (.bl (!decide (a = b)))) : Dop rNotB (.bl a) (.bl b) post := fun st M H v w _ _ _ iv iw Q q => by
  cases is_bl iv
  cases is_bl iw
  exact ⟨a, b, rfl, rfl, q _ H _ h (Fx.refl _ _) (.bl _)⟩
def isNon : D → Bool
  | .non => true
  | _ => false
theorem isNon_ok {st : Addr} {M : List Addr} {H : Hp} {v : V} {x : D} (iv : Is st M H v x) : decide (v = .non) = isNon x := by
  cases iv <;> first | rfl | exact decide_eq_false (by intro z; cases z)
theorem dop_isN {x : D} (h : post (.bl (isNon x))) : Dop rIsN x .non post := fun st M H v w _ _ _ iv iw Q q => by
  cases is_non iw
  exact ⟨rfl, q _ H _ h (Fx.refl _ _) (by rw [isNon_ok iv]; exact .bl _)⟩
theorem dop_notN {x : D} (h : post (.bl (!isNon x))) : Dop rNotN x .non post := fun st M H v w _ _ _ iv iw Q q => by
  cases is_non iw
  exact ⟨rfl, q _ H _ h (Fx.refl _ _) (by rw [isNon_ok iv]; exact .bl _)⟩
/-! ### texts -/
theorem len_of (l : List Nat) : (⟨l.toArray⟩ : Str).length = l.length := by
  show l.toArray.size = _
  simp
theorem le_line {n : Nat} (h : n ≤ 1000000) : n ≤ sizeLine := Nat.le_trans h (by decide)
theorem dop_adds {a b : List Nat} (hz : a.length + b.length ≤ 1000000) (h : post (.str (a ++ b))) : Dop rAddS (.str a) (.str b) post := fun st M H v w _ _ _ iv iw Q q => by
  cases is_str iv
  cases is_str iw
  refine ⟨_, _, rfl, rfl, by rw [len_of, len_of]; exact le_line hz, q _ H _ h (Fx.refl _ _) ?_⟩
  have e : (⟨a.toArray⟩ ++ ⟨b.toArray⟩ : Str) = ⟨(a ++ b).toArray⟩ := by
    show (⟨a.toArray ++ b.toArray⟩ : Str) = _
    simp
  rw [e]
  exact .str _
theorem dop_insg {c : Nat} {b : List Nat} (h : post (.bl (decide (c ∈ b)))) : Dop rInSg (.str [c]) (.str b) post := fun st M H v w _ _ _ iv iw Q q => by
  cases is_str iv
  cases is_str iw
  exact ⟨c, ⟨b.toArray⟩, rfl, rfl, q _ H _ h (Fx.refl _ _) (.bl _)⟩
theorem dop_ixs {l : List Nat} {i : Int} {c : Nat} (hz : l.length ≤ 1000000) (e : atI l i = some c) (h : post (.str [c])) : Dop rIxS (.str l) (.int i) post := fun st M H v w _ _ _ iv iw Q q => by
  cases is_str iv
  cases is_int iw
  exact ⟨_, i, c, rfl, rfl, by rw [len_of]; exact le_line hz, e, q _ H _ h (Fx.refl _ _) (.str [c])⟩
theorem atI_iss {st : Addr} {M : List Addr} {H : Hp} {vs : List V} {ds : List D} {i : Int} {d : D} (hs : Iss st M H vs ds) (e : atI ds i = some d) : ∃ v, atI vs i = some v ∧ Is st M H v d := by
  unfold atI at e ⊢
  rw [hs.length]
  cases z : ixN ds.length i with
  | none => rw [z] at e; cases e
  | some j =>
    rw [z] at e
    exact hs.get e
theorem dop_ixl {l : List D} {i : Int} {c : D} (e : atI l i = some c) (h : post c) : Dop (rIxL K) (.lst l) (.int i) post := fun st M H v w _ _ _ iv iw Q q => by
  obtain ⟨p, vs, rfl, hm, hl, hs⟩ := is_lst iv
  cases is_int iw
  obtain ⟨u, hu, iu⟩ := atI_iss hs e
  exact ⟨p, vs, i, u, rfl, rfl, .of hl, hu, q _ H _ h (Fx.refl _ _) iu⟩
theorem dop_ixt {l : List D} {i : Int} {c : D} (e : atI l i = some c) (h : post c) : Dop (rIxT K) (.tup l) (.int i) post := fun st M H v w _ _ _ iv iw Q q => by
  obtain ⟨p, vs, rfl, hl, hs⟩ := is_tup iv
  cases is_int iw
  obtain ⟨u, hu, iu⟩ := atI_iss hs e
  exact ⟨p, vs, i, u, rfl, rfl, .of hl, hu, q _ H _ h (Fx.refl _ _) iu⟩
theorem dop_ixz {x : D} {l : List D} {i : Int} {c : D} (hx : SqD x l) (e : atI l i = some c) (h : post c) : Dop (rIxT K) x (.int i) post := fun st M H v w _ _ _ iv iw Q q => by
  obtain ⟨p, vs, rfl, hl, hs⟩ := is_sq (K := K) hx iv
  cases is_int iw
  obtain ⟨u, hu, iu⟩ := atI_iss hs e
  exact ⟨p, vs, i, u, rfl, rfl, hl, hu, q _ H _ h (Fx.refl _ _) iu⟩
/-! ### calls -/
def lenD : D → Option Nat
  | .str l => some l.length
  | .lst l => some l.length
  | .tup l => some l.length
  | .ptp l => some l.length
  | _ => none
theorem dcl_len {x : D} {n : Nat} (e : lenD x = some n) (hz : n ≤ 1000000) (h : post (.int n)) : Dcl (rLen K) [x] post := fun st M H vs _ _ _ iv Q q => by
  cases iv with
  | cons i r =>
    cases r
    refine ⟨_, n, rfl, ?_, q _ H _ h (Fx.refl _ _) (.int _)⟩
    cases i with
    | str l => cases e; exact ⟨by rw [len_of]; exact le_line hz, (len_of l).symm⟩
    | lst hm hl hs => cases e; exact .inl ⟨_, .of hl, hs.length.symm⟩
    | tup hl hs => cases e; exact .inr ⟨_, .of hl, hs.length.symm⟩
    | ptp hm hl hc hs => cases e; exact .inr ⟨_, .ofF hl, hs.length.symm⟩
    | _ => cases e
theorem dcl_abs {i : Int} (h : post (.int (if i < 0 then -i else i))) : Dcl rAbs [.int i] post := fun st M H vs _ _ _ iv Q q => by
  cases iv with
  | cons i r =>
    cases r
    cases is_int i
    exact ⟨_, rfl, q _ H _ h (Fx.refl _ _) (.int _)⟩
theorem dcl_int {i : Int} (h : post (.int i)) : Dcl rInt [.int i] post := fun st M H vs _ _ _ iv Q q => by
  cases iv with
  | cons i r =>
    cases r
    cases is_int i
    exact .inl ⟨_, rfl, q _ H _ h (Fx.refl _ _) (.int _)⟩
theorem dcl_intb {b : Bool} (h : post (.int (if b then 1 else 0))) : Dcl rInt [.bl b] post := fun st M H vs _ _ _ iv Q q => by
  cases iv with
  | cons i r =>
    cases r
    cases is_bl i
    exact .inr ⟨_, rfl, q _ H _ h (Fx.refl _ _) (.int _)⟩
theorem dcl_max2 {i j : Int} (h : post (.int (if j > i then j else i))) : Dcl rMax2 [.int i, .int j] post := fun st M H vs _ _ _ iv Q q => by
  cases iv with
  | cons i r =>
    cases r with
    | cons j r =>
      cases r
      cases is_int i
      cases is_int j
      exact ⟨_, _, rfl, q _ H _ h (Fx.refl _ _) (.int _)⟩
theorem dcl_min2 {i j : Int} (h : post (.int (if j < i then j else i))) : Dcl rMin2 [.int i, .int j] post := fun st M H vs _ _ _ iv Q q => by
  cases iv with
  | cons i r =>
    cases r with
    | cons j r =>
      cases r
      cases is_int i
      cases is_int j
      exact ⟨_, _, rfl, q _ H _ h (Fx.refl _ _) (.int _)⟩
def tyD : D → String
  | .non => "NoneType" | .bl _ => "bool" | .int _ => "int" | .str _ => "str" | .tup _ => "tuple" | .ptp _ => "tuple" | .lst _ => "list" | .stm => "list" | .obn => "object" | .dK _ => "dict" | .dT _ => "dict" | .dKx .. => "dict" | .dTx .. => "dict" | .ty _ => "type" | .exc .. => "object" | .cls _ => "type"
def oddD : D → Bool
  | .ty _ => true
  | .stm => true
  | .obn => true
  | .exc .. => true
  | .cls _ => true
  | _ => false
theorem dcl_isi {x : D} {T : String} {b : Bool} (hx : oddD x = false) (e : kitB (tyD x) T = some b) (h : post (.bl b)) : Dcl (rIsiD K) [x, .ty T] post := fun st M H vs _ _ _ iv Q q => by
  cases iv with
  | cons i r =>
    cases r with
    | cons j r =>
      cases r
      have ej : ∀ {v : V}, Is st M H v (.ty T) → v = .ty T := fun h => by cases h; rfl
      cases ej j
      have qq := q _ H _ h (Fx.refl _ _) (.bl _)
      by_cases hpp : ∃ ds, x = .ptp ds
      · obtain ⟨ds, rfl⟩ := hpp
        obtain ⟨p, vs, o, rfl, hl, hc, hs⟩ := is_ptp i
        exact .inr ⟨p, o, vs, .ty T, .type T, b, rfl, .ty T, hl, hc.1, kit_ty e, qq⟩
      refine .inl ⟨_, .ty T, .type (tyD x), .type T, b, rfl, .ty T, ?_, kit_ty e, qq⟩
      cases i with
      | ptp hm hl hc hs => exact (hpp ⟨_, rfl⟩).elim
      | non => exact .base .non
      | bl b => exact .base (.bl b)
      | int b => exact .base (.int b)
      | str b => exact .base (.str _)
      | tup hl hs => exact .base (.tup hl)
      | lst hm hl hs => exact .base (.lst hl)
      | dK hm hl hs => exact .base (.dK hl)
      | dT hm hl hs => exact .base (.dT hl)
      | dKx hm hl _ hs => exact .base (.dK hl)
      | dTx hm hl _ hs => exact .base (.dT hl)
      | ty n => cases hx
      | stm => cases hx
      | obn => cases hx
      | cls a => cases hx
      | exc hm h hl hs => cases hx
theorem iss_bls {st : Addr} {M : List Addr} {H : Hp} : ∀ {vs : List V} {bs : List Bool}, Iss st M H vs (bs.map D.bl) → vs = bs.map V.bl
  | _, [], h => by cases h; rfl
  | _, b :: bs, h => by
    cases h with
    | cons i r =>
      cases is_bl i
      rw [iss_bls r]
      rfl
theorem dcl_all {bs : List Bool} (h : post (.bl (bs.all id))) : Dcl (rAll K) [.lst (bs.map D.bl)] post := fun st M H vs _ _ _ iv Q q => by
  cases iv with
  | cons i r =>
    cases r
    obtain ⟨p, vs, rfl, hm, hl, hs⟩ := is_lst i
    rw [iss_bls hs] at hl
    exact ⟨p, bs, rfl, .of hl, q _ H _ h (Fx.refl _ _) (.bl _)⟩
def seqD : D → Option (List D)
  | .lst l => some l
  | .tup l => some l
  | .ptp l => some l
  | _ => none
theorem seqD_ok {st : Addr} {M : List Addr} {H : Hp} {v : V} {x : D} {l : List D} (i : Is st M H v x) (e : seqD x = some l) : ∃ p vs, v = .ref p ∧ (SqL K H p vs ∨ SqT K H p vs) ∧ Iss st M H vs l := by
  cases i with
  | lst hm hl hs => cases e; exact ⟨_, _, rfl, .inl (.of hl), hs⟩
  | tup hl hs => cases e; exact ⟨_, _, rfl, .inr (.of hl), hs⟩
  | ptp hm hl hc hs => cases e; exact ⟨_, _, rfl, .inr (.ofF hl), hs⟩
  | _ => cases e
theorem fresh_ne {st : Addr} {M : List Addr} {H : Hp} (trk : ∀ b ∈ M, ∃ o, H b = some o) {p : Addr} (hp : H p = none) : p ∉ M := fun z => by
  obtain ⟨o, e⟩ := trk p z
  rw [hp] at e
  cases e
theorem dcl_listof {x : D} {l : List D} (e : seqD x = some l) (h : post (.lst l)) : Dcl (rListOf K) [x] post := fun st M H vs hst hM trk iv Q q => by
  cases iv with
  | cons i r =>
    cases r
    obtain ⟨p, vs, rfl, hl, hs⟩ := seqD_ok (K := K) i e
    exact ⟨p, vs, rfl, hl, fun l hn => q _ _ _ h (Fx.new hn) (.lst (fresh_ne (st := st) trk hn) upd_same (hs.mono (fun _ z => z) hM (Fx.new hn) hst.notup))⟩
theorem dcl_tupof {x : D} {l : List D} (hx : ∀ ds, x ≠ .ptp ds) (e : seqD x = some l) (h : post (.tup l)) : Dcl (rTupOf K) [x] post := fun st M H vs hst hM trk iv Q q => by
  cases iv with
  | cons i r =>
    cases r
    cases i with
    | lst hm hl hs =>
      cases e
      exact ⟨_, _, rfl, .inl ⟨.of hl, fun l hn => q _ _ _ h (Fx.new hn) (.tup upd_same (hs.mono (fun _ z => z) hM (Fx.new hn) hst.notup))⟩⟩
    | tup hl hs =>
      cases e
      exact ⟨_, _, rfl, .inr ⟨.of hl, q _ H _ h (Fx.refl _ _) (.tup hl hs)⟩⟩
    | ptp hm hl hc hs => exact (hx _ rfl).elim
    | _ => cases e
theorem dcl_tupofF {l : List D} (h : post (.ptp l)) : Dcl (rTupOfF K) [.lst l] post := fun st M H vs hst hM trk iv Q q => by
  cases iv with
  | cons i r =>
    cases r
    obtain ⟨p, vs, rfl, hm, hl, hs⟩ := is_lst i
    exact ⟨_, _, rfl, .of hl, fun l o hn hc hd => q _ _ _ h (Fx.new hn) (.ptp (fresh_ne (st := st) trk hn) upd_same ⟨hc, hd⟩ (hs.mono (fun _ z => z) hM (Fx.new hn) hst.notup))⟩
/-! ### methods -/
def Dmt (K : PySem.W.Frag) (T : String) (r : V → List V → Hp → VK → Prop) (x : D) (xs : List D) (post : D → Prop) : Prop := ∀ (st : Addr) (M : List Addr) (H : Hp) (v : V) (vs : List V), Stm st M H → st ∈ M → (∀ b ∈ M, ∃ o, H b = some o) → Is st M H v x → Iss st M H vs xs → ∀ Q : VK,
  (∀ z H' d, post d → Fx st H H' → Is st M H' z d → Q z H') → r v vs H Q
def TyOk (T : String) : D → Prop
  | .str _ => T = "str"
  | .lst _ => T = "list"
  | .dK _ => T = "dict"
  | .dT _ => T = "dict"
  | .dKx .. => T = "dict"
  | .dTx .. => T = "dict"
  | _ => False
theorem tyOk {st : Addr} {M : List Addr} {H : Hp} {T : String} {v : V} {x : D} (i : Is st M H v x) (h : TyOk T x) : tyV K T v H := by
  cases i with
  | str l => exact h
  | lst hm hl hs => exact .inl ⟨h, _, .of hl⟩
  | dK hm hl hs => exact .inr (.inr (.inl ⟨h, .inl ⟨_, hl⟩⟩))
  | dT hm hl hs => exact .inr (.inr (.inl ⟨h, .inr ⟨_, hl⟩⟩))
  | dKx hm hl _ hs => exact .inr (.inr (.inl ⟨h, .inl ⟨_, hl⟩⟩))
  | dTx hm hl _ hs => exact .inr (.inr (.inl ⟨h, .inr ⟨_, hl⟩⟩))
  | _ => exact h.elim
theorem de_bm {T : String} {r : V → List V → Hp → VK → Prop} (h : De te env fun x => TyOk T x ∧ Da tas env fun xs => Dmt K T r x xs post) : De (tBM K T r te tas) env post := fun B M σ H S Q q =>
  h B M σ H S _ fun v H1 x ⟨ht, hx⟩ S1 e1 i1 => ⟨tyOk i1 ht, hx B M σ H1 S1 _ fun vs H2 xs hy S2 e2 i2 => hy B.st M H2 v vs S2.stm S2.stM S2.trk (S1.is e2 i1) i2 Q fun z H3 d hd e3 i3 => q z H3 d hd (S2.fx e3) ((e1.trans e2).trans e3) i3⟩
theorem de_bm0 {T : String} {r : V → List V → Hp → VK → Prop} (h : De te env fun x => TyOk T x ∧ Dmt K T r x [] post) : De (tBM0 K T r te) env post := fun B M σ H S Q q =>
  h B M σ H S _ fun v H1 x ⟨ht, hx⟩ S1 e1 i1 => ⟨tyOk i1 ht, hx B.st M H1 v [] S1.stm S1.stM S1.trk i1 .nil Q fun z H3 d hd e3 i3 => q z H3 d hd (S1.fx e3) (e1.trans e3) i3⟩
theorem iss_strs {st : Addr} {M : List Addr} {H : Hp} : ∀ {vs : List V} {ls : List (List Nat)}, Iss st M H vs (ls.map D.str) → vs = (ls.map fun l => (⟨l.toArray⟩ : Str)).map V.str
  | _, [], h => by cases h; rfl
  | _, b :: bs, h => by
    cases h with
    | cons i r =>
      cases is_str i
      rw [iss_strs r]
      rfl
open TL in
theorem join_nil : ∀ ls : List (List Nat), (Txt.join (⟨#[]⟩ : Str) (ls.map fun l => (⟨l.toArray⟩ : Str))) = ⟨ls.flatten.toArray⟩ := fun ls => by
  have h : tl (Txt.join (⟨#[]⟩ : Str) (ls.map fun l => (⟨l.toArray⟩ : Str))) = ls.flatten := by
    rw [join_eq, tl_join]
    rw [List.map_map]
    have e : ls.map (tl ∘ fun l => (⟨l.toArray⟩ : Str)) = ls := by
      conv => rhs; rw [← List.map_id ls]
      apply List.map_congr_left
      intro l _
      rfl
    rw [e]
    show joinL [] ls = _
    clear e
    induction ls with
    | nil => rfl
    | cons a r ih =>
      cases r with
      | nil => show a = [a].flatten; simp
      | cons b r =>
        show a ++ ([] ++ joinL [] (b :: r)) = _
        rw [ih, List.nil_append]
        rfl
  generalize hz : Txt.join (⟨#[]⟩ : Str) (ls.map fun l => (⟨l.toArray⟩ : Str)) = z at h ⊢
  cases z with
  | mk c =>
    have h' : c.toList = ls.flatten := h
    rw [← h']
theorem dmt_join0 {ls : List (List Nat)} {x : D} (e : seqD x = some (ls.map D.str)) (hz : ls.flatten.length ≤ 1000000) (h : post (.str ls.flatten)) : Dmt K "str" (rJoin K) (.str []) [x] post := fun st M H v vs hst hM trk iv ivs Q q => by
  cases is_str iv
  cases ivs with
  | cons i r =>
    cases r
    obtain ⟨p, vs, rfl, hl, hs⟩ := seqD_ok (K := K) i e
    rw [iss_strs hs] at hl
    refine ⟨_, p, _, rfl, rfl, hl, ?_, q _ H _ h (Fx.refl _ _) ?_⟩
    · have e1 : ((ls.map fun l => (⟨l.toArray⟩ : Str)).map (·.length)).sum = ls.flatten.length := by
        rw [List.map_map, List.length_flatten]
        congr 1
      rw [e1]
      show _ + _ * 0 ≤ _
      omega
    · show Is st M H (.str (Txt.join (⟨#[]⟩ : Str) _)) _
      rw [join_nil]
      exact .str _
/-! ### slices -/
theorem do_none {post : Option Int → Prop} (h : post none) : Do tNoPart env post := fun B M σ H S Q q => q none H h S (Fx.refl _ _)
theorem do_part {post : Option Int → Prop} (h : De te env fun d => ∃ i, d = .int i ∧ post (some i)) : Do (tPart te) env post := fun B M σ H S Q q =>
  h B M σ H S _ fun v H1 x ⟨i, e, hp⟩ S1 e1 i1 => by
    subst e
    cases is_int i1
    exact ⟨i, rfl, q _ H1 hp S1 e1⟩
def Dsl (r : V → Option Int → Option Int → Hp → VK → Prop) (x : D) (l u : Option Int) (post : D → Prop) : Prop := ∀ (st : Addr) (M : List Addr) (H : Hp) (v : V), Stm st M H → st ∈ M → (∀ b ∈ M, ∃ o, H b = some o) → Is st M H v x → ∀ Q : VK,
  (∀ z H' d, post d → Fx st H H' → Is st M H' z d → Q z H') → r v l u H Q
theorem de_sl {r : V → Option Int → Option Int → Hp → VK → Prop} (h : De te env fun x => Do tl env fun l => Do th env fun u => Dsl r x l u post) : De (tSl r te tl th) env post := fun B M σ H S Q q =>
  h B M σ H S _ fun v H1 x hx S1 e1 i1 => hx B M σ H1 S1 _ fun l H2 hl S2 e2 => hl B M σ H2 S2 _ fun u H3 hu S3 e3 => hu B.st M H3 v S3.stm S3.stM S3.trk (S2.is e3 (S1.is e2 i1)) Q fun z H4 d hd e4 i4 => q z H4 d hd (S3.fx e4) (((e1.trans e2).trans e3).trans e4) i4
/-- the items of a slice, over any list -/
def cutD {α : Type} (xs : List α) (lo hi : Option Int) : List α := (xs.drop (HT.sIx xs.length 0 lo)).take (HT.sIx xs.length xs.length hi - HT.sIx xs.length 0 lo)
theorem dsl_str {s : List Nat} {l u : Option Int} (hz : s.length ≤ 1000000) (h : post (.str (cutD s l u))) : Dsl rSlS (.str s) l u post := fun st M H v _ _ _ iv Q q => by
  cases is_str iv
  refine ⟨_, rfl, by rw [len_of]; exact le_line hz, q _ H _ h (Fx.refl _ _) ?_⟩
  have e : cutS (⟨s.toArray⟩ : Str) l u = ⟨(cutD s l u).toArray⟩ := by
    unfold cutS cutD
    rw [len_of]
  rw [e]
  exact .str _
theorem dsl_tup {s : List D} {l u : Option Int} (h : post (.tup (cutD s l u))) : Dsl (rSlA K) (.tup s) l u post := fun st M H v hst hM trk iv Q q => by
  obtain ⟨p, vs, rfl, hl, hs⟩ := is_tup iv
  have hc : Iss st M H (cutV vs l u) (cutD s l u) := by
    unfold cutV cutD
    rw [hs.length]
    exact (hs.drop _).take _
  refine ⟨p, vs, rfl, .of hl, fun z => q _ H _ h (Fx.refl _ _) ?_, fun _ p' hn => q _ _ _ h (Fx.new hn) (.tup upd_same (hc.mono (fun _ z => z) hM (Fx.new hn) hst.notup))⟩
  have e : cutV vs l u = vs := by
    unfold cutV
    rw [z.1, z.2, List.drop_zero, Nat.sub_zero, List.take_length]
  rw [e] at hc
  exact .tup hl hc
theorem dsl_lst {s : List D} {l u : Option Int} (h : post (.lst (cutD s l u))) : Dsl (rSlL K) (.lst s) l u post := fun st M H v hst hM trk iv Q q => by
  obtain ⟨p, vs, rfl, hm, hl, hs⟩ := is_lst iv
  have hc : Iss st M H (cutV vs l u) (cutD s l u) := by
    unfold cutV cutD
    rw [hs.length]
    exact (hs.drop _).take _
  exact ⟨p, vs, rfl, .of hl, fun p' hn => q _ _ _ h (Fx.new hn) (.lst (fresh_ne (st := st) trk hn) upd_same (hc.mono (fun _ z => z) hM (Fx.new hn) hst.notup))⟩
/-! ### tuples and lists put together -/
theorem dop_catt {a b : List D} (hz : a.length + b.length ≤ 1000000) (h : post (.tup (a ++ b))) : Dop (rCatA K) (.tup a) (.tup b) post := fun st M H v w hst hM trk iv iw Q q => by
  obtain ⟨p, vs, rfl, hl, hs⟩ := is_tup iv
  obtain ⟨p2, vs2, rfl, hl2, hs2⟩ := is_tup iw
  refine ⟨p, p2, vs, vs2, rfl, rfl, .of hl, .of hl2, by rw [hs.length, hs2.length]; exact le_line hz, fun e => ?_, fun _ e => ?_, fun _ _ p' hn => ?_⟩
  · subst e
    cases hs
    exact q _ H _ h (Fx.refl _ _) (.tup hl2 hs2)
  · subst e
    cases hs2
    refine q _ H _ h (Fx.refl _ _) ?_
    rw [List.append_nil]
    exact .tup hl hs
  · exact q _ _ _ h (Fx.new hn) (.tup upd_same ((hs.append hs2).mono (fun _ z => z) hM (Fx.new hn) hst.notup))
theorem dop_catl {a b : List D} (hz : a.length + b.length ≤ 1000000) (h : post (.lst (a ++ b))) : Dop rCat (.lst a) (.lst b) post := fun st M H v w hst hM trk iv iw Q q => by
  obtain ⟨p, vs, rfl, hm, hl, hs⟩ := is_lst iv
  obtain ⟨p2, vs2, rfl, hm2, hl2, hs2⟩ := is_lst iw
  exact ⟨p, p2, vs, vs2, rfl, rfl, hl, hl2, by rw [hs.length, hs2.length]; exact le_line hz, fun p' hn => q _ _ _ h (Fx.new hn) (.lst (fresh_ne (st := st) trk hn) upd_same ((hs.append hs2).mono (fun _ z => z) hM (Fx.new hn) hst.notup))⟩
/-! ### truth -/
theorem dt_tru {te : TE} {postb : Bool → Prop} (h : De te env fun x => ∃ b, dTru x = some b ∧ postb b ∧ ∀ l, x = .str l → l.length ≤ 1000000) : Dt (tTruD K te) env postb := fun B M σ H S Q q =>
  h B M σ H S _ fun v H1 x ⟨b, e, hb, hz⟩ S1 e1 i1 => by
    refine ⟨b, ?_, q b H1 hb S1 e1⟩
    cases i1 with
    | non => exact (Option.some.inj e).symm
    | bl b => exact (Option.some.inj e).symm
    | int b => exact (Option.some.inj e).symm
    | str l =>
      refine ⟨by rw [len_of]; exact le_line (hz l rfl), ?_⟩
      rw [len_of, ← Option.some.inj e]
      cases l with
      | nil => rfl
      | cons a r =>
        show (!false) = _
        symm
        exact bne_iff_ne.mpr (by rw [List.length_cons]; omega)
    | lst hm hl hs =>
      refine .inl ⟨_, .of hl, ?_⟩
      rw [← Option.some.inj e]
      cases hs <;> rfl
    | tup hl hs =>
      refine .inr (.inl ⟨_, .of hl, ?_⟩)
      rw [← Option.some.inj e]
      cases hs <;> rfl
    | ptp hm hl hc hs =>
      refine .inr (.inl ⟨_, .ofF hl, ?_⟩)
      rw [← Option.some.inj e]
      cases hs <;> rfl
    | _ => cases e
end
end DL

namespace DL
open PySem PySem.Spec PyProof.Rows L2

/-! ### more rules: a text times a number, a tuple times a number, list of a text, a text turned round -/
def rMulS : R2 := fun x y H Q => ∃ (z : Str) (n : Int), x = .str z ∧ y = .int n ∧ -1000 ≤ n ∧ n ≤ 1000 ∧ z.length ≤ 1000 ∧ Q (.str ⟨(List.replicate n.toNat z.cps.toList).flatten.toArray⟩) H
section
variable {X : Cx}
end
section
variable {env : Nv} {post : D → Prop} {K : PySem.W.Frag}
theorem dop_muls {a : List Nat} {n : Int} (h1 : -1000 ≤ n) (h2 : n ≤ 1000) (h3 : a.length ≤ 1000) (h : post (.str (List.replicate n.toNat a).flatten)) : Dop rMulS (.str a) (.int n) post := fun st M H v w _ _ _ iv iw Q q => by
  cases is_str iv
  cases is_int iw
  exact ⟨_, n, rfl, rfl, h1, h2, by rw [len_of]; exact h3, q _ H _ h (Fx.refl _ _) (.str _)⟩
theorem iss_rep {st : Addr} {M : List Addr} {H : Hp} {vs : List V} {ds : List D} (h : Iss st M H vs ds) : ∀ n : Nat, Iss st M H (List.replicate n vs).flatten (List.replicate n ds).flatten
  | 0 => .nil
  | n + 1 => by
    rw [List.replicate_succ, List.flatten_cons, List.replicate_succ, List.flatten_cons]
    exact h.append (iss_rep h n)
theorem dop_rept {a : List D} {n : Int} (h1 : 2 ≤ n) (h2 : n ≤ 1000) (h3 : a.length ≤ 1000) (h0 : a ≠ []) (h : post (.tup (List.replicate n.toNat a).flatten)) : Dop (rRepT K) (.tup a) (.int n) post := fun st M H v w hst hM trk iv iw Q q => by
  obtain ⟨p, vs, rfl, hl, hs⟩ := is_tup iv
  cases is_int iw
  refine ⟨p, n, vs, rfl, rfl, .of hl, fun z => ?_, h1, h2, by rw [hs.length]; exact h3, fun p' hn => q _ _ _ h (Fx.new hn) (.tup upd_same ((iss_rep hs _).mono (fun _ z => z) hM (Fx.new hn) hst.notup))⟩
  subst z
  cases hs
  exact h0 rfl
/-- a fresh list from two -/
theorem den_catl {ta tb : TE} {postN : Ow → Prop} (h : De ta env fun x => De tb env fun y => ∃ a b, x = .lst a ∧ y = .lst b ∧ a.length + b.length ≤ 1000000 ∧ postN (.lst (a ++ b))) : DeN (tOp rCat ta tb) env postN := fun B M σ H S Q q => by
  refine h B M σ H S _ fun v H1 x hx S1 e1 i1 => hx B M σ H1 S1 _ fun w H2 y hy S2 e2 i2 => ?_
  obtain ⟨a, b, rfl, rfl, hz, hp⟩ := hy
  obtain ⟨p, vs, rfl, hm, hl, hs⟩ := is_lst (S1.is e2 i1)
  obtain ⟨p2, vs2, rfl, hm2, hl2, hs2⟩ := is_lst i2
  have f := e1.trans e2
  exact ⟨p, p2, vs, vs2, rfl, rfl, hl, hl2, by rw [hs.length, hs2.length]; exact le_line hz, fun p' hn => q p' _ (.lst (vs ++ vs2)) (.lst (a ++ b)) hp (S2.newIn hn _) (f.trans (Fx.new hn)) upd_same (.lst (S2.newIs hn _ (hs.append hs2))) (fresh_back f (S2.nst hn) hn)⟩
/-! ### slices of written bounds -/
theorem cutD_to {α : Type} (xs : List α) (i : Int) (h : 0 ≤ i) : cutD xs none (some i) = xs.take i.toNat := by
  obtain ⟨n, rfl⟩ := Int.eq_ofNat_of_zero_le h
  unfold cutD
  rw [HT.sIx_none, HT.sIx_nat, List.drop_zero, Nat.sub_zero]
  simp
theorem cutD_from {α : Type} (xs : List α) (i : Int) (h : 0 ≤ i) : cutD xs (some i) none = xs.drop i.toNat := by
  obtain ⟨n, rfl⟩ := Int.eq_ofNat_of_zero_le h
  unfold cutD
  rw [HT.sIx_none, HT.sIx_nat]
  rw [List.take_of_length_le (by rw [List.length_drop]; omega)]
  show xs.drop (min n xs.length) = xs.drop n
  by_cases hn : n ≤ xs.length
  · rw [Nat.min_eq_left hn]
  · rw [Nat.min_eq_right (by omega), List.drop_of_length_le (Nat.le_refl _), List.drop_of_length_le (by omega)]
theorem cutD_mid {α : Type} (xs : List α) (i j : Int) (h : 0 ≤ i) (h2 : 0 ≤ j) : cutD xs (some i) (some j) = (xs.drop i.toNat).take (j.toNat - i.toNat) := by
  obtain ⟨n, rfl⟩ := Int.eq_ofNat_of_zero_le h
  obtain ⟨m, rfl⟩ := Int.eq_ofNat_of_zero_le h2
  unfold cutD
  rw [HT.sIx_nat, HT.sIx_nat]
  show (xs.drop (min n xs.length)).take (min m xs.length - min n xs.length) = (xs.drop n).take (m - n)
  by_cases hn : n ≤ xs.length
  · rw [Nat.min_eq_left hn]
    by_cases hm : m ≤ xs.length
    · rw [Nat.min_eq_left hm]
    · rw [Nat.min_eq_right (by omega), List.take_of_length_le (by rw [List.length_drop]; omega), List.take_of_length_le (by rw [List.length_drop]; omega)]
  · rw [Nat.min_eq_right (by omega : xs.length ≤ n), List.drop_of_length_le (Nat.le_refl _), List.drop_of_length_le (by omega), List.take_nil, List.take_nil]
theorem atI_at {α : Type} {xs : List α} {i : Int} {x : α} (h : 0 ≤ i) (e : xs[i.toNat]? = some x) : atI xs i = some x := by
  have hl := (List.getElem?_eq_some_iff.mp e).1
  unfold atI ixN
  rw [if_pos h, if_pos (by omega)]
  exact e
theorem atI_lt {α : Type} (xs : List α) (i : Int) (h : 0 ≤ i) (h2 : i < xs.length) : ∃ x, atI xs i = some x ∧ x ∈ xs := by
  have hl : i.toNat < xs.length := by omega
  exact ⟨xs[i.toNat], atI_at h (List.getElem?_eq_getElem hl), List.getElem_mem hl⟩
theorem atI_back {α : Type} (xs : List α) (x : α) : atI (xs ++ [x]) (-1) = some x := by
  unfold atI ixN
  rw [if_neg (by omega), if_pos (by rw [List.length_append, List.length_singleton]; omega)]
  show (xs ++ [x])[_]? = _
  rw [List.length_append, List.length_singleton]
  have : ((-1 : Int) + ((xs.length + 1 : Nat) : Int)).toNat = xs.length := by omega
  rw [this]
  simp
end
section
variable {post : D → Prop} {K : PySem.W.Frag} {i j : Int}
theorem dsl_tup_to {s : List D} (h0 : 0 ≤ i) (h : post (.tup (s.take i.toNat))) : Dsl (rSlA K) (.tup s) none (some i) post := dsl_tup (by rw [cutD_to _ _ h0]; exact h)
theorem dsl_tup_from {s : List D} (h0 : 0 ≤ i) (h : post (.tup (s.drop i.toNat))) : Dsl (rSlA K) (.tup s) (some i) none post := dsl_tup (by rw [cutD_from _ _ h0]; exact h)
theorem dsl_tup_mid {s : List D} (h0 : 0 ≤ i) (h1 : 0 ≤ j) (h : post (.tup ((s.drop i.toNat).take (j.toNat - i.toNat)))) : Dsl (rSlA K) (.tup s) (some i) (some j) post := dsl_tup (by rw [cutD_mid _ _ _ h0 h1]; exact h)
theorem dsl_str_to {s : List Nat} (hz : s.length ≤ 1000000) (h0 : 0 ≤ i) (h : post (.str (s.take i.toNat))) : Dsl rSlS (.str s) none (some i) post := dsl_str hz (by rw [cutD_to _ _ h0]; exact h)
theorem dsl_str_from {s : List Nat} (hz : s.length ≤ 1000000) (h0 : 0 ≤ i) (h : post (.str (s.drop i.toNat))) : Dsl rSlS (.str s) (some i) none post := dsl_str hz (by rw [cutD_from _ _ h0]; exact h)
theorem dsl_str_mid {s : List Nat} (hz : s.length ≤ 1000000) (h0 : 0 ≤ i) (h1 : 0 ≤ j) (h : post (.str ((s.drop i.toNat).take (j.toNat - i.toNat)))) : Dsl rSlS (.str s) (some i) (some j) post := dsl_str hz (by rw [cutD_mid _ _ _ h0 h1]; exact h)
end
/-! ### kinds -/
def okD : D → Bool
  | .stm => false
  | .obn => false
  | .ty _ => false
  | .exc .. => false
  | .cls _ => false
  | _ => true
theorem okD.odd {v : D} (h : okD v = true) : oddD v = false := by cases v <;> first | rfl | cases h
theorem okD.ty {v : D} (h : okD v = true) : ∀ n, v ≠ .ty n := fun n z => by rw [z] at h; cases h
theorem okD.stm {v : D} (h : okD v = true) : v ≠ .stm := fun z => by rw [z] at h; cases h
def isTy (T : String) (v : D) : Bool := match v with
  | .bl _ => T == "bool" || T == "int"
  | v => tyD v == T
theorem kits : ∀ s ∈ ["NoneType", "bool", "int", "str", "tuple", "list", "dict"], ∀ T ∈ ["int", "bool", "str", "tuple", "list"], kitB s T = some (if s = "bool" then (T == "bool" || T == "int") else s == T) := by decide +kernel
theorem kit_of_ty {v : D} {T : String} (h : okD v = true) (hT : T = "int" ∨ T = "bool" ∨ T = "str" ∨ T = "tuple" ∨ T = "list") : kitB (tyD v) T = some (isTy T v) := by
  have hm : T ∈ ["int", "bool", "str", "tuple", "list"] := by
    rcases hT with rfl | rfl | rfl | rfl | rfl <;> simp
  cases v with
  | stm => cases h
  | obn => cases h
  | ty n => cases h
  | cls n => cases h
  | exc a b c d => cases h
  | bl b => exact kits "bool" (by simp) T hm
  | non => exact kits "NoneType" (by simp) T hm
  | int i => exact kits "int" (by simp) T hm
  | str s => exact kits "str" (by simp) T hm
  | tup ds => exact kits "tuple" (by simp) T hm
  | ptp ds => exact kits "tuple" (by simp) T hm
  | lst ds => exact kits "list" (by simp) T hm
  | dK ds => exact kits "dict" (by simp) T hm
  | dT ds => exact kits "dict" (by simp) T hm
  | dKx ks ds => exact kits "dict" (by simp) T hm
  | dTx ks ds => exact kits "dict" (by simp) T hm
theorem dcl_isib {K : PySem.W.Frag} {post : D → Prop} {x : D} {T : String} (b : Bool) (hx : okD x = true) (hT : T = "int" ∨ T = "bool" ∨ T = "str" ∨ T = "tuple" ∨ T = "list") (hb : isTy T x = b) (h : post (.bl b)) : Dcl (rIsiD K) [x, .ty T] post :=
  dcl_isi (okD.odd hx) (hb ▸ kit_of_ty hx hT) h
end DL

namespace DL
open PySem PySem.Spec PyProof.Rows L2

theorem df_mk {K : PySem.W.Frag} {h : Heap} {mg : Str → Option Value} {x : Str} {st : Stmt} {ps : List Str} {f : Addr} {oc kV dc pm cd ct : Value} {od an : Option Addr} {sl : Array (Option Value)} (X : K.In h) (G : h.Ns mainGlobals mg)
    (a : PySem.W.nsIn K mainGlobals x = some (some (.ref f))) (l : K.lookup f = some ⟨oc, od, .func (PySem.W.fnOf x x (defArgs st) (defBody st) (defScope st) .none kV dc pm an cd ct), sl⟩) (c : PySem.W.codeIn K cd x = true) (k : PySem.W.keepIn K (.ref f) = true)
    (hb : ∀ (kV doc pm : Value) (an : Option Addr) (cdv ct : Value) (us : List Value), us.length = ps.length → bindArgs (PySem.W.fnOf x x (defArgs st) (defBody st) (defScope st) .none kV doc pm an cdv ct) ⟨us, []⟩ = pure (ps.zip us)) : Df K mg x st ps :=
  ⟨f, _, fun_mk l c k, PySem.W.mg_of X G a, (fun_mk l c k).binds hb⟩
theorem mg_intK {K : PySem.W.Frag} {h : Heap} {mg : Str → Option Value} {x : Str} {n : Int} {t : Tok} (X : K.In h) (G : h.Ns mainGlobals mg) (a : PySem.W.nsIn K mainGlobals x = some (some (.int n t))) : ∃ u, mg x = some u ∧ RelV (.int n) u :=
  ⟨_, PySem.W.mg_of X G a, t, rfl⟩
theorem mg_strK {K : PySem.W.Frag} {h : Heap} {mg : Str → Option Value} {x : Str} {n : Str} {t : Tok} (X : K.In h) (G : h.Ns mainGlobals mg) (a : PySem.W.nsIn K mainGlobals x = some (some (.str n t))) : ∃ u, mg x = some u ∧ RelV (.str n) u :=
  ⟨_, PySem.W.mg_of X G a, t, rfl⟩
def spLaw (K : PySem.W.Frag) : Sp := fun vs H Q _ => ∃ (a : Addr) (ns : List Int), vs = [.ref a] ∧ SqL K H a (ns.map V.int) ∧ ns.length ≤ 63 ∧ ∀ H', Q (.bl true) H'
def spStream (K : PySem.W.Frag) : Sp := fun vs H Q _ => ∃ (a : Addr) (ns : List Int), vs = [.ref a] ∧ SqL K H a (ns.map V.int) ∧
  ∀ b st H', st ≠ b → H' b = some (.lst (ns.map V.int)) → H' st = some (.lst [.ref b, .int 0, .int 0]) → Q (.ref st) H'
theorem law_read {K : PySem.W.Frag} {tr : TS} {N : List Str} {n : Nat} (hN : N.length = n + 2) (h : Ds tr (.any :: .dat .stm :: List.replicate n .any) (fun _ => False) (fun d => d = .bl true) (fun _ => False) (fun _ => False)) :
    ∀ vs H Q (E : XK), spLaw K vs H Q E → (tSeq (tAsg (tCall (spStream K) [] E0 (tCons (tVar 0) tNil)) (gName 1)) tr) { nx := fun _ H' => Q .non H', rt := Q } (L2.start N vs) H := by
  intro vs H Q E ⟨a, ns, e, hS, hl, q⟩
  subst e
  have e0 : L2.start N [V.ref a] = some (.ref a) :: none :: List.replicate n none := by
    unfold L2.start
    rw [hN]
    show some (V.ref a) :: List.replicate (n + 1) none = _
    rw [List.replicate_succ]
  rw [e0]
  refine ⟨.ref a, rfl, a, ns, rfl, hS, fun b st H' ne hb hs => ?_⟩
  have S : Sr ⟨st, [st], H', []⟩ [st] (some (.ref a) :: some (.ref st) :: List.replicate n none) H' (.any :: .dat .stm :: List.replicate n .any) := by
    have anyat : ∀ (i : Nat) s, (Sl.any :: Sl.dat D.stm :: List.replicate n Sl.any)[i]? = some s → (i = 1 ∧ s = .dat .stm) ∨ s = .any := fun i s h => by
      match i with
      | 0 => exact .inr (Option.some.inj h).symm
      | 1 => exact .inl ⟨rfl, (Option.some.inj h).symm⟩
      | i + 2 =>
        have h' : (List.replicate n Sl.any)[i]? = some s := h
        obtain ⟨_, h'⟩ := List.getElem?_eq_some_iff.mp h'
        rw [List.getElem_replicate] at h'
        exact .inr h'.symm
    refine ⟨⟨b, ns, 0, 0, fun z => ne (List.mem_singleton.mp z).symm, fun z => ne z.symm, hs, hb, by omega, by omega⟩, List.mem_singleton.mpr rfl, Fx.refl _ _, fun _ z => z, fun _ z => .inl z, fun c hc => ⟨_, (List.mem_singleton.mp hc) ▸ hs⟩, List.mem_singleton.mpr rfl, fun c hc => ⟨_, (List.mem_singleton.mp hc) ▸ hs⟩, ?_, fun i d h => ?_, fun i o h => ?_, fun i j p o u h => ?_, (fun x hx => nomatch hx), fun i b p C fs h => (by rcases anyat i _ h with ⟨_, z⟩ | z <;> cases z)⟩
    · simp
    · rcases anyat i _ h with ⟨rfl, z⟩ | z
      · cases z
        exact ⟨.ref st, rfl, .stm⟩
      · cases z
    · rcases anyat i _ h with ⟨_, z⟩ | z <;> cases z
    · rcases anyat i _ h with ⟨_, z⟩ | z <;> cases z
  exact h _ _ _ _ S _ (fun _ _ _ _ he _ => he.elim) (fun v H'' d hd fx iv => by
    have hd' : d = .bl true := hd
    subst hd'
    cases is_bl iv
    exact q H'') (fun _ _ _ _ he _ => he.elim) (fun _ _ _ _ he _ => he.elim)
/-- the stream's state is told by nothing but its form -/
theorem stm_next {st : Addr} {M : List Addr} {H : Hp} {c' k' : Int} (hs : Stm st M H) (h1 : 0 ≤ c') (h2 : 0 ≤ k') {a : Addr} {c k : Int} (e : H st = some (.lst [.ref a, .int c, .int k])) : Fx st H (upd H st (.lst [.ref a, .int c', .int k'])) := by
  refine ⟨fun b o hb h => by rw [upd_ne hb]; exact h, fun a2 c2 k2 _ _ e2 => ?_⟩
  rw [e] at e2
  cases e2
  exact ⟨c', k', h1, h2, upd_same⟩
end DL

namespace DL
open PySem PySem.Spec PyProof.Rows L2

/-! ### the letters and their opposites -/
def sw : Nat → Nat
  | 97 => 65 | 65 => 97 | 98 => 66 | 66 => 98 | 99 => 67 | 67 => 99 | c => c
def LTR : List Nat := [97, 65, 98, 66, 99, 67]
theorem sw_mem : ∀ {c : Nat}, c ∈ LTR → sw c ∈ LTR := fun {c} h => by
  simp only [LTR, List.mem_cons, List.not_mem_nil, or_false] at h
  rcases h with rfl | rfl | rfl | rfl | rfl | rfl <;> decide
theorem sw_sw : ∀ {c : Nat}, c ∈ LTR → sw (sw c) = c := fun {c} h => by
  simp only [LTR, List.mem_cons, List.not_mem_nil, or_false] at h
  rcases h with rfl | rfl | rfl | rfl | rfl | rfl <;> rfl
theorem placed_one (l : List Nat) (f : Nat → Nat → List Nat) (g : Nat → Nat) (h : ∀ (i c : Nat), l[i]? = some c → f i c = [g c]) : placed ⟨l.toArray⟩ f = (l.map g).toArray := by
  apply Array.ext'
  unfold placed
  rw [Array.toList_flatten, List.toList_toArray]
  show ((Array.mapIdx (fun i c => (f i c).toArray) l.toArray).toList.map Array.toList).flatten = _
  rw [Array.toList_mapIdx]
  have : (List.mapIdx (fun i c => (f i c).toArray) l).map Array.toList = l.map fun c => [g c] := by
    apply List.ext_getElem?
    intro i
    rw [List.getElem?_map, List.getElem?_mapIdx, List.getElem?_map]
    cases e : l[i]? with
    | none => rfl
    | some c =>
      show some (f i c).toArray.toList = some [g c]
      rw [h i c e]
  show ((List.mapIdx (fun i c => (f i c).toArray) l).map Array.toList).flatten = _
  rw [this]
  clear this h
  induction l with
  | nil => rfl
  | cons a r ih =>
    rw [List.map_cons, List.flatten_cons, ih]
    rfl
theorem swap_txt {l : List Nat} (h : ∀ c ∈ l, c ∈ LTR) : Txt.swapcase ⟨l.toArray⟩ = ⟨(l.map sw).toArray⟩ := by
  unfold Txt.swapcase
  rw [placed_one l _ sw]
  intro i c hc
  have hm := h c (List.mem_of_getElem? hc)
  have hl : Unicode.lowerAt (⟨l.toArray⟩ : Str).cps i = if c == 0x3A3 && Unicode.endsWord (⟨l.toArray⟩ : Str).cps i then [0x3C2] else Unicode.lowerOf c := by
    unfold Unicode.lowerAt
    have : (⟨l.toArray⟩ : Str).cps[i]? = some c := by
      show l.toArray[i]? = some c
      rw [List.getElem?_toArray]
      exact hc
    rw [this]
  rw [hl]
  generalize Unicode.endsWord (⟨l.toArray⟩ : Str).cps i = b
  simp only [LTR, List.mem_cons, List.not_mem_nil, or_false] at hm
  rcases hm with rfl | rfl | rfl | rfl | rfl | rfl <;> cases b <;> decide +kernel
def rSwap : V → List V → Hp → VK → Prop := fun x xs H Q => ∃ a, x = .str a ∧ xs = [] ∧ a.length ≤ 5592405 ∧ Q (.str (Txt.swapcase a)) H
def rListStr : List V → Hp → VK → Prop := fun xs H Q => ∃ z : Str, xs = [.str z] ∧ z.length ≤ sizeLine ∧ ∀ l, H l = none → Q (.ref l) (upd H l (.lst (z.cps.toList.map fun c => V.str ⟨#[c]⟩)))
def tRevS (te : TE) : TE := fun σ H Q => te σ H fun x H1 => ∃ z : Str, x = .str z ∧ z.length ≤ sizeLine ∧ Q (.str ⟨z.cps.toList.reverse.toArray⟩) H1
section
variable {X : Cx}
theorem md_swap : MtR X "str.swapcase" rSwap := by
  intro pins s σ H x xs v us Q I rx rs h
  obtain ⟨a, rfl, rfl, hc, h⟩ := h
  obtain ⟨t, rfl⟩ := rx
  cases rs
  exact SC.swapcase (fit_swapcase hc) ⟨.str _, H, I.tok _, ⟨_, rfl⟩, h⟩
theorem cd_liststr (hc : X.calm = true) : CallR X (.type "list") rListStr := by
  intro pins s σ H xs us Q I r h
  obtain ⟨z, rfl, hz, q⟩ := h
  cases r with
  | cons r rr =>
    cases rr
    obtain ⟨t, rfl⟩ := r
    refine call_list_str (I.ok.hd hc) z t (fun h' tk acc' c' hk hS' hacc => ?_) (hn := hz)
    have rv : Vals (z.cps.toList.map fun c => V.str ⟨#[c]⟩) acc'.toList := by
      have gen : ∀ (l : List Nat) (us : List Value), l.length = us.length → (∀ (j : Nat) v, us[j]? = some v → ∃ c u, l[j]? = some c ∧ v = .str ⟨#[c]⟩ u) → Vals (l.map fun c => V.str ⟨#[c]⟩) us := by
        intro l
        induction l with
        | nil =>
          intro us hl _
          cases us with
          | nil => exact .nil
          | cons a b => cases hl
        | cons c r ih =>
          intro us hl hu
          cases us with
          | nil => cases hl
          | cons a b =>
            obtain ⟨c', u, e1, e2⟩ := hu 0 a rfl
            cases e1
            exact .cons ⟨u, e2⟩ (ih b (by simpa using hl) fun j v hj => hu (j + 1) v hj)
      refine gen _ _ (by rw [Array.length_toList, Array.length_toList, hacc.1]) fun j v hj => ?_
      obtain ⟨c, u, h1, h2⟩ := hacc.2 j v (by simpa using hj)
      exact ⟨c, u, by simpa using h1, h2⟩
    refine ⟨.ref s.heap.objs.size, upd H s.heap.objs.size (.lst (z.cps.toList.map fun c => V.str ⟨#[c]⟩)), I.laid hk (Nat.le_refl _) (show ObjOk X.prog X.w _ _ _ (.lst (z.cps.toList.map fun c => V.str ⟨#[c]⟩)) from ⟨?_, acc'.toList, c', rv, ?_⟩), rfl, q _ (I.hok.fresh (Nat.le_refl _))⟩
    · rw [List.length_map, Array.length_toList]
      exact hz
    · rw [Array.toArray_toList]
      exact hS'
end
section
variable {env : Nv} {post : D → Prop} {K : PySem.W.Frag} {te : TE}
theorem dmt_swap {l : List Nat} (hz : l.length ≤ 1000000) (hl : ∀ c ∈ l, c ∈ LTR) (h : post (.str (l.map sw))) : Dmt K "str" rSwap (.str l) [] post := fun st M H v vs hst hM trk iv ivs Q q => by
  cases is_str iv
  cases ivs
  refine ⟨_, rfl, rfl, by rw [len_of]; omega, q _ H _ h (Fx.refl _ _) ?_⟩
  rw [swap_txt hl]
  exact .str _
theorem iss_sign {st : Addr} {M : List Addr} {H : Hp} : ∀ l : List Nat, Iss st M H (l.map fun c => V.str ⟨#[c]⟩) (l.map sign)
  | [] => .nil
  | a :: r => .cons (.str [a]) (iss_sign r)
theorem dcl_liststr {l : List Nat} (hz : l.length ≤ 1000000) (h : post (.lst (l.map sign))) : Dcl rListStr [.str l] post := fun st M H vs hst hM trk iv Q q => by
  cases iv with
  | cons i r =>
    cases r
    cases is_str i
    refine ⟨_, rfl, by rw [len_of]; exact le_line hz, fun p hn => q _ _ _ h (Fx.new hn) (.lst (fresh_ne (st := st) trk hn) upd_same ?_)⟩
    exact iss_sign l
theorem de_revS (h : De te env fun x => ∃ l, x = .str l ∧ l.length ≤ 1000000 ∧ post (.str l.reverse)) : De (tRevS te) env post := fun B M σ H S Q q =>
  h B M σ H S _ fun v H1 x ⟨l, e, hz, hp⟩ S1 e1 i1 => by
    subst e
    cases is_str i1
    refine ⟨_, rfl, by rw [len_of]; exact le_line hz, q _ H1 _ hp S1 e1 ?_⟩
    show Is B.st M H1 (.str ⟨(l.toArray.toList).reverse.toArray⟩) _
    rw [List.toList_toArray]
    exact .str _
/-- the place of a letter among the letters -/
def ixL : Nat → Nat
  | 97 => 0 | 65 => 1 | 98 => 2 | 66 => 3 | 99 => 4 | 67 => 5 | _ => 6
end
end DL

namespace DL
open PySem PySem.Spec PyProof.Rows L2

/-! ### words: what is left when opposite neighbours are left out -/
abbrev Lts (w : List Nat) : Prop := ∀ c ∈ w, c ∈ LTR
/-- the stack, its top first -/
def psh (k : List Nat) (c : Nat) : List Nat := match k with
  | [] => [c]
  | x :: k => if x = sw c then k else c :: x :: k
theorem psh_cons (x : Nat) (k : List Nat) (c : Nat) : psh (x :: k) c = if x = sw c then k else c :: x :: k := rfl
def stk (w : List Nat) : List Nat := w.foldl psh []
def fold (w : List Nat) : List Nat := (stk w).reverse
def inv (w : List Nat) : List Nat := w.reverse.map sw
def red : List Nat → Prop
  | x :: y :: r => x ≠ sw y ∧ red (y :: r)
  | _ => True
theorem red_tail {x : Nat} {k : List Nat} (h : red (x :: k)) : red k := by
  cases k with
  | nil => trivial
  | cons y r => exact h.2
theorem sw_eq {a b : Nat} (ha : a ∈ LTR) (hb : b ∈ LTR) : a = sw b ↔ b = sw a := by
  constructor
  · intro h; rw [h, sw_sw hb]
  · intro h; rw [h, sw_sw ha]
theorem psh_lts {k : List Nat} {c : Nat} (hk : Lts k) (hc : c ∈ LTR) : Lts (psh k c) := by
  cases k with
  | nil => intro x hx; rw [List.mem_singleton.mp hx]; exact hc
  | cons y r =>
    rw [psh_cons]
    split
    · exact fun x hx => hk x (List.mem_cons_of_mem _ hx)
    · intro x hx
      rcases List.mem_cons.mp hx with z | z
      · rw [z]; exact hc
      · exact hk x z
theorem psh_red {k : List Nat} {c : Nat} (hk : Lts k) (hc : c ∈ LTR) (h : red k) : red (psh k c) := by
  cases k with
  | nil => trivial
  | cons y r =>
    rw [psh_cons]
    split
    · exact red_tail h
    · rename_i hy
      exact ⟨fun z => hy ((sw_eq hc (hk y List.mem_cons_self)).mp z), h⟩
theorem psh_psh {k : List Nat} {c : Nat} (hk : Lts k) (hc : c ∈ LTR) (h : red k) : psh (psh k c) (sw c) = k := by
  cases k with
  | nil =>
    show psh [c] (sw c) = []
    rw [psh_cons, sw_sw hc, if_pos rfl]
  | cons y r =>
    by_cases hy : y = sw c
    · have e : psh (y :: r) c = r := by rw [psh_cons, if_pos hy]
      rw [e]
      cases r with
      | nil => rw [hy]; rfl
      | cons z t =>
        rw [psh_cons]
        rw [sw_sw hc, if_neg, hy]
        intro hz
        have h1 : y ≠ sw z := h.1
        rw [hz] at h1
        exact h1 hy
    · have e : psh (y :: r) c = c :: y :: r := by rw [psh_cons, if_neg hy]
      rw [e]
      rw [psh_cons]
      rw [sw_sw hc, if_pos rfl]
theorem fl_lts {w : List Nat} : ∀ {k : List Nat}, Lts k → Lts w → Lts (w.foldl psh k) := by
  induction w with
  | nil => intro k hk _; exact hk
  | cons c w ih => intro k hk hw; exact ih (psh_lts hk (hw c List.mem_cons_self)) fun x hx => hw x (List.mem_cons_of_mem _ hx)
theorem fl_red {w : List Nat} : ∀ {k : List Nat}, Lts k → Lts w → red k → red (w.foldl psh k) := by
  induction w with
  | nil => intro k _ _ h; exact h
  | cons c w ih => intro k hk hw h; exact ih (psh_lts hk (hw c List.mem_cons_self)) (fun x hx => hw x (List.mem_cons_of_mem _ hx)) (psh_red hk (hw c List.mem_cons_self) h)
theorem stk_lts {w : List Nat} (hw : Lts w) : Lts (stk w) := fl_lts (fun _ h => nomatch h) hw
theorem stk_red {w : List Nat} (hw : Lts w) : red (stk w) := fl_red (fun _ h => nomatch h) hw trivial
theorem fold_lts {w : List Nat} (hw : Lts w) : Lts (fold w) := fun c hc => stk_lts hw c (List.mem_reverse.mp hc)
theorem red_app {a b : List Nat} (h : red (a ++ b)) : red b := by
  induction a with
  | nil => exact h
  | cons x a ih => exact ih (red_tail h)
/-- what is reduced is kept -/
theorem fl_self {w : List Nat} : ∀ {k : List Nat}, Lts k → Lts w → red (w.reverse ++ k) → w.foldl psh k = w.reverse ++ k := by
  induction w with
  | nil => intro k _ _ _; rfl
  | cons c w ih =>
    intro k hk hw h
    have hc := hw c List.mem_cons_self
    rw [List.reverse_cons, List.append_assoc, List.singleton_append] at h ⊢
    have e : psh k c = c :: k := by
      cases k with
      | nil => rfl
      | cons y r =>
        have h1 : red (c :: y :: r) := red_app h
        rw [psh_cons]
        rw [if_neg fun z => h1.1 ((sw_eq (hk y List.mem_cons_self) hc).mp z)]
    show w.foldl psh (psh k c) = _
    rw [e]
    exact ih (fun x hx => (List.mem_cons.mp hx).elim (fun z => z ▸ hc) (hk x)) (fun x hx => hw x (List.mem_cons_of_mem _ hx)) h
theorem stk_fold {w : List Nat} (hw : Lts w) : stk (fold w) = stk w := by
  have h := fl_self (w := fold w) (k := []) (fun _ h => nomatch h) (fold_lts hw) (by
    rw [List.append_nil]
    show red (stk w).reverse.reverse
    rw [List.reverse_reverse]
    exact stk_red hw)
  show (fold w).foldl psh [] = _
  rw [h, List.append_nil]
  show (stk w).reverse.reverse = _
  rw [List.reverse_reverse]
theorem fold_fold {w : List Nat} (hw : Lts w) : fold (fold w) = fold w := congrArg List.reverse (stk_fold hw)
theorem stk_app (u v : List Nat) : stk (u ++ v) = v.foldl psh (stk u) := by unfold stk; rw [List.foldl_append]
theorem fold_app_l {u v : List Nat} (hu : Lts u) : fold (fold u ++ v) = fold (u ++ v) := by
  unfold fold
  rw [stk_app, stk_app]
  have := stk_fold hu
  unfold fold at this
  rw [this]
/-- the word put on a stack as what it is when reduced -/
theorem fl_fold : ∀ (v : List Nat) {k : List Nat}, Lts k → Lts v → red k → (fold v).foldl psh k = v.foldl psh k := by
  intro v
  -- from the right
  suffices h : ∀ (n : Nat) (v : List Nat), v.length = n → ∀ {k : List Nat}, Lts k → Lts v → red k → (fold v).foldl psh k = v.foldl psh k from fun {k} a b c => h _ v rfl a b c
  intro n
  induction n with
  | zero =>
    intro v hv k _ _ _
    have : v = [] := List.length_eq_zero_iff.mp hv
    subst this
    rfl
  | succ n ih =>
    intro v hv k hk hl hr
    obtain ⟨u, c, rfl⟩ : ∃ u c, v = u ++ [c] := by
      have hne : v ≠ [] := fun z => by rw [z] at hv; cases hv
      exact ⟨v.dropLast, v.getLast hne, (List.dropLast_concat_getLast hne).symm⟩
    have hu : Lts u := fun x hx => hl x (List.mem_append_left _ hx)
    have hc : c ∈ LTR := hl c (List.mem_append_right _ (List.mem_singleton.mpr rfl))
    have ihu := ih u (by rw [List.length_append, List.length_singleton] at hv; omega) hk hu hr
    have es : stk (u ++ [c]) = psh (stk u) c := by rw [stk_app]; rfl
    rw [List.foldl_append]
    show (fold (u ++ [c])).foldl psh k = psh (u.foldl psh k) c
    rw [← ihu]
    unfold fold
    rw [es]
    have hs := stk_lts hu
    cases e : stk u with
    | nil => rfl
    | cons x s =>
      rw [e] at hs
      by_cases hx : x = sw c
      · have e2 : psh (x :: s) c = s := by rw [psh_cons, if_pos hx]
        rw [e2, List.reverse_cons, List.foldl_append]
        show s.reverse.foldl psh k = psh (psh (s.reverse.foldl psh k) x) c
        have hsr : Lts s.reverse := fun y hy => hs y (List.mem_cons_of_mem _ (List.mem_reverse.mp hy))
        have := psh_psh (fl_lts hk hsr) (sw_mem hc) (fl_red hk hsr hr)
        rw [sw_sw hc] at this
        rw [hx, this]
      · have e2 : psh (x :: s) c = c :: x :: s := by rw [psh_cons, if_neg hx]
        rw [e2, List.reverse_cons, List.foldl_append]
        rfl
theorem fold_app_r {u v : List Nat} (hu : Lts u) (hv : Lts v) : fold (u ++ fold v) = fold (u ++ v) := by
  unfold fold
  rw [stk_app, stk_app]
  have := fl_fold v (stk_lts hu) hv (stk_red hu)
  unfold fold at this
  rw [this]
/-- opposite neighbours left out anywhere -/
theorem fold_cut {u v : List Nat} {c d : Nat} (hu : Lts u) (hd : d ∈ LTR) (h : c = sw d) : fold (u ++ c :: d :: v) = fold (u ++ v) := by
  unfold fold
  rw [stk_app, stk_app]
  show (v.foldl psh (psh (psh (stk u) c) d)).reverse = _
  have := psh_psh (stk_lts hu) (sw_mem hd) (stk_red hu)
  rw [sw_sw hd] at this
  rw [h, this]
/-- reduced, read from the left -/
theorem red_rev : ∀ {w : List Nat}, Lts w → red w → red w.reverse := by
  intro w
  suffices h : ∀ (w k : List Nat), Lts w → Lts k → red w → red k → (∀ x y, w.head? = some x → k.head? = some y → x ≠ sw y) → red (w.reverse ++ k) from fun hw hr => by
    have := h w [] hw (fun _ z => nomatch z) hr trivial fun x y _ z => nomatch z
    rwa [List.append_nil] at this
  intro w
  induction w with
  | nil => intro k _ _ _ hk _; exact hk
  | cons c w ih =>
    intro k hw hk hr hrk hb
    rw [List.reverse_cons, List.append_assoc, List.singleton_append]
    refine ih (c :: k) (fun x hx => hw x (List.mem_cons_of_mem _ hx)) (fun x hx => (List.mem_cons.mp hx).elim (fun z => z ▸ hw c List.mem_cons_self) (hk x)) (red_tail hr) ?_ ?_
    · cases k with
      | nil => trivial
      | cons y t => exact ⟨hb c y rfl rfl, hrk⟩
    · intro x y hx hy
      cases hy
      cases w with
      | nil => cases hx
      | cons z t =>
        cases hx
        have h1 : c ≠ sw x := hr.1
        exact fun e => h1 ((sw_eq (hw x (List.mem_cons_of_mem _ List.mem_cons_self)) (hw c List.mem_cons_self)).mp e)
theorem fold_red {w : List Nat} (hw : Lts w) : red (fold w) := red_rev (stk_lts hw) (stk_red hw)
theorem fold_id {w : List Nat} (hw : Lts w) (h : red w) : fold w = w := by
  have := fl_self (w := w) (k := []) (fun _ h => nomatch h) hw (by rw [List.append_nil]; exact red_rev hw h)
  unfold fold stk
  rw [this, List.append_nil, List.reverse_reverse]
theorem fold_len (w : List Nat) : (fold w).length ≤ w.length := by
  suffices h : ∀ (w k : List Nat), (w.foldl psh k).length ≤ w.length + k.length by
    unfold fold stk
    rw [List.length_reverse]
    have := h w []
    simpa using this
  intro w
  induction w with
  | nil => intro k; simp
  | cons c w ih =>
    intro k
    have h1 := ih (psh k c)
    have h2 : (psh k c).length ≤ k.length + 1 := by
      cases k with
      | nil => simp [psh]
      | cons y r =>
        rw [psh_cons]
        split <;> simp <;> omega
    simp only [List.foldl_cons, List.length_cons]
    omega
/-! ### inverses -/
theorem inv_lts {w : List Nat} (hw : Lts w) : Lts (inv w) := fun c hc => by
  obtain ⟨x, hx, rfl⟩ := List.mem_map.mp hc
  exact sw_mem (hw x (List.mem_reverse.mp hx))
theorem inv_app (u v : List Nat) : inv (u ++ v) = inv v ++ inv u := by unfold inv; rw [List.reverse_append, List.map_append]
theorem map_sw_sw : ∀ {w : List Nat}, Lts w → (w.map sw).map sw = w
  | [], _ => rfl
  | c :: w, h => by
    rw [List.map_cons, List.map_cons, sw_sw (h c List.mem_cons_self), map_sw_sw fun x hx => h x (List.mem_cons_of_mem _ hx)]
theorem inv_inv {w : List Nat} (hw : Lts w) : inv (inv w) = w := by
  unfold inv
  rw [← List.map_reverse, List.reverse_reverse, map_sw_sw hw]
def lpsh (c : Nat) (w : List Nat) : List Nat := match w with
  | [] => [c]
  | y :: r => if y = sw c then r else c :: y :: r
theorem lpsh_cons (c y : Nat) (r : List Nat) : lpsh c (y :: r) = if y = sw c then r else c :: y :: r := rfl
theorem fold_cons {c : Nat} {w : List Nat} (hc : c ∈ LTR) (hw : Lts w) : fold (c :: w) = lpsh c (fold w) := by
  have h1 : fold ([c] ++ w) = fold ([c] ++ fold w) := (fold_app_r (fun x hx => by rw [List.mem_singleton.mp hx]; exact hc) hw).symm
  have hl := fold_lts hw
  have hr := fold_red hw
  show fold ([c] ++ w) = _
  rw [h1]
  cases e : fold w with
  | nil => rfl
  | cons y r =>
    rw [e] at hl hr
    have hy := hl y List.mem_cons_self
    rw [lpsh_cons]
    split
    · rename_i h
      have := fold_cut (u := []) (v := r) (c := c) (d := y) (fun _ z => nomatch z) hy ((sw_eq hy hc).mp h)
      show fold ([] ++ c :: y :: r) = r
      rw [this]
      exact fold_id (fun x hx => hl x (List.mem_cons_of_mem _ hx)) (red_tail hr)
    · rename_i h
      refine fold_id (fun x hx => (List.mem_cons.mp hx).elim (fun z => z ▸ hc) (hl x)) ⟨fun z => h ((sw_eq hc hy).mp z), hr⟩
theorem fold_inv {w : List Nat} (hw : Lts w) : fold (inv w) = inv (fold w) := by
  induction w with
  | nil => rfl
  | cons c w ih =>
    have hc := hw c List.mem_cons_self
    have hw' : Lts w := fun x hx => hw x (List.mem_cons_of_mem _ hx)
    have ih := ih hw'
    have hl := fold_lts hw'
    have e1 : inv (c :: w) = inv w ++ [sw c] := by
      show inv ([c] ++ w) = _
      rw [inv_app]
      rfl
    rw [e1, fold_cons hc hw']
    have e2 : fold (inv w ++ [sw c]) = fold (fold (inv w) ++ [sw c]) := (fold_app_l (inv_lts hw')).symm
    rw [e2, ih]
    have hI : Lts (inv (fold w)) := inv_lts hl
    have hR : red (inv (fold w)) := by
      rw [← ih]
      exact fold_red (inv_lts hw')
    have es : stk (inv (fold w)) = (fold w).map sw := by
      have := fold_id hI hR
      unfold fold at this
      have h2 : stk (inv (stk w).reverse) = (inv (stk w).reverse).reverse := by rw [← this, List.reverse_reverse]; rw [this]
      show stk (inv (stk w).reverse) = _
      rw [h2]
      unfold inv fold
      rw [← List.map_reverse, List.reverse_reverse]
    unfold fold
    rw [stk_app]
    have es' : stk (inv (stk w).reverse) = ((stk w).reverse).map sw := es
    rw [es']
    show (psh (((stk w).reverse).map sw) (sw c)).reverse = inv (lpsh c (stk w).reverse)
    have hl' : Lts (stk w).reverse := hl
    cases e : (stk w).reverse with
    | nil => rfl
    | cons y r =>
      rw [e] at hl'
      have hy := hl' y List.mem_cons_self
      rw [List.map_cons]
      rw [psh_cons, lpsh_cons]
      rw [sw_sw hc]
      by_cases h : y = sw c
      · rw [if_pos (by rw [h, sw_sw hc]), if_pos h]
        show (r.map sw).reverse = r.reverse.map sw
        rw [List.map_reverse]
      · rw [if_neg (fun z => h (by rw [← z, sw_sw hy])), if_neg h]
        show (sw c :: sw y :: r.map sw).reverse = (c :: y :: r).reverse.map sw
        rw [List.map_reverse]
        rfl
theorem fold_self_inv {w : List Nat} (hw : Lts w) : fold (w ++ inv w) = [] := by
  induction w with
  | nil => rfl
  | cons c w ih =>
    have hc := hw c List.mem_cons_self
    have hw' : Lts w := fun x hx => hw x (List.mem_cons_of_mem _ hx)
    have ih := ih hw'
    have e1 : inv (c :: w) = inv w ++ [sw c] := by
      show inv ([c] ++ w) = _
      rw [inv_app]
      rfl
    have hwi : Lts (w ++ inv w) := fun x hx => (List.mem_append.mp hx).elim (hw' x) (inv_lts hw' x)
    rw [e1]
    show fold ([c] ++ (w ++ (inv w ++ [sw c]))) = []
    rw [← List.append_assoc w]
    have h1 : fold ((w ++ inv w) ++ [sw c]) = [sw c] := by
      rw [← fold_app_l hwi, ih]
      rfl
    have h2 : fold ([c] ++ ((w ++ inv w) ++ [sw c])) = fold ([c] ++ fold ((w ++ inv w) ++ [sw c])) := (fold_app_r (fun x hx => by rw [List.mem_singleton.mp hx]; exact hc) fun x hx => (List.mem_append.mp hx).elim (hwi x) fun z => by rw [List.mem_singleton.mp z]; exact sw_mem hc).symm
    rw [h2, h1]
    show (psh (psh [] c) (sw c)).reverse = []
    rw [psh_psh (k := []) (fun _ z => nomatch z) hc trivial]
    rfl
section
variable {env : Nv} {post : D → Prop} {K : PySem.W.Frag}
theorem dop_ixq {l : List D} {x : D} {i : Int} {c : D} (hx : x = .tup l ∨ x = .lst l) (e : atI l i = some c) (h : post c) : Dop (rIx K) x (.int i) post := fun st M H v w h1 h2 h3 iv iw Q q => by
  rcases hx with rfl | rfl
  · exact .inr (.inl (dop_ixt e h st M H v w h1 h2 h3 iv iw Q q))
  · exact .inl (dop_ixl e h st M H v w h1 h2 h3 iv iw Q q)
end
theorem cal_mono {P : Program} {w : World} {K : PySem.W.Frag} {mg : Str → Option Value} {base : Heap} {k k' : Nat} {x : Str} {sp : Sp} {ds : List V} (c : C8.Cal P w K mg base k x sp ds) (h : k ≤ k') : C8.Cal P w K mg base k' x sp ds := by
  obtain ⟨f, fd, ps, vs, F, h1, h2, h3, h4⟩ := c.ex
  exact ⟨f, fd, ps, vs, FnOk.mono F h, h1, h2, h3, h4⟩
end DL

namespace DL
open PySem PySem.Spec PyProof.Rows L2

/-! ### where two words meet -/
/-- how many of the one, its end first, meet their opposites -/
def met : List Nat → List Nat → Nat
  | x :: K, y :: R => if x = sw y then met K R + 1 else 0
  | _, _ => 0
/-! ### one after the other -/
def rep (n : Int) (w : List Nat) : List Nat := (List.replicate n.toNat w).flatten
def powS (w : List Nat) (n : Int) : List Nat := if n < 0 then rep (-n) (inv w) else rep n w
theorem rep_lts {n : Int} {w : List Nat} (h : Lts w) : Lts (rep n w) := fun c hc => by
  obtain ⟨l, hl, hc⟩ := List.mem_flatten.mp hc
  rw [(List.mem_replicate.mp hl).2] at hc
  exact h c hc
end DL

namespace DL
open PySem PySem.Spec PyProof.Rows L2

/-! ### the core of a word, its root -/
def Jn (a b : List Nat) : Prop := ∀ x y, a.getLast? = some x → b.head? = some y → x ≠ sw y
theorem red_append : ∀ {a b : List Nat}, red (a ++ b) ↔ red a ∧ red b ∧ Jn a b
  | [], b => ⟨fun h => ⟨trivial, h, fun x y z => nomatch z⟩, fun h => h.2.1⟩
  | [x], [] => ⟨fun h => ⟨trivial, trivial, fun x y _ z => nomatch z⟩, fun h => trivial⟩
  | [x], y :: b => ⟨fun h => ⟨trivial, h.2, fun u v hu hv => by cases hu; cases hv; exact h.1⟩, fun h => ⟨h.2.2 x y rfl rfl, h.2.1⟩⟩
  | x :: y :: a, b => by
    have ih := red_append (a := y :: a) (b := b)
    have e : Jn (x :: y :: a) b ↔ Jn (y :: a) b := by
      unfold Jn
      rw [List.getLast?_cons_cons]
    constructor
    · intro h
      have h1 := ih.mp h.2
      exact ⟨⟨h.1, h1.1⟩, h1.2.1, e.mpr h1.2.2⟩
    · intro h
      exact ⟨h.1.1, ih.mpr ⟨h.1.2, h.2.1, e.mp h.2.2⟩⟩
def pw (n : Nat) (w : List Nat) : List Nat := (List.replicate n w).flatten
theorem pw_0 (w : List Nat) : pw 0 w = [] := rfl
theorem pw_s (n : Nat) (w : List Nat) : pw (n + 1) w = w ++ pw n w := by unfold pw; rw [List.replicate_succ, List.flatten_cons]
theorem pw_lts {n : Nat} {w : List Nat} (h : Lts w) : Lts (pw n w) := rep_lts (n := (n : Int)) h
theorem pw_add (a b : Nat) (w : List Nat) : pw (a + b) w = pw a w ++ pw b w := by
  induction a with
  | zero => rw [Nat.zero_add, pw_0, List.nil_append]
  | succ a ih => rw [Nat.succ_add, pw_s, pw_s, ih, List.append_assoc]
/-- the ends do not cancel -/
def NoMeet (m : List Nat) : Prop := 1 < m.length → ∀ x y, m.head? = some x → m.getLast? = some y → x ≠ sw y
/-- the ends at j are opposite -/
def okC (w : List Nat) (j : Nat) : Prop := 2 * j + 1 < w.length ∧ ∃ x y, w[j]? = some x ∧ w[w.length - 1 - j]? = some y ∧ x = sw y
/-! the least period -/
def Per (m : List Nat) (p : Nat) : Prop := pw (m.length / p) (m.take p) = m
def Lst (m : List Nat) (p : Nat) : Prop := 1 ≤ p ∧ Per m p ∧ ∀ k, 1 ≤ k → k < p → ¬ Per m k
end DL

namespace DL
open PySem PySem.Spec PyProof.Rows L2

/-! ### < and == of pairs of an int and ints -/
theorem lex_irr : ∀ ns : List Int, HT.lexLt ns ns = false
  | [] => rfl
  | x :: xs => by rw [HT.lexLt_cons, if_pos rfl, lex_irr xs]
theorem eqv_ints : ∀ ns ms : List Int, PyData.eqvAll (ns.map PyData.int) (ms.map PyData.int) = decide (ns = ms)
  | [], [] => by simp [PyData.eqvAll]
  | [], _ :: _ => by simp [PyData.eqvAll]
  | _ :: _, [] => by simp [PyData.eqvAll]
  | x :: xs, y :: ys => by
    rw [List.map_cons, List.map_cons, PyData.eqvAll, eqv_ints xs ys, PyData.eqv]
    by_cases h : x = y
    · by_cases h2 : xs = ys <;> simp [h, h2]
    · simp [h]
theorem can_ints : ∀ ns : List Int, PyData.canLayAll0 (ns.map PyData.int) = true
  | [] => by simp [PyData.canLayAll0]
  | x :: xs => by simp [PyData.canLayAll0, PyData.canLay0, can_ints xs]
theorem depth_ints : ∀ ns : List Int, PyData.depthAll (ns.map PyData.int) = 0
  | [] => by simp [PyData.depthAll]
  | x :: xs => by simp [PyData.depthAll, PyData.depth, depth_ints xs]
theorem dp_ints {K : PySem.W.Frag} {H : Hp} : ∀ ns : List Int, DpAll K H (ns.map V.int) (ns.map PyData.int)
  | [] => .nil
  | x :: xs => .cons (.int x) (dp_ints xs)
def ltN (n : Int) (ns : List Int) (m : Int) (ms : List Int) : Bool := if n = m then HT.lexLt ns ms else decide (n < m)
def rLtN (K : PySem.W.Frag) : R2 := fun x y H Q => ∃ (a b p q : Addr) (n m : Int) (ns ms : List Int), x = .ref a ∧ y = .ref b ∧ SqT K H a [.int n, .ref p] ∧ SqT K H b [.int m, .ref q] ∧
  ((SqT K H p (ns.map V.int) ∧ SqT K H q (ms.map V.int)) ∨ (SqL K H p (ns.map V.int) ∧ SqL K H q (ms.map V.int))) ∧ Q (.bl (ltN n ns m ms)) H
theorem vals2 {n : Int} {p : Addr} {its : List Value} (r : Vals [.int n, .ref p] its) : ∃ t, its = [.int n t, .ref p] := by
  cases r with
  | cons h1 h2 =>
    cases h2 with
    | cons h3 h4 =>
      cases h4
      obtain ⟨t, rfl⟩ := h1
      cases h3
      exact ⟨t, rfl⟩
theorem iss_ints {st : Addr} {M : List Addr} {H : Hp} : ∀ {ns : List Int} {vs : List V}, Iss st M H vs (ns.map D.int) → vs = ns.map V.int
  | [], _, .nil => rfl
  | n :: ns, _, .cons h t => by
    cases h
    rw [iss_ints t]
    rfl
def keyT (n : Int) (ns : List Int) : D := .tup [.int n, .tup (ns.map D.int)]
def keyL (n : Int) (ns : List Int) : D := .tup [.int n, .lst (ns.map D.int)]
section
variable {env : Nv} {post : D → Prop} {K : PySem.W.Frag} {n m : Int} {ns ms : List Int}
end
/-! ### the order by length -/
theorem lex_asym : ∀ {ns ms : List Int}, HT.lexLt ns ms = true → HT.lexLt ms ns = false
  | [], [], _ => rfl
  | [], _ :: _, _ => rfl
  | _ :: _, [], h => by cases h
  | x :: xs, y :: ys, h => by
    rw [HT.lexLt_cons] at h ⊢
    by_cases e : x = y
    · rw [if_pos e] at h
      rw [if_pos e.symm]
      exact lex_asym h
    · rw [if_neg e] at h
      rw [if_neg (fun z => e z.symm)]
      have := of_decide_eq_true h
      exact decide_eq_false (by omega)
theorem lex_trans : ∀ {ns ms ks : List Int}, HT.lexLt ns ms = true → HT.lexLt ms ks = true → HT.lexLt ns ks = true
  | [], _, [], h, h2 => by
    rename_i ms
    cases ms with
    | nil => exact h
    | cons y ys => cases h2
  | [], _, _ :: _, _, _ => rfl
  | _ :: _, [], _, h, _ => by cases h
  | _ :: _, _ :: _, [], _, h => by cases h
  | x :: xs, y :: ys, z :: zs, h, h2 => by
    rw [HT.lexLt_cons] at h h2 ⊢
    by_cases e : x = y
    · rw [if_pos e] at h
      by_cases e2 : y = z
      · rw [if_pos e2] at h2
        rw [if_pos (e.trans e2)]
        exact lex_trans h h2
      · rw [if_neg e2] at h2
        rw [if_neg (fun q => e2 (e.symm.trans q)), e]
        exact h2
    · rw [if_neg e] at h
      have h := of_decide_eq_true h
      by_cases e2 : y = z
      · rw [if_neg (fun q => e (q.trans e2.symm)), ← e2]
        exact decide_eq_true h
      · rw [if_neg e2] at h2
        have h2 := of_decide_eq_true h2
        rw [if_neg (by omega)]
        exact decide_eq_true (by omega)
def ks (w : List Nat) : List Int := w.map fun c => (ixL c : Int)
theorem ltN_irr (n : Int) (ns : List Int) : ltN n ns n ns = false := by unfold ltN; rw [if_pos rfl, lex_irr]
theorem ltN_asym {n m : Int} {ns ms : List Int} (h : ltN n ns m ms = true) : ltN m ms n ns = false := by
  unfold ltN at h ⊢
  by_cases e : n = m
  · rw [if_pos e] at h; rw [if_pos e.symm]; exact lex_asym h
  · rw [if_neg e] at h
    rw [if_neg (fun z => e z.symm)]
    have := of_decide_eq_true h
    exact decide_eq_false (by omega)
def sameK (u v : List Nat) : Prop := (u.length : Int) = (v.length : Int) ∧ ks u = ks v
instance (u v : List Nat) : Decidable (sameK u v) := inferInstanceAs (Decidable (_ ∧ _))
def ltW (u v : List Nat) : Bool := ltN u.length (ks u) v.length (ks v)
def cmpW (u v : List Nat) : Int := if sameK u v then 0 else if ltW u v = true then -1 else 1
end DL

namespace DL
open PySem PySem.Spec PyProof.Rows L2

/-! ### dicts of one's own, their keys tuples of ints and texts, their values flat -/
def toKey : D → Option Key
  | .int i => some (.inl i)
  | .str l => some (.inr ⟨l.toArray⟩)
  | _ => none
def toKeys : List D → Option (List Key)
  | [] => some []
  | d :: ds => (toKey d).bind fun k => (toKeys ds).map fun ks => k :: ks
def toV : D → Option V
  | .non => some .non
  | .bl b => some (.bl b)
  | .int i => some (.int i)
  | .str l => some (.str ⟨l.toArray⟩)
  | _ => none
theorem is_key {st : Addr} {M : List Addr} {H : Hp} {v : V} {d : D} {k : Key} (i : Is st M H v d) (e : toKey d = some k) : v = kV k := by
  cases i <;> first | (cases e; done) | (cases e; rfl)
theorem is_keys {st : Addr} {M : List Addr} {H : Hp} : ∀ {vs : List V} {ds : List D} {ks : List Key}, Iss st M H vs ds → toKeys ds = some ks → vs = ks.map kV
  | _, _, _, .nil, e => by cases e; rfl
  | _, _, _, .cons h t, e => by
    unfold toKeys at e
    obtain ⟨k, hk, e⟩ := Option.bind_eq_some_iff.mp e
    obtain ⟨ks, hks, rfl⟩ := Option.map_eq_some_iff.mp e
    rw [is_key h hk, is_keys t hks]
    rfl
theorem is_flat {st : Addr} {M : List Addr} {H : Hp} {v w : V} {d : D} (i : Is st M H v d) (e : toV d = some w) : v = w := by
  cases i <;> first | (cases e; done) | (cases e; rfl)
theorem of_flat {st : Addr} {M : List Addr} {H : Hp} {w : V} {d : D} (e : toV d = some w) : Is st M H w d := by
  cases d <;> first | (cases e; done) | (cases e; constructor)
theorem flat_of {w : V} {d : D} (e : toV d = some w) : flatV w = true := by
  cases d <;> first | (cases e; done) | (cases e; rfl)
section
variable {B : Bs} {M M' : List Addr} {H H' H1 : Hp} {σ : L2.St} {env env' : Nv} {nx : Nv → Prop} {rt : D → Prop} {bk ct : Nv → Prop} {t u : TS} {c : TT} {te ta tb td ty tv : TE} {tas : TA} {post : D → Prop} {K : PySem.W.Frag}
theorem den_dnewT {postN : Ow → Prop} (h : postN (.dT [])) : DeN tDNewT env postN := fun B M σ H S Q q p hn =>
  q p _ _ _ h (S.newIn hn _) (Fx.new hn) upd_same (.dT fun kv hk => nomatch hk) hn
theorem den_dnewK {postN : Ow → Prop} (h : postN (.dK [])) : DeN tDNewK env postN := fun B M σ H S Q q p hn =>
  q p _ _ _ h (S.newIn hn _) (Fx.new hn) upd_same (.dK fun kv hk => nomatch hk) hn
/-- the dict that a slot holds -/
def dicT (env : Nv) (i : Nat) (kvs : List (List Key × V)) : Prop := env[i]? = some (.own (.dT kvs)) ∨ env[i]? = some (.dat (.dT kvs))
def dicK (env : Nv) (i : Nat) (kvs : List (Key × V)) : Prop := env[i]? = some (.own (.dK kvs)) ∨ env[i]? = some (.dat (.dK kvs))
theorem Sr.dicT {i : Nat} {kvs : List (List Key × V)} (S : Sr B M σ H env) (h : dicT env i kvs) : ∃ p, σ[i]? = some (some (.ref p)) ∧ H p = some (.dT kvs) ∧ p ≠ B.st := by
  rcases h with h | h
  · obtain ⟨p, u, h1, h2, h3, h4, h5⟩ := S.own i _ h
    cases h5
    exact ⟨p, h1, h4, fun z => h3 (z ▸ S.st0)⟩
  · obtain ⟨v, h1, h2⟩ := S.dat i _ h
    cases h2 with
    | dT hm hp hf => exact ⟨_, h1, hp, fun z => hm (z ▸ S.stM)⟩
theorem Sr.dicK {i : Nat} {kvs : List (Key × V)} (S : Sr B M σ H env) (h : dicK env i kvs) : ∃ p, σ[i]? = some (some (.ref p)) ∧ H p = some (.dK kvs) ∧ p ≠ B.st := by
  rcases h with h | h
  · obtain ⟨p, u, h1, h2, h3, h4, h5⟩ := S.own i _ h
    cases h5
    exact ⟨p, h1, h4, fun z => h3 (z ▸ S.st0)⟩
  · obtain ⟨v, h1, h2⟩ := S.dat i _ h
    cases h2 with
    | dK hm hp hf => exact ⟨_, h1, hp, fun z => hm (z ▸ S.stM)⟩
/-- y in d -/
theorem de_dinT {i : Nat} {kvs : List (List Key × V)} (hi : dicT env i kvs) (h : De ty env fun y => ∃ l ks, y = .tup l ∧ toKeys l = some ks ∧ post (.bl (valV kvs ks).isSome)) : De (tDIn ty (tVar i)) env post := fun B M σ H S Q q =>
  h B M σ H S _ fun v H1 d ⟨l, ks, e, hk, hp⟩ S1 e1 i1 => by
    subst e
    obtain ⟨b, vs, rfl, hl, hs⟩ := is_tup i1
    obtain ⟨p, h1, h2, _⟩ := S1.dicT hi
    have := is_keys hs hk
    subst this
    exact ⟨.ref p, h1, p, _, rfl, .t h2 hl, q _ H1 _ hp S1 e1 (.bl _)⟩
theorem de_dnotinK {i : Nat} {kvs : List (Key × V)} (hi : dicK env i kvs) (h : De ty env fun y => ∃ k, toKey y = some k ∧ post (.bl (!(valV kvs k).isSome))) : De (tDNotIn ty (tVar i)) env post := fun B M σ H S Q q =>
  h B M σ H S _ fun v H1 d ⟨k, hk, hp⟩ S1 e1 i1 => by
    obtain ⟨p, h1, h2, _⟩ := S1.dicK hi
    have := is_key i1 hk
    subst this
    exact ⟨.ref p, h1, p, _, rfl, .k h2, q _ H1 _ hp S1 e1 (.bl _)⟩
/-- d[y] -/
theorem de_dgetT {i : Nat} {kvs : List (List Key × V)} (hi : dicT env i kvs) (h : De ty env fun y => ∃ l ks w d, y = .tup l ∧ toKeys l = some ks ∧ valV kvs ks = some w ∧ toV d = some w ∧ post d) : De (tDGet (tVar i) ty) env post := fun B M σ H S Q q => by
  obtain ⟨p, h1, h2, h3⟩ := S.dicT hi
  refine ⟨.ref p, h1, h B M σ H S _ fun v H1 d ⟨l, ks, w, d', e, hk, hv, hd, hp⟩ S1 e1 i1 => ?_⟩
  subst e
  obtain ⟨b, vs, rfl, hl, hs⟩ := is_tup i1
  have := is_keys hs hk
  subst this
  refine ⟨p, w, rfl, ?_, q _ H1 _ hp S1 e1 (of_flat hd)⟩
  rw [← hv]
  exact .t (e1.1 p _ h3 h2) hl
theorem de_dgetK {i : Nat} {kvs : List (Key × V)} (hi : dicK env i kvs) (h : De ty env fun y => ∃ k w d, toKey y = some k ∧ valV kvs k = some w ∧ toV d = some w ∧ post d) : De (tDGet (tVar i) ty) env post := fun B M σ H S Q q => by
  obtain ⟨p, h1, h2, h3⟩ := S.dicK hi
  refine ⟨.ref p, h1, h B M σ H S _ fun v H1 d ⟨k, w, d', hk, hv, hd, hp⟩ S1 e1 i1 => ?_⟩
  have := is_key i1 hk
  subst this
  refine ⟨p, w, rfl, ?_, q _ H1 _ hp S1 e1 (of_flat hd)⟩
  rw [← hv]
  exact .k (e1.1 p _ h3 h2)
/-- d[y] = e -/
theorem ds_dputT {i : Nat} {kvs : List (List Key × V)} (hi : env[i]? = some (.own (.dT kvs))) (hz : kvs.length < 1000000) (h : De tv env fun d => De ty env fun y => ∃ l ks w, y = .tup l ∧ toKeys l = some ks ∧ toV d = some w ∧ nx (env.set i (.own (.dT (putK kvs ks w))))) : Ds (sDPut (tVar i) ty tv) env nx rt bk ct := fun B M σ H S E q1 q2 q3 q4 =>
  h B M σ H S _ fun v H1 d hd S1 e1 i1 => by
    obtain ⟨p, u, h1, h2, h3, h4, h5⟩ := S1.own i _ hi
    refine ⟨.ref p, h1, hd B M σ H1 S1 _ fun y H2 d2 ⟨l, ks, w, e, hk, hw, hp⟩ S2 e2 i2 => ?_⟩
    subst e
    have := is_flat i1 hw
    subst this
    obtain ⟨b, vs, rfl, hl, hs⟩ := is_tup i2
    have := is_keys hs hk
    subst this
    cases h5 with
    | dT hf =>
      have h4' : H2 p = some (.dT kvs) := e2.1 p _ (fun z => h3 (z ▸ S.st0)) h4
      refine ⟨p, _, rfl, .t h4' hl (Nat.lt_of_lt_of_le hz (by decide)), q1 M σ _ _ hp (S2.mutate hi h1 h4' (.dT hf) (.dT fun kv hkv => ?_))⟩
      unfold putK at hkv
      split at hkv
      · obtain ⟨x, hx, rfl⟩ := List.mem_map.mp hkv
        split
        · exact flat_of hw
        · exact hf x hx
      · rcases List.mem_append.mp hkv with z | z
        · exact hf kv z
        · rw [List.mem_singleton.mp z]
          exact flat_of hw
theorem ds_dputK {i : Nat} {kvs : List (Key × V)} (hi : env[i]? = some (.own (.dK kvs))) (hz : kvs.length < 1000000) (h : De tv env fun d => De ty env fun y => ∃ k w, toKey y = some k ∧ toV d = some w ∧ nx (env.set i (.own (.dK (putK kvs k w))))) : Ds (sDPut (tVar i) ty tv) env nx rt bk ct := fun B M σ H S E q1 q2 q3 q4 =>
  h B M σ H S _ fun v H1 d hd S1 e1 i1 => by
    obtain ⟨p, u, h1, h2, h3, h4, h5⟩ := S1.own i _ hi
    refine ⟨.ref p, h1, hd B M σ H1 S1 _ fun y H2 d2 ⟨k, w, hk, hw, hp⟩ S2 e2 i2 => ?_⟩
    have := is_flat i1 hw
    subst this
    have := is_key i2 hk
    subst this
    cases h5 with
    | dK hf =>
      have h4' : H2 p = some (.dK kvs) := e2.1 p _ (fun z => h3 (z ▸ S.st0)) h4
      refine ⟨p, _, rfl, .k h4' (Nat.lt_of_lt_of_le hz (by decide)), q1 M σ _ _ hp (S2.mutate hi h1 h4' (.dK hf) (.dK fun kv hkv => ?_))⟩
      unfold putK at hkv
      split at hkv
      · obtain ⟨x, hx, rfl⟩ := List.mem_map.mp hkv
        split
        · exact flat_of hw
        · exact hf x hx
      · rcases List.mem_append.mp hkv with z | z
        · exact hf kv z
        · rw [List.mem_singleton.mp z]
          exact flat_of hw
end
end DL

namespace DL
open PySem PySem.Spec PyProof.Rows L2

/-! ### zip(text, tuple), enumerate(tuple): what a loop walks -/
/-- the signs of x beside the items of the tuple at b, which has n -/
def Izs (K : PySem.W.Frag) (x : Str) (b : Addr) (n : Nat) : It :=
  ⟨fun i H => i < x.cps.size ∧ i < n ∧ ∃ ys : List V, SqT K H b ys ∧ ys.length = n,
    fun i H v H' => ∃ T c y, v = .ref T ∧ H T = none ∧ H' = upd H T (.tup [.str ⟨#[c]⟩, y]) ∧ x.cps[i]? = some c ∧ ∀ ys, SqT K H b ys → ys[i]? = some y,
    fun i H => (x.cps.size ≤ i ∨ n ≤ i) ∧ ∃ ys : List V, SqT K H b ys ∧ ys.length = n⟩
def iZs (K : PySem.W.Frag) (ta : TA) : TI := fun σ H R => ta σ H fun vs H1 => ∃ x b ys, vs = [.str x, .ref b] ∧ SqT K H1 b ys ∧ R (Izs K x b ys.length) H1
/-- the items of the tuple at a, each behind its place -/
def Ien (K : PySem.W.Frag) (a : Addr) (n : Nat) : It :=
  ⟨fun i H => i < n ∧ ∃ xs : List V, SqT K H a xs ∧ xs.length = n,
    fun i H v H' => ∃ T x, v = .ref T ∧ H T = none ∧ H' = upd H T (.tup [.int (i : Nat), x]) ∧ ∀ xs, SqT K H a xs → xs[i]? = some x,
    fun i H => n ≤ i ∧ ∃ xs : List V, SqT K H a xs ∧ xs.length = n⟩
open AutoSeq1 (wpAny_loadPart') in
theorem meets_en {v : Value} {o : Obj} {Hv : Heap → Prop} (Bg : Begins v o Hv) :
    Meets (Builtin.«enumerate.__new__» ⟨[.type "enumerate", v], []⟩) (fun _ R s => Hv s.heap ∧
      R (.ok (.ret (.ref (s.heap.push o).objs.size))) { s with heap := (s.heap.push o).push { cls := .type "enumerate", data := .fields #[.none, .bool false, .ref s.heap.objs.size, rawInt 0, .none, .none] } }) :=
  .of_wp fun prog w A R s h => by
    obtain ⟨hp, g, d, tk, os⟩ := s
    obtain ⟨h1, h⟩ := h
    have hsub := sub_enumerate
    have q1 : ∀ {A' : Around} {E : Value → Shared → Prop} {Q : Value → Shared → Prop}, Q (.ref hp.objs.size) ⟨hp.push o, g, d, tk, os⟩ → wpAny (model prog w) A' (pyIter v) Q E ⟨hp, g, d, tk, os⟩ := fun q => Bg.iter prog w _ _ _ _ h1 q
    wp_walk using q1
    refine wpAny_stack_any fun st => wpAny_pure ?_
    split
    · rename_i c _ _ _ _ _
      cases (c == Value.type "enumerate") <;> (wp_walk using q1; exact ⟨_, rfl, h⟩)
    · wp_walk using q1
      exact ⟨_, rfl, h⟩
theorem call_en {prog : Program} {w : World} {A : Around} {E : Value → Shared → Prop} {s : Shared} {v : Value} {o : Obj} {Hv : Heap → Prop} {Q : Value → Shared → Prop} (Bg : Begins v o Hv) (h1 : Hv s.heap)
    (h : ∀ h', IsEnum h' (s.heap.objs.size + 1) s.heap.objs.size 0 .none → h'.get? s.heap.objs.size = some o → (∀ b o, s.heap.get? b = some o → h'.get? b = some o) → Q (.ref (s.heap.objs.size + 1)) { s with heap := h' }) :
    wpAny (model prog w) A (call (.type "enumerate") [v]) Q E s := by
  refine callType_new F.called_enumerate (by decide) (F.typeCall_enumerate_1 _) (F.newCall_enumerate_1 _) (fun obj => F.args_object_init_2 obj _) F.entry_enumerate_new (meets_en Bg) ⟨h1, ?_⟩
  have hz : (s.heap.push o).objs.size = s.heap.objs.size + 1 := Heap.size_push ..
  have he := Heap.get?_push_size (s.heap.push o) (o := { cls := .type "enumerate", data := .fields #[.none, .bool false, .ref s.heap.objs.size, rawInt 0, .none, .none] }) rfl
  show _ ∧ _
  rw [hz] at he ⊢
  exact ⟨⟨_, he, rfl⟩, h _ he (Heap.get?_push_of_some _ (Heap.get?_push_size _ Bg.free)) fun b o x => Heap.get?_push_of_some _ (Heap.get?_push_of_some _ x)⟩
def iEn (K : PySem.W.Frag) (ta : TA) : TI := fun σ H R => ta σ H fun vs H1 => ∃ a xs, vs = [.ref a] ∧ SqT K H1 a xs ∧ R (Ien K a xs.length) H1
end DL

namespace DL
open PySem PySem.Spec PyProof.Rows L2

section
variable {B : Bs} {M M' : List Addr} {H H' H1 : Hp} {σ : L2.St} {env env' : Nv} {nx : Nv → Prop} {rt : D → Prop} {bk ct : Nv → Prop} {t u : TS} {c : TT} {te ta tb td ty tv : TE} {tas : TA} {K : PySem.W.Frag}
theorem is_sign (st : Addr) (M : List Addr) (H : Hp) (c : Nat) : Is st M H (.str ⟨#[c]⟩) (sign c) := .str [c]
theorem is_pair {st : Addr} {M : List Addr} {H : Hp} {p T : Addr} {v w : V} {d e : D} (hT : H T = none) (i : Is st M H v d) (j : Is st M H w e) (hs : st ∈ M) (hst : Stm st M H) : Is st M (upd H T (.tup [v, w])) (.ref T) (.tup [d, e]) := by
  have nt : ∀ vs, H st ≠ some (.tup vs) := fun vs z => by
    obtain ⟨a, ns, c, k, h1, h2, h3, _⟩ := hst
    rw [h3] at z
    cases z
  exact .tup upd_same (.cons (i.mono (fun _ z => z) hs (Fx.new hT) nt) (.cons (j.mono (fun _ z => z) hs (Fx.new hT) nt) .nil))
def zsD (l : List Nat) (rows : List D) : List D := (l.zip rows).map fun p => .tup [sign p.1, p.2]
def enD (xs : List D) : List D := xs.mapIdx fun i x => .tup [.int (i : Nat), x]
end
end DL

namespace DL
open PySem PySem.Spec PyProof.Rows L2

theorem iss_map {α : Type} {st : Addr} {M : List Addr} {H : Hp} {f : α → V} {g : α → D} (h : ∀ a, Is st M H (f a) (g a)) : ∀ l : List α, Iss st M H (l.map f) (l.map g)
  | [] => .nil
  | a :: l => .cons (h a) (iss_map h l)
section
variable {B : Bs} {M M' : List Addr} {H H' H1 : Hp} {σ : L2.St} {env env' : Nv} {nx : Nv → Prop} {rt : D → Prop} {bk ct : Nv → Prop} {t u : TS} {c : TT} {te ta tb td ty tv : TE} {tas : TA} {post : D → Prop} {K : PySem.W.Frag}
/-- list(range(n)) -/
theorem den_listRg {postN : Ow → Prop} (h : De te env fun d => ∃ n : Int, d = .int n ∧ 0 ≤ n ∧ n ≤ 1000000 ∧ postN (.lst (rgI 0 n.toNat))) : DeN (tLstRg (tRg1 te)) env postN := fun B M σ H S Q q =>
  h B M σ H S _ fun v H1 d ⟨n, e, h1, h2, hp⟩ S1 e1 i1 => by
    subst e
    cases is_int i1
    refine ⟨n, rfl, .of_le (by omega) (by omega) (by omega) (by omega), fun p hn => ?_⟩
    refine q p _ _ _ hp (S1.newIn (fresh_back (Fx.refl _ _) (S1.nst hn) hn) _) (e1.trans (Fx.new hn)) upd_same (.lst ?_) (fresh_back e1 (S1.nst hn) hn)
    unfold rgV rgI
    rw [Int.sub_zero]
    exact iss_map (fun i => .int _) _
/-! ### targets that are written into lists of one's own -/
def Dh (g : TG) (d : D) (env : Nv) (post : Nv → Prop) : Prop := ∀ B M σ H v, Sr B M σ H env → Is B.st M H v d → ∀ Q : L2.St → Hp → Prop, (∀ σ' H' env', post env' → Sr B M σ' H' env' → (∀ v d, Is B.st M H v d → Is B.st M H' v d) → Q σ' H') → g v σ H Q
def Dhs (g : TGs) (ds : List D) (env : Nv) (post : Nv → Prop) : Prop := ∀ B M σ H vs, Sr B M σ H env → Iss B.st M H vs ds → ∀ Q : L2.St → Hp → Prop, (∀ σ' H' env', post env' → Sr B M σ' H' env' → (∀ v d, Is B.st M H v d → Is B.st M H' v d) → Q σ' H') → g vs σ H Q
/-! ### == and != of lists and tuples of ints -/
theorem shp_ints {d : PyData} (h1 : d.canLay0 = true) (h2 : d.depth ≤ 2) : SeqAt.shaped d = true := by
  simp [SeqAt.shaped, h1]
  omega
theorem dop_neLI {ns ms : List Int} (h : post (.bl (!decide (ns = ms)))) : Dop (rNeD K) (.lst (ns.map D.int)) (.lst (ms.map D.int)) post := fun st M H v w hst hM trk iv iw Q q => by
  obtain ⟨p, vs, rfl, _, h1, hs⟩ := is_lst iv
  obtain ⟨p2, vs2, rfl, _, h2, hs2⟩ := is_lst iw
  have := iss_ints hs
  subst this
  have := iss_ints hs2
  subst this
  refine ⟨.list (ns.map PyData.int), .list (ms.map PyData.int), .lst (.of h1) (dp_ints _), .lst (.of h2) (dp_ints _), shp_ints (by simp [PyData.canLay0, can_ints]) (by simp [PyData.depth, depth_ints]), shp_ints (by simp [PyData.canLay0, can_ints]) (by simp [PyData.depth, depth_ints]), ?_⟩
  rw [show PyData.eqv (.list (ns.map PyData.int)) (.list (ms.map PyData.int)) = decide (ns = ms) by rw [← eqv_ints]; simp [PyData.eqv]]
  exact q _ H _ h (Fx.refl _ _) (.bl _)
end
end DL

namespace DL
open PySem PySem.Spec PyProof.Rows L2

/-! ### sorted(t), t a tuple of ints -/
section
variable {prog : Program} {w : World} {A : Around} {E : Value → Shared → Prop} {s : Shared}
/-- what is collected from a tuple -/
theorem collect_tup {a : Addr} {vs : List Value} {Q : List Value → Shared → Prop} (ht : s.heap.IsTuple a vs.toArray) (hz : vs.length ≤ sizeLine)
    (h : Q vs { s with heap := (s.heap.push (seqObj "list" #[] 0)).update s.heap.objs.size (Obj.mapSeq (· ++ vs.toArray)) }) :
    wpAny (model prog w) A (collect (.ref a)) Q E s := by
  obtain ⟨o, ho, hc, n, hd⟩ := id ht
  have ho' : (s.heap.push (seqObj "list" #[] 0)).get? a = some o := Heap.get?_push_of_some _ ho
  have hn : (s.heap.push (seqObj "list" #[] 0)).get? s.heap.objs.size = some (seqObj "list" #[] 0) := Heap.get?_push_size _ rfl
  unfold collect
  refine wpAny_bind (wpAny_runValue (codeAny_builtin entry_proto_collect' ?_))
  show wpAny _ _ (do again (.builtin "list.__iadd__" ⟨[← newList [], .ref a], []⟩)) _ _ s
  refine wpAny_bind (wpAny_newList (wpAny_pure ⟨Code.quiet_builtin _ (by decide +kernel), codeAny_builtin entry_list_iadd' ?_⟩))
  show wpAny _ _ (Builtin.List.listExtendWith (.ref s.heap.objs.size) (.ref a) (.ref s.heap.objs.size)) _ _ { s with heap := s.heap.push (seqObj "list" #[] 0) }
  unfold Builtin.List.listExtendWith
  refine wpAny_bind (wpAny_typeOf (T := "tuple") ⟨o, ho', hc⟩ ?_)
  rw [if_pos (by rw [show (Value.type "tuple" == Value.type "tuple") = true by rfl]; simp)]
  refine wpAny_bind (listItems_at ho' hd ?_)
  refine wpAny_bind (listItems_at (xs := #[]) (n := 0) hn rfl ?_)
  rw [if_neg (by simp)]
  refine wpAny_bind (listUpdate_at (xs := #[]) (n := 0) hn rfl ?_ (Nat.zero_le _) (by show (#[] ++ vs.toArray).size ≤ sizeLine + 1; simp only [Array.size_append, List.size_toArray, List.length_nil]; omega))
  refine wpAny_pure ?_
  show wpAny (model prog w) A (do
      let o ← load s.heap.objs.size
      match o.data with
      | .seq xs _ => pure xs.toList
      | _ => unsupported "internal:collect") Q E _
  refine wpAny_bind (wpAny_load (get?_update_seq hn _) ?_)
  show wpAny _ _ (pure ((#[] : Array Value) ++ vs.toArray).toList) Q E _
  rw [show ((#[] : Array Value) ++ vs.toArray).toList = vs by simp]
  exact wpAny_pure h
open Calls in
end
/-- sorted(t), the ints of a tuple -/
def rSortedT (K : PySem.W.Frag) : List V → Hp → VK → Prop := fun vs H Q => ∃ (a : Addr) (ns : List Int), vs = [V.ref a] ∧ SqT K H a (ns.map V.int) ∧
  ∀ (ns' : List Int) (p : Addr), ns'.Perm ns → ns'.Pairwise (· ≤ ·) → H p = none → Q (.ref p) (upd H p (.lst (ns'.map V.int)))
section
variable {env : Nv} {post : D → Prop} {K : PySem.W.Frag}
end
end DL

namespace DL
open PySem PySem.Spec PyProof.Rows L2

/-! ### actions: rows of points, and the moves along their edges -/
def kk (p c : Nat) : List Key := [.inl (p : Int), .inr ⟨#[c]⟩]
theorem kk_inj {p c p' c' : Nat} : kk p c = kk p' c' ↔ p = p' ∧ c = c' := by
  constructor
  · intro h
    simp [kk] at h
    exact ⟨by omega, h.2⟩
  · rintro ⟨rfl, rfl⟩; rfl
abbrev Ed := Nat × Nat × Nat
def edD (e : Ed) : D := .tup [.int (e.1 : Int), sign e.2.1, .int (e.2.2 : Int)]
def put2 (kvs : List (List Key × V)) (e : Ed) : List (List Key × V) := putK (putK kvs (kk e.1 e.2.1) (.int (e.2.2 : Int))) (kk e.2.2 (sw e.2.1)) (.int (e.1 : Int))
def mvs (es : List Ed) : List (List Key × V) := es.foldl put2 []
theorem put_len {κ : Type} [DecidableEq κ] (kvs : List (κ × V)) (k : κ) (v : V) : (putK kvs k v).length ≤ kvs.length + 1 := by
  unfold putK
  split
  · rw [List.length_map]; omega
  · rw [List.length_append, List.length_singleton]; omega
theorem put2_len (kvs : List (List Key × V)) (e : Ed) : (put2 kvs e).length ≤ kvs.length + 2 := by
  unfold put2
  have h1 := put_len (putK kvs (kk e.1 e.2.1) (.int (e.2.2 : Int))) (kk e.2.2 (sw e.2.1)) (.int (e.1 : Int))
  have h2 := put_len kvs (kk e.1 e.2.1) (.int (e.2.2 : Int))
  omega
theorem fl_put_len : ∀ (es : List Ed) (kvs : List (List Key × V)), (es.foldl put2 kvs).length ≤ kvs.length + 2 * es.length
  | [], kvs => Nat.le_add_right _ _
  | e :: es, kvs => by
    have h1 := fl_put_len es (put2 kvs e)
    have h2 := put2_len kvs e
    rw [List.foldl_cons, List.length_cons]
    omega
theorem mvs_len (es : List Ed) : (mvs es).length ≤ 2 * es.length := by
  have := fl_put_len es []
  unfold mvs
  simpa using this
theorem put_last : ∀ (es : List Ed) {kvs : List (List Key × V)} {k : List Key} {v : Nat}, (∀ e ∈ es, (kk e.1 e.2.1 = k → e.2.2 = v) ∧ (kk e.2.2 (sw e.2.1) = k → e.1 = v)) →
    ((∃ e ∈ es, kk e.1 e.2.1 = k ∨ kk e.2.2 (sw e.2.1) = k) ∨ valV kvs k = some (.int (v : Int))) → valV (es.foldl put2 kvs) k = some (.int (v : Int))
  | [], kvs, k, v, _, h => by
    rcases h with ⟨e, he, _⟩ | h
    · cases he
    · exact h
  | e :: es, kvs, k, v, ha, h => by
    rw [List.foldl_cons]
    refine put_last es (fun e' he' => ha e' (List.mem_cons_of_mem _ he')) ?_
    have h0 := ha e List.mem_cons_self
    have hv : valV (put2 kvs e) k = if k = kk e.2.2 (sw e.2.1) then some (V.int (e.1 : Int)) else if k = kk e.1 e.2.1 then some (V.int (e.2.2 : Int)) else valV kvs k := by
      unfold put2
      rw [valV_put, valV_put]
    by_cases z1 : kk e.2.2 (sw e.2.1) = k
    · right
      rw [hv, if_pos z1.symm, h0.2 z1]
    · by_cases z2 : kk e.1 e.2.1 = k
      · right
        rw [hv, if_neg (fun q => z1 q.symm), if_pos z2.symm, h0.1 z2]
      · rcases h with ⟨e', he', hk⟩ | h
        · rcases List.mem_cons.mp he' with rfl | he'
          · exact absurd hk (fun q => q.elim z2 z1)
          · exact .inl ⟨e', he', hk⟩
        · right
          rw [hv, if_neg (fun q => z1 q.symm), if_neg (fun q => z2 q.symm)]
          exact h
def SM : List Nat := [97, 98, 99]
def edRow (c : Nat) (r : List Nat) : List Ed := r.mapIdx fun p x => (p, c, x)
def edgesOf (rows : List (List Nat)) : List Ed := (SM.zip rows).flatMap fun q => edRow q.1 q.2
theorem SM_sw {c : Nat} (h : c ∈ SM) : sw c ∉ SM := by
  have e : ∀ c ∈ SM, sw c ∉ SM := by decide
  exact e c h
theorem SM_LTR {c : Nat} (h : c ∈ SM) : c ∈ LTR := by
  have e : ∀ c ∈ SM, c ∈ LTR := by decide
  exact e c h
def perm (n : Nat) (r : List Nat) : Prop := r.Perm (List.range n)
def stp (kvs : List (List Key × V)) (p c : Nat) : Nat := match valV kvs (kk p c) with
  | some (.int q) => q.toNat
  | _ => 0
def wk (kvs : List (List Key × V)) (p : Nat) (w : List Nat) : Nat := w.foldl (stp kvs) p
/-- an action of the letters ls on the points below n -/
def Act (n : Nat) (ls : List Nat) (kvs : List (List Key × V)) : Prop := ∀ p, p < n → ∀ c ∈ ls, valV kvs (kk p c) = some (.int (stp kvs p c : Int)) ∧ stp kvs p c < n ∧ stp kvs (stp kvs p c) (sw c) = p
section
variable {n p : Nat} {ls : List Nat} {kvs : List (List Key × V)}
theorem wk_lt (A : Act n ls kvs) : ∀ {w : List Nat} {p : Nat}, p < n → (∀ c ∈ w, c ∈ ls) → wk kvs p w < n
  | [], p, h, _ => h
  | c :: w, p, h, hw => wk_lt A (w := w) (A p h c (hw c List.mem_cons_self)).2.1 fun x hx => hw x (List.mem_cons_of_mem _ hx)
theorem wk_app (kvs : List (List Key × V)) (p : Nat) (u v : List Nat) : wk kvs p (u ++ v) = wk kvs (wk kvs p u) v := List.foldl_append ..
theorem wk_psh (A : Act n ls kvs) (hls : ∀ c ∈ ls, c ∈ LTR) (hsw : ∀ c ∈ ls, sw c ∈ ls) {k : List Nat} {c : Nat} (h : p < n) (hk : ∀ c ∈ k, c ∈ ls) (hc : c ∈ ls) : wk kvs p (psh k c).reverse = stp kvs (wk kvs p k.reverse) c := by
  cases k with
  | nil => rfl
  | cons x k =>
    rw [psh_cons]
    split
    · rename_i hx
      rw [List.reverse_cons, wk_app]
      have hk' : ∀ c ∈ k.reverse, c ∈ ls := fun y hy => hk y (List.mem_cons_of_mem _ (List.mem_reverse.mp hy))
      have := (A _ (wk_lt A h hk') x (hk x List.mem_cons_self)).2.2
      show _ = stp kvs (stp kvs (wk kvs p k.reverse) x) c
      rw [hx, sw_sw (hls c hc)] at this
      rw [hx, this]
    · rw [List.reverse_cons, wk_app]
      rfl
theorem wk_stk (A : Act n ls kvs) (hls : ∀ c ∈ ls, c ∈ LTR) (hsw : ∀ c ∈ ls, sw c ∈ ls) (h : p < n) : ∀ (w k : List Nat), (∀ c ∈ w, c ∈ ls) → (∀ c ∈ k, c ∈ ls) → wk kvs p (w.foldl psh k).reverse = wk kvs (wk kvs p k.reverse) w
  | [], _, _, _ => rfl
  | c :: w, k, hw, hk => by
    have hc := hw c List.mem_cons_self
    rw [List.foldl_cons, wk_stk A hls hsw h w (psh k c) (fun x hx => hw x (List.mem_cons_of_mem _ hx)) ?_, wk_psh A hls hsw h hk hc]
    · rfl
    · intro x hx
      cases k with
      | nil => rw [List.mem_singleton.mp hx]; exact hc
      | cons y k =>
        rw [psh_cons] at hx
        split at hx
        · exact hk x (List.mem_cons_of_mem _ hx)
        · rcases List.mem_cons.mp hx with rfl | hx
          · exact hc
          · exact hk x hx
theorem wk_fold (A : Act n ls kvs) (hls : ∀ c ∈ ls, c ∈ LTR) (hsw : ∀ c ∈ ls, sw c ∈ ls) (h : p < n) {w : List Nat} (hw : ∀ c ∈ w, c ∈ ls) : wk kvs p (fold w) = wk kvs p w :=
  wk_stk A hls hsw h w [] hw fun _ z => nomatch z
theorem wk_inv (A : Act n ls kvs) (hls : ∀ c ∈ ls, c ∈ LTR) (hsw : ∀ c ∈ ls, sw c ∈ ls) (h : p < n) {w : List Nat} (hw : ∀ c ∈ w, c ∈ ls) : wk kvs (wk kvs p w) (inv w) = p := by
  have hi : ∀ c ∈ inv w, c ∈ ls := fun c hc => by
    obtain ⟨x, hx, rfl⟩ := List.mem_map.mp hc
    exact hsw x (hw x (List.mem_reverse.mp hx))
  rw [← wk_app, ← wk_fold A hls hsw h (fun c hc => (List.mem_append.mp hc).elim (hw c) (hi c)), fold_self_inv (fun c hc => hls c (hw c hc))]
  rfl
end
def rowI (r : List Nat) : List Int := r.map fun x : Nat => (x : Int)
def rowD (r : List Nat) : D := .ptp ((rowI r).map D.int)
def actD (rows : List (List Nat)) : D := .tup (rows.map rowD)
/-- an action: rows, each of the same points -/
def okA (n : Nat) (rows : List (List Nat)) : Prop := 1 ≤ rows.length ∧ rows.length ≤ 3 ∧ 1 ≤ n ∧ n ≤ 60 ∧ ∀ r ∈ rows, perm n r
def lsR (k : Nat) : List Nat := [97, 65, 98, 66, 99, 67].take (2 * k)
end DL

namespace DL
open PySem PySem.Spec PyProof.Rows L2

/-! ### t.index(k), t a tuple of ints -/
def isI (z : Int) : Value → Bool
  | .int k _ => k == z
  | _ => false
def rTIndexI (K : PySem.W.Frag) : V → List V → Hp → VK → Prop := fun x xs H Q => ∃ (p : Addr) (ns : List Int) (z : Int) (j : Nat), x = .ref p ∧ xs = [.int z] ∧ SqT K H p (ns.map V.int) ∧ ns[j]? = some z ∧ (∀ m, m < j → ns[m]? ≠ some z) ∧ Q (.int (j : Nat)) H
/-! ### a method of a tuple whose object is known -/
def tBMT (T : String) (r : V → List V → Hp → VK → Prop) (to : TE) (t : TA) : TE := fun σ H Q => to σ H fun x H1 => (∃ (p : Addr) (o : Obj) (u : HO), x = .ref p ∧ H1 p = some (.frz o u) ∧ o.cls = .type T ∧ o.dict = none) ∧ t σ H1 fun xs H2 => r x xs H2 Q
section
variable {X : Cx} {o e : Expr} {es : List Expr} {to : TE} {t : TA} {name : Str} {apos cpos : Pos} {T id : String} {r : V → List V → Hp → VK → Prop}
end
/-! ### letters in small -/
def rLower : V → List V → Hp → VK → Prop := fun x xs H Q => ∃ a : Str, x = .str a ∧ xs = [] ∧ a.length ≤ 5592405 ∧ Q (.str (Txt.lower a)) H
def lw (c : Nat) : Nat := if c ∈ SM then c else sw c
end DL

namespace DL
open PySem PySem.Spec PyProof.Rows L2

/-! ### zip(text, text) -/
def Itss (x y : Str) : It :=
  ⟨fun i H => i < x.cps.size ∧ i < y.cps.size,
    fun i H v H' => ∃ T c d, v = .ref T ∧ H T = none ∧ H' = upd H T (.tup [.str ⟨#[c]⟩, .str ⟨#[d]⟩]) ∧ x.cps[i]? = some c ∧ y.cps[i]? = some d,
    fun i H => x.cps.size ≤ i ∨ y.cps.size ≤ i⟩
theorem turn_ss {P : Program} {w : World} {K : PySem.W.Frag} {elts : List Expr} {kk : Nat} {tpos : Pos} {x y : Str} {t t' : Tok} {z TI TO i1 i2 : Addr} (S : ZipSep2 z TI TO i1 i2 [i1] [i2]) :
    Turn P w K (.Tuple elts kk tpos) (Itss x y) [z, TI, TO, i1, i2] z (fun i h => IsZip h z TI TO .none ∧ IsTupOf2 h TI (.ref i1) (.ref i2) ∧ (∃ u v, IsTupOf2 h TO u v) ∧ h.IsStrIter i1 (strIterType x) x t i ∧ h.IsStrIter i2 (strIterType y) y t' i ∧ i ≤ x.cps.size ∧ i ≤ y.cps.size) where
  mem := by simp
  obj := fun i h st c hc => by
    obtain ⟨hz, hTI, ⟨u, v, hTO⟩, ⟨o1, e1, _, d1⟩, ⟨o2, e2, _, d2⟩, _⟩ := st
    have e' : c = z ∨ c = TI ∨ c = TO ∨ c = i1 ∨ c = i2 := by simpa using hc
    rcases e' with rfl | rfl | rfl | rfl | rfl
    · exact ⟨_, hz, fun v q => nomatch q⟩
    · exact ⟨_, hTI, fun v q => nomatch q⟩
    · exact ⟨_, hTO, fun v q => nomatch q⟩
    · exact ⟨o1, e1, fun v q => by rw [d1] at q; cases q⟩
    · exact ⟨o2, e2, fun v q => by rw [d2] at q; cases q⟩
  keep := fun i h h' st k => by
    obtain ⟨hz, hTI, ⟨u, v, hTO⟩, ⟨o1, e1, r1⟩, ⟨o2, e2, r2⟩, l1, l2⟩ := st
    exact ⟨k z (by simp) _ hz, k TI (by simp) _ hTI, ⟨u, v, k TO (by simp) _ hTO⟩, ⟨o1, k i1 (by simp) _ e1, r1⟩, ⟨o2, k i2 (by simp) _ e2, r2⟩, l1, l2⟩
  item := by
    intro X hP hw hK hc i pins s σ H E I hf st hg
    subst hP hw hK
    obtain ⟨hz, hTI, ⟨u0, v0, hTO⟩, h1, h2, _, _⟩ := st
    obtain ⟨g1, g2⟩ := hg
    have D1 : Draws X.prog X.w X.A.in1 i1 [i1] _ _ _ := Draws.text (show X.A.in1.handled = none from I.ok.hd hc) i1 x t
    have D2 : Draws X.prog X.w X.A.in1 i2 [i2] _ _ _ := Draws.text (show X.A.in1.handled = none from I.ok.hd hc) i2 y t'
    have hzl : z < s.heap.objs.size := Heap.lt_size hz
    refine wpAny_pyNext_zipD2_item S D1 D2 hz hTI hTO h1 h2 g1 g2 fun x1 x2 h' tk y1 y2 hz' hTO' h1' h2' hT hsz hk => ?_
    obtain ⟨c, u, hcx, rfl⟩ := y1
    obtain ⟨d, u2, hdy, rfl⟩ := y2
    refine ⟨_, rfl, wpAny_letOwnedTupleGo_zip (s := { s with heap := h', toks := tk }) hz' fun h'' z'' sb => ?_⟩
    have hT2 : h''.get? s.heap.objs.size = some { cls := .type "tuple", data := .seq #[.str ⟨#[c]⟩ u, .str ⟨#[d]⟩ u2] } := (sb.2 _ (Nat.ne_of_gt hzl)).trans hT
    have new : ObjOk X.prog X.w (upd H s.heap.objs.size (.tup [.str ⟨#[c]⟩, .str ⟨#[d]⟩])) h'' s.heap.objs.size (.tup [.str ⟨#[c]⟩, .str ⟨#[d]⟩]) :=
      ⟨by show 2 ≤ sizeLine; decide, [.str ⟨#[c]⟩ u, .str ⟨#[d]⟩ u2], .cons ⟨_, rfl⟩ (.cons ⟨_, rfl⟩ .nil), ⟨_, hT2, rfl, _, rfl⟩⟩
    have I1 : L2.Inv X pins σ (upd H s.heap.objs.size (.tup [.str ⟨#[c]⟩, .str ⟨#[d]⟩])) { s with heap := h'', toks := tk } :=
      I.turnedNew (ch := [z, TI, TO, i1, i2]) (fun a o hb q => (sb.2 a (fun q' => hb (by simp [q']))).trans (hk a o (fun q' => hb (by simp [q'])) (fun q' => hb (by simp [q'])) (fun q' => hb (by simp [q'])) (fun q' => hb (by simp [q'])) q)) hf (Nat.le_refl _) new
    refine ⟨.ref s.heap.objs.size, _, I1, rfl, ⟨_, c, d, rfl, I.hok.fresh (Nat.le_refl _), rfl, hcx, hdy⟩, ⟨z'', ?_, ⟨.str ⟨#[c]⟩ u, .str ⟨#[d]⟩ u2, ?_⟩, ?_, ?_, g1, g2⟩, fun a ham => ?_⟩
    · exact (sb.2 _ S.TIz).trans (hk _ _ S.TIz S.TITO S.TIi1 S.TIi2 hTI)
    · exact (sb.2 _ S.TOz).trans hTO'
    · obtain ⟨o1, e1, r1⟩ := h1'
      exact ⟨o1, (sb.2 _ S.zi1.symm).trans e1, r1⟩
    · obtain ⟨o2, e2, r2⟩ := h2'
      exact ⟨o2, (sb.2 _ S.zi2.symm).trans e2, r2⟩
    · have hlt : a < s.heap.objs.size := by
        have e' : a = z ∨ a = TI ∨ a = TO ∨ a = i1 ∨ a = i2 := by simpa using ham
        rcases e' with rfl | rfl | rfl | rfl | rfl
        · exact hzl
        · exact Heap.lt_size hTI
        · exact Heap.lt_size hTO
        · obtain ⟨_, e1, _⟩ := h1; exact Heap.lt_size e1
        · obtain ⟨_, e2, _⟩ := h2; exact Heap.lt_size e2
      rw [upd_ne (Nat.ne_of_lt hlt)]
      exact (hf a ham).1
  done := by
    intro X hP hw hK hc i pins s σ H E I hf st hg
    subst hP hw hK
    obtain ⟨hz, hTI, ⟨u0, v0, hTO⟩, h1, h2, l1, l2⟩ := st
    have D1 : Draws X.prog X.w X.A.in1 i1 [i1] _ _ _ := Draws.text (show X.A.in1.handled = none from I.ok.hd hc) i1 x t
    have D2 : Draws X.prog X.w X.A.in1 i2 [i2] _ _ _ := Draws.text (show X.A.in1.handled = none from I.ok.hd hc) i2 y t'
    refine wpAny_pyNext_zipD2_end S D1 D2 hz hTI hTO h1 h2 l1 l2 (by have : x.cps.size ≤ i ∨ y.cps.size ≤ i := hg; omega) fun h' tk hk => ⟨rfl, I.turnedL (t' := tk) (ch := [z, TI, TO, i1, i2]) (fun a o hb q =>
      hk a o (fun q' => hb (by simp [q'])) (fun q' => hb (by simp [q'])) (fun q' => hb (by simp [q'])) (fun q' => hb (by simp [q'])) q) hf⟩
  self := fun A i s Q E st h => wpAny_pyIter_zip st.1 h
def iSs (ta : TA) : TI := fun σ H R => ta σ H fun vs H1 => ∃ x y, vs = [.str x, .str y] ∧ R (Itss x y) H1
theorem pi_ss {X : Cx} {e e2 : Expr} {ta : TA} {p pos tpos : Pos} {elts : List Expr} {kk : Nat} (hg : Gl X "zip") (hm : X.mg "zip" = none) (ha : PA X [e, e2] ta)
    (hs : starEach [e, e2] X.env = (false, eval e X.env) :: starEach [e2] X.env := by rfl) (hpl : (backTo pos (starEach [e2] X.env)).any (·.1) = false := by rfl) :
    PI X (.Tuple elts kk tpos) (.Call (.Name "zip" p) [e, e2] [] pos) (iSs ta) := by
  refine ⟨fun pins s σ H R I h => ?_⟩
  refine Call_ (ld_blt I hg hm PyProof.Rows.boot_zip (PyProof.Rows.callWith_type1 (thn (ha.run pos pins s σ H _ I h) fun us s1 ⟨vs, H1, I1, r1, q1⟩ => ?_) hs hpl))
  obtain ⟨x, y, ex, q⟩ := q1
  subst ex
  cases r1 with
  | cons r rr =>
    cases rr with
    | cons r' rr =>
      cases rr
      obtain ⟨t, rfl⟩ := r
      obtain ⟨t', rfl⟩ := r'
      refine zip_begins2 (begins_text x t) (begins_text y t') trivial trivial fun h' hz hTI hTO h1 h2 hsz hk => wpAny_pyIter_zip hz ?_
      have I2 : L2.Inv X pins σ H1 { s1 with heap := h' } := I1.kept (t' := s1.toks) hk
      refine ⟨s1.heap.objs.size + 4, [s1.heap.objs.size + 4, s1.heap.objs.size + 2, s1.heap.objs.size + 3, s1.heap.objs.size, s1.heap.objs.size + 1], _, _, H1, rfl, I2,
        turn_ss (t := t) (t' := t') (zip_sep2 (fp1 := []) (fp2 := []) (fun _ z => nomatch z) (fun _ z => nomatch z)),
        ⟨hz, hTI, ⟨_, _, hTO⟩, ⟨_, h1, rfl, rfl⟩, ⟨_, h2, rfl, rfl⟩, Nat.zero_le _, Nat.zero_le _⟩, fun c hcm => ?_, q⟩
      have e' : c = s1.heap.objs.size + 4 ∨ c = s1.heap.objs.size + 2 ∨ c = s1.heap.objs.size + 3 ∨ c = s1.heap.objs.size ∨ c = s1.heap.objs.size + 1 := by simpa using hcm
      have hle : s1.heap.objs.size ≤ c := by
        rcases e' with z | z | z | z | z <;> rw [z] <;> first | exact Nat.le_refl _ | exact Nat.le_add_right _ _
      exact I1.fpOk hle (I1.hok.fresh hle)
section
variable {env : Nv} {tas : TA}
def ssD (l m : List Nat) : List D := (l.zip m).map fun p => .tup [sign p.1, sign p.2]
theorem ssD_len (l m : List Nat) : (ssD l m).length = min l.length m.length := by unfold ssD; rw [List.length_map, List.length_zip]
theorem ssD_get {l m : List Nat} {i : Nat} {d : D} (h : (ssD l m)[i]? = some d) : ∃ c r, l[i]? = some c ∧ m[i]? = some r ∧ d = .tup [sign c, sign r] := by
  unfold ssD at h
  rw [List.getElem?_map] at h
  obtain ⟨p, hp, rfl⟩ := Option.map_eq_some_iff.mp h
  have := List.getElem?_zip_eq_some.mp hp
  exact ⟨_, _, this.1, this.2, rfl⟩
theorem di_ss {post : List D → Prop} (h : Da tas env fun ds => ∃ l m, ds = [.str l, .str m] ∧ post (ssD l m)) : Di (iSs tas) env post := fun B M σ H S R q =>
  h B M σ H S _ fun vs H1 d ⟨l, m, e, hp⟩ S1 e1 i1 => by
    subst e
    cases i1 with
    | cons a r =>
      cases r with
      | cons b r =>
        cases r
        cases is_str a
        cases is_str b
        refine ⟨⟨l.toArray⟩, ⟨m.toArray⟩, rfl, q _ H1 [] _ hp S1 e1 (fun x hx => nomatch hx) ⟨fun M2 H2 hst hM hh => ?_⟩⟩
        have sz : (⟨l.toArray⟩ : Str).cps.size = l.length := by show l.toArray.size = l.length; simp
        have sz2 : (⟨m.toArray⟩ : Str).cps.size = m.length := by show m.toArray.size = m.length; simp
        refine ⟨fun i hi => ?_, fun i hi => ?_, fun i d x H' hd hy => ?_⟩
        · rw [ssD_len] at hi
          exact ⟨by rw [sz]; omega, by rw [sz2]; omega⟩
        · rw [ssD_len] at hi
          show _ ∨ _
          rw [sz, sz2]
          omega
        · obtain ⟨T, c, y, rfl, hT, rfl, hc, hy⟩ := hy
          obtain ⟨c', r, h1, h2, rfl⟩ := ssD_get hd
          have e1 : c = c' := by
            have hc' : l[i]? = some c := by rw [← hc]; simp
            rw [h1] at hc'
            exact (Option.some.inj hc').symm
          have e2 : y = r := by
            have hc' : m[i]? = some y := by rw [← hy]; simp
            rw [h2] at hc'
            exact (Option.some.inj hc').symm
          subst e1
          subst e2
          exact ⟨.inr ⟨T, _, hT, rfl⟩, is_pair (p := T) hT (is_sign _ _ _ c) (is_sign _ _ _ y) hM hst⟩
end
end DL

namespace DL
open PySem PySem.Spec PyProof.Rows L2

/-! ### x in xs, xs.index(x): ints, texts -/
theorem inV_ints (z : Int) : ∀ ns : List Int, inV (.int z) (ns.map V.int) = decide (z ∈ ns)
  | [] => rfl
  | n :: ns => by
    have ih := inV_ints z ns
    unfold inV at ih ⊢
    rw [List.map_cons, List.any_cons, ih]
    show ((n == z) || decide (z ∈ ns)) = decide (z ∈ n :: ns)
    by_cases h : n = z
    · subst h; simp
    · have h' : z ≠ n := fun q => h q.symm
      rw [beq_eq_false_iff_ne.mpr h]; simp [h']
theorem inV_strs (z : List Nat) : ∀ ns : List (List Nat), inV (.str ⟨z.toArray⟩) (ns.map fun l => V.str ⟨l.toArray⟩) = decide (z ∈ ns)
  | [] => rfl
  | n :: ns => by
    have ih := inV_strs z ns
    unfold inV at ih ⊢
    rw [List.map_cons, List.any_cons, ih]
    show (((⟨n.toArray⟩ : Str) == ⟨z.toArray⟩) || decide (z ∈ ns)) = decide (z ∈ n :: ns)
    by_cases h : n = z
    · subst h; simp
    · have h' : z ≠ n := fun q => h q.symm
      have e : ((⟨n.toArray⟩ : Str) == ⟨z.toArray⟩) = false := beq_eq_false_iff_ne.mpr (fun q => h (by injection q with q; simpa using q))
      rw [e]; simp [h']
theorem flat_ints (ns : List Int) : (ns.map V.int).all flatV = true := by rw [List.all_eq_true]; intro x hx; obtain ⟨i, _, rfl⟩ := List.mem_map.mp hx; rfl
theorem flat_strs (ns : List (List Nat)) : (ns.map fun l => V.str ⟨l.toArray⟩).all flatV = true := by rw [List.all_eq_true]; intro x hx; obtain ⟨i, _, rfl⟩ := List.mem_map.mp hx; rfl
theorem iss_strs' {st : Addr} {M : List Addr} {H : Hp} {vs : List V} {ls : List (List Nat)} (h : Iss st M H vs (ls.map D.str)) : vs = ls.map fun l => V.str ⟨l.toArray⟩ := by
  rw [iss_strs h, List.map_map]; rfl
section
variable {K : PySem.W.Frag} {post : D → Prop}
theorem dop_inI {neg : Bool} {x : D} {z : Int} {ns : List Int} (hx : seqD x = some (ns.map D.int)) (h : post (.bl (if neg then !decide (z ∈ ns) else decide (z ∈ ns)))) : Dop (rIn K neg) (.int z) x post := fun st M H v w _ _ _ iv iw Q q => by
  cases is_int iv
  obtain ⟨p, vs, rfl, hl, hs⟩ := seqD_ok (K := K) iw hx
  have := iss_ints hs
  subst this
  refine ⟨p, _, rfl, hl, rfl, flat_ints ns, ?_⟩
  rw [inV_ints]
  exact q _ H _ h (Fx.refl _ _) (.bl _)
theorem dop_inS {neg : Bool} {x : D} {z : List Nat} {ns : List (List Nat)} (hx : seqD x = some (ns.map D.str)) (h : post (.bl (if neg then !decide (z ∈ ns) else decide (z ∈ ns)))) : Dop (rIn K neg) (.str z) x post := fun st M H v w _ _ _ iv iw Q q => by
  cases is_str iv
  obtain ⟨p, vs, rfl, hl, hs⟩ := seqD_ok (K := K) iw hx
  have := iss_strs' hs
  subst this
  refine ⟨p, _, rfl, hl, rfl, flat_strs ns, ?_⟩
  rw [inV_strs]
  exact q _ H _ h (Fx.refl _ _) (.bl _)
end

theorem map_snoc {α β : Type} (f : α → β) (l : List α) (a : α) : l.map f ++ [f a] = (l ++ [a]).map f := by rw [List.map_append]; rfl
/-! ### the points that are found from 0 letter by letter, and their words -/
abbrev Fd := List Nat × List (List Nat)
def fnL (kvs : List (List Key × V)) (t : Nat) (s : Fd) (c : Nat) : Fd :=
  if stp kvs (s.1.getD t 0) c ∈ s.1 then s else (s.1 ++ [stp kvs (s.1.getD t 0) c], s.2 ++ [s.2.getD t [] ++ [c]])
def fnT (kvs : List (List Key × V)) (ls : List Nat) (s : Fd) (t : Nat) : Fd := if t < s.1.length then ls.foldl (fnL kvs t) s else s
def fnd (kvs : List (List Key × V)) (ls : List Nat) (n : Nat) : Fd := (List.range n).foldl (fnT kvs ls) ([0], [[]])
structure FI (kvs : List (List Key × V)) (ls : List Nat) (n : Nat) (s : Fd) : Prop where
  len : s.2.length = s.1.length
  zero : s.1[0]? = some 0
  nd : s.1.Nodup
  lt : ∀ x ∈ s.1, x < n
  way : ∀ i w, s.2[i]? = some w → s.1[i]? = some (wk kvs 0 w) ∧ (∀ c ∈ w, c ∈ ls) ∧ w.length ≤ i
section
variable {kvs : List (List Key × V)} {ls : List Nat} {n : Nat}
theorem FI.init (h : 0 < n) : FI kvs ls n ([0], [[]]) := ⟨rfl, rfl, by simp, fun x hx => by rw [List.mem_singleton.mp hx]; exact h, fun i w hw => by
  cases i with
  | zero => cases hw; exact ⟨rfl, (fun _ z => nomatch z), Nat.le_refl _⟩
  | succ i => simp at hw⟩
theorem FI.stepL (A : Act n ls kvs) {s : Fd} (h : FI kvs ls n s) {t c : Nat} (ht : t < s.1.length) (hc : c ∈ ls) :
    FI kvs ls n (fnL kvs t s c) ∧ s.1 <+: (fnL kvs t s c).1 ∧ s.2 <+: (fnL kvs t s c).2 ∧ stp kvs (s.1.getD t 0) c ∈ (fnL kvs t s c).1 := by
  unfold fnL
  split
  · rename_i hm
    exact ⟨h, List.prefix_rfl, List.prefix_rfl, hm⟩
  · rename_i hm
    have hp : s.1[t]? = some (s.1.getD t 0) := by simp [List.getD_eq_getElem?_getD, ht]
    have hpn : s.1.getD t 0 < n := h.lt _ (List.mem_of_getElem? hp)
    have h2 : t < s.2.length := by rw [h.len]; exact ht
    have hw : s.2[t]? = some (s.2.getD t []) := by simp [List.getD_eq_getElem?_getD, h2]
    obtain ⟨w1, w2, w3⟩ := h.way t _ hw
    have e0 : wk kvs 0 (s.2.getD t []) = s.1.getD t 0 := by rw [w1] at hp; exact Option.some.inj hp
    refine ⟨⟨by simp [h.len], ?_, ?_, fun x hx => ?_, fun i w hi => ?_⟩, List.prefix_append _ _, List.prefix_append _ _, by simp⟩
    · show (s.1 ++ _)[0]? = _
      rw [List.getElem?_append_left (by omega)]
      exact h.zero
    · rw [List.nodup_append]
      exact ⟨h.nd, by simp, fun a ha b hb e => hm (by rw [← List.mem_singleton.mp hb, ← e]; exact ha)⟩
    · rcases List.mem_append.mp hx with z | z
      · exact h.lt x z
      · rw [List.mem_singleton.mp z]
        exact (A _ hpn c hc).2.1
    · have hi : (s.2 ++ [s.2.getD t [] ++ [c]])[i]? = some w := hi
      by_cases hl : i < s.2.length
      · rw [List.getElem?_append_left hl] at hi
        obtain ⟨g1, g2, g3⟩ := h.way i w hi
        refine ⟨?_, g2, g3⟩
        show (s.1 ++ _)[i]? = _
        rw [List.getElem?_append_left (by rw [← h.len]; exact hl)]
        exact g1
      · have hil : i = s.2.length := by
          have := (List.getElem?_eq_some_iff.mp hi).1
          rw [List.length_append, List.length_singleton] at this
          omega
        subst hil
        rw [List.getElem?_append_right (Nat.le_refl _), Nat.sub_self] at hi
        obtain rfl : s.2.getD t [] ++ [c] = w := Option.some.inj hi
        refine ⟨?_, fun x hx => ?_, ?_⟩
        · show (s.1 ++ _)[s.2.length]? = _
          rw [h.len, List.getElem?_append_right (Nat.le_refl _), Nat.sub_self, wk_app, e0]
          rfl
        · rcases List.mem_append.mp hx with z | z
          · exact w2 x z
          · rw [List.mem_singleton.mp z]; exact hc
        · rw [List.length_append, List.length_singleton]
          omega
theorem pre_getD {l m : List Nat} (h : l <+: m) {t : Nat} (ht : t < l.length) : m.getD t 0 = l.getD t 0 := by
  obtain ⟨r, rfl⟩ := h
  rw [List.getD_eq_getElem?_getD, List.getD_eq_getElem?_getD, List.getElem?_append_left ht]
theorem FI.stepLs (A : Act n ls kvs) {t : Nat} : ∀ (cs : List Nat) {s : Fd}, FI kvs ls n s → t < s.1.length → (∀ c ∈ cs, c ∈ ls) →
    FI kvs ls n (cs.foldl (fnL kvs t) s) ∧ s.1 <+: (cs.foldl (fnL kvs t) s).1 ∧ ∀ c ∈ cs, stp kvs (s.1.getD t 0) c ∈ (cs.foldl (fnL kvs t) s).1
  | [], s, h, _, _ => ⟨h, List.prefix_rfl, (fun _ z => nomatch z)⟩
  | c :: cs, s, h, ht, hc => by
    obtain ⟨a, b, _, d⟩ := h.stepL A ht (hc c List.mem_cons_self)
    have ht' : t < (fnL kvs t s c).1.length := Nat.lt_of_lt_of_le ht b.length_le
    obtain ⟨a2, b2, d2⟩ := FI.stepLs A cs a ht' fun x hx => hc x (List.mem_cons_of_mem _ hx)
    refine ⟨a2, b.trans b2, fun x hx => ?_⟩
    rcases List.mem_cons.mp hx with rfl | hx
    · exact b2.subset d
    · have := d2 x hx
      rw [pre_getD b ht] at this
      exact this
/-- what has been gone through is closed -/
def Cl (kvs : List (List Key × V)) (ls : List Nat) (s : Fd) (k : Nat) : Prop := ∀ i, i < k → ∀ p, s.1[i]? = some p → ∀ c ∈ ls, stp kvs p c ∈ s.1
theorem FI.stepT (A : Act n ls kvs) {t : Nat} {s : Fd} (h : FI kvs ls n s) (hc : Cl kvs ls s t) : FI kvs ls n (fnT kvs ls s t) ∧ Cl kvs ls (fnT kvs ls s t) (t + 1) := by
  unfold fnT
  split
  · rename_i ht
    obtain ⟨a, b, d⟩ := h.stepLs A ls ht fun _ z => z
    refine ⟨a, fun i hi p hp c hcl => ?_⟩
    have hil : i < s.1.length := by omega
    obtain ⟨r, hr⟩ := b
    rw [← hr, List.getElem?_append_left hil] at hp
    by_cases e : i = t
    · subst e
      have : s.1.getD i 0 = p := by rw [List.getD_eq_getElem?_getD, hp]; rfl
      rw [← this]
      exact d c hcl
    · rw [← hr]
      exact List.mem_append_left _ (hc i (by omega) p hp c hcl)
  · rename_i ht
    refine ⟨h, fun i hi p hp c hcl => ?_⟩
    have := (List.getElem?_eq_some_iff.mp hp).1
    exact hc i (by omega) p hp c hcl
theorem FI.range (A : Act n ls kvs) (h0 : 0 < n) : ∀ m, FI kvs ls n (fnd kvs ls m) ∧ Cl kvs ls (fnd kvs ls m) m
  | 0 => ⟨.init h0, fun _ z => absurd z (Nat.not_lt_zero _)⟩
  | m + 1 => by
    have := FI.range A h0 m
    unfold fnd at this ⊢
    rw [List.range_succ, List.foldl_append]
    exact FI.stepT A this.1 this.2
theorem FI.len_le {s : Fd} (h : FI kvs ls n s) : s.1.length ≤ n := by
  have := List.Nodup.length_le_of_subset h.nd (l₂ := List.range n) fun x hx => List.mem_range.mpr (h.lt x hx)
  rwa [List.length_range] at this
end
end DL

namespace DL
open PySem PySem.Spec PyProof.Rows L2

/-! ### tuple(d), tuple(d.values()), list(d.values()) -/
section
variable {prog : Program} {w : World} {A : Around} {E : Value → Shared → Prop} {s : Shared} {T : String} {r d : Addr} {n : Nat} {P : Nat → Value → Prop} {OK : Heap → Prop}
end
end DL

namespace DL
open PySem PySem.Spec PyProof.Rows L2

def rTupD : List V → Hp → VK → Prop := fun xs H Q => ∃ p kvs, xs = [.ref p] ∧ H p = some (.dK kvs) ∧ ∀ (q : Addr) (o : Obj), H q = none → o.cls = .type "tuple" → o.dict = none → Q (.ref q) (upd H q (.frz o (.tup (kvs.map fun kv => kV kv.1))))
/-- d.values(), an object that shows them -/
def tVals (td : TE) : TE := fun σ H Q => td σ H fun x H1 => ∃ d kvs, x = .ref d ∧ H1 d = some (.dK kvs) ∧ ∀ v, H1 v = none → Q (.ref v) (upd H1 v (.ext fun h => h.IsValuesView v d))
section
variable {X : Cx} {e : Expr} {td : TE} {apos cpos : Pos}
end
def isView (H : Hp) (x : V) (kvs : List (Key × V)) : Prop := ∃ v d, x = .ref v ∧ H v = some (.ext fun h => h.IsValuesView v d) ∧ H d = some (.dK kvs)
def rTupW : List V → Hp → VK → Prop := fun xs H Q => ∃ x kvs, xs = [x] ∧ isView H x kvs ∧ ∀ q, H q = none → Q (.ref q) (upd H q (.tup (kvs.map (·.2))))
def rLstW : List V → Hp → VK → Prop := fun xs H Q => ∃ x kvs, xs = [x] ∧ isView H x kvs ∧ ∀ q, H q = none → Q (.ref q) (upd H q (.lst (kvs.map (·.2))))
/-- len(d) -/
def rLenD : List V → Hp → VK → Prop := fun xs H Q => ∃ a kvs, xs = [V.ref a] ∧ H a = some (.dK kvs) ∧ Q (.int kvs.length) H
theorem cd_lenD {X : Cx} : CallR X (.builtin "len") rLenD := call_lenD
/-- list(d) -/
theorem cd_lstD {X : Cx} (hc : X.calm = true) : CallR X (.type "list") rListD := call_list_dK hc

/-! ### over data -/
def keyD : Key → D
  | .inl i => .int i
  | .inr x => .str x.cps.toList
theorem is_keyD {st : Addr} {M : List Addr} {H : Hp} (k : Key) : Is st M H (kV k) (keyD k) := by
  cases k with
  | inl i => exact .int i
  | inr x => exact is_strS _ _ _ x
theorem iss_keys {st : Addr} {M : List Addr} {H : Hp} : ∀ kvs : List (Key × V), Iss st M H (kvs.map fun kv => kV kv.1) (kvs.map fun kv => keyD kv.1)
  | [] => .nil
  | kv :: kvs => .cons (is_keyD kv.1) (iss_keys kvs)
def valD : V → D
  | .bl b => .bl b
  | .int i => .int i
  | .str x => .str x.cps.toList
  | _ => .non
section
variable {B : Bs} {M M' : List Addr} {H H' H1 : Hp} {σ : L2.St} {env env' : Nv} {nx : Nv → Prop} {rt : D → Prop} {bk ct : Nv → Prop} {t u : TS} {c : TT} {te ta tb td ty tv tk : TE} {tas : TA} {post : D → Prop} {K : PySem.W.Frag}
theorem is_dK {st : Addr} {M : List Addr} {H : Hp} {v : V} {kvs : List (Key × V)} (h : Is st M H v (.dK kvs)) : ∃ p, v = .ref p ∧ p ∉ M ∧ H p = some (.dK kvs) ∧ ∀ kv ∈ kvs, flatV kv.2 = true := by
  cases h with | dK hm hp hf => exact ⟨_, rfl, hm, hp, hf⟩
theorem dcl_lenD {kvs : List (Key × V)} (h : post (.int (kvs.length : Nat))) : Dcl rLenD [.dK kvs] post := fun st M H vs hst hM trk iv Q q => by
  cases iv with
  | cons a r =>
    cases r
    obtain ⟨p, rfl, hm, hp, hf⟩ := is_dK a
    exact ⟨p, kvs, rfl, hp, q _ _ _ h (Fx.refl _ _) (.int _)⟩
theorem dcl_lstD {kvs : List (Key × V)} (h : post (.lst (kvs.map fun kv => keyD kv.1))) : Dcl rListD [.dK kvs] post := fun st M H vs hst hM trk iv Q q => by
  cases iv with
  | cons a r =>
    cases r
    obtain ⟨p, rfl, hm, hp, hf⟩ := is_dK a
    exact ⟨p, kvs, rfl, hp, fun l hn => q _ _ _ h (Fx.new hn) (.lst (fresh_ne (st := st) trk hn) upd_same (iss_keys kvs))⟩
/-- d.get(k) -/
theorem de_dget1T {i : Nat} {kvs : List (List Key × V)} (hi : dicT env i kvs) (h : De ty env fun y => ∃ l ks d, y = .tup l ∧ toKeys l = some ks ∧ toV d = some ((valV kvs ks).getD .non) ∧ post d) : De (tDGet1 (tVar i) ty) env post := fun B M σ H S Q q => by
  obtain ⟨p, h1, h2, h3⟩ := S.dicT hi
  refine ⟨.ref p, h1, p, rfl, .inr ⟨kvs, .inl h2⟩, h B M σ H S _ fun v H1 d ⟨l, ks, d', e, hk, hd, hp⟩ S1 e1 i1 => ?_⟩
  subst e
  obtain ⟨b, vs, rfl, hl, hs⟩ := is_tup i1
  have := is_keys hs hk
  subst this
  exact ⟨valV kvs ks, .t (e1.1 p _ h3 h2) hl, q _ H1 _ hp S1 e1 (of_flat hd)⟩
/-- {k: v}, one's own -/
theorem den_disp1 {postN : Ow → Prop} (h : De tk env fun k => De tv env fun v => ∃ kk w, toKey k = some kk ∧ toV v = some w ∧ postN (.dK [(kk, w)])) : DeN (tDisp [(tk, tv)]) env postN := fun B M σ H S Q q p hn => by
  have np : p ≠ B.st := S.nst hn
  have S0 : Sr B M σ (upd H p (.dK [])) env := S.new hn
  refine h B M σ _ S0 _ fun x H1 k hk S1 e1 i1 => hk B M σ H1 S1 _ fun y H2 v ⟨kk, w, h1, h2, hp⟩ S2 e2 i2 => ?_
  have f : Fx B.st H H2 := ((Fx.new hn).trans e1).trans e2
  have hp2 : H2 p = some (.dK []) := e2.1 _ _ np (e1.1 _ _ np upd_same)
  have ex : x = kV kk := is_key i1 h1
  have ey : y = w := is_flat i2 h2
  subst ex
  subst ey
  refine ⟨hp2, [(kk, y)], rfl, by simp, ?_⟩
  have hm : mergeK [] [(kk, y)] = [(kk, y)] := rfl
  rw [hm]
  have hf : ∀ kv ∈ [(kk, y)], flatV kv.2 = true := fun kv hkv => by rw [List.mem_singleton.mp hkv]; exact flat_of h2
  exact q p _ (.dK [(kk, y)]) (.dK [(kk, y)]) hp (S.newIn' hn (f.mut hn np) upd_same) (f.mut hn np) upd_same (.dK hf) hn
end
end DL

namespace DL
open PySem PySem.Spec PyProof.Rows L2

/-! ### the places that are found from a start along moves that may lack, and their words -/
def stO (kvs : List (List Key × V)) (p c : Nat) : Option Nat := match valV kvs (kk p c) with
  | some (.int q) => some q.toNat
  | _ => none
def wkO (kvs : List (List Key × V)) (p : Nat) (w : List Nat) : Option Nat := w.foldl (fun o c => o.bind fun p => stO kvs p c) (some p)
theorem wkO_snoc (kvs : List (List Key × V)) (p : Nat) (w : List Nat) (c : Nat) : wkO kvs p (w ++ [c]) = (wkO kvs p w).bind fun q => stO kvs q c := by
  unfold wkO
  rw [List.foldl_append]
  rfl
/-- the values are places below N -/
def Mv (kvs : List (List Key × V)) (N : Nat) : Prop := ∀ p c v, valV kvs (kk p c) = some v → ∃ q : Nat, v = .int (q : Int) ∧ q < N
def fwL (kvs : List (List Key × V)) (t : Nat) (s : Fd) (c : Nat) : Fd := match stO kvs (s.1.getD t 0) c with
  | none => s
  | some q => if q ∈ s.1 then s else (s.1 ++ [q], s.2 ++ [s.2.getD t [] ++ [c]])
def fwT (kvs : List (List Key × V)) (ls : List Nat) (s : Fd) (t : Nat) : Fd := if t < s.1.length then ls.foldl (fwL kvs t) s else s
def fw (kvs : List (List Key × V)) (ls : List Nat) (p0 m : Nat) : Fd := (List.range m).foldl (fwT kvs ls) ([p0], [[]])
theorem fw_succ (kvs : List (List Key × V)) (ls : List Nat) (p0 t : Nat) : fw kvs ls p0 (t + 1) = fwT kvs ls (fw kvs ls p0 t) t := by
  unfold fw
  rw [List.range_succ, List.foldl_append]
  rfl
structure WI (kvs : List (List Key × V)) (ls : List Nat) (p0 N : Nat) (s : Fd) : Prop where
  len : s.2.length = s.1.length
  zero : s.1[0]? = some p0
  nd : s.1.Nodup
  lt : ∀ x ∈ s.1, x < N
  way : ∀ i w, s.2[i]? = some w → wkO kvs p0 w = s.1[i]? ∧ (∀ c ∈ w, c ∈ ls) ∧ w.length ≤ i
section
variable {kvs : List (List Key × V)} {ls : List Nat} {p0 N : Nat}
theorem stO_lt (M : Mv kvs N) {p c q : Nat} (h : stO kvs p c = some q) : q < N ∧ valV kvs (kk p c) = some (.int (q : Int)) := by
  unfold stO at h
  cases e : valV kvs (kk p c) with
  | none => rw [e] at h; cases h
  | some v =>
    rw [e] at h
    obtain ⟨r, rfl, hr⟩ := M p c v e
    have : r = q := by simpa using h
    subst this
    exact ⟨hr, rfl⟩
theorem stO_none (M : Mv kvs N) {p c : Nat} (h : stO kvs p c = none) : valV kvs (kk p c) = none := by
  unfold stO at h
  cases e : valV kvs (kk p c) with
  | none => rfl
  | some v =>
    rw [e] at h
    obtain ⟨r, rfl, hr⟩ := M p c v e
    cases h
theorem WI.init (h : p0 < N) : WI kvs ls p0 N ([p0], [[]]) := ⟨rfl, rfl, by simp, fun x hx => by rw [List.mem_singleton.mp hx]; exact h, fun i w hw => by
  cases i with
  | zero => cases hw; exact ⟨rfl, (fun _ z => nomatch z), Nat.le_refl _⟩
  | succ i => simp at hw⟩
theorem WI.at {s : Fd} (h : WI kvs ls p0 N s) {t : Nat} (ht : t < s.1.length) : s.1[t]? = some (s.1.getD t 0) ∧ s.2[t]? = some (s.2.getD t []) ∧ s.1.getD t 0 < N ∧ (s.2.getD t []).length ≤ t := by
  have h2 : t < s.2.length := by rw [h.len]; exact ht
  have a : s.1[t]? = some (s.1.getD t 0) := by simp [List.getD_eq_getElem?_getD, ht]
  have b : s.2[t]? = some (s.2.getD t []) := by simp [List.getD_eq_getElem?_getD, h2]
  exact ⟨a, b, h.lt _ (List.mem_of_getElem? a), (h.way t _ b).2.2⟩
theorem WI.stepL (M : Mv kvs N) {s : Fd} (h : WI kvs ls p0 N s) {t c : Nat} (ht : t < s.1.length) (hc : c ∈ ls) :
    WI kvs ls p0 N (fwL kvs t s c) ∧ s.1 <+: (fwL kvs t s c).1 ∧ s.2 <+: (fwL kvs t s c).2 ∧ ∀ q, stO kvs (s.1.getD t 0) c = some q → q ∈ (fwL kvs t s c).1 := by
  obtain ⟨hp, hw, hpn, hwl⟩ := h.at ht
  unfold fwL
  cases e : stO kvs (s.1.getD t 0) c with
  | none => exact ⟨h, List.prefix_rfl, List.prefix_rfl, fun q hq => nomatch hq⟩
  | some q =>
    dsimp only
    split
    · rename_i hm
      exact ⟨h, List.prefix_rfl, List.prefix_rfl, fun r hr => by cases hr; exact hm⟩
    · rename_i hm
      obtain ⟨w1, w2, w3⟩ := h.way t _ hw
      have e0 : wkO kvs p0 (s.2.getD t [] ++ [c]) = some q := by rw [wkO_snoc, w1, hp]; exact e
      refine ⟨⟨by simp [h.len], ?_, ?_, fun x hx => ?_, fun i w hi => ?_⟩, List.prefix_append _ _, List.prefix_append _ _, fun r hr => by cases hr; simp⟩
      · show (s.1 ++ _)[0]? = _
        rw [List.getElem?_append_left (by omega)]
        exact h.zero
      · rw [List.nodup_append]
        exact ⟨h.nd, by simp, fun a ha b hb e => hm (by rw [← List.mem_singleton.mp hb, ← e]; exact ha)⟩
      · rcases List.mem_append.mp hx with z | z
        · exact h.lt x z
        · rw [List.mem_singleton.mp z]
          exact (stO_lt M e).1
      · have hi : (s.2 ++ [s.2.getD t [] ++ [c]])[i]? = some w := hi
        by_cases hl : i < s.2.length
        · rw [List.getElem?_append_left hl] at hi
          obtain ⟨g1, g2, g3⟩ := h.way i w hi
          refine ⟨?_, g2, g3⟩
          show _ = (s.1 ++ _)[i]?
          rw [List.getElem?_append_left (by rw [← h.len]; exact hl)]
          exact g1
        · have hil : i = s.2.length := by
            have := (List.getElem?_eq_some_iff.mp hi).1
            rw [List.length_append, List.length_singleton] at this
            omega
          subst hil
          rw [List.getElem?_append_right (Nat.le_refl _), Nat.sub_self] at hi
          obtain rfl : s.2.getD t [] ++ [c] = w := Option.some.inj hi
          refine ⟨?_, fun x hx => ?_, ?_⟩
          · show _ = (s.1 ++ _)[s.2.length]?
            rw [h.len, List.getElem?_append_right (Nat.le_refl _), Nat.sub_self, e0]
            rfl
          · rcases List.mem_append.mp hx with z | z
            · exact w2 x z
            · rw [List.mem_singleton.mp z]; exact hc
          · rw [List.length_append, List.length_singleton]
            have := h.len
            omega
theorem WI.stepLs (M : Mv kvs N) {t : Nat} : ∀ (cs : List Nat) {s : Fd}, WI kvs ls p0 N s → t < s.1.length → (∀ c ∈ cs, c ∈ ls) →
    WI kvs ls p0 N (cs.foldl (fwL kvs t) s) ∧ s.1 <+: (cs.foldl (fwL kvs t) s).1 ∧ s.2 <+: (cs.foldl (fwL kvs t) s).2 ∧ ∀ c ∈ cs, ∀ q, stO kvs (s.1.getD t 0) c = some q → q ∈ (cs.foldl (fwL kvs t) s).1
  | [], s, h, _, _ => ⟨h, List.prefix_rfl, List.prefix_rfl, (fun _ z => nomatch z)⟩
  | c :: cs, s, h, ht, hc => by
    obtain ⟨a, b, b', d⟩ := h.stepL M ht (hc c List.mem_cons_self)
    have ht' : t < (fwL kvs t s c).1.length := Nat.lt_of_lt_of_le ht b.length_le
    obtain ⟨a2, b2, b2', d2⟩ := WI.stepLs M cs a ht' fun x hx => hc x (List.mem_cons_of_mem _ hx)
    refine ⟨a2, b.trans b2, b'.trans b2', fun x hx q hq => ?_⟩
    rcases List.mem_cons.mp hx with rfl | hx
    · exact b2.subset (d q hq)
    · refine d2 x hx q ?_
      rw [pre_getD b ht]
      exact hq
def ClO (kvs : List (List Key × V)) (ls : List Nat) (s : Fd) (k : Nat) : Prop := ∀ i, i < k → ∀ p, s.1[i]? = some p → ∀ c ∈ ls, ∀ q, stO kvs p c = some q → q ∈ s.1
theorem WI.stepT (M : Mv kvs N) {t : Nat} {s : Fd} (h : WI kvs ls p0 N s) (hc : ClO kvs ls s t) : WI kvs ls p0 N (fwT kvs ls s t) ∧ ClO kvs ls (fwT kvs ls s t) (t + 1) ∧ s.1 <+: (fwT kvs ls s t).1 := by
  unfold fwT
  split
  · rename_i ht
    obtain ⟨a, b, _, d⟩ := h.stepLs M ls ht fun _ z => z
    refine ⟨a, fun i hi p hp c hcl q hq => ?_, b⟩
    have hil : i < s.1.length := by omega
    obtain ⟨r, hr⟩ := b
    rw [← hr, List.getElem?_append_left hil] at hp
    by_cases e : i = t
    · subst e
      have : s.1.getD i 0 = p := by rw [List.getD_eq_getElem?_getD, hp]; rfl
      exact d c hcl q (by rw [this]; exact hq)
    · rw [← hr]
      exact List.mem_append_left _ (hc i (by omega) p hp c hcl q hq)
  · rename_i ht
    refine ⟨h, fun i hi p hp c hcl q hq => ?_, List.prefix_rfl⟩
    have := (List.getElem?_eq_some_iff.mp hp).1
    exact hc i (by omega) p hp c hcl q hq
theorem WI.range (M : Mv kvs N) (h0 : p0 < N) : ∀ m, WI kvs ls p0 N (fw kvs ls p0 m) ∧ ClO kvs ls (fw kvs ls p0 m) m
  | 0 => ⟨.init h0, fun _ z => absurd z (Nat.not_lt_zero _)⟩
  | m + 1 => by
    have := WI.range M h0 m
    rw [fw_succ]
    obtain ⟨a, b, _⟩ := WI.stepT M this.1 this.2
    exact ⟨a, b⟩
theorem WI.len_le {s : Fd} (h : WI kvs ls p0 N s) : s.1.length ≤ N := by
  have := List.Nodup.length_le_of_subset h.nd (l₂ := List.range N) fun x hx => List.mem_range.mpr (h.lt x hx)
  rwa [List.length_range] at this
/-- gone through: nothing changes any more -/
theorem fw_stop {t : Nat} (h : (fw kvs ls p0 t).1.length ≤ t) : ∀ k, fw kvs ls p0 (t + k) = fw kvs ls p0 t
  | 0 => rfl
  | k + 1 => by
    rw [← Nat.add_assoc, fw_succ, fw_stop h k]
    unfold fwT
    rw [if_neg (by omega)]
theorem fw_end (M : Mv kvs N) (h0 : p0 < N) {t : Nat} (h : (fw kvs ls p0 t).1.length ≤ t) (ht : t ≤ N) : fw kvs ls p0 t = fw kvs ls p0 N := by
  have := fw_stop h (N - t)
  rw [show t + (N - t) = N by omega] at this
  exact this.symm
theorem fw_any (M : Mv kvs N) (h0 : p0 < N) {m : Nat} (hm : N ≤ m) : fw kvs ls p0 m = fw kvs ls p0 N := by
  have := fw_stop (kvs := kvs) (ls := ls) (p0 := p0) (t := N) (WI.range M h0 N).1.len_le (m - N)
  rwa [show N + (m - N) = m by omega] at this
/-- all places to which words lead are found -/
theorem fw_all (M : Mv kvs N) (h0 : p0 < N) {w : List Nat} {q : Nat} (hw : ∀ c ∈ w, c ∈ ls) (hq : wkO kvs p0 w = some q) : q ∈ (fw kvs ls p0 N).1 := by
  obtain ⟨h, hc⟩ := WI.range (ls := ls) M h0 N
  have cl : ∀ p ∈ (fw kvs ls p0 N).1, ∀ c ∈ ls, ∀ q, stO kvs p c = some q → q ∈ (fw kvs ls p0 N).1 := fun p hp c hcl q hq => by
    obtain ⟨i, hi⟩ := List.mem_iff_getElem?.mp hp
    have hil := (List.getElem?_eq_some_iff.mp hi).1
    exact hc i (Nat.lt_of_lt_of_le hil h.len_le) p hi c hcl q hq
  have all : ∀ (w : List Nat) (o : Option Nat), (∀ p, o = some p → p ∈ (fw kvs ls p0 N).1) → (∀ c ∈ w, c ∈ ls) → ∀ q, w.foldl (fun o c => o.bind fun p => stO kvs p c) o = some q → q ∈ (fw kvs ls p0 N).1 := by
    intro w
    induction w with
    | nil => intro o ho _ q hq; exact ho q hq
    | cons c w ih =>
      intro o ho hw q hq
      refine ih _ (fun p hp => ?_) (fun x hx => hw x (List.mem_cons_of_mem _ hx)) q hq
      obtain ⟨p1, e1, e2⟩ := Option.bind_eq_some_iff.mp hp
      exact cl p1 (ho p1 e1) c (hw c List.mem_cons_self) p e2
  exact all w (some p0) (fun p hp => by cases hp; exact List.mem_of_getElem? h.zero) hw q hq
theorem Act.mv {n : Nat} (A : Act n ls kvs) (h : ∀ p c v, valV kvs (kk p c) = some v → p < n ∧ c ∈ ls) : Mv kvs n := fun p c v hv => by
  obtain ⟨h1, h2⟩ := h p c v hv
  obtain ⟨a, b, _⟩ := A p h1 c h2
  rw [a] at hv
  exact ⟨_, (Option.some.inj hv).symm, b⟩
end
/-! ### kept in a dict -/
def wd (s : Fd) : List (Key × V) := (s.1.zip s.2).map fun x => (.inl (x.1 : Int), .str ⟨x.2.toArray⟩)
theorem wd_len {s : Fd} (h : s.2.length = s.1.length) : (wd s).length = s.1.length := by
  unfold wd
  rw [List.length_map, List.length_zip, h, Nat.min_self]
theorem wd_snoc {s : Fd} (h : s.2.length = s.1.length) (q : Nat) (w : List Nat) : wd (s.1 ++ [q], s.2 ++ [w]) = wd s ++ [(.inl (q : Int), .str ⟨w.toArray⟩)] := by
  unfold wd
  rw [List.zip_append h.symm, List.map_append]
  rfl
theorem wd_look : ∀ {ps : List Nat} {ws : List (List Nat)} {q : Nat}, ws.length = ps.length → (q ∉ ps → valV (wd (ps, ws)) (.inl (q : Int)) = none) ∧ ∀ (i : Nat) (w : List Nat), ps.Nodup → ps[i]? = some q → ws[i]? = some w → valV (wd (ps, ws)) (.inl (q : Int)) = some (.str ⟨w.toArray⟩)
  | [], [], q, _ => ⟨fun _ => rfl, fun i w _ h => by simp at h⟩
  | p :: ps, w0 :: ws, q, h => by
    have ih := wd_look (ps := ps) (ws := ws) (q := q) (by simpa using h)
    have e : wd (p :: ps, w0 :: ws) = (.inl (p : Int), .str ⟨w0.toArray⟩) :: wd (ps, ws) := rfl
    rw [e]
    constructor
    · intro hq
      rw [valV_neg (by
        show ¬ (Sum.inl (p : Int) : Key) = .inl (q : Int)
        intro z
        injection z with z
        exact hq (by rw [show q = p by omega]; exact List.mem_cons_self))]
      exact ih.1 fun z => hq (List.mem_cons_of_mem _ z)
    · intro i w nd hi hw
      cases i with
      | zero =>
        simp at hi hw
        subst hi
        subst hw
        exact valV_pos rfl
      | succ i =>
        simp at hi hw
        have hn := List.nodup_cons.mp nd
        rw [valV_neg (by
          show ¬ (Sum.inl (p : Int) : Key) = .inl (q : Int)
          intro z
          injection z with z
          exact hn.1 (by rw [show p = q by omega]; exact List.mem_of_getElem? hi))]
        exact ih.2 i w hn.2 hi hw
theorem wd_put {s : Fd} (h : s.2.length = s.1.length) {q : Nat} (hq : q ∉ s.1) (w : List Nat) : putK (wd s) (.inl (q : Int)) (.str ⟨w.toArray⟩) = wd (s.1 ++ [q], s.2 ++ [w]) := by
  unfold putK
  rw [valV_any, (wd_look (ps := s.1) (ws := s.2) (q := q) h).1 hq, wd_snoc h]
  rfl
theorem wd_keys {s : Fd} (h : s.2.length = s.1.length) : (wd s).map (fun kv => keyD kv.1) = (rowI s.1).map D.int := by
  unfold wd rowI
  rw [List.map_map, List.map_map]
  have : ∀ (ps : List Nat) (ws : List (List Nat)), ws.length = ps.length → (ps.zip ws).map ((fun kv : Key × V => keyD kv.1) ∘ fun x : Nat × List Nat => ((Sum.inl (x.1 : Int) : Key), V.str ⟨x.2.toArray⟩)) = ps.map (D.int ∘ fun x : Nat => (x : Int)) := by
    intro ps
    induction ps with
    | nil => intro ws _; rfl
    | cons p ps ih =>
      intro ws hw
      cases ws with
      | nil => simp at hw
      | cons w ws =>
        rw [List.zip_cons_cons, List.map_cons, List.map_cons, ih ws (by simpa using hw)]
        rfl
  exact this _ _ h
end DL

namespace DL
open PySem PySem.Spec PyProof.Rows L2

/-! ### the moves of an action, no others; a word again and again -/
def itw (kvs : List (List Key × V)) (w : List Nat) (p : Nat) : Nat → Nat
  | 0 => p
  | k + 1 => wk kvs (itw kvs w p k) w
/-- the least number of times to come back to 0 -/
def LP (kvs : List (List Key × V)) (w : List Nat) (m : Nat) : Prop := 1 ≤ m ∧ itw kvs w 0 m = 0 ∧ ∀ j, 1 ≤ j → j < m → itw kvs w 0 j ≠ 0
section
variable {kvs : List (List Key × V)} {ls : List Nat} {n : Nat} {w : List Nat}
theorem itw_lt (A : Act n ls kvs) (hw : ∀ c ∈ w, c ∈ ls) {p : Nat} (h : p < n) : ∀ k, itw kvs w p k < n
  | 0 => h
  | k + 1 => wk_lt A (itw_lt A hw h k) hw
theorem itw_add (p a : Nat) : ∀ b, itw kvs w p (a + b) = itw kvs w (itw kvs w p a) b
  | 0 => rfl
  | b + 1 => by
    show wk kvs (itw kvs w p (a + b)) w = wk kvs _ w
    rw [itw_add p a b]
theorem itw_succ' (p : Nat) (k : Nat) : itw kvs w p (k + 1) = itw kvs w (wk kvs p w) k := by
  rw [Nat.add_comm, itw_add]
  rfl
theorem LP.uniq {m m' : Nat} (h : LP kvs w m) (h' : LP kvs w m') : m = m' := by
  rcases Nat.lt_trichotomy m m' with z | z | z
  · exact absurd h.2.1 (h'.2.2 m h.1 z)
  · exact z
  · exact absurd h'.2.1 (h.2.2 m' h'.1 z)
theorem LP.mul {m : Nat} (h : LP kvs w m) : ∀ q, itw kvs w 0 (m * q) = 0
  | 0 => rfl
  | q + 1 => by
    rw [Nat.mul_succ, itw_add, h.mul q]
    exact h.2.1
theorem itw_inv (A : Act n ls kvs) (hls : ∀ c ∈ ls, c ∈ LTR) (hsw : ∀ c ∈ ls, sw c ∈ ls) (hw : ∀ c ∈ w, c ∈ ls) : ∀ (k : Nat) {p : Nat}, p < n → itw kvs (inv w) (itw kvs w p k) k = p
  | 0, _, _ => rfl
  | k + 1, p, hp => by
    rw [itw_succ']
    show itw kvs (inv w) (wk kvs (wk kvs (itw kvs w p k) w) (inv w)) k = p
    rw [wk_inv A hls hsw (itw_lt A hw hp k) hw]
    exact itw_inv A hls hsw hw k hp
theorem itw_inv0 (A : Act n ls kvs) (hls : ∀ c ∈ ls, c ∈ LTR) (hsw : ∀ c ∈ ls, sw c ∈ ls) (hw : ∀ c ∈ w, c ∈ ls) (h0 : 0 < n) {k : Nat} (h : itw kvs w 0 k = 0) : itw kvs (inv w) 0 k = 0 := by
  have := itw_inv A hls hsw hw k h0
  rwa [h] at this
theorem LP.inv (A : Act n ls kvs) (hls : ∀ c ∈ ls, c ∈ LTR) (hsw : ∀ c ∈ ls, sw c ∈ ls) (hw : ∀ c ∈ w, c ∈ ls) (h0 : 0 < n) {m : Nat} (h : LP kvs w m) : LP kvs (inv w) m := by
  refine ⟨h.1, itw_inv0 A hls hsw hw h0 h.2.1, fun j h1 h2 hz => h.2.2 j h1 h2 ?_⟩
  have hi : ∀ c ∈ DL.inv w, c ∈ ls := fun c hc => by
    obtain ⟨x, hx, rfl⟩ := List.mem_map.mp hc
    exact hsw x (hw x (List.mem_reverse.mp hx))
  have := itw_inv0 A hls hsw hi h0 hz
  rwa [inv_inv fun c hc => hls c (hw c hc)] at this
end
end DL

namespace DL
open PySem PySem.Spec PyProof.Rows L2

/-! ### data as they are compared: ==, !=, <, > of any depth -/
mutual
def pyD : D → PyData
  | .non => .none
  | .bl b => .bool b
  | .int i => .int i
  | .str s => .str ⟨s.toArray⟩
  | .tup ds => .tuple (pyDs ds)
  | .ptp ds => .tuple (pyDs ds)
  | .lst ds => .list (pyDs ds)
  | .ty _ => .none
  | .stm => .none
  | .obn => .none
  | .exc .. => .none
  | .cls _ => .none
  | .dK _ => .none
  | .dT _ => .none
  | .dKx .. => .none
  | .dTx .. => .none
def pyDs : List D → List PyData
  | [] => []
  | d :: ds => pyD d :: pyDs ds
end
mutual
/-- what can be compared, of depth n at most -/
def plD : Nat → D → Bool
  | _, .non => true
  | _, .bl _ => true
  | _, .int _ => true
  | _, .str s => s.all fun c => decide (c < 0x110000)
  | n, .tup ds => decide (0 < n) && plDs (n - 1) ds
  | n, .ptp ds => decide (0 < n) && plDs (n - 1) ds
  | n, .lst ds => decide (0 < n) && plDs (n - 1) ds
  | _, .ty _ => false
  | _, .stm => false
  | _, .obn => false
  | _, .exc .. => false
  | _, .cls _ => false
  | _, .dK _ => false
  | _, .dT _ => false
  | _, .dKx .. => false
  | _, .dTx .. => false
def plDs : Nat → List D → Bool
  | _, [] => true
  | n, d :: ds => plD n d && plDs n ds
end
theorem plDs_all (n : Nat) (ds : List D) : plDs n ds = ds.all (plD n) := by
  induction ds with
  | nil => rfl
  | cons d ds ih => rw [plDs, ih, List.all_cons]
mutual
theorem dp_of {K : PySem.W.Frag} {st : Addr} {M : List Addr} {H : Hp} : ∀ {n : Nat} {d : D} {v : V}, plD n d = true → Is st M H v d → Dp K H v (pyD d)
  | _, .non, _, _, .non => by rw [pyD]; exact .non
  | _, .bl b, _, _, .bl _ => by rw [pyD]; exact .bl b
  | _, .int i, _, _, .int _ => by rw [pyD]; exact .int i
  | _, .str s, _, _, .str _ => by rw [pyD]; exact .str _
  | n, .tup ds, _, h, .tup hl hs => by
    rw [pyD]
    rw [plD, Bool.and_eq_true] at h
    exact .tup (.of hl) (dps_of h.2 hs)
  | n, .ptp ds, _, h, .ptp hm hl hc hs => by
    rw [pyD]
    rw [plD, Bool.and_eq_true] at h
    exact .tup (.ofF hl) (dps_of h.2 hs)
  | n, .lst ds, _, h, .lst hm hl hs => by
    rw [pyD]
    rw [plD, Bool.and_eq_true] at h
    exact .lst (.of hl) (dps_of h.2 hs)
  | _, .ty _, _, h, _ => by rw [plD] at h; cases h
  | _, .stm, _, h, _ => by rw [plD] at h; cases h
  | _, .obn, _, h, _ => by rw [plD] at h; cases h
  | _, .exc .., _, h, _ => by rw [plD] at h; cases h
  | _, .cls _, _, h, _ => by rw [plD] at h; cases h
  | _, .dK _, _, h, _ => by rw [plD] at h; cases h
  | _, .dT _, _, h, _ => by rw [plD] at h; cases h
  | _, .dKx .., _, h, _ => by rw [plD] at h; cases h
  | _, .dTx .., _, h, _ => by rw [plD] at h; cases h
theorem dps_of {K : PySem.W.Frag} {st : Addr} {M : List Addr} {H : Hp} : ∀ {n : Nat} {ds : List D} {vs : List V}, plDs n ds = true → Iss st M H vs ds → DpAll K H vs (pyDs ds)
  | _, [], _, _, .nil => by rw [pyDs]; exact .nil
  | n, d :: ds, _, h, .cons a b => by
    rw [pyDs]
    rw [plDs, Bool.and_eq_true] at h
    exact .cons (dp_of h.1 a) (dps_of h.2 b)
end
theorem strOk_of {s : List Nat} (h : (s.all fun c => decide (c < 0x110000)) = true) : PyData.strOk ⟨s.toArray⟩ = true := by
  unfold PyData.strOk
  simpa using h
mutual
theorem can_of : ∀ {n : Nat} {d : D}, plD n d = true → (pyD d).canLay0 = true ∧ (pyD d).depth ≤ n
  | n, .non, _ => by rw [pyD]; exact ⟨by simp [PyData.canLay0], by simp [PyData.depth]⟩
  | n, .bl b, _ => by rw [pyD]; exact ⟨by simp [PyData.canLay0], by simp [PyData.depth]⟩
  | n, .int i, _ => by rw [pyD]; exact ⟨by simp [PyData.canLay0], by simp [PyData.depth]⟩
  | n, .str s, h => by
    rw [pyD]
    rw [plD] at h
    exact ⟨by simp [PyData.canLay0, strOk_of h], by simp [PyData.depth]⟩
  | n, .tup ds, h => by
    rw [pyD]
    rw [plD, Bool.and_eq_true] at h
    have h0 : 0 < n := of_decide_eq_true h.1
    obtain ⟨a, b⟩ := cans_of h.2
    exact ⟨by simp [PyData.canLay0, a], by simp only [PyData.depth]; omega⟩
  | n, .ptp ds, h => by
    rw [pyD]
    rw [plD, Bool.and_eq_true] at h
    have h0 : 0 < n := of_decide_eq_true h.1
    obtain ⟨a, b⟩ := cans_of h.2
    exact ⟨by simp [PyData.canLay0, a], by simp only [PyData.depth]; omega⟩
  | n, .lst ds, h => by
    rw [pyD]
    rw [plD, Bool.and_eq_true] at h
    have h0 : 0 < n := of_decide_eq_true h.1
    obtain ⟨a, b⟩ := cans_of h.2
    exact ⟨by simp [PyData.canLay0, a], by simp only [PyData.depth]; omega⟩
  | _, .ty _, h => by rw [plD] at h; cases h
  | _, .stm, h => by rw [plD] at h; cases h
  | _, .obn, h => by rw [plD] at h; cases h
  | _, .exc .., h => by rw [plD] at h; cases h
  | _, .cls _, h => by rw [plD] at h; cases h
  | _, .dK _, h => by rw [plD] at h; cases h
  | _, .dT _, h => by rw [plD] at h; cases h
  | _, .dKx .., h => by rw [plD] at h; cases h
  | _, .dTx .., h => by rw [plD] at h; cases h
theorem cans_of : ∀ {n : Nat} {ds : List D}, plDs n ds = true → PyData.canLayAll0 (pyDs ds) = true ∧ PyData.depthAll (pyDs ds) ≤ n
  | n, [], _ => by rw [pyDs]; exact ⟨by simp [PyData.canLayAll0], by simp [PyData.depthAll]⟩
  | n, d :: ds, h => by
    rw [pyDs]
    rw [plDs, Bool.and_eq_true] at h
    obtain ⟨a, b⟩ := can_of h.1
    obtain ⟨a2, b2⟩ := cans_of h.2
    exact ⟨by simp [PyData.canLayAll0, a, a2], by simp only [PyData.depthAll]; omega⟩
end
theorem shp_of {n : Nat} (hn : n ≤ 40) {d : D} (h : plD n d = true) : SeqAt.shaped (pyD d) = true := by
  obtain ⟨a, b⟩ := can_of h
  unfold SeqAt.shaped
  rw [a, decide_eq_true (by omega)]
  rfl
section
variable {K : PySem.W.Frag} {post : D → Prop} {a b : D}
theorem dop_neG (n : Nat) (hn : n ≤ 40) (ha : plD n a = true) (hb : plD n b = true) (h : post (.bl (!PyData.eqv (pyD a) (pyD b)))) : Dop (rNeD K) a b post := fun st M H v w hst hM trk iv iw Q q =>
  ⟨_, _, dp_of ha iv, dp_of hb iw, shp_of hn ha, shp_of hn hb, q _ H _ h (Fx.refl _ _) (.bl _)⟩
/-- <, > of data that are alike -/
def rLtG (K : PySem.W.Frag) (sw : Bool) : R2 := fun x y H Q => ∃ d e, Dp K H x d ∧ Dp K H y e ∧ PySem.W.alike d e = true ∧ d ≠ .none ∧ d.depth ≤ 40 ∧ Q (.bl (if sw then PySem.W.dataLt e d else PySem.W.dataLt d e)) H
theorem od_ltG {X : Cx} (hu : X.A.units + 64 < cLine) : OpR X (compareOp .Lt) (rLtG X.K false) := by
  intro pins s σ H x y v u Q I rx ry h
  obtain ⟨d, e, hd, he, al, dn, dp, q⟩ := h
  obtain ⟨as, r1⟩ := Dp.reads I d x v hd rx
  obtain ⟨bs, r2⟩ := Dp.reads I e y u he ry
  exact PySem.W.lt_data r1 r2 al dn (by omega) ⟨.bl _, H, I, rfl, q⟩
theorem dop_ltG {sw : Bool} (n : Nat) (hn : n ≤ 40) (ha : plD n a = true) (hb : plD n b = true) (hal : PySem.W.alike (pyD a) (pyD b) = true) (hnn : pyD a ≠ .none) (h : post (.bl (if sw then PySem.W.dataLt (pyD b) (pyD a) else PySem.W.dataLt (pyD a) (pyD b)))) : Dop (rLtG K sw) a b post := fun st M H v w hst hM trk iv iw Q q =>
  ⟨_, _, dp_of ha iv, dp_of hb iw, hal, hnn, by have := (can_of ha).2; omega, q _ H _ h (Fx.refl _ _) (.bl _)⟩
end
/-- x[i], x a list or a tuple -/
theorem dop_ixg {K : PySem.W.Frag} {post : D → Prop} {l : List D} {x : D} {i : Int} {c : D} (hx : seqD x = some l) (e : atI l i = some c) (h : post c) : Dop (rIx K) x (.int i) post := by
  cases x with
  | tup ds => cases hx; exact dop_ixq (.inl rfl) e h
  | lst ds => cases hx; exact dop_ixq (.inr rfl) e h
  | ptp ds =>
    cases hx
    exact fun st M H v w h1 h2 h3 iv iw Q q => .inr (.inl (dop_ixz (x := .ptp l) rfl e h st M H v w h1 h2 h3 iv iw Q q))
  | _ => cases hx
/-! ### keys of words -/
end DL

namespace DL
open PySem PySem.Spec PyProof.Rows L2

/-! ### the words found are in order by length, and the first that lead there -/
theorem lex_app : ∀ {ns ms : List Int} (a b : List Int), ns.length = ms.length → HT.lexLt ns ms = true → HT.lexLt (ns ++ a) (ms ++ b) = true
  | [], [], _, _, _, h => by rw [lex_irr] at h; cases h
  | [], _ :: _, _, _, hl, _ => by simp at hl
  | _ :: _, [], _, _, hl, _ => by simp at hl
  | x :: xs, y :: ys, a, b, hl, h => by
    rw [HT.lexLt_cons] at h
    rw [List.cons_append, List.cons_append, HT.lexLt_cons]
    by_cases e : x = y
    · rw [if_pos e] at h ⊢
      exact lex_app a b (by simpa using hl) h
    · rw [if_neg e] at h ⊢
      exact h
theorem lex_same (a b : List Int) : ∀ ns : List Int, HT.lexLt (ns ++ a) (ns ++ b) = HT.lexLt a b
  | [] => rfl
  | x :: xs => by rw [List.cons_append, List.cons_append, HT.lexLt_cons, if_pos rfl, lex_same a b xs]
theorem ks_app (u v : List Nat) : ks (u ++ v) = ks u ++ ks v := List.map_append ..
theorem ks_len (u : List Nat) : (ks u).length = u.length := List.length_map ..
theorem ltW_iff {u v : List Nat} : ltW u v = true ↔ u.length < v.length ∨ (u.length = v.length ∧ HT.lexLt (ks u) (ks v) = true) := by
  unfold ltW ltN
  by_cases h : (u.length : Int) = (v.length : Int)
  · rw [if_pos h]
    constructor
    · intro z; exact .inr ⟨by omega, z⟩
    · rintro (z | ⟨_, z⟩)
      · omega
      · exact z
  · rw [if_neg h]
    constructor
    · intro z; exact .inl (by have := of_decide_eq_true z; omega)
    · rintro (z | ⟨z, _⟩)
      · exact decide_eq_true (by omega)
      · omega
theorem ltW_snoc {u v : List Nat} (c d : Nat) (h : ltW u v = true) : ltW (u ++ [c]) (v ++ [d]) = true := by
  rw [ltW_iff] at h ⊢
  rw [List.length_append, List.length_append, List.length_singleton, List.length_singleton, ks_app, ks_app]
  rcases h with h | ⟨h, h2⟩
  · exact .inl (by omega)
  · exact .inr ⟨by omega, lex_app _ _ (by rw [ks_len, ks_len]; exact h) h2⟩
theorem ltW_last {u : List Nat} {c d : Nat} (h : ixL c < ixL d) : ltW (u ++ [c]) (u ++ [d]) = true := by
  rw [ltW_iff]
  refine .inr ⟨by simp, ?_⟩
  rw [ks_app, ks_app, lex_same]
  show HT.lexLt [(ixL c : Int)] [(ixL d : Int)] = true
  rw [HT.lexLt_cons, if_neg (by omega)]
  exact decide_eq_true (by omega)
theorem ltW_nil (u : List Nat) (c : Nat) : ltW [] (u ++ [c]) = true := by
  rw [ltW_iff]
  exact .inl (by simp)
theorem ltW_asym {u v : List Nat} (h : ltW u v = true) : ltW v u = false := ltN_asym h
theorem ltW_irr (u : List Nat) : ltW u u = false := ltN_irr _ _
theorem snoc_ind {α : Type} {P : List α → Prop} (h0 : P []) (hs : ∀ u c, P u → P (u ++ [c])) (w : List α) : P w := by
  have : ∀ r : List α, P r.reverse := by
    intro r
    induction r with
    | nil => exact h0
    | cons c r ih => rw [List.reverse_cons]; exact hs _ _ ih
  have := this w.reverse
  rwa [List.reverse_reverse] at this
structure OI (kvs : List (List Key × V)) (ls : List Nat) (s : Fd) (t i : Nat) : Prop where
  srt : s.2.Pairwise fun u v => ltW u v = true
  form : ∀ w ∈ s.2, w = [] ∨ ∃ (t' c' : Nat) (u : List Nat), (t' < t ∨ (t' = t ∧ c' ∈ ls.take i)) ∧ s.2[t']? = some u ∧ w = u ++ [c']
  min : ∀ (t' p : Nat) (u : List Nat) (c' : Nat), (t' < t ∨ (t' = t ∧ c' ∈ ls.take i)) → c' ∈ ls → s.1[t']? = some p → s.2[t']? = some u → ∀ q, stO kvs p c' = some q → ∃ (k : Nat) (v : List Nat), s.1[k]? = some q ∧ s.2[k]? = some v ∧ ltW (u ++ [c']) v = false
def Asc (ls : List Nat) : Prop := ls.Pairwise fun a b => ixL a < ixL b
section
variable {kvs : List (List Key × V)} {ls : List Nat} {p0 N : Nat}
theorem OI.init : OI kvs ls ([p0], [[]]) 0 0 := ⟨by simp, fun w hw => .inl (List.mem_singleton.mp hw), fun t' p u c' h => by
  rcases h with h | ⟨_, h⟩
  · omega
  · simp at h⟩
theorem OI.stepL (M : Mv kvs N) (hA : Asc ls) {s : Fd} {t i c : Nat} (W : WI kvs ls p0 N s) (h : OI kvs ls s t i) (ht : t < s.1.length) (hc : ls[i]? = some c) : OI kvs ls (fwL kvs t s c) t (i + 1) := by
  obtain ⟨hp, hw, hpn, hwl⟩ := W.at ht
  have htk : ls.take (i + 1) = ls.take i ++ [c] := by rw [List.take_add_one, hc]; rfl
  have hcl : c ∈ ls := List.mem_of_getElem? hc
  have more : ∀ {t' c'}, (t' < t ∨ (t' = t ∧ c' ∈ ls.take i)) → (t' < t ∨ (t' = t ∧ c' ∈ ls.take (i + 1))) := fun {t' c'} z => z.imp_right fun z => ⟨z.1, by rw [htk]; exact List.mem_append_left _ z.2⟩
  have less : ∀ w ∈ s.2, ltW w (s.2.getD t [] ++ [c]) = true := fun w hwm => by
    rcases h.form w hwm with rfl | ⟨t', c', u, hh, hu, rfl⟩
    · exact ltW_nil _ _
    · rcases hh with hh | ⟨rfl, hh⟩
      · refine ltW_snoc _ _ ?_
        obtain ⟨j1, e1⟩ := List.getElem?_eq_some_iff.mp hu
        obtain ⟨j2, e2⟩ := List.getElem?_eq_some_iff.mp hw
        have := List.pairwise_iff_getElem.mp h.srt t' t j1 j2 hh
        rwa [e1, e2] at this
      · rw [hw] at hu
        obtain rfl := Option.some.inj hu
        refine ltW_last ?_
        obtain ⟨j, hj⟩ := List.mem_iff_getElem?.mp hh
        have hji : j < i := by
          have := (List.getElem?_eq_some_iff.mp hj).1
          rw [List.length_take] at this
          omega
        rw [List.getElem?_take, if_pos hji] at hj
        obtain ⟨j1, e1⟩ := List.getElem?_eq_some_iff.mp hj
        obtain ⟨j2, e2⟩ := List.getElem?_eq_some_iff.mp hc
        have := List.pairwise_iff_getElem.mp hA j i j1 j2 hji
        rwa [e1, e2] at this
  unfold fwL
  cases e : stO kvs (s.1.getD t 0) c with
  | none =>
    refine ⟨h.srt, fun w hwm => (h.form w hwm).imp_right fun ⟨t', c', u, a, b⟩ => ⟨t', c', u, more a, b⟩, fun t' p u c' hh hc' h1 h2 q hq => ?_⟩
    rcases hh with hh | ⟨rfl, hh⟩
    · exact h.min t' p u c' (.inl hh) hc' h1 h2 q hq
    · rw [htk] at hh
      rcases List.mem_append.mp hh with hh | hh
      · exact h.min t' p u c' (.inr ⟨rfl, hh⟩) hc' h1 h2 q hq
      · rw [List.mem_singleton.mp hh] at hq
        rw [hp] at h1
        rw [← Option.some.inj h1, e] at hq
        cases hq
  | some q0 =>
    dsimp only
    split
    · rename_i hm
      refine ⟨h.srt, fun w hwm => (h.form w hwm).imp_right fun ⟨t', c', u, a, b⟩ => ⟨t', c', u, more a, b⟩, fun t' p u c' hh hc' h1 h2 q hq => ?_⟩
      rcases hh with hh | ⟨rfl, hh⟩
      · exact h.min t' p u c' (.inl hh) hc' h1 h2 q hq
      · rw [htk] at hh
        rcases List.mem_append.mp hh with hh | hh
        · exact h.min t' p u c' (.inr ⟨rfl, hh⟩) hc' h1 h2 q hq
        · obtain rfl := List.mem_singleton.mp hh
          rw [hp] at h1
          rw [hw] at h2
          rw [← Option.some.inj h1, e] at hq
          obtain rfl := Option.some.inj hq
          obtain ⟨k, hk⟩ := List.mem_iff_getElem?.mp hm
          have hk2 : k < s.2.length := by rw [W.len]; exact (List.getElem?_eq_some_iff.mp hk).1
          refine ⟨k, _, hk, List.getElem?_eq_getElem hk2, ?_⟩
          rw [← Option.some.inj h2]
          exact ltW_asym (less _ (List.getElem_mem hk2))
    · rename_i hm
      have pre1 : ∀ {k x}, s.1[k]? = some x → (s.1 ++ [q0])[k]? = some x := fun {k x} z => by
        rw [List.getElem?_append_left (List.getElem?_eq_some_iff.mp z).1]; exact z
      have pre2 : ∀ {k x}, s.2[k]? = some x → (s.2 ++ [s.2.getD t [] ++ [c]])[k]? = some x := fun {k x} z => by
        rw [List.getElem?_append_left (List.getElem?_eq_some_iff.mp z).1]; exact z
      have htl : ∀ {t' c'}, (t' < t ∨ (t' = t ∧ c' ∈ ls.take (i + 1))) → t' < s.1.length := fun {t' c'} z => by
        rcases z with z | ⟨z, _⟩ <;> omega
      refine ⟨?_, fun w hwm => ?_, fun t' p u c' hh hc' h1 h2 q hq => ?_⟩
      · rw [List.pairwise_append]
        exact ⟨h.srt, by simp, fun a ha b hb => by rw [List.mem_singleton.mp hb]; exact less a ha⟩
      · rcases List.mem_append.mp hwm with z | z
        · exact (h.form w z).imp_right fun ⟨t', c', u, a, b, b2⟩ => ⟨t', c', u, more a, pre2 b, b2⟩
        · refine .inr ⟨t, c, s.2.getD t [], .inr ⟨rfl, by rw [htk]; simp⟩, pre2 hw, List.mem_singleton.mp z⟩
      · have hlt := htl hh
        have h1' : s.1[t']? = some p := by
          have h1 : (s.1 ++ [q0])[t']? = some p := h1
          rwa [List.getElem?_append_left hlt] at h1
        have h2' : s.2[t']? = some u := by
          have h2 : (s.2 ++ [s.2.getD t [] ++ [c]])[t']? = some u := h2
          rwa [List.getElem?_append_left (by rw [W.len]; exact hlt)] at h2
        have old : (t' < t ∨ (t' = t ∧ c' ∈ ls.take i)) → ∃ (k : Nat) (v : List Nat), (s.1 ++ [q0])[k]? = some q ∧ (s.2 ++ [s.2.getD t [] ++ [c]])[k]? = some v ∧ ltW (u ++ [c']) v = false := fun z => by
          obtain ⟨k, v, a, b, d⟩ := h.min t' p u c' z hc' h1' h2' q hq
          exact ⟨k, v, pre1 a, pre2 b, d⟩
        rcases hh with hh | ⟨rfl, hh⟩
        · exact old (.inl hh)
        · rw [htk] at hh
          rcases List.mem_append.mp hh with hh | hh
          · exact old (.inr ⟨rfl, hh⟩)
          · obtain rfl := List.mem_singleton.mp hh
            rw [hp] at h1'
            rw [hw] at h2'
            rw [← Option.some.inj h1', e] at hq
            obtain rfl := Option.some.inj hq
            refine ⟨s.1.length, s.2.getD t' [] ++ [c'], ?_, ?_, ?_⟩
            · show (s.1 ++ [q0])[s.1.length]? = _
              rw [List.getElem?_append_right (Nat.le_refl _), Nat.sub_self]
              rfl
            · show (s.2 ++ [_])[s.1.length]? = _
              rw [List.getElem?_append_right (by rw [W.len]; exact Nat.le_refl _), W.len, Nat.sub_self]
              rfl
            · rw [← Option.some.inj h2']
              exact ltW_irr _
theorem OI.stepLs (M : Mv kvs N) (hA : Asc ls) {s : Fd} {t : Nat} (W : WI kvs ls p0 N s) (h : OI kvs ls s t 0) (ht : t < s.1.length) : ∀ i, i ≤ ls.length → WI kvs ls p0 N ((ls.take i).foldl (fwL kvs t) s) ∧ OI kvs ls ((ls.take i).foldl (fwL kvs t) s) t i ∧ t < ((ls.take i).foldl (fwL kvs t) s).1.length
  | 0, _ => ⟨W, h, ht⟩
  | i + 1, hi => by
    obtain ⟨a, b, c⟩ := OI.stepLs M hA W h ht i (by omega)
    have hc : ls[i]? = some (ls[i]'(by omega)) := List.getElem?_eq_getElem _
    have e : (ls.take (i + 1)).foldl (fwL kvs t) s = fwL kvs t ((ls.take i).foldl (fwL kvs t) s) (ls[i]'(by omega)) := by
      rw [List.take_add_one, hc, List.foldl_append]
      rfl
    rw [e]
    obtain ⟨a2, b2, _⟩ := a.stepL M c (List.getElem_mem (by omega : i < ls.length))
    exact ⟨a2, b.stepL M hA a c hc, Nat.lt_of_lt_of_le c b2.length_le⟩
theorem OI.next {s : Fd} {t : Nat} (h : OI kvs ls s t ls.length) : OI kvs ls s (t + 1) 0 := by
  have tk : ls.take ls.length = ls := List.take_length
  refine ⟨h.srt, fun w hw => (h.form w hw).imp_right fun ⟨t', c', u, a, b⟩ => ⟨t', c', u, .inl (by rcases a with a | ⟨a, _⟩ <;> omega), b⟩, fun t' p u c' hh hc' h1 h2 q hq => ?_⟩
  refine h.min t' p u c' ?_ hc' h1 h2 q hq
  rcases hh with hh | ⟨_, hh⟩
  · by_cases e : t' = t
    · exact .inr ⟨e, by rw [tk]; exact hc'⟩
    · exact .inl (by omega)
  · simp at hh
theorem OI.range (M : Mv kvs N) (hA : Asc ls) (h0 : p0 < N) : ∀ m, OI kvs ls (fw kvs ls p0 m) m 0
  | 0 => .init
  | m + 1 => by
    have h := OI.range M hA h0 m
    have W := (WI.range (ls := ls) M h0 m).1
    rw [fw_succ]
    unfold fwT
    split
    · rename_i ht
      obtain ⟨_, b, _⟩ := OI.stepLs M hA W h ht ls.length (Nat.le_refl _)
      rw [List.take_length] at b
      exact b.next
    · rename_i ht
      refine ⟨h.srt, fun w hw => (h.form w hw).imp_right fun ⟨t', c', u, a, b⟩ => ⟨t', c', u, .inl (by rcases a with a | ⟨a, _⟩ <;> omega), b⟩, fun t' p u c' hh hc' h1 h2 q hq => ?_⟩
      have := (List.getElem?_eq_some_iff.mp h1).1
      exact h.min t' p u c' (.inl (by omega)) hc' h1 h2 q hq
end
end DL

namespace DL
open PySem PySem.Spec PyProof.Rows L2

/-! ### points identified: a list tells for each point the least one of its class -/
theorem getD_mapN {f : Nat → Nat} {l : List Nat} {p : Nat} (h : p < l.length) : (l.map f).getD p 0 = f (l.getD p 0) := by
  simp [List.getD_eq_getElem?_getD, h]
def idf (l : List Nat) (a b : Nat) : List Nat :=
  l.map fun p => if p = max (l.getD a 0) (l.getD b 0) then min (l.getD a 0) (l.getD b 0) else p
def ker (l : List Nat) (a b : Nat) : Prop := l.getD a 0 = l.getD b 0
instance (l : List Nat) (a b : Nat) : Decidable (ker l a b) := inferInstanceAs (Decidable (_ = _))
structure Lp (n : Nat) (l : List Nat) : Prop where
  len : l.length = n
  le : ∀ p, p < n → l.getD p 0 ≤ p
  id : ∀ p, p < n → l.getD (l.getD p 0) 0 = l.getD p 0
theorem idf_len (l : List Nat) (a b : Nat) : (idf l a b).length = l.length := by unfold idf; rw [List.length_map]
theorem idf_at {l : List Nat} {a b p : Nat} (h : p < l.length) : (idf l a b).getD p 0 = if l.getD p 0 = max (l.getD a 0) (l.getD b 0) then min (l.getD a 0) (l.getD b 0) else l.getD p 0 := getD_mapN h
theorem idf_lp {n : Nat} {l : List Nat} {a b : Nat} (h : Lp n l) (ha : a < n) (hb : b < n) : Lp n (idf l a b) := by
  have hl := h.len
  have la := h.le a ha
  have lb := h.le b hb
  have ia := h.id a ha
  have ib := h.id b hb
  refine ⟨by rw [idf_len, hl], fun p hp => ?_, fun p hp => ?_⟩
  · have := h.le p hp
    rw [idf_at (by omega)]
    split <;> omega
  · have lp := h.le p hp
    have ip := h.id p hp
    rw [idf_at (p := p) (by omega)]
    by_cases c : l.getD p 0 = max (l.getD a 0) (l.getD b 0)
    · rw [if_pos c]
      rw [idf_at (by omega)]
      rcases Nat.le_total (l.getD a 0) (l.getD b 0) with z | z
      · rw [Nat.min_eq_left z, ia]
        split <;> omega
      · rw [Nat.min_eq_right z, ib]
        split <;> omega
    · rw [if_neg c, idf_at (by omega), ip, if_neg c]
theorem idf_ker {l : List Nat} {a b p q : Nat} (hp : p < l.length) (hq : q < l.length) (h : ker l p q) : ker (idf l a b) p q := by
  unfold ker at *
  rw [idf_at hp, idf_at hq, h]
theorem idf_joins {n : Nat} {l : List Nat} {a b : Nat} (h : Lp n l) (ha : a < n) (hb : b < n) : ker (idf l a b) a b := by
  have hl := h.len
  unfold ker
  rw [idf_at (by omega), idf_at (by omega)]
  split <;> split <;> omega
theorem idf_same {l : List Nat} {a b : Nat} (h : ker l a b) : idf l a b = l := by
  unfold idf
  rw [show l.getD a 0 = l.getD b 0 from h, Nat.max_self, Nat.min_self]
  conv => rhs; rw [← List.map_id l]
  refine List.map_congr_left fun p _ => ?_
  split
  · rename_i e
    exact e.symm
  · rfl
theorem sum_map_le {f : Nat → Nat} : ∀ (l : List Nat), (∀ x ∈ l, f x ≤ x) → (l.map f).sum ≤ l.sum
  | [], _ => Nat.le_refl _
  | x :: l, h => by
    have h1 := h x List.mem_cons_self
    have h2 := sum_map_le l fun y hy => h y (List.mem_cons_of_mem _ hy)
    simp only [List.map_cons, List.sum_cons]
    omega
theorem sum_map_lt {f : Nat → Nat} : ∀ (l : List Nat), (∀ x ∈ l, f x ≤ x) → (∃ x ∈ l, f x < x) → (l.map f).sum < l.sum
  | [], _, h => by obtain ⟨_, z, _⟩ := h; cases z
  | x :: l, h, h3 => by
    have h1 := h x List.mem_cons_self
    have h2 := sum_map_le l fun y hy => h y (List.mem_cons_of_mem _ hy)
    obtain ⟨y, hy, hlt⟩ := h3
    simp only [List.map_cons, List.sum_cons]
    rcases List.mem_cons.mp hy with rfl | hy
    · omega
    · have := sum_map_lt l (fun y hy => h y (List.mem_cons_of_mem _ hy)) ⟨y, hy, hlt⟩
      omega
theorem getD_mem {l : List Nat} {a : Nat} (h : a < l.length) : l.getD a 0 ∈ l := by
  rw [List.getD_eq_getElem?_getD, List.getElem?_eq_getElem h]
  exact List.getElem_mem h
theorem idf_sum (l : List Nat) (a b : Nat) : (idf l a b).sum ≤ l.sum := sum_map_le l fun x _ => by split <;> omega
theorem idf_sum_lt {l : List Nat} {a b : Nat} (ha : a < l.length) (hb : b < l.length) (h : ¬ ker l a b) : (idf l a b).sum < l.sum := by
  refine sum_map_lt l (fun x _ => by split <;> omega) ⟨max (l.getD a 0) (l.getD b 0), ?_, ?_⟩
  · rcases Nat.le_total (l.getD a 0) (l.getD b 0) with z | z
    · rw [Nat.max_eq_right z]; exact getD_mem hb
    · rw [Nat.max_eq_left z]; exact getD_mem ha
  · rw [if_pos rfl]
    have h' : l.getD a 0 ≠ l.getD b 0 := h
    omega
/-- what has to hold of any identifying that keeps the rules -/
structure Cong (es : List Ed) (ends : List Nat) (R : Nat → Nat → Prop) : Prop where
  refl : ∀ a, R a a
  symm : ∀ {a b}, R a b → R b a
  trans : ∀ {a b c}, R a b → R b c → R a c
  ends : ∀ e ∈ ends, R e 0
  fwd : ∀ e ∈ es, ∀ f ∈ es, e.2.1 = f.2.1 → R e.1 f.1 → R e.2.2 f.2.2
  bwd : ∀ e ∈ es, ∀ f ∈ es, e.2.1 = f.2.1 → R e.2.2 f.2.2 → R e.1 f.1
def Snd (es : List Ed) (ends : List Nat) (l : List Nat) : Prop := ∀ R, Cong es ends R → ∀ p, p < l.length → R p (l.getD p 0)
structure Clo (es : List Ed) (ends : List Nat) (l : List Nat) : Prop where
  ends : ∀ e ∈ ends, ker l e 0
  fwd : ∀ e ∈ es, ∀ f ∈ es, e.2.1 = f.2.1 → ker l e.1 f.1 → ker l e.2.2 f.2.2
  bwd : ∀ e ∈ es, ∀ f ∈ es, e.2.1 = f.2.1 → ker l e.2.2 f.2.2 → ker l e.1 f.1
theorem Clo.cong {es : List Ed} {ends l : List Nat} (h : Clo es ends l) : Cong es ends (ker l) :=
  ⟨fun _ => rfl, fun h => Eq.symm h, fun h1 h2 => Eq.trans h1 h2, h.ends, h.fwd, h.bwd⟩
structure Lsq (es : List Ed) (ends : List Nat) (n : Nat) (l : List Nat) : Prop where
  lp : Lp n l
  snd : Snd es ends l
  clo : Clo es ends l
theorem Lsq.uniq {es : List Ed} {ends : List Nat} {n : Nat} {l m : List Nat} (h : Lsq es ends n l) (k : Lsq es ends n m) : l = m := by
  have half : ∀ {l m : List Nat}, Lsq es ends n l → Lsq es ends n m → ∀ p, p < n → m.getD p 0 ≤ l.getD p 0 := fun {l m} h k p hp => by
    have e : m.getD p 0 = m.getD (l.getD p 0) 0 := h.snd _ k.clo.cong p (by rw [h.lp.len]; exact hp)
    have := h.lp.le p hp
    rw [e]
    exact k.lp.le _ (by omega)
  refine List.ext_getElem (h.lp.len.trans k.lp.len.symm) fun p h1 h2 => ?_
  have hp : p < n := by rw [← h.lp.len]; exact h1
  have a := half h k p hp
  have b := half k h p hp
  have e1 : l.getD p 0 = l[p] := by simp [List.getD_eq_getElem?_getD, h1]
  have e2 : m.getD p 0 = m[p] := by simp [List.getD_eq_getElem?_getD, h2]
  omega
theorem idf_snd {es : List Ed} {ends : List Nat} {n : Nat} {l : List Nat} {a b : Nat} (hl : Lp n l) (ha : a < n) (hb : b < n) (h : Snd es ends l) (hR : ∀ R, Cong es ends R → R a b) : Snd es ends (idf l a b) := fun R C p hp => by
  rw [idf_len] at hp
  have hn := hl.len
  have r0 := h R C p hp
  rw [idf_at hp]
  split
  · rename_i c
    have ra := h R C a (by omega)
    have rb := h R C b (by omega)
    have rab := hR R C
    rw [c] at r0
    rcases Nat.le_total (l.getD a 0) (l.getD b 0) with z | z
    · rw [Nat.max_eq_right z] at r0
      rw [Nat.min_eq_left z]
      exact C.trans r0 (C.trans (C.symm rb) (C.trans (C.symm rab) ra))
    · rw [Nat.max_eq_left z] at r0
      rw [Nat.min_eq_right z]
      exact C.trans r0 (C.trans (C.symm ra) (C.trans rab rb))
  · exact r0
theorem lp_range (n : Nat) : Lp n (List.range n) := by
  have e : ∀ p, p < n → (List.range n).getD p 0 = p := fun p hp => by simp [List.getD_eq_getElem?_getD, hp]
  exact ⟨List.length_range, fun p hp => by rw [e p hp]; exact Nat.le_refl _, fun p hp => by rw [e p hp, e p hp]⟩
theorem snd_range (es : List Ed) (ends : List Nat) (n : Nat) : Snd es ends (List.range n) := fun R C p hp => by
  rw [List.length_range] at hp
  have e : (List.range n).getD p 0 = p := by simp [List.getD_eq_getElem?_getD, hp]
  rw [e]
  exact C.refl p

/-! ### one pass over the moves -/
def rev2 (e : Ed) : Ed := (e.2.2, sw e.2.1, e.1)
def mvl (es : List Ed) : List Ed := es.flatMap fun e => [e, rev2 e]
abbrev Fs := List Nat × List (List Key × V)
def stepF (s : Fs) (m : Ed) : Fs := match stO s.2 (s.1.getD m.1 0) m.2.1 with
  | some g => (idf s.1 g m.2.2, s.2)
  | none => (s.1, putK s.2 (kk (s.1.getD m.1 0) m.2.1) (.int (m.2.2 : Int)))
def foldM (s : Fs) (ms : List Ed) : Fs := ms.foldl stepF s
def fo (l : List Nat) (es : List Ed) : List Nat := (foldM (l, []) (mvl es)).1
theorem stO_put (kvs : List (List Key × V)) (c k g c' k' : Nat) : stO (putK kvs (kk c k) (.int (g : Int))) c' k' = if c' = c ∧ k' = k then some g else stO kvs c' k' := by
  unfold stO
  rw [valV_put]
  by_cases h : kk c' k' = kk c k
  · rw [if_pos h, if_pos (kk_inj.mp h)]
    rfl
  · rw [if_neg h, if_neg (fun z => h (kk_inj.mpr z))]
theorem mv_nil (n : Nat) : Mv [] n := fun p c v h => by simp [valV] at h
theorem mv_put {kvs : List (List Key × V)} {n c k g : Nat} (h : Mv kvs n) (hg : g < n) : Mv (putK kvs (kk c k) (.int (g : Int))) n := fun p s v e => by
  rw [valV_put] at e
  split at e
  · cases e
    exact ⟨g, rfl, hg⟩
  · exact h p s v e
theorem mem_mvl {es : List Ed} {m : Ed} : m ∈ mvl es ↔ ∃ e ∈ es, m = e ∨ m = rev2 e := by
  unfold mvl
  rw [List.mem_flatMap]
  constructor
  · rintro ⟨e, he, hm⟩
    refine ⟨e, he, ?_⟩
    simpa using hm
  · rintro ⟨e, he, hm⟩
    exact ⟨e, he, by simpa using hm⟩
theorem sw_inj {c d : Nat} (hc : c ∈ SM) (hd : d ∈ SM) (h : sw c = sw d) : c = d := by
  have e : ∀ c ∈ SM, ∀ d ∈ SM, sw c = sw d → c = d := by decide
  exact e c hc d hd h
theorem Cong.mv {es : List Ed} {ends : List Nat} {R : Nat → Nat → Prop} (C : Cong es ends R) (hs : ∀ e ∈ es, e.2.1 ∈ SM) {m m' : Ed} (hm : m ∈ mvl es) (hm' : m' ∈ mvl es) (hk : m.2.1 = m'.2.1) (h : R m.1 m'.1) : R m.2.2 m'.2.2 := by
  obtain ⟨e, he, q⟩ := mem_mvl.mp hm
  obtain ⟨f, hf, q'⟩ := mem_mvl.mp hm'
  have se := hs e he
  have sf := hs f hf
  rcases q with rfl | rfl <;> rcases q' with rfl | rfl
  · exact C.fwd _ he _ hf hk h
  · exact absurd (by have := se; rw [show m.2.1 = sw f.2.1 from hk] at this; exact this) (SM_sw sf)
  · exact absurd (by have := sf; rw [show m'.2.1 = sw e.2.1 from hk.symm] at this; exact this) (SM_sw se)
  · exact C.bwd _ he _ hf (sw_inj se sf hk) h
/-- edges between points below n -/
def Ebd (n : Nat) (es : List Ed) : Prop := ∀ e ∈ es, e.1 < n ∧ e.2.2 < n ∧ e.2.1 ∈ SM
theorem Ebd.mv {n : Nat} {es : List Ed} (h : Ebd n es) {m : Ed} (hm : m ∈ mvl es) : m.1 < n ∧ m.2.2 < n ∧ m.2.1 ∈ LTR := by
  obtain ⟨e, he, q⟩ := mem_mvl.mp hm
  obtain ⟨a, b, c⟩ := h e he
  have hsw : ∀ c ∈ SM, sw c ∈ LTR := by decide
  rcases q with rfl | rfl
  · exact ⟨a, b, SM_LTR c⟩
  · exact ⟨b, a, hsw _ c⟩
structure Fi (es : List Ed) (ends : List Nat) (n : Nat) (s : Fs) : Prop where
  lp : Lp n s.1
  snd : Snd es ends s.1
  mv : Mv s.2 n
  why : ∀ c k g, stO s.2 c k = some g → ∃ p, (p, k, g) ∈ mvl es ∧ ∀ R, Cong es ends R → R p c
theorem Fi.step {es : List Ed} {ends : List Nat} {n : Nat} {s : Fs} {m : Ed} (hE : Ebd n es) (h : Fi es ends n s) (hm : m ∈ mvl es) : Fi es ends n (stepF s m) := by
  obtain ⟨b1, b2, b3⟩ := hE.mv hm
  have hs : ∀ e ∈ es, e.2.1 ∈ SM := fun e he => (hE e he).2.2
  have hl := h.lp.len
  unfold stepF
  cases e : stO s.2 (s.1.getD m.1 0) m.2.1 with
  | some g =>
    obtain ⟨hg, _⟩ := stO_lt h.mv e
    obtain ⟨p, hp, hR⟩ := h.why _ _ _ e
    refine ⟨idf_lp h.lp hg b2, idf_snd h.lp hg b2 h.snd fun R C => ?_, h.mv, h.why⟩
    exact C.mv hs hp hm rfl (C.trans (hR R C) (C.symm (h.snd R C m.1 (by omega))))
  | none =>
    refine ⟨h.lp, h.snd, mv_put h.mv b2, fun c k g q => ?_⟩
    rw [stO_put] at q
    split at q
    · rename_i z
      cases q
      obtain ⟨rfl, rfl⟩ := z
      exact ⟨m.1, hm, fun R C => h.snd R C m.1 (by omega)⟩
    · exact h.why c k g q
theorem Fi.run {es : List Ed} {ends : List Nat} {n : Nat} (hE : Ebd n es) : ∀ (ms : List Ed) {s : Fs}, Fi es ends n s → (∀ m ∈ ms, m ∈ mvl es) → Fi es ends n (foldM s ms)
  | [], _, h, _ => h
  | m :: ms, s, h, hm => Fi.run hE ms (h.step hE (hm m List.mem_cons_self)) fun x hx => hm x (List.mem_cons_of_mem _ hx)
theorem stepF_len (s : Fs) (m : Ed) : (stepF s m).1.length = s.1.length := by
  unfold stepF
  split
  · exact idf_len _ _ _
  · rfl
theorem stepF_sum (s : Fs) (m : Ed) : (stepF s m).1.sum ≤ s.1.sum := by
  unfold stepF
  split
  · exact idf_sum _ _ _
  · exact Nat.le_refl _
theorem stepF_ker (s : Fs) (m : Ed) {p q : Nat} (hp : p < s.1.length) (hq : q < s.1.length) (h : ker s.1 p q) : ker (stepF s m).1 p q := by
  unfold stepF
  split
  · exact idf_ker hp hq h
  · exact h
theorem foldM_len : ∀ (ms : List Ed) (s : Fs), (foldM s ms).1.length = s.1.length
  | [], _ => rfl
  | m :: ms, s => (foldM_len ms (stepF s m)).trans (stepF_len s m)
theorem foldM_sum : ∀ (ms : List Ed) (s : Fs), (foldM s ms).1.sum ≤ s.1.sum
  | [], _ => Nat.le_refl _
  | m :: ms, s => Nat.le_trans (foldM_sum ms (stepF s m)) (stepF_sum s m)
theorem foldM_ker : ∀ (ms : List Ed) (s : Fs) {p q : Nat}, p < s.1.length → q < s.1.length → ker s.1 p q → ker (foldM s ms).1 p q
  | [], _, _, _, _, _, h => h
  | m :: ms, s, p, q, hp, hq, h => foldM_ker ms (stepF s m) (by rw [stepF_len]; exact hp) (by rw [stepF_len]; exact hq) (stepF_ker s m hp hq h)
/-- a pass that changes nothing in the end changed nothing on its way -/
theorem foldM_fix {n : Nat} : ∀ (ms : List Ed) (s : Fs), s.1.length = n → Mv s.2 n → (∀ m ∈ ms, m.1 < n ∧ m.2.2 < n) → (foldM s ms).1.sum = s.1.sum →
    (foldM s ms).1 = s.1 ∧ (∀ c k g, stO s.2 c k = some g → stO (foldM s ms).2 c k = some g) ∧
    ∀ m ∈ ms, ∃ g, stO (foldM s ms).2 (s.1.getD m.1 0) m.2.1 = some g ∧ ker s.1 g m.2.2
  | [], s, _, _, _, _ => ⟨rfl, fun _ _ _ h => h, fun _ z => nomatch z⟩
  | m :: ms, s, hl, hM, hb, hsum => by
    obtain ⟨b1, b2⟩ := hb m List.mem_cons_self
    have s1 := foldM_sum ms (stepF s m)
    have s2 := stepF_sum s m
    have hsum' : (foldM (stepF s m) ms).1.sum = s.1.sum := hsum
    have key : (stepF s m).1 = s.1 ∧ Mv (stepF s m).2 n ∧ (∀ c k g, stO s.2 c k = some g → stO (stepF s m).2 c k = some g) ∧ ∃ g, stO (stepF s m).2 (s.1.getD m.1 0) m.2.1 = some g ∧ ker s.1 g m.2.2 := by
      cases e : stO s.2 (s.1.getD m.1 0) m.2.1 with
      | some g =>
        have e' : stepF s m = (idf s.1 g m.2.2, s.2) := by unfold stepF; rw [e]
        obtain ⟨hg, _⟩ := stO_lt hM e
        have hk : ker s.1 g m.2.2 := Decidable.byContradiction fun z => by
          have := idf_sum_lt (l := s.1) (a := g) (b := m.2.2) (by omega) (by omega) z
          rw [e'] at s1
          rw [e'] at hsum'
          have s1' : (foldM (idf s.1 g m.2.2, s.2) ms).1.sum ≤ (idf s.1 g m.2.2).sum := s1
          omega
        rw [e']
        exact ⟨idf_same hk, hM, fun _ _ _ z => z, g, e, hk⟩
      | none =>
        have e' : stepF s m = (s.1, putK s.2 (kk (s.1.getD m.1 0) m.2.1) (.int (m.2.2 : Int))) := by unfold stepF; rw [e]
        rw [e']
        refine ⟨rfl, mv_put hM b2, fun c k g z => ?_, m.2.2, ?_, rfl⟩
        · rw [stO_put]
          split
          · rename_i q
            obtain ⟨rfl, rfl⟩ := q
            rw [e] at z
            cases z
          · exact z
        · rw [stO_put, if_pos ⟨rfl, rfl⟩]
    obtain ⟨k1, k2, k3, g, k4, k5⟩ := key
    obtain ⟨i1, i2, i3⟩ := foldM_fix ms (stepF s m) (by rw [stepF_len]; exact hl) k2 (fun x hx => hb x (List.mem_cons_of_mem _ hx)) (by rw [k1]; exact hsum')
    rw [k1] at i1 i3
    refine ⟨i1, fun c k g z => i2 _ _ _ (k3 _ _ _ z), fun x hx => ?_⟩
    rcases List.mem_cons.mp hx with rfl | hx
    · exact ⟨g, i2 _ _ _ k4, k5⟩
    · exact i3 x hx
theorem fo_sum (l : List Nat) (es : List Ed) : (fo l es).sum ≤ l.sum := foldM_sum (mvl es) (l, [])
theorem fo_lt {n : Nat} {l : List Nat} {es : List Ed} (hl : l.length = n) (hE : Ebd n es) (h : fo l es ≠ l) : (fo l es).sum < l.sum := by
  have h1 := fo_sum l es
  rcases Nat.lt_or_ge (fo l es).sum l.sum with z | z
  · exact z
  · exact absurd (foldM_fix (mvl es) (l, []) hl (mv_nil n) (fun m hm => ⟨(hE.mv hm).1, (hE.mv hm).2.1⟩) (Nat.le_antisymm h1 z)).1 h
/-- what is kept from pass to pass -/
structure Li (es : List Ed) (ends : List Nat) (n : Nat) (l : List Nat) : Prop where
  lp : Lp n l
  snd : Snd es ends l
  ends : ∀ e ∈ ends, ker l e 0
theorem Li.fo {es : List Ed} {ends : List Nat} {n : Nat} {l : List Nat} (hE : Ebd n es) (he : ∀ e ∈ ends, e < n) (h0 : 0 < n) (h : Li es ends n l) : Li es ends n (fo l es) := by
  have F := Fi.run hE (mvl es) (s := (l, [])) ⟨h.lp, h.snd, mv_nil n, fun c k g z => by simp [stO, valV] at z⟩ fun _ z => z
  refine ⟨F.lp, F.snd, fun e q => foldM_ker (mvl es) (l, []) ?_ ?_ (h.ends e q)⟩
  · show e < l.length
    rw [h.lp.len]; exact he e q
  · show 0 < l.length
    rw [h.lp.len]; exact h0
theorem Li.done {es : List Ed} {ends : List Nat} {n : Nat} {l : List Nat} (hE : Ebd n es) (h : Li es ends n l) (hf : DL.fo l es = l) : Lsq es ends n l := by
  obtain ⟨_, _, i3⟩ := foldM_fix (mvl es) (l, []) h.lp.len (mv_nil n) (fun m hm => ⟨(hE.mv hm).1, (hE.mv hm).2.1⟩) (by show (DL.fo l es).sum = _; rw [hf])
  have key : ∀ m ∈ mvl es, ∀ m' ∈ mvl es, m.2.1 = m'.2.1 → ker l m.1 m'.1 → ker l m.2.2 m'.2.2 := fun m hm m' hm' hk hq => by
    obtain ⟨g, a1, a2⟩ := i3 m hm
    obtain ⟨g', b1, b2⟩ := i3 m' hm'
    have hq' : l.getD m.1 0 = l.getD m'.1 0 := hq
    rw [hk] at a1
    rw [show (l, ([] : List (List Key × V))).1.getD m.1 0 = l.getD m'.1 0 from hq'] at a1
    rw [a1] at b1
    cases b1
    exact Eq.trans (Eq.symm a2) b2
  refine ⟨h.lp, h.snd, h.ends, fun e he f hf hk hq => ?_, fun e he f hf hk hq => ?_⟩
  · exact key e (mem_mvl.mpr ⟨e, he, .inl rfl⟩) f (mem_mvl.mpr ⟨f, hf, .inl rfl⟩) hk hq
  · exact key (rev2 e) (mem_mvl.mpr ⟨e, he, .inr rfl⟩) (rev2 f) (mem_mvl.mpr ⟨f, hf, .inr rfl⟩) (by show sw _ = sw _; rw [hk]) hq
theorem foldM_dlen : ∀ (ms : List Ed) (s : Fs), (foldM s ms).2.length ≤ s.2.length + ms.length
  | [], _ => Nat.le_refl _
  | m :: ms, s => by
    have h := foldM_dlen ms (stepF s m)
    have h2 : (stepF s m).2.length ≤ s.2.length + 1 := by
      unfold stepF
      split
      · exact Nat.le_succ _
      · exact put_len _ _ _
    show (foldM (stepF s m) ms).2.length ≤ _
    rw [List.length_cons]
    omega

/-! ### the points and edges of petals -/
def edB (p c q : Nat) : Ed := if c ∈ SM then (p, c, q) else (q, sw c, p)
abbrev Ps := List Ed × Nat × Nat
def ptS (s : Ps) (c : Nat) : Ps := (s.1 ++ [edB s.2.1 c s.2.2], s.2.2, s.2.2 + 1)
def ptW (s : List Ed × List Nat × Nat) (w : List Nat) : List Ed × List Nat × Nat :=
  ((w.foldl ptS (s.1, 0, s.2.2)).1, s.2.1 ++ [(w.foldl ptS (s.1, 0, s.2.2)).2.1], (w.foldl ptS (s.1, 0, s.2.2)).2.2)
def ptl (ws : List (List Nat)) : List Ed × List Nat × Nat := (ws.map fold).foldl ptW ([], [], 1)
structure Pi1 (s : Ps) : Prop where
  len : s.2.2 = s.1.length + 1
  pl : s.2.1 < s.2.2
  eb : Ebd s.2.2 s.1
theorem Ebd.more {n m : Nat} {es : List Ed} (h : Ebd n es) (hm : n ≤ m) : Ebd m es := fun e he => by
  obtain ⟨a, b, c⟩ := h e he
  exact ⟨by omega, by omega, c⟩
theorem Pi1.step {s : Ps} (h : Pi1 s) {c : Nat} (hc : c ∈ LTR) : Pi1 (ptS s c) := by
  have h1 := h.len
  have h2 := h.pl
  refine ⟨by show s.2.2 + 1 = _; rw [show (ptS s c).1 = s.1 ++ [edB s.2.1 c s.2.2] from rfl, List.length_append, List.length_singleton]; omega, by show s.2.2 < s.2.2 + 1; omega, fun e he => ?_⟩
  rcases List.mem_append.mp he with z | z
  · exact h.eb.more (Nat.le_succ _) e z
  · rw [List.mem_singleton.mp z]
    have hsw : ∀ c ∈ LTR, c ∉ SM → sw c ∈ SM := by decide
    show (edB s.2.1 c s.2.2).1 < s.2.2 + 1 ∧ (edB s.2.1 c s.2.2).2.2 < s.2.2 + 1 ∧ _
    unfold edB
    split
    · rename_i q
      exact ⟨by show s.2.1 < _; omega, by show s.2.2 < _; omega, q⟩
    · rename_i q
      exact ⟨by show s.2.2 < _; omega, by show s.2.1 < _; omega, hsw c hc q⟩
theorem Pi1.run : ∀ (w : List Nat) {s : Ps}, Pi1 s → (∀ c ∈ w, c ∈ LTR) → Pi1 (w.foldl ptS s)
  | [], _, h, _ => h
  | c :: w, s, h, hw => Pi1.run w (h.step (hw c List.mem_cons_self)) fun x hx => hw x (List.mem_cons_of_mem _ hx)
theorem ptS_len : ∀ (w : List Nat) (s : Ps), (w.foldl ptS s).1.length = s.1.length + w.length
  | [], _ => rfl
  | c :: w, s => by
    rw [List.foldl_cons, ptS_len w, show (ptS s c).1 = s.1 ++ [edB s.2.1 c s.2.2] from rfl, List.length_append, List.length_singleton, List.length_cons]
    omega
structure Pi2 (s : List Ed × List Nat × Nat) : Prop where
  len : s.2.2 = s.1.length + 1
  eb : Ebd s.2.2 s.1
  ends : ∀ x ∈ s.2.1, x < s.2.2
theorem Pi2.step {s : List Ed × List Nat × Nat} (h : Pi2 s) {w : List Nat} (hw : ∀ c ∈ w, c ∈ LTR) : Pi2 (ptW s w) := by
  have h0 := h.len
  have P := Pi1.run w (s := (s.1, 0, s.2.2)) ⟨h.len, by show 0 < s.2.2; omega, h.eb⟩ hw
  have L := ptS_len w (s.1, 0, s.2.2)
  have P1 := P.len
  refine ⟨P.len, P.eb, fun x hx => ?_⟩
  rcases List.mem_append.mp hx with z | z
  · have := h.ends x z
    show x < (w.foldl ptS (s.1, 0, s.2.2)).2.2
    rw [P1, L]
    show x < s.1.length + w.length + 1
    omega
  · rw [List.mem_singleton.mp z]
    exact P.pl
theorem Pi2.run : ∀ (ws : List (List Nat)) {s : List Ed × List Nat × Nat}, Pi2 s → (∀ w ∈ ws, ∀ c ∈ w, c ∈ LTR) → Pi2 (ws.foldl ptW s)
  | [], _, h, _ => h
  | w :: ws, s, h, hw => Pi2.run ws (h.step (hw w List.mem_cons_self)) fun x hx => hw x (List.mem_cons_of_mem _ hx)
theorem pi2_nil : Pi2 ([], [], 1) := ⟨rfl, (fun _ z => nomatch z), (fun _ z => nomatch z)⟩
theorem ptW_lens : ∀ (ws : List (List Nat)) (s : List Ed × List Nat × Nat) (k : Nat), (∀ w ∈ ws, w.length ≤ k) → (ws.foldl ptW s).1.length ≤ s.1.length + ws.length * k ∧ (ws.foldl ptW s).2.1.length = s.2.1.length + ws.length
  | [], _, _, _ => ⟨by simp, rfl⟩
  | w :: ws, s, k, h => by
    obtain ⟨a, b⟩ := ptW_lens ws (ptW s w) k fun x hx => h x (List.mem_cons_of_mem _ hx)
    have hw := h w List.mem_cons_self
    have L : (ptW s w).1.length = s.1.length + w.length := ptS_len w (s.1, 0, s.2.2)
    have L2 : (ptW s w).2.1.length = s.2.1.length + 1 := by show (s.2.1 ++ [_]).length = _; rw [List.length_append, List.length_singleton]
    rw [List.foldl_cons, List.length_cons, Nat.add_mul, Nat.one_mul]
    exact ⟨by omega, by omega⟩

/-! ### rows of points as data -/
theorem rowI_len (l : List Nat) : ((rowI l).map D.int).length = l.length := by unfold rowI; rw [List.length_map, List.length_map]
theorem rowI_at {l : List Nat} {a : Nat} (h : a < l.length) : atI ((rowI l).map D.int) (a : Int) = some (.int ((l.getD a 0 : Nat) : Int)) := by
  refine atI_at (by omega) ?_
  rw [show ((a : Int)).toNat = a by omega]
  unfold rowI
  rw [List.map_map, List.getElem?_map, List.getElem?_eq_getElem h, List.getD_eq_getElem?_getD, List.getElem?_eq_getElem h]
  rfl
theorem rowI_get {l : List Nat} {i : Nat} {d : D} (h : ((rowI l).map D.int)[i]? = some d) : ∃ x : Nat, l[i]? = some x ∧ d = .int (x : Int) := by
  unfold rowI at h
  rw [List.map_map, List.getElem?_map] at h
  obtain ⟨x, hx, rfl⟩ := Option.map_eq_some_iff.mp h
  exact ⟨x, hx, rfl⟩
theorem row_take_snoc {l : List Nat} {i : Nat} {x : Nat} (h : l[i]? = some x) (g : Nat → Nat) : (rowI ((l.take i).map g)).map D.int ++ [.int ((g x : Nat) : Int)] = (rowI ((l.take (i + 1)).map g)).map D.int := by
  rw [List.take_add_one, h]
  unfold rowI
  simp
theorem eqvAll_row : ∀ (l m : List Nat), PyData.eqvAll (pyDs ((rowI l).map D.int)) (pyDs ((rowI m).map D.int)) = decide (l = m)
  | [], [] => by simp [rowI, pyDs, PyData.eqvAll]
  | [], b :: m => by simp [rowI, pyDs, PyData.eqvAll]
  | a :: l, [] => by simp [rowI, pyDs, PyData.eqvAll]
  | a :: l, b :: m => by
    have ih := eqvAll_row l m
    unfold rowI at ih ⊢
    simp only [List.map_cons, pyDs, pyD, PyData.eqvAll, PyData.eqv] at ih ⊢
    rw [ih]
    by_cases h : a = b
    · subst h
      by_cases h2 : l = m
      · subst h2; simp
      · simp [h2]
    · have : ¬ ((a : Int) = (b : Int)) := by omega
      simp [h, this]
theorem eqv_row (l m : List Nat) : PyData.eqv (pyD (.lst ((rowI l).map D.int))) (pyD (.lst ((rowI m).map D.int))) = decide (l = m) := by
  rw [pyD, pyD, PyData.eqv]
  exact eqvAll_row l m
theorem plDs_row (n : Nat) (l : List Nat) : plDs n ((rowI l).map D.int) = true := by
  rw [plDs_all, List.all_eq_true]
  intro d hd
  obtain ⟨i, _, rfl⟩ := List.mem_map.mp hd
  cases n <;> rfl
theorem plD_row (l : List Nat) : plD 1 (.lst ((rowI l).map D.int)) = true := by
  rw [plD, plDs_row]
  rfl
theorem row_snoc (l : List Nat) (x : Nat) : (rowI l).map D.int ++ [.int (x : Int)] = (rowI (l ++ [x])).map D.int := by unfold rowI; rw [List.map_append, List.map_append]; rfl
theorem min_int (x y : Nat) : (if (y : Int) < (x : Int) then (y : Int) else x) = ((min x y : Nat) : Int) := by split <;> omega
theorem max_int (x y : Nat) : (if (y : Int) > (x : Int) then (y : Int) else x) = ((max x y : Nat) : Int) := by split <;> omega
theorem rgI_row (n : Nat) : rgI 0 n = (rowI (List.range n)).map D.int := by
  refine List.ext_getElem? fun i => ?_
  by_cases h : i < n
  · rw [rgI_get _ _ _ h]
    unfold rowI
    rw [List.map_map, List.getElem?_map, List.getElem?_range h]
    simp
  · rw [List.getElem?_eq_none (by rw [rgI_len]; omega), List.getElem?_eq_none (by rw [rowI_len, List.length_range]; omega)]

/-! ### the law's way to the same points -/
def wantE (l : List Nat) (e f : Ed) : List (Nat × Nat) :=
  if e.2.1 = f.2.1 then (if ker l e.1 f.1 then [(e.2.2, f.2.2)] else []) ++ (if ker l e.2.2 f.2.2 then [(e.1, f.1)] else []) else []
def want (l : List Nat) (es : List Ed) (ends : List Nat) : List (Nat × Nat) := (ends.map fun e => (e, 0)) ++ es.flatMap fun e => es.flatMap fun f => wantE l e f
def ltS (s : List Nat × Bool) (x : Nat × Nat) : List Nat × Bool := if ker s.1 x.1 x.2 then s else (idf s.1 x.1 x.2, true)
def ltR (l : List Nat) (ws : List (Nat × Nat)) : List Nat × Bool := ws.foldl ltS (l, false)
theorem mem_wantE {l : List Nat} {e f : Ed} {x : Nat × Nat} : x ∈ wantE l e f ↔ e.2.1 = f.2.1 ∧ ((ker l e.1 f.1 ∧ x = (e.2.2, f.2.2)) ∨ (ker l e.2.2 f.2.2 ∧ x = (e.1, f.1))) := by
  unfold wantE
  by_cases h : e.2.1 = f.2.1
  · rw [if_pos h, List.mem_append]
    by_cases a : ker l e.1 f.1 <;> by_cases b : ker l e.2.2 f.2.2 <;> simp [a, b, h]
  · rw [if_neg h]
    simp [h]
theorem mem_want {l : List Nat} {es : List Ed} {ends : List Nat} {x : Nat × Nat} : x ∈ want l es ends ↔ (∃ e ∈ ends, x = (e, 0)) ∨ ∃ e ∈ es, ∃ f ∈ es, x ∈ wantE l e f := by
  unfold want
  rw [List.mem_append, List.mem_map, List.mem_flatMap]
  constructor
  · rintro (⟨e, he, rfl⟩ | ⟨e, he, h⟩)
    · exact .inl ⟨e, he, rfl⟩
    · obtain ⟨f, hf, h⟩ := List.mem_flatMap.mp h
      exact .inr ⟨e, he, f, hf, h⟩
  · rintro (⟨e, he, rfl⟩ | ⟨e, he, f, hf, h⟩)
    · exact .inl ⟨e, he, rfl⟩
    · exact .inr ⟨e, he, List.mem_flatMap.mpr ⟨f, hf, h⟩⟩
theorem ltS_lp {n : Nat} {s : List Nat × Bool} {x : Nat × Nat} (h : Lp n s.1) (h1 : x.1 < n) (h2 : x.2 < n) : Lp n (ltS s x).1 := by
  unfold ltS
  split
  · exact h
  · exact idf_lp h h1 h2
theorem ltF_lp {n : Nat} : ∀ (ws : List (Nat × Nat)) {s : List Nat × Bool}, Lp n s.1 → (∀ x ∈ ws, x.1 < n ∧ x.2 < n) → Lp n (ws.foldl ltS s).1
  | [], _, h, _ => h
  | x :: ws, s, h, hb => ltF_lp ws (ltS_lp h (hb x List.mem_cons_self).1 (hb x List.mem_cons_self).2) fun y hy => hb y (List.mem_cons_of_mem _ hy)
theorem ltF_snd {es : List Ed} {ends : List Nat} {n : Nat} : ∀ (ws : List (Nat × Nat)) {s : List Nat × Bool}, Lp n s.1 → Snd es ends s.1 → (∀ x ∈ ws, x.1 < n ∧ x.2 < n) → (∀ x ∈ ws, ∀ R, Cong es ends R → R x.1 x.2) → Snd es ends (ws.foldl ltS s).1
  | [], _, _, h, _, _ => h
  | x :: ws, s, hl, h, hb, hR => by
    have b := hb x List.mem_cons_self
    refine ltF_snd ws (ltS_lp hl b.1 b.2) ?_ (fun y hy => hb y (List.mem_cons_of_mem _ hy)) fun y hy => hR y (List.mem_cons_of_mem _ hy)
    unfold ltS
    split
    · exact h
    · exact idf_snd hl b.1 b.2 h (hR x List.mem_cons_self)
theorem ltF_sum {n : Nat} : ∀ (ws : List (Nat × Nat)) {s : List Nat × Bool}, Lp n s.1 → (∀ x ∈ ws, x.1 < n ∧ x.2 < n) →
    ((ws.foldl ltS s = s ∧ ∀ x ∈ ws, ker s.1 x.1 x.2) ∨ ((ws.foldl ltS s).2 = true ∧ (ws.foldl ltS s).1.sum < s.1.sum))
  | [], s, _, _ => .inl ⟨rfl, fun _ z => nomatch z⟩
  | x :: ws, s, hl, hb => by
    have b := hb x List.mem_cons_self
    have hn := hl.len
    have ih := ltF_sum ws (ltS_lp hl b.1 b.2) fun y hy => hb y (List.mem_cons_of_mem _ hy)
    rw [List.foldl_cons]
    by_cases k : ker s.1 x.1 x.2
    · have e : ltS s x = s := if_pos k
      rw [e] at ih ⊢
      rcases ih with ⟨i1, i2⟩ | ih
      · exact .inl ⟨i1, fun y hy => (List.mem_cons.mp hy).elim (fun z => z ▸ k) (i2 y)⟩
      · exact .inr ih
    · have e : ltS s x = (idf s.1 x.1 x.2, true) := if_neg k
      have hlt := idf_sum_lt (l := s.1) (a := x.1) (b := x.2) (by omega) (by omega) k
      rw [e] at ih ⊢
      rcases ih with ⟨i1, i2⟩ | ⟨i1, i2⟩
      · exact .inr ⟨by rw [i1], by rw [i1]; exact hlt⟩
      · exact .inr ⟨i1, Nat.lt_trans i2 hlt⟩
theorem want_bd {n : Nat} {l : List Nat} {es : List Ed} {ends : List Nat} (hE : Ebd n es) (he : ∀ e ∈ ends, e < n) (h0 : 0 < n) {x : Nat × Nat} (h : x ∈ want l es ends) : x.1 < n ∧ x.2 < n := by
  rcases mem_want.mp h with ⟨e, q, rfl⟩ | ⟨e, q, f, r, h⟩
  · exact ⟨he e q, h0⟩
  · obtain ⟨_, z⟩ := mem_wantE.mp h
    rcases z with ⟨_, rfl⟩ | ⟨_, rfl⟩
    · exact ⟨(hE e q).2.1, (hE f r).2.1⟩
    · exact ⟨(hE e q).1, (hE f r).1⟩
theorem want_R {n : Nat} {l : List Nat} {es : List Ed} {ends : List Nat} (hl : l.length = n) (hE : Ebd n es) (hs : Snd es ends l) {x : Nat × Nat} (h : x ∈ want l es ends) (R : Nat → Nat → Prop) (C : Cong es ends R) : R x.1 x.2 := by
  have up : ∀ {a b : Nat}, a < n → b < n → ker l a b → R a b := fun {a b} ha hb k => by
    have r1 := hs R C a (by omega)
    have r2 := hs R C b (by omega)
    rw [show l.getD a 0 = l.getD b 0 from k] at r1
    exact C.trans r1 (C.symm r2)
  rcases mem_want.mp h with ⟨e, q, rfl⟩ | ⟨e, q, f, r, h⟩
  · exact C.ends e q
  · obtain ⟨hk, z⟩ := mem_wantE.mp h
    rcases z with ⟨k, rfl⟩ | ⟨k, rfl⟩
    · exact C.fwd e q f r hk (up (hE e q).1 (hE f r).1 k)
    · exact C.bwd e q f r hk (up (hE e q).2.1 (hE f r).2.1 k)
/-- turn by turn -/
structure Lt (es : List Ed) (ends : List Nat) (n t : Nat) (l : List Nat) (ch : Bool) : Prop where
  lp : Lp n l
  snd : Snd es ends l
  off : ch = false → Clo es ends l
  on : ch = true → l.sum + t ≤ n * n
theorem sum_le_range {n : Nat} {l : List Nat} (hl : l.length = n) (h : ∀ x ∈ l, x ≤ n) : l.sum ≤ n * n := by
  have : ∀ l : List Nat, (∀ x ∈ l, x ≤ n) → l.sum ≤ l.length * n := by
    intro l
    induction l with
    | nil => intro _; simp
    | cons x l ih =>
      intro h
      have h1 := h x List.mem_cons_self
      have h2 := ih fun y hy => h y (List.mem_cons_of_mem _ hy)
      rw [List.sum_cons, List.length_cons, Nat.add_mul, Nat.one_mul]
      omega
  have := this l h
  rwa [hl] at this
theorem Lt.init (es : List Ed) (ends : List Nat) (n : Nat) : Lt es ends n 0 (List.range n) true :=
  ⟨lp_range n, snd_range es ends n, (fun z => nomatch z), fun _ => sum_le_range List.length_range fun x hx => Nat.le_of_lt (List.mem_range.mp hx)⟩
theorem Lt.stay {es : List Ed} {ends : List Nat} {n t : Nat} {l : List Nat} (h : Lt es ends n t l false) : Lt es ends n (t + 1) l false := ⟨h.lp, h.snd, h.off, (fun z => nomatch z)⟩
theorem Lt.turn {es : List Ed} {ends : List Nat} {n t : Nat} {l : List Nat} (hE : Ebd n es) (he : ∀ e ∈ ends, e < n) (h0 : 0 < n) (h : Lt es ends n t l true) : Lt es ends n (t + 1) (ltR l (want l es ends)).1 (ltR l (want l es ends)).2 := by
  have hb : ∀ x ∈ want l es ends, x.1 < n ∧ x.2 < n := fun x hx => want_bd hE he h0 hx
  have hs := h.on rfl
  unfold ltR
  refine ⟨ltF_lp _ h.lp hb, ltF_snd _ h.lp h.snd hb fun x hx R C => want_R h.lp.len hE h.snd hx R C, fun z => ?_, fun z => ?_⟩
  · rcases ltF_sum (want l es ends) (s := (l, false)) h.lp hb with ⟨a, b⟩ | ⟨a, _⟩
    · rw [a]
      refine ⟨fun e q => b (e, 0) (mem_want.mpr (.inl ⟨e, q, rfl⟩)), fun e q f r hk k => b (e.2.2, f.2.2) (mem_want.mpr (.inr ⟨e, q, f, r, mem_wantE.mpr ⟨hk, .inl ⟨k, rfl⟩⟩⟩)), fun e q f r hk k => b (e.1, f.1) (mem_want.mpr (.inr ⟨e, q, f, r, mem_wantE.mpr ⟨hk, .inr ⟨k, rfl⟩⟩⟩))⟩
    · rw [z] at a
      cases a
  · rcases ltF_sum (want l es ends) (s := (l, false)) h.lp hb with ⟨a, b⟩ | ⟨_, b⟩
    · rw [a] at z
      cases z
    · have b' : ((want l es ends).foldl ltS (l, false)).1.sum < l.sum := b
      omega
theorem Lt.done {es : List Ed} {ends : List Nat} {n t : Nat} {l : List Nat} {ch : Bool} (h : Lt es ends n t l ch) (ht : n * n < t) : Lsq es ends n l := by
  refine ⟨h.lp, h.snd, ?_⟩
  cases ch with
  | false => exact h.off rfl
  | true =>
    have := h.on rfl
    omega

/-- a family as data -/
def famD (r : Int) (ws : List (List Nat)) : D := .tup [.int r, .tup (ws.map D.str)]

section
variable {env : Nv} {tas : TA} {K : PySem.W.Frag}
end
theorem foldM_mv {n : Nat} : ∀ (ms : List Ed) {s : Fs}, Mv s.2 n → (∀ m ∈ ms, m.2.2 < n) → Mv (foldM s ms).2 n
  | [], _, h, _ => h
  | m :: ms, s, h, hb => by
    refine foldM_mv ms (s := stepF s m) ?_ fun x hx => hb x (List.mem_cons_of_mem _ hx)
    unfold stepF
    split
    · exact h
    · exact mv_put h (hb m List.mem_cons_self)
theorem foldM_app (s : Fs) (a b : List Ed) : foldM s (a ++ b) = foldM (foldM s a) b := by unfold foldM; rw [List.foldl_append]
theorem mvl_take {es : List Ed} {i : Nat} {e : Ed} (h : es[i]? = some e) : mvl (es.take (i + 1)) = mvl (es.take i) ++ [e, rev2 e] := by
  unfold mvl
  rw [List.take_add_one, h, List.flatMap_append]
  rfl
theorem mvl_len (es : List Ed) : (mvl es).length = 2 * es.length := by
  induction es with
  | nil => rfl
  | cons e es ih =>
    show (e :: rev2 e :: mvl es).length = _
    rw [List.length_cons, List.length_cons, ih, List.length_cons]
    omega
theorem mvl_sub {es : List Ed} {i : Nat} {m : Ed} (h : m ∈ mvl (es.take i)) : m ∈ mvl es := by
  obtain ⟨e, he, q⟩ := mem_mvl.mp h
  exact mem_mvl.mpr ⟨e, List.mem_of_mem_take he, q⟩
/-- the ends are identified with the beginning -/
def endsF (l : List Nat) (xs : List Nat) : List Nat := xs.foldl (fun l e => idf l 0 e) l
theorem endsF_inv {es : List Ed} {ends : List Nat} {n : Nat} (he : ∀ e ∈ ends, e < n) (h0 : 0 < n) : ∀ (xs : List Nat) {l : List Nat}, Lp n l → Snd es ends l → (∀ x ∈ xs, x ∈ ends) →
    Lp n (endsF l xs) ∧ Snd es ends (endsF l xs) ∧ (∀ p q, p < n → q < n → ker l p q → ker (endsF l xs) p q) ∧ ∀ x ∈ xs, ker (endsF l xs) x 0
  | [], l, hl, hs, _ => ⟨hl, hs, fun _ _ _ _ h => h, fun _ z => nomatch z⟩
  | x :: xs, l, hl, hs, hx => by
    have hxe := hx x List.mem_cons_self
    have hxn := he x hxe
    obtain ⟨a, b, c, d⟩ := endsF_inv he h0 xs (l := idf l 0 x) (idf_lp hl h0 hxn) (idf_snd hl h0 hxn hs fun R C => C.symm (C.ends x hxe)) fun y hy => hx y (List.mem_cons_of_mem _ hy)
    have e : endsF l (x :: xs) = endsF (idf l 0 x) xs := rfl
    rw [e]
    refine ⟨a, b, fun p q hp hq h => c p q hp hq (idf_ker (by rw [hl.len]; exact hp) (by rw [hl.len]; exact hq) h), fun y hy => ?_⟩
    rcases List.mem_cons.mp hy with rfl | hy
    · exact c _ _ hxn h0 (Eq.symm (idf_joins hl h0 hxn))
    · exact d y hy
theorem endsF_li {es : List Ed} {ends : List Nat} {n : Nat} (he : ∀ e ∈ ends, e < n) (h0 : 0 < n) : Li es ends n (endsF (List.range n) ends) := by
  obtain ⟨a, b, _, d⟩ := endsF_inv (es := es) he h0 ends (lp_range n) (snd_range es ends n) fun _ z => z
  exact ⟨a, b, d⟩
theorem endsF_len (xs : List Nat) : ∀ l : List Nat, (endsF l xs).length = l.length := by
  induction xs with
  | nil => intro l; rfl
  | cons x xs ih =>
    intro l
    show (endsF (idf l 0 x) xs).length = _
    rw [ih, idf_len]
theorem endsF_take {l xs : List Nat} {i x : Nat} (h : xs[i]? = some x) : endsF l (xs.take (i + 1)) = idf (endsF l (xs.take i)) 0 x := by
  unfold endsF
  rw [List.take_add_one, h, List.foldl_append]
  rfl
/-- what is known of the points of petals -/
theorem ptl_ok {ws : List (List Nat)} (h : ∀ w ∈ ws, Lts w) : Pi2 (ptl ws) := Pi2.run (ws.map fold) pi2_nil fun w hw => by
  obtain ⟨v, hv, rfl⟩ := List.mem_map.mp hw
  exact fold_lts (h v hv)
theorem ptl_lens {ws : List (List Nat)} {k : Nat} (h : ∀ w ∈ ws, w.length ≤ k) : (ptl ws).1.length ≤ ws.length * k ∧ (ptl ws).2.1.length = ws.length := by
  obtain ⟨a, b⟩ := ptW_lens (ws.map fold) ([], [], 1) k fun w q => by
    obtain ⟨v, hv, rfl⟩ := List.mem_map.mp q
    exact Nat.le_trans (fold_len v) (h v hv)
  rw [List.length_map] at a b
  exact ⟨by simpa [ptl] using a, by simpa [ptl] using b⟩
end DL

namespace DL
open PySem PySem.Spec PyProof.Rows L2

/-! ### t + u, both with items, the new tuple's object known -/
def rCatF (K : PySem.W.Frag) : R2 := fun x y H Q => ∃ p q us ws, x = .ref p ∧ y = .ref q ∧ (SqT K H p us ∧ SqT K H q ws) ∧ (us ≠ [] ∧ ws ≠ []) ∧ us.length + ws.length ≤ sizeLine ∧
  ∀ (l : Addr) (o : Obj), H l = none → o.cls = .type "tuple" → o.dict = none → Q (.ref l) (upd H l (.frz o (.tup (us ++ ws))))
section
variable {K : PySem.W.Frag} {post : D → Prop}
end

/-! ### y = {k: v for ..}, on one row, y a local -/
section
variable {X : Cx}
end

/-! ### .. over data -/
def wipeE (env : Nv) : List Nat → Nv
  | [] => env
  | i :: is => (wipeE env is).set i .any
theorem Sr.wipes {B : Bs} {M : List Addr} {H : Hp} {σ : L2.St} {env : Nv} (S : Sr B M σ H env) : ∀ is : List Nat, Sr B M (wipe σ is) H (wipeE env is)
  | [] => S
  | i :: is => (Sr.wipes S is).any
/-- a target that writes these slots alone -/
def Only (g : TG) (is : List Nat) : Prop := ∀ x σ H (Q : L2.St → Hp → Prop), g x σ H Q → g x σ H fun σ2 H2 => wipe σ2 is = wipe σ is ∧ Q σ2 H2
theorem wipe_set {σ : L2.St} {i : Nat} {v : Option V} : ∀ {is : List Nat}, i ∈ is → wipe (σ.set i v) is = wipe σ is
  | j :: is, h => by
    unfold wipe
    by_cases q : i ∈ is
    · rw [wipe_set q]
    · have e : i = j := (List.mem_cons.mp h).resolve_right q
      subst e
      have key : ∀ (is : List Nat) (σ : L2.St), (wipe (σ.set i v) is).set i none = (wipe σ is).set i none := by
        intro is
        induction is with
        | nil => intro σ; unfold wipe; rw [List.set_set]
        | cons k ks ih =>
          intro σ
          unfold wipe
          by_cases z : k = i
          · subst z
            rw [List.set_set, List.set_set]
            exact ih σ
          · rw [List.set_comm _ _ z, List.set_comm _ _ z, ih σ]
      exact key is σ
theorem wipe_wipe {σ : L2.St} {is : List Nat} : ∀ {js : List Nat}, (∀ j ∈ js, j ∈ is) → wipe (wipe σ js) is = wipe σ is
  | [], _ => rfl
  | j :: js, h => by
    show wipe ((wipe σ js).set j none) is = _
    rw [wipe_set (h j List.mem_cons_self), wipe_wipe fun k hk => h k (List.mem_cons_of_mem _ hk)]
section
variable {B : Bs} {M : List Addr} {H : Hp} {σ : L2.St} {env : Nv} {K : PySem.W.Frag}
end
end DL

namespace DL
open PySem PySem.Spec PyProof.Rows L2

/-! ### tuple(range(n)) -/
/-! ### one action's points taken to those of another one -/
structure Mor (ls : List Nat) (kvs kvs' : List (List Key × V)) (P : Nat → Prop) (f : Nat → Nat) : Prop where
  zero : P 0
  f0 : f 0 = 0
  clo : ∀ p c, P p → c ∈ ls → P (stp kvs p c)
  step : ∀ p c, P p → c ∈ ls → stp kvs' (f p) c = f (stp kvs p c)
  inj : ∀ p q, P p → P q → f p = f q → p = q
section
variable {ls : List Nat} {kvs kvs' : List (List Key × V)} {P : Nat → Prop} {f : Nat → Nat}
theorem Mor.wk (m : Mor ls kvs kvs' P f) : ∀ (w : List Nat) {p : Nat}, P p → (∀ c ∈ w, c ∈ ls) → DL.wk kvs' (f p) w = f (DL.wk kvs p w) ∧ P (DL.wk kvs p w)
  | [], p, h, _ => ⟨rfl, h⟩
  | c :: w, p, h, hw => by
    have hc := hw c List.mem_cons_self
    have ih := Mor.wk m w (m.clo p c h hc) fun x hx => hw x (List.mem_cons_of_mem _ hx)
    refine ⟨?_, ih.2⟩
    show DL.wk kvs' (stp kvs' (f p) c) w = _
    rw [m.step p c h hc]
    exact ih.1
def mapF (f : Nat → Nat) (s : Fd) : Fd := (s.1.map f, s.2)
theorem Mor.fnL (m : Mor ls kvs kvs' P f) {s : Fd} {t c : Nat} (hs : ∀ x ∈ s.1, P x) (ht : t < s.1.length) (hc : c ∈ ls) : fnL kvs' t (mapF f s) c = mapF f (DL.fnL kvs t s c) ∧ (∀ x ∈ (DL.fnL kvs t s c).1, P x) ∧ s.1.length ≤ (DL.fnL kvs t s c).1.length := by
  have hp : P (s.1.getD t 0) := hs _ (getD_mem ht)
  have e0 : (mapF f s).1.getD t 0 = f (s.1.getD t 0) := getD_mapN ht
  have hq := m.clo _ c hp hc
  have e1 : (stp kvs' ((mapF f s).1.getD t 0) c ∈ (mapF f s).1) ↔ stp kvs (s.1.getD t 0) c ∈ s.1 := by
    rw [e0, m.step _ c hp hc]
    show f _ ∈ s.1.map f ↔ _
    rw [List.mem_map]
    constructor
    · rintro ⟨x, hx, e⟩
      rw [← m.inj _ _ (hs x hx) hq e]
      exact hx
    · exact fun h => ⟨_, h, rfl⟩
  unfold DL.fnL
  by_cases h : stp kvs (s.1.getD t 0) c ∈ s.1
  · rw [if_pos h, if_pos (e1.mpr h)]
    exact ⟨rfl, hs, Nat.le_refl _⟩
  · rw [if_neg h, if_neg (fun z => h (e1.mp z)), e0, m.step _ c hp hc]
    refine ⟨?_, fun x hx => ?_, by rw [List.length_append]; omega⟩
    · unfold mapF
      rw [List.map_append]
      rfl
    · rcases List.mem_append.mp hx with z | z
      · exact hs x z
      · rw [List.mem_singleton.mp z]; exact hq
theorem Mor.fnLs (m : Mor ls kvs kvs' P f) {t : Nat} : ∀ (cs : List Nat) {s : Fd}, (∀ x ∈ s.1, P x) → t < s.1.length → (∀ c ∈ cs, c ∈ ls) → cs.foldl (DL.fnL kvs' t) (mapF f s) = mapF f (cs.foldl (DL.fnL kvs t) s) ∧ ∀ x ∈ (cs.foldl (DL.fnL kvs t) s).1, P x
  | [], s, hs, _, _ => ⟨rfl, hs⟩
  | c :: cs, s, hs, ht, hc => by
    obtain ⟨a, b, d⟩ := m.fnL hs ht (hc c List.mem_cons_self)
    rw [List.foldl_cons, List.foldl_cons, a]
    exact Mor.fnLs m cs b (by omega) fun x hx => hc x (List.mem_cons_of_mem _ hx)
theorem Mor.fnd (m : Mor ls kvs kvs' P f) : ∀ n : Nat, DL.fnd kvs' ls n = mapF f (DL.fnd kvs ls n) ∧ ∀ x ∈ (DL.fnd kvs ls n).1, P x
  | 0 => ⟨by show ([0], [[]]) = (([f 0], [[]]) : Fd); rw [m.f0], fun x hx => by rw [List.mem_singleton.mp hx]; exact m.zero⟩
  | n + 1 => by
    obtain ⟨a, b⟩ := Mor.fnd m n
    have e : ∀ kvs, DL.fnd kvs ls (n + 1) = fnT kvs ls (DL.fnd kvs ls n) n := fun kvs => by unfold DL.fnd; rw [List.range_succ, List.foldl_append]; rfl
    rw [e, e, a]
    unfold fnT
    have hl : (mapF f (DL.fnd kvs ls n)).1.length = (DL.fnd kvs ls n).1.length := List.length_map ..
    by_cases h : n < (DL.fnd kvs ls n).1.length
    · rw [if_pos h, if_pos (by rw [hl]; exact h)]
      exact m.fnLs ls b h fun _ z => z
    · rw [if_neg h, if_neg (by rw [hl]; exact h)]
      exact ⟨rfl, b⟩
end
/-! ### an action restricted to its orbit -/
def orbP (n : Nat) (rows : List (List Nat)) : List Nat := (fnd (mvs (edgesOf rows)) (lsR rows.length) n).1
def rsW (ps : List Nat) (r : List Nat) : List Nat := ps.map fun p => ps.idxOf (r.getD p 0)
def rsR (n : Nat) (rows : List (List Nat)) : List (List Nat) := rows.map (rsW (orbP n rows))
section
variable {n : Nat} {rows : List (List Nat)}
/-- what is known of the orbit -/
structure Orb (n : Nat) (rows : List (List Nat)) (ps : List Nat) : Prop where
  nd : ps.Nodup
  lt : ∀ x ∈ ps, x < n
  zero : ps[0]? = some 0
  clo : ∀ p ∈ ps, ∀ c ∈ lsR rows.length, stp (mvs (edgesOf rows)) p c ∈ ps
/-- a further point that is in no orbit -/
def moreR (n : Nat) (rows : List (List Nat)) : List (List Nat) := rows.map fun r => r ++ [n]
end

/-! ### a dict of numbers: each point's place -/
def nbD (ps : List Nat) : List (Key × V) := ps.mapIdx fun (i p : Nat) => (.inl (p : Int), .int (i : Int))
theorem nbD_snoc (ps : List Nat) (p : Nat) : nbD (ps ++ [p]) = nbD ps ++ [(.inl (p : Int), .int (ps.length : Int))] := by
  unfold nbD
  rw [List.mapIdx_append]
  show _ ++ [((Sum.inl (p : Int) : Key), V.int ((0 + ps.length : Nat) : Int))] = _
  rw [Nat.zero_add]
theorem nbD_len (ps : List Nat) : (nbD ps).length = ps.length := by unfold nbD; rw [List.length_mapIdx]
theorem nbD_put {ps : List Nat} {p : Nat} (h : p ∉ ps) : putK (nbD ps) (.inl (p : Int)) (.int (ps.length : Int)) = nbD (ps ++ [p]) := by
  unfold putK
  rw [if_neg, nbD_snoc]
  intro z
  obtain ⟨kv, hkv, e⟩ := List.any_eq_true.mp z
  have e' := of_decide_eq_true e
  unfold nbD at hkv
  obtain ⟨i, hi, rfl⟩ := List.mem_mapIdx.mp hkv
  have : (Sum.inl ((ps[i] : Nat) : Int) : Key) = .inl (p : Int) := e'
  injection this with this
  have e2 : ps[i] = p := by omega
  exact h (e2 ▸ List.getElem_mem hi)
theorem nbD_at : ∀ {ps : List Nat}, ps.Nodup → ∀ {p : Nat}, p ∈ ps → valV (nbD ps) (.inl (p : Int)) = some (.int (ps.idxOf p : Nat)) := fun {ps} nd {p} hp => by
  have key : ∀ (ps : List Nat) (b : Nat), p ∈ ps → valV (ps.mapIdx fun (i p : Nat) => ((Sum.inl (p : Int) : Key), V.int ((b + i : Nat) : Int))) (.inl (p : Int)) = some (.int ((b + ps.idxOf p : Nat) : Int)) := by
    intro ps
    induction ps with
    | nil => intro b h; cases h
    | cons q ps ih =>
      intro b h
      rw [List.mapIdx_cons]
      by_cases e : q = p
      · subst e
        rw [valV_pos rfl, List.idxOf_cons_self]
      · rw [valV_neg (by
          show ¬ (Sum.inl (q : Int) : Key) = .inl (p : Int)
          intro z
          injection z with z
          exact e (by omega))]
        have := ih (b + 1) ((List.mem_cons.mp h).resolve_left fun z => e z.symm)
        rw [show (q :: ps).idxOf p = (ps.idxOf p).succ by rw [List.idxOf_cons, show (q == p) = false by simpa using e]; rfl]
        rw [show b + (ps.idxOf p).succ = b + 1 + ps.idxOf p by omega, ← this]
        have ef : (fun (i p : Nat) => ((Sum.inl (p : Int) : Key), V.int ((b + (i + 1) : Nat) : Int))) = fun (i p : Nat) => ((Sum.inl (p : Int) : Key), V.int ((b + 1 + i : Nat) : Int)) := by
          funext i x
          rw [show b + (i + 1) = b + 1 + i by omega]
        rw [ef]
  have := key ps 0 hp
  rw [Nat.zero_add] at this
  rw [← this]
  unfold nbD
  simp

end DL

/-! sets of tuples whose items are carried by value, the items' kind any -/
namespace TK
open PySem PySem.Spec PyProof.Rows L2
section
variable {P : Program} {w : World} {A : Around} {E : Value → Shared → Prop} {s : Shared} {κ : Type} [DecidableEq κ] {knd : PySem.KeyKind P w κ}
theorem class_no {v : Value} (hv : carriedByValue v = true) (n : Nat) : ofAClassStatement n v = pure false := by
  cases v with
  | ref a => simp [carriedByValue] at hv
  | _ => cases n <;> rfl
theorem hash_some {v : Value} (hv : carriedByValue v = true) (n : Nat) : ∃ b, hashByValue n v = pure b := by
  cases v with
  | ref a => simp [carriedByValue] at hv
  | _ => cases n <;> exact ⟨_, rfl⟩
theorem class_tup {key : List κ} {at' : Addr} {Q : Bool → Shared → Prop} (hk : IsTupleKey knd s.heap key at') (go : Q false s) : wpAny (model P w) A (ofAClassStatement 8 (.ref at')) Q E s := by
  have ty := hk.typeIs
  obtain ⟨ob, its, cnt, hob, _, hdat, hits⟩ := hk
  unfold ofAClassStatement
  refine wpAny_bind (wpAny_typeOf ty ?_)
  dsimp only
  simp only [show (("tuple" : String) == "tuple") = true by decide, if_true, Bool.not_true, Bool.false_eq_true, if_false]
  first | refine wpAny_bind (wpAny_pure ?_) | skip
  first | simp only [Bool.not_true, Bool.false_eq_true, if_false] | skip
  show wpAny _ _ (seqItems? (.ref at') >>= _) _ _ s
  refine wpAny_bind (wpAny_seqItems hob hdat ?_)
  dsimp only
  refine wpAny_bind ?_
  show wpAny _ _ (forIn its _ _) _ _ s
  rw [← Array.forIn_toList]
  refine wpAny_forIn_list _ (fun left st s2 => s2 = s ∧ st.1 = none ∧ ∀ v ∈ left, carriedByValue v = true) _ ?_ ?_ _ _ ⟨rfl, rfl, hits.byValue⟩
  · rintro v left st s2 ⟨rfl, hst, hall⟩
    rw [class_no (hall v List.mem_cons_self)]
    refine wpAny_bind (wpAny_pure ?_)
    simp only [Bool.false_eq_true, if_false]
    exact wpAny_pure ⟨rfl, rfl, fun u hu => hall u (List.mem_cons_of_mem _ hu)⟩
  · rintro ⟨u1, u2⟩ s2 ⟨rfl, hst, _⟩
    dsimp only at hst
    subst hst
    exact wpAny_pure go
theorem hash_tup {key : List κ} {at' : Addr} {Q : Bool → Shared → Prop} (hk : IsTupleKey knd s.heap key at') (go : ∀ b, Q b s) : wpAny (model P w) A (hashByValue 8 (.ref at')) Q E s := by
  have ty := hk.typeIs
  obtain ⟨ob, its, cnt, hob, _, hdat, hits⟩ := hk
  unfold hashByValue
  refine wpAny_bind (wpAny_specialOf ty F.slot_tuple_hash.lookup ?_)
  show wpAny _ _ (seqItems? (.ref at') >>= _) _ _ s
  refine wpAny_bind (wpAny_seqItems hob hdat ?_)
  refine wpAny_bind ?_
  show wpAny _ _ (forIn its _ _) _ _ s
  rw [← Array.forIn_toList]
  refine wpAny_forIn_list _ (fun left st s2 => s2 = s ∧ st.1 = none ∧ ∀ v ∈ left, carriedByValue v = true) _ ?_ ?_ _ _ ⟨rfl, rfl, hits.byValue⟩
  · rintro v left st s2 ⟨rfl, hst, hall⟩
    obtain ⟨b, hb⟩ := hash_some (hall v List.mem_cons_self) 7
    rw [hb]
    refine wpAny_bind (wpAny_pure ?_)
    cases b with
    | true =>
      simp only [Bool.not_true, Bool.false_eq_true, if_false]
      exact wpAny_pure ⟨rfl, rfl, fun u hu => hall u (List.mem_cons_of_mem _ hu)⟩
    | false =>
      simp only [Bool.not_false, if_true]
      exact wpAny_pure (wpAny_pure (go false))
  · rintro ⟨u1, u2⟩ s2 ⟨rfl, hst, _⟩
    dsimp only at hst
    subst hst
    exact wpAny_pure (go true)
theorem quiet {key : List κ} {at' : Addr} {Q : Bool → Shared → Prop} (hk : IsTupleKey knd s.heap key at') {vs : List Value} (hvs : ∀ v ∈ vs, ∃ k2 a2, v = Value.ref a2 ∧ IsTupleKey knd s.heap k2 a2) (go : Q false s) :
    wpAny (model P w) A (searchCouldBeSeen (.ref at') vs) Q E s := by
  unfold searchCouldBeSeen
  refine wpAny_bind ?_
  refine wpAny_forIn_list _ (fun left st s2 => s2 = s ∧ st.1 = none ∧ ∀ v ∈ left, ∃ k2 a2, v = Value.ref a2 ∧ IsTupleKey knd s.heap k2 a2) _ ?_ ?_ _ _ ⟨rfl, rfl, hvs⟩
  · rintro v left st s2 ⟨rfl, hst, hall⟩
    obtain ⟨k2, a2, rfl, h2⟩ := hall v List.mem_cons_self
    have hleft := fun u hu => hall u (List.mem_cons_of_mem _ hu)
    dsimp only
    by_cases c : (at' == a2 || (carriedByValue (.ref at') && carriedByValue (.ref a2))) = true
    · exact wp_if_pos c (wpAny_pure ⟨rfl, rfl, hleft⟩)
    · refine wp_if_neg c (wpAny_bind (wpAny_eqIsQuiet_tuple hk ?_))
      simp only [Bool.not_true, Bool.false_eq_true, if_false]
      refine wpAny_bind (wpAny_eqIsQuiet_tuple h2 ?_)
      simp only [Bool.not_true, Bool.false_eq_true, if_false]
      refine wpAny_bind (class_tup hk ?_)
      simp only [Bool.false_eq_true, if_false]
      refine wpAny_bind (class_tup h2 ?_)
      simp only [Bool.false_eq_true, if_false]
      exact wpAny_pure ⟨rfl, rfl, hleft⟩
  · rintro ⟨u1, u2⟩ s2 ⟨rfl, hst, _⟩
    dsimp only at hst
    subst hst
    exact wpAny_pure go
end
/-- a set at an address, by its rows: where each tuple stands, and its key -/
structure SetK {P : Program} {w : World} {κ : Type} [DecidableEq κ] (knd : PySem.KeyKind P w κ) (h : Heap) (at' : Addr) (rows : List (Addr × List κ)) (es : Array (Int × Value)) (ep : Nat) (t : SetTable) : Prop where
  obj : ∃ o, h.get? at' = some o ∧ o.ExactSet ∧ o.data = .set es ep t
  list : es.toList = rows.map fun r => (tupleKeyHash knd r.2, Value.ref r.1)
  table : TabOk t (rows.map fun r => tupleKeyHash knd r.2)
  distinct : (rows.map Prod.snd).Nodup
  keys : ∀ r ∈ rows, IsTupleKey knd h r.2 r.1
  order : w.params.followText "set-order" = true ∨ t.led = true
  space : rows.length * 5 < t.mask * 3
  small : rows.length < 64
section
variable {P : Program} {w : World} {A : Around} {E : Value → Shared → Prop} {s : Shared} {κ : Type} [DecidableEq κ] {knd : PySem.KeyKind P w κ} {at' : Addr} {rows : List (Addr × List κ)} {es : Array (Int × Value)} {ep : Nat} {t : SetTable} {h : Heap}
theorem SetK.size (S : SetK knd h at' rows es ep t) : es.size = rows.length := by
  rw [← Array.length_toList, S.list, List.length_map]
theorem SetK.fits (S : SetK knd h at' rows es ep t) : t.fits es.size = true := by
  have a := S.table.sz
  have b := S.size
  have c := S.space
  rw [List.length_map] at a
  unfold SetTable.fits SetTable.fill
  rw [S.table.dm, Bool.and_eq_true, beq_iff_eq, decide_eq_true_eq]
  exact ⟨by omega, by show t.place.size + 0 ≤ t.mask; omega⟩
theorem SetK.row (S : SetK knd h at' rows es ep t) {i : Nat} {r : Addr × List κ} (hr : rows[i]? = some r) : es[i]? = some (tupleKeyHash knd r.2, Value.ref r.1) := by
  rw [← Array.getElem?_toList, S.list, List.getElem?_map, hr]
  rfl
theorem SetK.odd (S : SetK knd h at' rows es ep t) : ¬ t.gaveWay = true := by
  unfold SetTable.gaveWay
  rw [mask_odd S.table.mok]
  decide
/-- the probe after c steps -/
abbrev prb (t : SetTable) (hh : Int) (c : Nat) : SetTable.Probe := nth t.mask (runAt t.mask (SetTable.bits hh % (t.mask + 1)) (SetTable.bits hh)) c
theorem prb_dummy (t : SetTable) (hh : Int) (c : Nat) : (prb t hh c).dummy = none := by
  have go : ∀ (n : Nat) (p : SetTable.Probe), p.dummy = none → (nth t.mask p n).dummy = none := by
    intro n
    induction n with
    | zero => exact fun p hp => hp
    | succ n ih =>
      intro p hp
      refine ih (adv t.mask p) ?_
      unfold adv
      split <;> exact hp
  exact go c _ rfl
theorem find (S : SetK knd s.heap at' rows es ep t) {x : Addr} {key : List κ} (hx : IsTupleKey knd s.heap key x) (hu : A.units < cLine) {K : Nat} (b1 : K < 10 * SetTable.turns t.mask)
    (b2 : way t.mask (tupleKeyHash knd key) K ∉ t.place.toList) (b3 : ∀ c, c < K → way t.mask (tupleKeyHash knd key) c ∈ t.place.toList) {Q : SetFound → Shared → Prop}
    (yes : key ∈ rows.map Prod.snd → Q (.there none) s) (no : key ∉ rows.map Prod.snd → Q (.free (way t.mask (tupleKeyHash knd key) K) false) s) :
    ∀ (fuel c : Nat) (from' : Option SetTable.Probe), from'.getD (t.probeStart (tupleKeyHash knd key)) = prb t (tupleKeyHash knd key) c → c ≤ K → K - c < fuel →
      (∀ (i : Nat) r, rows[i]? = some r → r.2 = key → ∃ c2, c ≤ c2 ∧ c2 < K ∧ t.place.toList[i]? = some (way t.mask (tupleKeyHash knd key) c2)) →
      wpAny (model P w) A (setSearchFrom at' (.ref x) (tupleKeyHash knd key) true fuel from') Q E s
  | 0, c, from', _, _, hf, _ => absurd hf (Nat.not_lt_zero _)
  | fuel + 1, c, from', hfrom, hc, hf, ahead => by
    obtain ⟨o, ho, hex, hd⟩ := S.obj
    generalize hη : tupleKeyHash knd key = η at b2 b3 no hfrom ahead ⊢
    rw [setSearchFrom_succ]
    refine wpAny_bind (wpAny_setState_of ho hd S.fits ?_)
    dsimp only
    refine wp_if_neg S.odd ?_
    first | refine wpAny_bind (wpAny_pure ?_) | skip
    have later : ∀ q, nth t.mask (prb t η c) q = prb t η (c + q) := fun q => (nth_add t.mask c _ q).symm
    have place : ∀ q, (nth t.mask (prb t η c) q).j = way t.mask η (c + q) := fun q => congrArg SetTable.Probe.j (later q)
    have known := go_spec t S.table.ris S.table.dm (fun i => (es[i]?.map (·.1)).getD 0) η (10 * SetTable.turns t.mask) (K - c) _ (prb_dummy t η c) (by omega)
      (fun q hq => by rw [place]; exact b3 (c + q) (by omega)) (by rw [place, show c + (K - c) = K by omega]; exact b2)
    have hashOf : ∀ (i : Nat) r, rows[i]? = some r → (fun i => (es[i]?.map (·.1)).getD 0) i = tupleKeyHash knd r.2 := fun i r hr => by
      show (es[i]?.map (·.1)).getD 0 = _
      rw [S.row hr]
      rfl
    rcases known with ⟨q, i, hq, hi, hh, hnot, hprobe⟩ | ⟨hnot, hprobe⟩
    · have met : t.probe (fun i => (es[i]?.map (·.1)).getD 0) η (from'.getD (t.probeStart η)) = some (.candidate (way t.mask η (c + q)) i (prb t η (c + (q + 1)))) := by
        rw [hfrom, ← place, ← later]
        exact hprobe
      rw [met]
      dsimp only
      rw [place] at hi
      have hil : i < rows.length := by
        have z1 := (List.getElem?_eq_some_iff.mp hi).1
        have z2 := S.table.sz
        rw [List.length_map] at z2
        rw [Array.length_toList] at z1
        omega
      obtain ⟨r, hr⟩ : ∃ r, rows[i]? = some r := ⟨_, List.getElem?_eq_getElem hil⟩
      have hm := List.mem_of_getElem? hr
      have onward : wpAny (model P w) A (searchRest at' (.ref x) η true fuel es t (way t.mask η (c + q)) i (prb t η (c + (q + 1)))) Q E s := by
        unfold searchRest
        rw [S.row hr]
        dsimp only
        refine wpAny_bind (wpAny_holding (wpAny_eqBool_tuple hu (S.keys r hm) hx ?_))
        refine wpAny_bind (wpAny_setState_of ho hd S.fits ?_)
        dsimp only
        by_cases same : r.2 = key
        · refine wp_if_pos (by simp [same]) (wpAny_pure (yes ?_))
          exact List.mem_map.mpr ⟨r, hm, same⟩
        · refine wp_if_neg (by simp [same]) ?_
          first | refine wpAny_bind (wpAny_pure ?_) | skip
          rw [sameMem]
          dsimp only
          have live := slot_live S.table.ris hi
          simp only [if_true, live, S.row hr]
          refine wpAny_bind (wpAny_isSame_ref_self (wpAny_bind (wpAny_pure ?_)))
          simp only [if_true]
          refine wp_if_neg (by simp [same]) ?_
          subst hη
          refine find S hx hu b1 b2 b3 yes no fuel (c + (q + 1)) _ rfl (by omega) (by omega) fun i2 r2 h2 e2 => ?_
          obtain ⟨c2, z1, z2, z3⟩ := ahead i2 r2 h2 e2
          refine ⟨c2, ?_, z2, z3⟩
          rcases Nat.lt_trichotomy c2 (c + q) with z | z | z
          · exact absurd ((hashOf i2 r2 h2).trans (congrArg (tupleKeyHash knd) e2)) (hnot (c2 - c) i2 (by omega) (by rw [place, show c + (c2 - c) = c2 by omega]; exact z3))
          · rw [z] at z3
            have live2 := slot_live S.table.ris z3
            rw [live] at live2
            injection live2 with live2
            rw [← live2, hr] at h2
            exact absurd ((congrArg Prod.snd (Option.some.inj h2)).trans e2) same
          · omega
      by_cases led : t.led = true
      · refine wp_if_neg (by simp [led]) ?_
        first | refine wpAny_bind (wpAny_pure ?_) | skip
        exact onward
      · refine wp_if_pos (by simp [led]) (wpAny_bind (quiet hx (fun v hv => ?_) ?_))
        · obtain ⟨en, hen, rfl⟩ := List.mem_map.mp hv
          have hen2 : en ∈ es.toList := by
            have z : en ∈ es ∧ en.1 = η := by simpa using hen
            simpa using z.1
          rw [S.list] at hen2
          obtain ⟨r2, hr2, rfl⟩ := List.mem_map.mp hen2
          exact ⟨r2.2, r2.1, rfl, S.keys r2 hr2⟩
        · refine wp_if_neg (by decide) ?_
          first | refine wpAny_bind (wpAny_pure ?_) | skip
          exact onward
    · have met : t.probe (fun i => (es[i]?.map (·.1)).getD 0) η (from'.getD (t.probeStart η)) = some (.empty (way t.mask η K) none) := by
        rw [hfrom, show way t.mask η K = (nth t.mask (prb t η c) (K - c)).j by rw [place, show c + (K - c) = K by omega]]
        exact hprobe
      rw [met]
      dsimp only
      refine wpAny_pure (no fun hmem => ?_)
      obtain ⟨r2, hr2, e2⟩ := List.mem_map.mp hmem
      obtain ⟨i2, hi2⟩ := List.mem_iff_getElem?.mp hr2
      obtain ⟨c2, z1, z2, z3⟩ := ahead i2 r2 hi2 e2
      refine absurd ?_ (hnot (c2 - c) i2 (by omega) (by rw [place, show c + (c2 - c) = c2 by omega]; exact z3))
      rw [← hη]
      exact (hashOf i2 r2 hi2).trans (congrArg (tupleKeyHash knd) e2)
theorem search (S : SetK knd s.heap at' rows es ep t) {x : Addr} {key : List κ} (hx : IsTupleKey knd s.heap key x) (hu : A.units < cLine) {Q : SetFound → Shared → Prop}
    (yes : key ∈ rows.map Prod.snd → Q (.there none) s)
    (no : ∀ K, key ∉ rows.map Prod.snd → way t.mask (tupleKeyHash knd key) K ∉ t.place.toList → (∀ c, c < K → way t.mask (tupleKeyHash knd key) c ∈ t.place.toList) → Q (.free (way t.mask (tupleKeyHash knd key) K) false) s) :
    wpAny (model P w) A (setSearch at' (.ref x) (tupleKeyHash knd key) true) Q E s := by
  have sp := S.space
  obtain ⟨K, k1, k2, k3⟩ := S.table.first (by rw [List.length_map]; omega) (tupleKeyHash knd key)
  have far : 10 * SetTable.turns t.mask ≤ 1420 := by
    unfold SetTable.turns
    rcases S.table.mok with e | e | e <;> omega
  unfold setSearch
  refine find S hx hu k1 k2 k3 yes (fun z => no K z k2 k3) 100000 0 none rfl (Nat.zero_le _) (by omega) fun i r hr e => ?_
  have hash : (rows.map fun r => tupleKeyHash knd r.2)[i]? = some (tupleKeyHash knd key) := by rw [List.getElem?_map, hr, ← e]; rfl
  have hil : i < t.place.toList.length := by
    have z1 := (List.getElem?_eq_some_iff.mp hr).1
    have z2 := S.table.sz
    rw [List.length_map] at z2
    rw [Array.length_toList]
    omega
  obtain ⟨c, z, e2⟩ := S.table.before k2 hash (List.getElem?_eq_getElem hil)
  exact ⟨c, Nat.zero_le _, z, by rw [List.getElem?_eq_getElem hil, e2]⟩
end

section
variable {P : Program} {w : World} {A : Around} {E : Value → Shared → Prop} {s : Shared} {κ : Type} [DecidableEq κ] {knd : PySem.KeyKind P w κ} {at' : Addr} {rows : List (Addr × List κ)} {es : Array (Int × Value)} {ep : Nat} {t : SetTable} {h h2 : Heap}
theorem key_past {key : List κ} {b : Addr} {o : Obj} (hk : IsTupleKey knd h key b) (ho : h.get? at' = some o) (hd : o.data = .set es ep t) (sb : Heap.SameBut at' h h2) : IsTupleKey knd h2 key b := by
  obtain ⟨u, its, cnt, hu, hc, hdat, hits⟩ := hk
  have ne : b ≠ at' := fun z => by
    rw [z, ho] at hu
    cases hu
    rw [hd] at hdat
    cases hdat
  exact ⟨u, its, cnt, (sb.2 b ne).trans hu, hc, hdat, hits⟩
theorem key_grown {key : List κ} {b : Addr} (hk : IsTupleKey knd h key b) (keep : ∀ c o, h.get? c = some o → h2.get? c = some o) : IsTupleKey knd h2 key b := by
  obtain ⟨u, its, cnt, hu, more⟩ := hk
  exact ⟨u, its, cnt, keep b u hu, more⟩
/-- the rows in another order, by their numbers -/
theorem reordered (hl : es.toList = rows.map fun r => (tupleKeyHash knd r.2, Value.ref r.1)) (order : Array Nat) (hp : order.toList.Perm (List.range rows.length)) :
    ∃ rows2 : List (Addr × List κ), (order.filterMap (es[·]?)).toList = rows2.map (fun r => (tupleKeyHash knd r.2, Value.ref r.1)) ∧ rows2.Perm rows ∧ (rows2.map fun r => tupleKeyHash knd r.2) = order.toList.map fun i => (es.map (·.1)).getD i 0 := by
  have size : es.size = rows.length := by rw [← Array.length_toList, hl, List.length_map]
  have entry : ∀ (i : Nat) (r : Addr × List κ), rows[i]? = some r → es[i]? = some (tupleKeyHash knd r.2, Value.ref r.1) := fun i r hr => by
    rw [← Array.getElem?_toList, hl, List.getElem?_map, hr]
    rfl
  have build : ∀ l : List Nat, (∀ i ∈ l, i < rows.length) → l.filterMap (fun i => es[i]?) = (l.filterMap fun i => rows[i]?).map (fun r => (tupleKeyHash knd r.2, Value.ref r.1)) ∧
      ((l.filterMap fun i => rows[i]?).map fun r => tupleKeyHash knd r.2) = l.map fun i => (es.map (·.1)).getD i 0 := by
    intro l
    induction l with
    | nil => exact fun _ => ⟨rfl, rfl⟩
    | cons i l ih =>
      intro hb
      have hi := hb i List.mem_cons_self
      obtain ⟨i1, i2⟩ := ih fun j hj => hb j (List.mem_cons_of_mem _ hj)
      have hr : rows[i]? = some rows[i] := List.getElem?_eq_getElem hi
      have he := entry i _ hr
      rw [List.filterMap_cons_some he, List.filterMap_cons_some hr, List.map_cons, List.map_cons, List.map_cons, i1, i2]
      refine ⟨rfl, ?_⟩
      congr 1
      have hm : (es.map (·.1))[i]? = some (tupleKeyHash knd (rows[i]).2) := by rw [Array.getElem?_map, he]; rfl
      rw [Array.getD_eq_getD_getElem?, hm]
      rfl
  obtain ⟨a, b⟩ := build order.toList fun i hi => List.mem_range.mp (hp.mem_iff.mp hi)
  refine ⟨order.toList.filterMap fun i => rows[i]?, by rw [Array.toList_filterMap]; exact a, ?_, b⟩
  have whole : ∀ n, n ≤ rows.length → (List.range n).filterMap (fun i => rows[i]?) = rows.take n := by
    intro n
    induction n with
    | zero => exact fun _ => rfl
    | succ n ih =>
      intro hn
      have hn' : n < rows.length := hn
      rw [List.range_succ, List.filterMap_append, ih (Nat.le_of_lt hn'), List.take_add_one, List.filterMap_cons_some (List.getElem?_eq_getElem hn'), List.getElem?_eq_getElem hn']
      rfl
  have := hp.filterMap fun i => rows[i]?
  rwa [whole _ (Nat.le_refl _), List.take_length] at this
/-- a greater table -/
theorem relay {o : Obj} (ho : s.heap.get? at' = some o) (hex : o.ExactSet) (hd : o.data = .set es ep t) (hl : es.toList = rows.map fun r => (tupleKeyHash knd r.2, Value.ref r.1)) (hsz : t.place.size = es.size) (hdm : t.dummies = #[]) (hfill : es.size ≤ t.mask)
    (nd : (rows.map Prod.snd).Nodup) (hk : ∀ r ∈ rows, IsTupleKey knd s.heap r.2 r.1) (hled : w.params.followText "set-order" = true ∨ t.led = true) (few : rows.length < 64) {wanted M : Nat}
    (m1 : SetTable.sizeAbove wanted - 1 = M) (m2 : MaskOk M) (m3 : SetTable.sizeAbove wanted ≤ 128) (m4 : rows.length * 5 < M * 3) {Q : Unit → Shared → Prop}
    (go : ∀ hp rows2 es2 ep2 t2, Heap.SameBut at' s.heap hp → SetK knd hp at' rows2 es2 ep2 t2 → rows2.Perm rows → Q () { s with heap := hp }) : wpAny (model P w) A (setRelay at' wanted) Q E s := by
  have size : es.size = rows.length := by rw [← Array.length_toList, hl, List.length_map]
  have fit : t.fits es.size = true := by
    unfold SetTable.fits SetTable.fill
    rw [hdm, Bool.and_eq_true, beq_iff_eq, decide_eq_true_eq]
    exact ⟨hsz, by show t.place.size + 0 ≤ t.mask; omega⟩
  obtain ⟨t2, order, eLaid, pOrd, T2, eM, eL, _, eD⟩ := relaid_ok t (hs := es.map (·.1)) (wanted := wanted) m1 m2 (by rw [Array.size_map, size]; omega)
  rw [Array.size_map, size] at pOrd
  obtain ⟨rows2, l2, p2, h2⟩ := reordered hl order pOrd
  rw [← h2] at T2
  have size2 : (order.filterMap (es[·]?)).size = es.size := by rw [← Array.length_toList, l2, List.length_map, p2.length_eq, size]
  rw [setRelay_eq]
  refine wpAny_bind (wpAny_setState_of ho hd fit ?_)
  dsimp only
  refine wp_if_neg (by rw [sizeLine_eq]; omega) ?_
  first | refine wpAny_bind (wpAny_pure ?_) | skip
  rw [eLaid]
  dsimp only
  refine wpAny_bind (wp_if_neg (by rw [size2]; simp) ?_)
  first | refine wpAny_bind (wpAny_pure ?_) | skip
  refine wpAny_pure ?_
  dsimp only
  have sb : Heap.SameBut at' s.heap (s.heap.update at' (Obj.putSet (order.filterMap (es[·]?)) t2)) := Heap.SameBut.update ..
  refine wpAny_storeSet_of ho hd (go _ rows2 _ (ep + 1) t2 sb ⟨⟨_, store_at ho hd, ⟨hex.1, hex.2.1, hex.2.2⟩, rfl⟩, l2, T2, (p2.map Prod.snd).nodup_iff.mpr nd, fun r hr => key_past (hk r (p2.mem_iff.mp hr)) ho hd sb, by rw [eL]; exact hled, by rw [p2.length_eq, eM]; exact m4, by rw [p2.length_eq]; exact few⟩ p2) (by rw [size2, size, sizeLine_eq]; omega)
/-- one more tuple put in -/
theorem put (S : SetK knd s.heap at' rows es ep t) {x : Addr} {key : List κ} (hx : IsTupleKey knd s.heap key x) (hu : A.units < cLine) (few : rows.length + 1 < 64) {Q : Bool → Shared → Prop}
    (go : ∀ b hp rows2 es2 ep2 t2, Heap.SameBut at' s.heap hp → SetK knd hp at' rows2 es2 ep2 t2 → (key ∈ rows.map Prod.snd → rows2 = rows) → (key ∉ rows.map Prod.snd → rows2.Perm ((x, key) :: rows)) → Q b { s with heap := hp }) :
    wpAny (model P w) A (setAddHashed at' (.ref x) (tupleKeyHash knd key)) Q E s := by
  obtain ⟨o, ho, hex, hd⟩ := S.obj
  have size := S.size
  have space := S.space
  unfold setAddHashed
  refine wpAny_holding ?_
  rw [show (100000 : Nat) = 99999 + 1 from rfl, setAddHashedIn_succ]
  refine wpAny_bind (wpAny_setState_of ho hd S.fits ?_)
  dsimp only
  refine wp_if_neg (by simp [byScan, Value.scannable]) ?_
  first | refine wpAny_bind (wpAny_pure ?_) | skip
  refine wpAny_bind (search S hx hu (fun hm => ?_) fun K hm k1 k2 => ?_)
  · dsimp only
    exact wpAny_pure (go false s.heap rows es ep t (Heap.SameBut.refl at' s.heap) S (fun _ => rfl) fun z => absurd hm z)
  · dsimp only
    refine wpAny_bind (wpAny_setState_of ho hd S.fits ?_)
    dsimp only
    obtain ⟨q1, q2, q3, q4, q5, q6, q7, q8, q9⟩ := S.table.put k1 k2
    generalize hpt : t.put (way t.mask (tupleKeyHash knd key) K) = pt at q1 q3 q4 q5 q6 q7 q8 q9 ⊢
    obtain ⟨t1, p⟩ := pt
    dsimp only at q1 q3 q4 q5 q6 q7 q8 q9 ⊢
    subst q1
    -- whatever is said of the hash, the rest is the same
    have rest : ∀ t3 : SetTable, t3.place = t1.place → t3.mask = t1.mask → t3.dummies = t1.dummies → t3.led = t1.led → t3.fill = t1.fill → t3.tooFull = t1.tooFull →
        wpAny (model P w) A (do
          storeSet at' (SetTable.insertAt es (SetTable.below t.place (way t.mask (tupleKeyHash knd key) K)) (tupleKeyHash knd key, Value.ref x)) t3
          if (!false && t3.tooFull) = true then setRelay at' (SetTable.grown (es.size + 1))
          pure true) Q E s := by
      intro t3 e1 e2 e3 e4 e5 e6
      have inList : (SetTable.insertAt es (SetTable.below t.place (way t.mask (tupleKeyHash knd key) K)) (tupleKeyHash knd key, Value.ref x)).toList = (rows.take (SetTable.below t.place (way t.mask (tupleKeyHash knd key) K)) ++ (x, key) :: rows.drop (SetTable.below t.place (way t.mask (tupleKeyHash knd key) K))).map fun r => (tupleKeyHash knd r.2, Value.ref r.1) := by
        rw [SetTable.toList_insertAt, S.list, List.map_append, List.map_cons, List.map_take, List.map_drop]
      generalize hbl : SetTable.below t.place (way t.mask (tupleKeyHash knd key) K) = p at q2 q3 inList ⊢
      have pm := put_perm rows p (x, key)
      have len1 : (rows.take p ++ (x, key) :: rows.drop p).length = rows.length + 1 := pm.length_eq
      have q3' : TabOk t1 ((rows.take p ++ (x, key) :: rows.drop p).map fun r => tupleKeyHash knd r.2) := by
        rw [List.map_append, List.map_cons, List.map_take, List.map_drop]
        exact q3
      have T3 : TabOk t3 ((rows.take p ++ (x, key) :: rows.drop p).map fun r => tupleKeyHash knd r.2) :=
        ⟨by rw [e1]; exact q3'.ris, by rw [e3]; exact q3'.dm, by rw [e1]; exact q3'.sz, by rw [e2]; exact q3'.mok, by rw [e1, e2]; exact q3'.bd, by rw [e1, e2]; exact q3'.reach⟩
      have nd1 : ((rows.take p ++ (x, key) :: rows.drop p).map Prod.snd).Nodup := by
        refine (pm.map Prod.snd).nodup_iff.mpr ?_
        rw [List.map_cons]
        exact List.nodup_cons.mpr ⟨hm, S.distinct⟩
      generalize SetTable.insertAt es p (tupleKeyHash knd key, Value.ref x) = es1 at inList ⊢
      generalize rows.take p ++ (x, key) :: rows.drop p = rows1 at pm len1 T3 nd1 inList
      have size1 : es1.size = rows.length + 1 := by rw [← Array.length_toList, inList, List.length_map, len1]
      refine wpAny_bind (wpAny_storeSet_of ho hd ?_ (by rw [size1, sizeLine_eq]; omega))
      have sb : Heap.SameBut at' s.heap (s.heap.update at' (Obj.putSet es1 t3)) := Heap.SameBut.update ..
      have ho1 := store_at (es' := es1) (t' := t3) ho hd
      generalize s.heap.update at' (Obj.putSet es1 t3) = hp1 at sb ho1 ⊢
      have keys1 : ∀ r ∈ rows1, IsTupleKey knd hp1 r.2 r.1 := fun r hr => by
        rcases List.mem_cons.mp (pm.mem_iff.mp hr) with z | z
        · rw [z]; exact key_past hx ho hd sb
        · exact key_past (S.keys r z) ho hd sb
      have led1 : w.params.followText "set-order" = true ∨ t3.led = true := by rw [e4, q5]; exact S.order
      by_cases full : t3.tooFull = true
      · have crowd : (rows.length + 1) * 5 ≥ t.mask * 3 := by
          have z := full
          unfold SetTable.tooFull at z
          rw [decide_eq_true_eq, e5, q9, List.length_map, e2, q4] at z
          exact z
        have two : (t.mask = 7 ∧ rows.length = 4) ∨ (t.mask = 31 ∧ rows.length = 18) := by
          rcases S.table.mok with e | e | e
          · exact .inl ⟨e, by rw [e] at crowd space; omega⟩
          · exact .inr ⟨e, by rw [e] at crowd space; omega⟩
          · exfalso; rw [e] at crowd; omega
        have onto : ∀ M, SetTable.sizeAbove (SetTable.grown (rows.length + 1)) - 1 = M → MaskOk M → SetTable.sizeAbove (SetTable.grown (rows.length + 1)) ≤ 128 → (rows.length + 1) * 5 < M * 3 →
            wpAny (model P w) A (setRelay at' (SetTable.grown (rows.length + 1))) (fun _ s' => wpAny (model P w) A (pure true) Q E s') E { s with heap := hp1 } := fun M g1 g2 g3 g4 =>
          relay (s := { s with heap := hp1 }) ho1 ⟨hex.1, hex.2.1, hex.2.2⟩ rfl inList (by rw [T3.sz, List.length_map, len1, size1]) T3.dm (by rw [size1, e2, q4]; rcases two with ⟨a, b⟩ | ⟨a, b⟩ <;> omega) nd1 keys1 led1 (by rw [len1]; exact few) g1 g2 g3 (by rw [len1]; exact g4)
            fun hp2 rows2 es2 ep2 t2 sb2 S2 pm2 => wpAny_pure (go true hp2 rows2 es2 ep2 t2 (sb.trans sb2) S2 (fun z => absurd z hm) fun _ => pm2.trans pm)
        rw [size]
        have act : wpAny (model P w) A (setRelay at' (SetTable.grown (rows.length + 1))) (fun _ s' => wpAny (model P w) A (pure true) Q E s') E { s with heap := hp1 } := by
          rcases two with ⟨_, e⟩ | ⟨_, e⟩
          · exact onto 31 (by rw [e, size_20]) (.inr (.inl rfl)) (by rw [e, size_20]; decide) (by omega)
          · exact onto 127 (by rw [e, size_76]) (.inr (.inr rfl)) (by rw [e, size_76]; decide) (by omega)
        first
          | exact wp_if_pos (by simp [full]) (wpAny_bind act)
          | exact wpAny_bind (wp_if_pos (by simp [full]) act)
      · have fin : wpAny (model P w) A (pure true) Q E { s with heap := hp1 } := by
          refine wpAny_pure (go true hp1 rows1 es1 (ep + 1) t3 sb ⟨⟨_, ho1, ⟨hex.1, hex.2.1, hex.2.2⟩, rfl⟩, inList, T3, nd1, keys1, led1, ?_, by rw [len1]; exact few⟩ (fun z => absurd z hm) fun _ => pm)
          have z := full
          unfold SetTable.tooFull at z
          rw [decide_eq_true_eq, e5, q9, List.length_map] at z
          rw [len1]
          omega
        first
          | exact wp_if_neg (by simp [full]) fin
          | exact wpAny_bind (wp_if_neg (by simp [full]) (wpAny_pure fin))
    by_cases pl : t1.plain = true
    · have both : ∀ b, wpAny (model P w) A (do
          storeSet at' (SetTable.insertAt es (SetTable.below t.place (way t.mask (tupleKeyHash knd key) K)) (tupleKeyHash knd key, Value.ref x)) (if b = true then t1 else { t1 with plain := false })
          if (!false && (if b = true then t1 else { t1 with plain := false }).tooFull) = true then setRelay at' (SetTable.grown (es.size + 1))
          pure true) Q E s := fun b => by
        cases b with
        | true => exact rest t1 rfl rfl rfl rfl rfl rfl
        | false => exact rest { t1 with plain := false } rfl rfl rfl rfl rfl rfl
      first
        | exact wp_if_pos pl (wpAny_bind (hash_tup hx both))
        | exact wpAny_bind (wp_if_pos pl (hash_tup hx both))
    · have one := rest t1 rfl rfl rfl rfl rfl rfl
      first
        | exact wp_if_neg pl (wpAny_bind (wpAny_pure one))
        | exact wpAny_bind (wp_if_neg pl (wpAny_pure one))
        | exact wp_if_neg pl one
/-- a new set -/
theorem fresh {hp : Heap} (ho : hp.get? at' = some { cls := .type "set", dict := none, data := .set #[] 0 (.fresh 0 0 (!w.params.followText "set-order")) }) : SetK knd hp at' [] #[] 0 (.fresh 0 0 (!w.params.followText "set-order")) :=
  ⟨⟨_, ho, ⟨rfl, rfl, rfl⟩, rfl⟩, rfl, ⟨List.Pairwise.nil, rfl, rfl, .inl rfl, (fun x hx => nomatch hx), (fun i h j hi => by simp at hi)⟩, List.nodup_nil, (fun r hr => nomatch hr), by
    show _ ∨ (!w.params.followText "set-order") = true
    cases w.params.followText "set-order"
    · exact .inr rfl
    · exact .inl rfl, by show 0 * 5 < 7 * 3; decide, by show 0 < 64; decide⟩
end
end TK

/-! sets of tuples of ints and texts: as tracked things, what a comprehension puts in, sorted -/
namespace TK
open PySem PySem.Spec PyProof.Rows L2

abbrev Rw := Addr × List Key
/-- the set at an address, its tuples left out -/
def Bare (P : Program) (w : World) (b : Addr) (rows : List Rw) (h : Heap) : Prop := ∃ (es : Array (Int × Value)) (ep : Nat) (t : SetTable),
  (∃ o, h.get? b = some o ∧ o.ExactSet ∧ o.data = .set es ep t) ∧ es.toList = rows.map (fun r => (tupleKeyHash (mixKind P w) r.2, Value.ref r.1)) ∧
  (TabOk t (rows.map fun r => tupleKeyHash (mixKind P w) r.2) ∧ (rows.map Prod.snd).Nodup) ∧ (w.params.followText "set-order" = true ∨ t.led = true) ∧ rows.length * 5 < t.mask * 3 ∧ rows.length < 64
def kset (P : Program) (w : World) (b : Addr) (rows : List Rw) : HO := .ext (Bare P w b rows)
section
variable {P : Program} {w : World} {b : Addr} {rows : List Rw} {h : Heap} {es : Array (Int × Value)} {ep : Nat} {t : SetTable}
theorem bare_of (S : SetK (mixKind P w) h b rows es ep t) : Bare P w b rows h := ⟨es, ep, t, S.obj, S.list, ⟨S.table, S.distinct⟩, S.order, S.space, S.small⟩
theorem bare_full (R : Bare P w b rows h) (hk : ∀ r ∈ rows, IsTupleKey (mixKind P w) h r.2 r.1) : ∃ es ep t, SetK (mixKind P w) h b rows es ep t := by
  obtain ⟨es, ep, t, a1, a2, ⟨a3, a4⟩, a5, a6, a7⟩ := R
  exact ⟨es, ep, t, a1, a2, a3, a4, hk, a5, a6, a7⟩
theorem kset_ok {H : Hp} (R : Bare P w b rows h) : ObjOk P w H h b (kset P w b rows) := by
  have ⟨_, _, _, ⟨o, ho, _⟩, _⟩ := R
  refine ⟨R, ⟨o, ho⟩, fun h1 h2 p keeps => ?_⟩
  obtain ⟨es, ep, t, ⟨u, hu, more⟩, rest⟩ := p
  exact ⟨es, ep, t, ⟨u, keeps u hu, more⟩, rest⟩
end
section
variable {X : Cx} {pins : List (Addr × Obj)} {σ : L2.St} {H : Hp} {s : Shared} {b : Addr} {rows : List Rw}
theorem keyAt {p : Addr} {ks : List Key} (I : Inv X pins σ H s) (hp : H p = some (.tup (ks.map kV))) : IsTupleKey (mixKind X.prog X.w) s.heap ks p := L2.key_of I.hok hp
theorem full_at (I : Inv X pins σ H s) (hb : H b = some (kset X.prog X.w b rows)) (hr : ∀ r ∈ rows, H r.1 = some (.tup (r.2.map kV))) : ∃ es ep t, SetK (mixKind X.prog X.w) s.heap b rows es ep t :=
  bare_full (I.hok b _ hb).1 fun r hm => keyAt I (hr r hm)
/-- found.add(t) -/
theorem add_ok {E : Value → Shared → Prop} {x : Addr} {key : List Key} {Q : Value → Shared → Prop} (hu : X.A.units + 64 < cLine) (I : Inv X pins σ H s) (hb : H b = some (kset X.prog X.w b rows)) (hr : ∀ r ∈ rows, H r.1 = some (.tup (r.2.map kV)))
    (hx : H x = some (.tup (key.map kV))) (few : rows.length + 1 < 64)
    (go : ∀ s' rows2, (key ∈ rows.map Prod.snd → rows2 = rows) → (key ∉ rows.map Prod.snd → rows2.Perm ((x, key) :: rows)) → Inv X pins σ (upd H b (kset X.prog X.w b rows2)) s' → Q .none s') :
    wpAny (model X.prog X.w) X.A (call (.builtin "set.add") [.ref b, .ref x]) Q E s := by
  obtain ⟨es, ep, t, S⟩ := full_at I hb hr
  have kx := keyAt I hx
  obtain ⟨o, ho, hex, hd⟩ := S.obj
  have isSet : s.TypeIs (.ref b) "set" := ⟨o, ho, hex.1⟩
  refine wpAny_call_entry F.slot_set_add isSet F.entry_set_add ?_ (F.args_set_add_2 (.ref b) (.ref x))
  unfold Builtin.«set.add» Builtin.Frozenset.oneOther
  simp only [List.isEmpty_nil, bind_assoc]
  unfold Builtin.Frozenset.addrOf setAdd
  refine wpAny_bind (wpAny_pure ?_)
  try dsimp only
  refine wpAny_bind (wpAny_pure ?_)
  try dsimp only
  refine wpAny_bind (wpAny_holding (wpAny_bind (wpAny_pyHash_tuple (by show X.A.units + 1 < cLine; omega) kx ?_)))
  refine put (s := { s with toks := s.toks + (key.length + 1) }) S kx (by show X.A.units + 1 < cLine; omega) few fun yes hp rows2 es2 ep2 t2 sb S2 old new => ?_
  show wpAny _ _ (ret Value.none) _ _ _
  refine wpAny_pure ⟨_, rfl, ?_⟩
  obtain ⟨u, hu2, _⟩ := S2.obj
  exact go _ rows2 old new (I.write (e := b) (t' := s.toks + (key.length + 1)) (by rw [hb]; trivial) (.inl rfl) (fun c o hc e => (sb.2 c hc).trans e) ⟨u, hu2⟩ (kset_ok (bare_of S2)))
/-! ### sorted -/
/-- what a key is compared by -/
def tokK : Key → Int ⊕ List Nat
  | .inl i => .inl i
  | .inr x => .inr x.cps.toList
/-- the places of texts are as told -/
def fitK (shape : Nat → Bool) : Nat → List Key → Bool
  | _, [] => true
  | n, k :: ks => (k.isRight == shape n) && fitK shape (n + 1) ks
theorem toks_of {P : Program} {w : World} {shape : Nat → Bool} : ∀ {ks : List Key} {us : List Value} (n : Nat), fitK shape n ks = true → ItemsAre (mixKind P w) ks us → tupItems shape n us = some (ks.map tokK)
  | [], _, n, _, .nil => by unfold tupItems; rfl
  | k :: ks, _, n, hf, .cons (v := v) hv r => by
    unfold fitK at hf
    rw [Bool.and_eq_true, beq_iff_eq] at hf
    have ih := toks_of (n + 1) hf.2 r
    rcases keyIs_shape (k := k) (v := v) hv with ⟨i, t, rfl, rfl⟩ | ⟨x, t, rfl, rfl⟩
    · have e : ¬ shape n = true := by rw [← hf.1]; simp
      unfold tupItems
      rw [if_neg e, ih]
      rfl
    · have e : shape n = true := by rw [← hf.1]; rfl
      unfold tupItems
      rw [if_pos e, ih]
      rfl
theorem perm_map_ex {α β : Type} {f : α → β} {as bs : List β} (pm : as.Perm bs) : ∀ {rs : List α}, bs = rs.map f → ∃ rs1 : List α, rs1.Perm rs ∧ as = rs1.map f := by
  induction pm with
  | nil => exact fun {rs} e => ⟨rs, .refl _, e⟩
  | cons x _ ih =>
    intro rs e
    cases rs with
    | nil => cases e
    | cons r rs =>
      rw [List.map_cons, List.cons.injEq] at e
      obtain ⟨rs1, p1, e1⟩ := ih e.2
      exact ⟨r :: rs1, p1.cons r, by rw [List.map_cons, e.1, e1]⟩
  | swap x y l =>
    intro rs e
    cases rs with
    | nil => cases e
    | cons r rs =>
      cases rs with
      | nil => cases e
      | cons q rs =>
        rw [List.map_cons, List.map_cons, List.cons.injEq, List.cons.injEq] at e
        exact ⟨q :: r :: rs, .swap r q rs, by rw [List.map_cons, List.map_cons, e.1, e.2.1, e.2.2]⟩
  | trans _ _ i1 i2 =>
    intro rs e
    obtain ⟨r1, p1, e1⟩ := i2 e
    obtain ⟨r2, p2, e2⟩ := i1 e1
    exact ⟨r2, p2.trans p1, e2⟩
theorem tupKey_at {P : Program} {w : World} {shape : Nat → Bool} {h : Heap} {ks : List Key} {p : Addr} (hk : IsTupleKey (mixKind P w) h ks p) (hf : fitK shape 0 ks = true) : G.tupKeyC h shape (.ref p) = some (ks.map tokK) := by
  obtain ⟨o, its, n, ho, hc, hd, hi⟩ := hk
  have isT : G.isTupObj h (.ref p) = true := by simp [G.isTupObj, ho, hc]
  unfold G.tupKeyC
  rw [if_pos isT]
  simp only [tupKey, ho, hd]
  exact toks_of 0 hf hi
theorem tupsOf_at {P : Program} {w : World} {shape : Nat → Bool} {h : Heap} : ∀ {rs : List Rw}, (∀ r ∈ rs, IsTupleKey (mixKind P w) h r.2 r.1 ∧ fitK shape 0 r.2 = true ∧ r.2 ≠ []) → ∃ fs, TupsOf h shape (rs.map fun r => Value.ref r.1) fs
  | [], _ => ⟨[], .nil⟩
  | r :: rs, hr => by
    obtain ⟨fs, ih⟩ := tupsOf_at fun q hq => hr q (List.mem_cons_of_mem _ hq)
    obtain ⟨⟨o, its, n, ho, hc, hd, hi⟩, hf, hne⟩ := hr r List.mem_cons_self
    obtain ⟨b, ks⟩ := r
    dsimp only at ho hi hf hne
    cases ks with
    | nil => exact absurd rfl hne
    | cons k ks =>
      unfold fitK at hf
      rw [Bool.and_eq_true, beq_iff_eq] at hf
      generalize hl : its.toList = l at hi
      cases hi with
      | cons hv _ =>
        rename_i v us _
        have first : its[0]? = some v := by rw [← Array.getElem?_toList, hl]; rfl
        refine ⟨v :: fs, .cons ⟨b, o, its, n, rfl, ho, hc, hd, first, fun z => ?_, fun z => ?_⟩ ih⟩
        · rcases keyIs_shape (k := k) (v := v) hv with ⟨i, t, rfl, rfl⟩ | ⟨x, t, rfl, rfl⟩
          · exact ⟨i, t, rfl⟩
          · rw [z] at hf; exact absurd hf.1 (by simp)
        · rcases keyIs_shape (k := k) (v := v) hv with ⟨i, t, rfl, rfl⟩ | ⟨x, t, rfl, rfl⟩
          · rw [z] at hf; exact absurd hf.1 (by simp)
          · exact ⟨x, t, rfl⟩
abbrev leK : List Key → List Key → Bool := fun a b => !lexLt itemOrd (b.map tokK) (a.map tokK)
/-- sorted({..}) -/
theorem sort_ok {E : Value → Shared → Prop} {shape : Nat → Bool} {Q : Value → Shared → Prop} (hc : X.calm = true) (I : Inv X pins σ H s) (hb : H b = some (kset X.prog X.w b rows)) (hr : ∀ r ∈ rows, H r.1 = some (.tup (r.2.map kV)) ∧ fitK shape 0 r.2 = true ∧ r.2 ≠ [])
    (go : ∀ (s' : Shared) (p : Addr) (rows2 : List Rw), rows2.Perm rows → rows2.Pairwise (fun q r => leK q.2 r.2 = true) → H p = none → Inv X pins σ (upd H p (.lst (rows2.map fun r => V.ref r.1))) s' → Q (.ref p) s') :
    wpAny (model X.prog X.w) X.A (call (.builtin "sorted") [.ref b]) Q E s := by
  obtain ⟨es, ep, t, S⟩ := full_at I hb fun r hm => (hr r hm).1
  obtain ⟨o, ho, hex, hd⟩ := S.obj
  have nsz : es.size < scanBound := by have a1 := S.size; have a2 := S.small; unfold scanBound; omega
  refine Calls.call_function_entry kind_sorted plain_sorted entry_sorted (args_sorted1 _) ?_
  unfold Builtin.«sorted»
  refine wpAny_bind (m := checkCount "sorted" 1 1 _) (wpAny_pure (wpAny_bind (collect_set (A := X.A.in1) (I.ok.hd hc) ⟨o, ho, hex.1, hd⟩ S.fits nsz S.table.ris S.order fun s1 vs k1 hz g1 o1 pm => ?_)))
  rw [S.list, List.map_map] at pm
  obtain ⟨rs, pr, rfl⟩ := perm_map_ex pm rfl
  have short : rs.length < 64 := by rw [pr.length_eq]; exact S.small
  have few : (rs.map (Prod.snd ∘ fun r : Rw => (tupleKeyHash (mixKind X.prog X.w) r.2, Value.ref r.1))).length ≤ sizeLine := by rw [List.length_map, sizeLine_eq]; omega
  refine wpAny_bind (wpAny_newList ?_ few)
  have vals : (rs.map (Prod.snd ∘ fun r : Rw => (tupleKeyHash (mixKind X.prog X.w) r.2, Value.ref r.1))) = rs.map fun r => Value.ref r.1 := rfl
  rw [vals] at few ⊢
  have atL : (s1.heap.push (seqObj "list" (rs.map fun r => Value.ref r.1).toArray 0)).get? s1.heap.objs.size = some (seqObj "list" (rs.map fun r => Value.ref r.1).toArray 0) := Heap.get?_push_size _ rfl
  have each : ∀ r ∈ rs, IsTupleKey (mixKind X.prog X.w) (s1.heap.push (seqObj "list" (rs.map fun r => Value.ref r.1).toArray 0)) r.2 r.1 ∧ fitK shape 0 r.2 = true ∧ r.2 ≠ [] := fun r hm => by
    have hm := pr.mem_iff.mp hm
    exact ⟨key_grown (S.keys r hm) fun c u e => Heap.get?_push_of_some _ (k1 c u e), (hr r hm).2⟩
  obtain ⟨fs, ht⟩ := tupsOf_at each
  refine wpAny_bind (wpAny_holding (wpAny_call_entry slot_list_sort ⟨_, atL, rfl⟩ entry_list_sort (G.list_sort_tups (s := { s1 with heap := s1.heap.push (seqObj "list" (rs.map fun r => Value.ref r.1).toArray 0) }) atL ht (fun v hv => ?_) few fun st' a1 a2 a3 => ⟨_, rfl, ?_⟩) (args_list_sort _)))
  · obtain ⟨r, hm, rfl⟩ := List.mem_map.mp hv
    exact ⟨_, tupKey_at (each r hm).1 (each r hm).2.1⟩
  · have KO : KeysOf (G.tupKindC (s1.heap.push (seqObj "list" (rs.map fun r => Value.ref r.1).toArray 0)) shape) (pairsOf (rs.map fun r => Value.ref r.1)) := G.tupKeys fun v hv => by
      obtain ⟨r, hm, rfl⟩ := List.mem_map.mp hv
      exact ⟨_, tupKey_at (each r hm).1 (each r hm).2.1⟩
    have out := PySem.W.sort_out (rev := false) KO a1 a2 a3
    simp only [Bool.false_eq_true, if_false] at out
    have twin : ∀ {l : List Rw} {f : Value → Rw → Prop}, (∀ r ∈ l, f (.ref r.1) r) → PySem.W.EachIs f (l.map fun r => Value.ref r.1) l := by
      intro l f hf
      induction l with
      | nil => exact .nil
      | cons r l ih => exact .cons (hf r List.mem_cons_self) (ih fun q hq => hf q (List.mem_cons_of_mem _ hq))
    have srt := PySem.W.sortVals_each (κ := G.tupKindC (s1.heap.push (seqObj "list" (rs.map fun r => Value.ref r.1).toArray 0)) shape) (rev := false) (R := fun v (r : Rw) => v = Value.ref r.1) (fun r => r.2.map tokK) (twin fun r _ => rfl) (twin fun r hm => tupKey_at (each r hm).1 (each r hm).2.1)
    have ord := PySem.W.sort_pairwise (PySem.W.sortLe_total (listOrd itemOrd) false fun r : Rw => r.2.map tokK) rs
    have pmL := List.mergeSort_perm rs (PySem.W.sortLe (listOrd itemOrd) false fun r : Rw => r.2.map tokK)
    generalize rs.mergeSort (PySem.W.sortLe (listOrd itemOrd) false fun r : Rw => r.2.map tokK) = L' at srt ord pmL
    have outL : ((arrOf st').map (·.2)).toList = L'.map fun r => Value.ref r.1 := by
      rw [out]
      generalize PySem.W.sortVals _ _ _ _ = vs at srt
      clear out ord pmL
      induction srt with
      | nil => rfl
      | cons e _ ih => rw [List.map_cons, e, ih]
    obtain ⟨c, atO⟩ := sortedHeap_at (vs := rs.map fun r => Value.ref r.1) (out := (arrOf st').map (·.2)) atL
    have hn : H s1.heap.objs.size = none := I.hok.fresh hz
    have size2 : (L'.map fun r => V.ref r.1).length ≤ sizeLine := by rw [List.length_map, pmL.length_eq, sizeLine_eq]; omega
    have keepAll : ∀ c u, s.heap.get? c = some u → (sortedHeap (s1.heap.push (seqObj "list" (rs.map fun r => Value.ref r.1).toArray 0)) s1.heap.objs.size (rs.map fun r => Value.ref r.1) ((arrOf st').map (·.2))).get? c = some u := fun c u e => by
      have q := k1 c u e
      have lt := Heap.lt_size q
      rw [sortedHeap_old (Nat.ne_of_lt lt) (by rw [size_push']; exact Nat.lt_succ_of_lt lt)]
      exact Heap.get?_push_of_some _ q
    refine wpAny_pure ⟨_, rfl, ?_⟩
    refine go _ s1.heap.objs.size L' (pmL.trans pr) ord hn ?_
    have vL : Vals (L'.map fun r => V.ref r.1) ((arrOf st').map (·.2)).toList := by
      rw [outL]
      have : ∀ l : List Rw, Vals (l.map fun r => V.ref r.1) (l.map fun r => Value.ref r.1) := by
        intro l
        induction l with
        | nil => exact .nil
        | cons r l ih => exact .cons rfl ih
      exact this L'
    generalize hHp : sortedHeap (s1.heap.push (seqObj "list" (rs.map fun r => Value.ref r.1).toArray 0)) s1.heap.objs.size (rs.map fun r => Value.ref r.1) ((arrOf st').map (·.2)) = hp at keepAll atO ⊢
    have J : Inv X pins σ (upd H s1.heap.objs.size (.lst (L'.map fun r => V.ref r.1))) { s with heap := hp, gens := s1.gens, drawn := s1.drawn, toks := s1.toks } :=
      I.call (ch := []) (Un.laid keepAll hz hn) (I.hok.laid keepAll hz ⟨size2, _, c, vL, atO⟩) (by rw [g1]; exact I.bare) fun _ z => nomatch z
    have same : { s1 with heap := hp } = { s with heap := hp, gens := s1.gens, drawn := s1.drawn, toks := s1.toks } := by
      cases s1
      cases s
      cases o1
      rfl
    rw [same]
    exact J
end
end TK

/-! {elt for .. in ..}: whatever a set of one's own is told by -/
namespace TK
open PySem PySem.Spec PyProof.Rows L2

/-- nw: the new set as a tracked thing; ad: what putting an item in asks, and where it leads -/
def tAc (nw : Addr → HO) (ad : Addr → V → Hp → (Hp → Prop) → Prop) (wi : TI) (g : TG) (tt : TT) (te : TE) (js : List Nat) : TE := fun σ H Q => wi σ H fun J Ha => ∀ c, Ha c = none → ∃ W : Nat → Nat → Hp → Prop,
  (∃ k, W 0 k (upd Ha c (nw c))) ∧ ∀ n k Hb, W n k Hb → (J.stop n Hb ∧ Q (.ref c) Hb) ∨
    (J.go n Hb ∧ ∃ on : Hp → Prop, (∀ Hc, on Hc → ∃ k', k' < k ∧ W (n + 1) k' Hc) ∧ ∀ x Hc, J.yld n Hb x Hc → g x (wipe σ js) Hc fun σ2 Hd => wipe σ2 js = wipe σ js ∧ tt σ2 Hd fun yes He => if yes = true then te σ2 He fun y Hf => ad c y Hf on else on He)
section
variable {X : Cx}
/-- what is asked of the two -/
structure AccOk (X : Cx) (nw : Addr → HO) (ad : Addr → V → Hp → (Hp → Prop) → Prop) : Prop where
  new : ∀ (H : Hp) (h : Heap), ObjOk X.prog X.w H (h.push { cls := .type "set", dict := none, data := .set #[] 0 (.fresh 0 0 (!X.w.params.followText "set-order")) }) h.objs.size (nw h.objs.size)
  add : ∀ (s0 : Shared) (H0 : Hp) (sc : Scope) (ce : Env) (fs : List Addr) (pins : List (Addr × Obj)) (σ : L2.St) (H : Hp) (s : Shared) (c : Addr) (y : V) (v : Value) (on : Hp → Prop) (E : Value → Shared → Prop) (Q : Value → Shared → Prop),
    Inv (X.blk s0 H0 sc ce fs) pins σ H s → RelV y v → ad c y H on → (∀ s' H', Inv (X.blk s0 H0 sc ce fs) pins σ H' s' → on H' → Q .none s') → wpAny (model X.prog X.w) X.A (call (.builtin "set.add") [.ref c, v]) Q E s
theorem ac_core {nw : Addr → HO} {ad : Addr → V → Hp → (Hp → Prop) → Prop} (K : AccOk X nw ad) {pins : List (Addr × Obj)} {s : Shared} {σ : L2.St} {H : Hp} {Q : VK} {el tgt src : Expr} {cds : List Expr} {sc : Scope} {own : List (Str × Nat)} {p p2 : Pos} {wi : TI} {g : TG} {tt : TT} {te : TE}
    {use : Option (Value → Sem Unit)} {Qf : Value → Shared → Prop} (calm : X.calm = true) (nd : X.N.Nodup) (I : Inv X pins σ H s) (pi : PI X tgt src wi) (bo : BlkOk X.N X.env.scope sc own)
    (p1 : ∀ (s : Shared) (H : Hp) (c : Addr) (cl : List (Str × Addr)) (fs : List Addr), PG (X.blk s H sc (compEnvC sc cl c X.env) fs) tgt g)
    (p2' : ∀ (s : Shared) (H : Hp) (c : Addr) (cl : List (Str × Addr)) (fs : List Addr), PTs (X.blk s H sc (compEnvC sc cl c X.env) fs) cds tt)
    (p3 : ∀ (s : Shared) (H : Hp) (c : Addr) (cl : List (Str × Addr)) (fs : List Addr), PE (X.blk s H sc (compEnvC sc cl c X.env) fs) el te)
    (fold : ∀ z, foldedSetIterable src X.env z = pure z) (hh : tAc nw ad wi g tt te (own.map (·.2)) σ H Q)
    (fin : ∀ c l s' m H', Inv X pins σ H' s' → Q (.ref c) H' → s'.heap.Ns l m → FpOk X pins H' l → compPost (model X.prog X.w) X.A X.xe use Qf (.ref c) l (.ok .next) s') :
    wpAny (model X.prog X.w) X.A (comprehension (.SetComp el [⟨tgt, src, cds, 0⟩] sc p) sc X.env p2 (newSet (.type "set")) false (eval src X.env) use) Qf X.xe s := by
  have cells : ∀ y ∈ sc.names, y.2 = .free → ∃ c, X.env.cells.lookup y.1 = some c := fun y hy e =>
    (bo.free y hy e).elim (fun z => I.ok.has _ (.inl z)) fun z => I.ok.has _ (.inr z)
  refine wpAny_comprehension_free (use := use) rfl fold (closure_ok cells) bo.kind (fun y hy e => by rw [bo.uniq y hy, e]) (thn (pi.run pins s σ H _ I hh) fun v0 t1 q1 => thn q1 fun v1 t2 q2 => ?_)
  obtain ⟨it, fs, tn, J, Ha, rfl, Ia, T, at0, fpa, hh⟩ := q2
  refine PpSet.newSet_ok (newEnv_comp ?_)
  have none0 : Ha t2.heap.objs.size = none := Ia.hok.fresh (Nat.le_refl _)
  obtain ⟨W, ⟨k0, w0⟩, turn⟩ := hh _ none0
  -- the set stands
  have made := K.new (upd Ha t2.heap.objs.size (nw t2.heap.objs.size)) t2.heap
  have older : ∀ b ∈ fs, b < t2.heap.objs.size := fun b hb => by
    obtain ⟨o, e, _⟩ := T.obj _ _ at0 b hb
    exact Heap.lt_size e
  have grown : ∀ b o, t2.heap.get? b = some o → (t2.heap.push { cls := .type "set", dict := none, data := .set #[] 0 (.fresh 0 0 (!X.w.params.followText "set-order")) }).get? b = some o := fun b o e => Heap.get?_push_of_some _ e
  have bigger : ∀ b, b < t2.heap.objs.size → b < (t2.heap.push { cls := .type "set", dict := none, data := .set #[] 0 (.fresh 0 0 (!X.w.params.followText "set-order")) }).objs.size := fun b hb => by rw [Heap.size_push]; exact Nat.lt_succ_of_lt hb
  generalize hset : t2.heap.push { cls := .type "set", dict := none, data := .set #[] 0 (.fresh 0 0 (!X.w.params.followText "set-order")) } = hS at made grown bigger ⊢
  have Ib : Inv X pins σ (upd Ha t2.heap.objs.size (nw t2.heap.objs.size)) { t2 with heap := hS } := Ia.laid (t' := t2.toks) grown (Nat.le_refl _) made
  have apart : ∀ b ∈ fs, FpOk X pins (upd Ha t2.heap.objs.size (nw t2.heap.objs.size)) b := fun b hb => ⟨by rw [upd_ne (Nat.ne_of_lt (older b hb))]; exact (fpa b hb).1, (fpa b hb).2⟩
  have at1 : tn 0 hS := T.keep _ _ _ at0 fun b _ o e => grown b o e
  generalize hc : t2.heap.objs.size = c at *
  generalize hHb : upd Ha c (nw c) = Hb at *
  have Ic := block_start Ib bo nd fun b hb => ⟨apart b hb, bigger b (older b hb)⟩
  have go1 := p1 { t2 with heap := hS } Hb hS.objs.size (cellsFrom (hS.objs.size + 1) sc.names (cloFrom X.env.cells sc.names [])) fs
  have go2 := p2' { t2 with heap := hS } Hb hS.objs.size (cellsFrom (hS.objs.size + 1) sc.names (cloFrom X.env.cells sc.names [])) fs
  have go3 := p3 { t2 with heap := hS } Hb hS.objs.size (cellsFrom (hS.objs.size + 1) sc.names (cloFrom X.env.cells sc.names [])) fs
  have ceL : (compEnvC sc (cellsFrom (hS.objs.size + 1) sc.names (cloFrom X.env.cells sc.names [])) hS.objs.size X.env).locals = hS.objs.size := rfl
  show codeAny _ _ (.compStart _ 0 (.ref it) (.ref c) (compEnvC sc (cellsFrom (hS.objs.size + 1) sc.names (cloFrom X.env.cells sc.names [])) hS.objs.size X.env)) (compPost (model X.prog X.w) X.A X.xe use Qf (.ref c) hS.objs.size) { t2 with heap := pushCells (hS.push { cls := .type "dict", data := .dict #[] }) sc.names }
  generalize compEnvC sc (cellsFrom (hS.objs.size + 1) sc.names (cloFrom X.env.cells sc.names [])) hS.objs.size X.env = ce at Ic go1 go2 go3 ceL ⊢
  have at2 : tn 0 (pushCells (hS.push { cls := .type "dict", data := .dict #[] }) sc.names) := T.keep _ _ _ at1 fun b _ o e => pushCells_keeps _ _ _ _ (Heap.get?_push_of_some _ e)
  obtain ⟨s3, hs3⟩ : ∃ s3 : Shared, s3 = { t2 with heap := hS } := ⟨_, rfl⟩
  rw [← hs3] at Ic Ib go1 go2 go3
  generalize hs4 : ({ t2 with heap := pushCells (hS.push { cls := .type "dict", data := .dict #[] }) sc.names } : Shared) = s4
  have e4 : s4.heap = pushCells (hS.push { cls := .type "dict", data := .dict #[] }) sc.names := by rw [← hs4]
  have Ic : Inv (X.blk s3 Hb sc ce fs) [] (wipe σ (own.map (·.2))) Hb s4 := by
    rw [← hs4]
    subst hs3
    exact Ic
  have inner : ∀ {σ' : L2.St} {H' : Hp} {s' : Shared}, Inv (X.blk s3 Hb sc ce fs) [] σ' H' s' → (∀ b ∈ fs, H' b = none) → ∀ b ∈ fs, FpOk (X.blk s3 Hb sc ce fs) [] H' b := fun {σ' H' s'} Ix hn b hb =>
    ⟨hn b hb, (Ix.ok.exf b hb).1, Ix.ok.exfs b hb, .inl hb, (fun x cc e => (Ix.ok.exf b hb).2 x cc e), fun q hq => by cases hq⟩
  have loop : codeAny (model X.prog X.w) X.A (.compLoop (.SetComp el [⟨tgt, src, cds, 0⟩] sc p) 0 (.ref it) (.ref c) ce) (compPost (model X.prog X.w) X.A X.xe use Qf (.ref c) hS.objs.size) s4 := by
    refine PpSet.compLoopS_any (fun k s' => ∃ n Hx, Inv (X.blk s3 Hb sc ce fs) [] (wipe σ (own.map (·.2))) Hx s' ∧ tn n s'.heap ∧ (∀ b ∈ fs, Hx b = none) ∧ W n k Hx) ?_ k0 ⟨0, Hb, Ic, by rw [e4]; exact at2, fun b hb => (apart b hb).1, w0⟩
    rintro k s5 ⟨n, Hx, Ix, atn, free, wk⟩
    rcases turn n k Hx wk with ⟨stop, out⟩ | ⟨goes, on, hon, step⟩
    · refine thnF (T.done (X.blk s3 Hb sc ce fs) rfl rfl rfl calm n [] s5 _ Hx (fun _ _ => False) Ix (inner Ix free) atn stop) fun r s6 ⟨er, Iy⟩ => ?_
      subst er
      have home : Inv X pins σ Hx s6 := Ib.call' (ch := fs) Iy.os Iy.base Iy.hok Iy.bare fun b hb => ⟨(apart b hb).2.2.2.1, (apart b hb).2.1, (apart b hb).2.2.2.2.1, (apart b hb).2.2.2.2.2⟩
      have freeL : Hx hS.objs.size = none := by rw [← ceL]; exact Iy.free
      obtain ⟨m, ns, _⟩ := Iy.loc
      have ns : s6.heap.Ns hS.objs.size m := by rw [← ceL]; exact ns
      have old3 : s3.heap.objs.size ≤ hS.objs.size := by rw [hs3]; exact Nat.le_refl _
      exact fin c hS.objs.size s6 m Hx home out ns (Ib.fpOk old3 freeL)
    · refine thnF (T.item (X.blk s3 Hb sc ce fs) rfl rfl rfl calm n [] s5 _ Hx (fun _ _ => False) Ix (inner Ix free) atn goes) fun r s6 ⟨u, er, q6⟩ => ?_
      subst er
      refine thnF q6 fun _ s7 ⟨x, H7, I7, r7, y7, at7, f7⟩ => ?_
      have I8 := I7.pinned (inner I7 f7) (T.obj _ _ at7)
      refine thnF (go1.run _ s7 _ H7 x u _ I8 r7 (step x H7 y7)) fun _ s8 ⟨σ9, H9, I9, same, q9⟩ => ?_
      -- one turn's end
      have ends : ∀ {s' : Shared} {H' : Hp}, Inv (X.blk s3 Hb sc ce fs) ([] ++ pinsAt fs s7.heap) σ9 H' s' → on H' → ∃ k', k' < k ∧ ∃ n H', Inv (X.blk s3 Hb sc ce fs) [] (wipe σ (own.map (·.2))) H' s' ∧ tn n s'.heap ∧ (∀ b ∈ fs, H' b = none) ∧ W n k' H' := fun {s' H'} Iz z => by
        obtain ⟨k', lt, wz⟩ := hon H' z
        have stay : ∀ b ∈ fs, ∀ o, s7.heap.get? b = some o → s'.heap.get? b = some o ∧ H' b = none := fun b hb o e => by
          have pz := Iz.pin (b, o) (List.mem_append_right _ (List.mem_append_right _ (mem_pinsAt hb e)))
          exact ⟨pz.1, pz.2.1⟩
        refine ⟨k', lt, n + 1, H', (Iz.unpinned (pins := [])).weak (by rw [← same, wipe_length]) (fun j v e => ?_), T.keep _ _ _ at7 fun b hb o e => (stay b hb o e).1, fun b hb => ?_, wz⟩
        · rw [← same] at e
          exact (wipe_some e).1
        · obtain ⟨o, e, _⟩ := T.obj _ _ at7 b hb
          exact (stay b hb o e).2
      refine thnF (go2.run _ s8 σ9 H9 _ I9 q9) fun yes s10 ⟨H10, I10, q10⟩ => ?_
      cases yes with
      | false =>
        simp only [Bool.false_eq_true, if_false] at q10 ⊢
        exact ends I10 q10
      | true =>
        simp only [if_true] at q10 ⊢
        refine thnF (go3.run _ s10 σ9 H10 _ I10 q10) fun z s11 ⟨y, H11, I11, r11, q11⟩ => ?_
        exact K.add s3 Hb sc ce fs _ σ9 H11 s11 c y z on _ _ I11 r11 q11 fun s' H' Iz zz => ends Iz zz
  exact PpSet.codeAny_compStart_set loop (T.self X.A 0 _ _ _ (by rw [e4]; exact at2) loop)
/-- as a value -/
theorem pe_ac {nw : Addr → HO} {ad : Addr → V → Hp → (Hp → Prop) → Prop} {el tgt src : Expr} {cds : List Expr} {sc : Scope} {own : List (Str × Nat)} {p : Pos} {wi : TI} {g : TG} {tt : TT} {te : TE} (K : AccOk X nw ad)
    (calm : X.calm = true) (nd : X.N.Nodup) (pi : PI X tgt src wi) (bo : BlkOk X.N X.env.scope sc own)
    (p1 : ∀ (s : Shared) (H : Hp) (c : Addr) (cl : List (Str × Addr)) (fs : List Addr), PG (X.blk s H sc (compEnvC sc cl c X.env) fs) tgt g)
    (p2 : ∀ (s : Shared) (H : Hp) (c : Addr) (cl : List (Str × Addr)) (fs : List Addr), PTs (X.blk s H sc (compEnvC sc cl c X.env) fs) cds tt)
    (p3 : ∀ (s : Shared) (H : Hp) (c : Addr) (cl : List (Str × Addr)) (fs : List Addr), PE (X.blk s H sc (compEnvC sc cl c X.env) fs) el te)
    (fold : ∀ z, foldedSetIterable src X.env z = pure z := by intro _; rfl) : PE X (.SetComp el [⟨tgt, src, cds, 0⟩] sc p) (tAc nw ad wi g tt te (own.map (·.2))) :=
  ⟨fun pins s σ H Q I hh => by
    rw [PpSet.eval_SetComp]
    refine ac_core K calm nd I pi bo p1 p2 p3 fold hh fun c l s' m H' Iz q ns fp => ⟨m, ns, fun h2 sb => ?_⟩
    obtain ⟨f0, f1, f2, f3, f4, f5⟩ := fp
    exact ⟨.ref c, H', Iz.turned (t' := s'.toks) (fun b o hb e => (sb.2 b hb).trans e) f0 f1 f3 f4 f5, rfl, q⟩⟩
end

/-! ### sets of tuples of ints and texts -/
/-- the item's tuple, the rows there are, and the rows there will be -/
def adK (P : Program) (w : World) : Addr → V → Hp → (Hp → Prop) → Prop := fun c y H on => ∃ x key rows, y = .ref x ∧ H c = some (kset P w c rows) ∧ (∀ r ∈ rows, H r.1 = some (.tup (r.2.map kV))) ∧ H x = some (.tup (key.map kV)) ∧ rows.length + 1 < 64 ∧
  ∀ rows2, (key ∈ rows.map Prod.snd → rows2 = rows) → (key ∉ rows.map Prod.snd → rows2.Perm ((x, key) :: rows)) → on (upd H c (kset P w c rows2))
theorem accK {X : Cx} (hu : X.A.units + 64 < cLine) : AccOk X (fun c => kset X.prog X.w c []) (adK X.prog X.w) where
  new := fun H h => kset_ok (bare_of (TK.fresh (w := X.w) (knd := mixKind X.prog X.w) (Heap.get?_push_size _ rfl)))
  add := fun s0 H0 sc ce fs pins σ H s c y v on E Q I r ⟨x, key, rows, e, hc, hr, hx, few, z⟩ go => by
    subst e
    cases r
    exact add_ok (X := X.blk s0 H0 sc ce fs) hu I hc hr hx few fun s' rows2 a b J => go s' _ J (z rows2 a b)
/-- sorted of such a set -/
def rSrtK (shape : Nat → Bool) (P : Program) (w : World) : List V → Hp → VK → Prop := fun vs H Q => ∃ c rows, vs = [V.ref c] ∧ H c = some (kset P w c rows) ∧ (∀ r ∈ rows, H r.1 = some (.tup (r.2.map kV)) ∧ fitK shape 0 r.2 = true ∧ r.2 ≠ []) ∧
  ∀ (p : Addr) (rows2 : List Rw), rows2.Perm rows → rows2.Pairwise (fun q r => leK q.2 r.2 = true) → H p = none → Q (.ref p) (upd H p (.lst (rows2.map fun r => V.ref r.1)))
theorem cr_srtK {X : Cx} {shape : Nat → Bool} (calm : X.calm = true) : CallR X (.builtin "sorted") (rSrtK shape X.prog X.w) := fun pins s σ H vs us Q I r ⟨c, rows, e, hc, hr, q⟩ => by
  subst e
  rw [Vals.ref1 r]
  exact sort_ok calm I hc hr fun s' p rows2 pm pw hn J => ⟨.ref p, _, J, rfl, q p rows2 pm pw hn⟩
end TK

namespace DL
open PySem PySem.Spec PyProof.Rows L2 TK

/-! ### sorted({(..) for .. in ..}), tuples of ints and texts -/

open Classical in
noncomputable def insK (kss : List (List Key)) (ks : List Key) : List (List Key) := if ks ∈ kss then kss else kss ++ [ks]
theorem insK_len (kss : List (List Key)) (ks : List Key) : (insK kss ks).length ≤ kss.length + 1 := by
  unfold insK
  split
  · omega
  · rw [List.length_append]; simp
theorem is_kd {st : Addr} {M : List Addr} {H : Hp} (k : Key) : Is st M H (kV k) (keyD k) := by
  cases k with
  | inl i => exact .int i
  | inr x =>
    have := Is.str (st := st) (M := M) (H := H) x.cps.toList
    rwa [Array.toArray_toList] at this
theorem iss_kd {st : Addr} {M : List Addr} {H : Hp} : ∀ ks : List Key, Iss st M H (ks.map kV) (ks.map keyD)
  | [] => .nil
  | k :: ks => .cons (is_kd k) (iss_kd ks)
section
variable {P : Program} {w : World} {env : Nv} {post : D → Prop}
theorem de_srtAc {shape : Nat → Bool} {wi : TI} {g : TG} {tt : TT} {te : TE} {is : List Nat} (hg : Only g is) (h : Di wi env fun ds => ds.length < 63 ∧ ∃ Iv : Nat → List (List Key) → Prop, Iv 0 [] ∧
      (∀ i d kss, ds[i]? = some d → kss.length ≤ i → Iv i kss → Dg g d (wipeE env is) fun e2 => Dt tt e2 fun b => if b = true then De te e2 fun y => ∃ l ks, y = .tup l ∧ toKeys l = some ks ∧ (fitK shape 0 ks = true ∧ ks ≠ []) ∧ Iv (i + 1) (insK kss ks) else Iv (i + 1) kss) ∧
      ∀ kss, Iv ds.length kss → ∀ kss2 : List (List Key), kss2.Perm kss → kss2.Pairwise (fun a b => leK a b = true) → post (.lst (kss2.map fun ks => .tup (ks.map keyD)))) :
    De (tCB (rSrtK shape P w) (tCons (tAc (fun c => kset P w c []) (adK P w) wi g tt te is) tNil)) env post := fun B M σ H S Q q => by
  refine h B M σ H S _ fun J H1 hv ds ⟨hz, Iv, h0, hs, hd⟩ S1 e1 hh T c hn => ?_
  have ne : c ≠ B.st := S1.nst hn
  refine ⟨fun i m Hx => m = ds.length - i ∧ i ≤ ds.length ∧ ∃ (kss : List (List Key)) (rows : List Rw), kss.length ≤ i ∧ Iv i kss ∧ (rows.map Prod.snd).Perm kss ∧ (∀ r ∈ rows, Hx r.1 = some (.tup (r.2.map kV)) ∧ fitK shape 0 r.2 = true ∧ r.2 ≠ []) ∧ Fx B.st H1 Hx ∧ Hx c = some (kset P w c rows),
    ⟨_, rfl, Nat.zero_le _, [], [], Nat.le_refl _, h0, .refl _, (fun _ z => nomatch z), Fx.new hn, upd_same⟩, ?_⟩
  rintro i m H2 ⟨rfl, hi, kss, rows, hkl, hI, hpm, hrw, f2, hD⟩
  have S2 : Sr { B with hid := hv ++ B.hid } (c :: M) (wipe σ is) H2 (wipeE env is) := ((S1.hide hh).newIn' (B := { B with hid := hv ++ B.hid }) hn f2 hD).wipes is
  obtain ⟨t1, t2, t3⟩ := T.run _ H2 S2.stm S2.stM S2.hv
  -- a tuple is neither the stream nor the set
  have apart : ∀ {Hx : Hp} {b : Addr} {us : List V} {rs : List Rw}, Hx c = some (kset P w c rs) → Hx b = some (.tup us) → b ≠ c := fun {Hx b us rs} z1 z2 e => by
    rw [e, z1] at z2
    cases z2
  by_cases hlt : i < ds.length
  · refine .inr ⟨t1 i hlt, fun Hx => ∃ (kss : List (List Key)) (rows : List Rw), kss.length ≤ i + 1 ∧ Iv (i + 1) kss ∧ (rows.map Prod.snd).Perm kss ∧ (∀ r ∈ rows, Hx r.1 = some (.tup (r.2.map kV)) ∧ fitK shape 0 r.2 = true ∧ r.2 ≠ []) ∧ Fx B.st H1 Hx ∧ Hx c = some (kset P w c rows),
      fun Hx hN => ⟨_, by omega, rfl, hlt, hN⟩, fun x H3 hy => ?_⟩
    obtain ⟨hH, ix⟩ := t3 i _ x H3 (List.getElem?_eq_getElem hlt) hy
    have e3 : Fx B.st H2 H3 := by
      rcases hH with z | ⟨T, o, hT, z⟩
      · rw [z]; exact Fx.refl _ _
      · rw [z]; exact Fx.new hT
    have hw0 : wipe (wipe σ is) is = wipe σ is := wipe_wipe fun _ z => z
    have go := hg x (wipe σ is) H3
    rw [hw0] at go
    refine go _ (hs i _ kss (List.getElem?_eq_getElem hlt) hkl hI _ _ _ H3 _ (S2.fx e3) ix _ fun σ4 env4 h4 S4 => ?_)
    refine h4 _ _ _ H3 S4 _ fun b H4 hb S5 e4 => ?_
    have rowsOn : ∀ {Hx : Hp}, Fx B.st H2 Hx → ∀ r ∈ rows, Hx r.1 = some (.tup (r.2.map kV)) ∧ fitK shape 0 r.2 = true ∧ r.2 ≠ [] := fun {Hx} e r hr => by
      obtain ⟨a1, a2⟩ := hrw r hr
      exact ⟨e.1 _ _ (fun z => S2.stm.notup _ (z ▸ a1)) a1, a2⟩
    have f4 : Fx B.st H1 H4 := (f2.trans e3).trans e4
    have D4 : H4 c = some (kset P w c rows) := e4.1 _ _ ne (e3.1 _ _ ne hD)
    cases b with
    | true =>
      refine hb _ _ _ H4 S5 _ fun y H5 d5 ⟨l, ks, ed, hk, ⟨hf, hne⟩, hI6⟩ S6 e5 i5 => ?_
      subst ed
      obtain ⟨p, vs, rfl, hp, hss⟩ := is_tup i5
      have := is_keys hss hk
      subst this
      have D5 : H5 c = some (kset P w c rows) := e5.1 _ _ ne D4
      have rows5 := rowsOn ((e3.trans e4).trans e5)
      refine ⟨p, ks, rows, rfl, D5, fun r hr => (rows5 r hr).1, hp, ?_, fun rows2 old new => ⟨insK kss ks, rows2, ?_, hI6, ?_, fun r hr => ?_, (f4.trans e5).mut hn ne, upd_same⟩⟩
      · have := hpm.length_eq
        rw [List.length_map] at this
        omega
      · have := insK_len kss ks
        omega
      · unfold insK
        by_cases hm : ks ∈ kss
        · rw [if_pos hm, old (hpm.mem_iff.mpr hm)]
          exact hpm
        · rw [if_neg hm]
          have z := (new fun z => hm (hpm.mem_iff.mp z)).map Prod.snd
          rw [List.map_cons] at z
          exact z.trans ((hpm.cons ks).trans (List.perm_append_singleton _ _).symm)
      · have key : H5 r.1 = some (.tup (r.2.map kV)) ∧ fitK shape 0 r.2 = true ∧ r.2 ≠ [] := by
          by_cases hm : ks ∈ rows.map Prod.snd
          · rw [old hm] at hr
            exact rows5 r hr
          · rcases List.mem_cons.mp ((new hm).mem_iff.mp hr) with z | z
            · rw [z]; exact ⟨hp, hf, hne⟩
            · exact rows5 r z
        rw [upd_ne (apart D5 key.1)]
        exact key
    | false => exact ⟨kss, rows, by omega, hb, hpm, rowsOn (e3.trans e4), f4, D4⟩
  · have e : i = ds.length := by omega
    subst e
    refine .inl ⟨t2 _ (Nat.le_refl _), c, rows, rfl, hD, hrw, fun p rows2 pm pw hp => ?_⟩
    have fin := hd kss hI (rows2.map Prod.snd) ((pm.map Prod.snd).trans hpm) (List.pairwise_map.mpr pw)
    rw [List.map_map] at fin
    have f5 : Fx B.st H1 (upd H2 p (.lst (rows2.map fun r => V.ref r.1))) := f2.trans (Fx.new hp)
    refine q _ _ _ fin (S1.fx f5) (e1.trans f5) (.lst (fun z => ?_) upd_same ?_)
    · obtain ⟨o, ho⟩ := S2.trk p (List.mem_cons_of_mem _ z)
      rw [hp] at ho
      cases ho
    · have each : ∀ rs : List Rw, (∀ r ∈ rs, H2 r.1 = some (.tup (r.2.map kV))) → Iss B.st M (upd H2 p (.lst (rows2.map fun r => V.ref r.1))) (rs.map fun r => V.ref r.1) (rs.map ((fun ks => D.tup (ks.map keyD)) ∘ Prod.snd)) := by
        intro rs
        induction rs with
        | nil => exact fun _ => .nil
        | cons r rs ih =>
          intro hr
          refine .cons (.tup ?_ (iss_kd r.2)) (ih fun z hz => hr z (List.mem_cons_of_mem _ hz))
          have a1 := hr r List.mem_cons_self
          rw [upd_ne (fun z => by rw [z, hp] at a1; cases a1)]
          exact a1
      exact each rows2 fun r hr => (hrw r (pm.mem_iff.mp hr)).1
end
end DL

namespace DL
open PySem PySem.Spec PyProof.Rows L2

/-! ### enumerate(d): the keys of a dict, each behind its number -/
section
variable {prog : Program} {w : World} {A : Around} {E : Value → Shared → Prop} {s : Shared} {it d : Addr} {i n ep : Nat} {od : Obj} {es : Array DictEntry}
/-- the iterator over the keys gives the next key -/
theorem keys_next {en : DictEntry} {Q : Value → Shared → Prop} (it1 : s.heap.IsKeyIter it d i n ep) (od1 : s.heap.get? d = some od) (od2 : od.data = .dict es ep) (sz : es.size = n) (at1 : es[i]? = some en)
    (go : ∀ h', h'.IsKeyIter it d (i + 1) n ep → Heap.SameBut it s.heap h' → Q en.key { s with heap := h' }) : wpAny (model prog w) A (Builtin.SmallTypes.nextOf (.ref it)) Q E s := by
  obtain ⟨oi, e1, e2, e3⟩ := id it1
  obtain ⟨lt, enE⟩ := Array.getElem?_eq_some_iff.mp at1
  have noTuple : Builtin.Dict_items.ownsTuple "dict_keyiterator" = false := by decide
  unfold Builtin.SmallTypes.nextOf
  refine wpAny_bind (wpAny_callSpecial?_slot (name := Str.ofString "__next__") it1.typeIs F.slot_dict_keyiterator_next (wpAny_call_entry F.slot_dict_keyiterator_next it1.typeIs F.entry_dict_keyiterator_next ?_ (F.args_dict_keyiterator_next_1 _)))
  refine wpAny_bind (wpAny_pure (wpAny_bind (wpAny_bind ?_)))
  first | refine wpAny_bind (wpAny_typeNameOfWhole_keyiter it1.typeIs (wpAny_pure ?_)) | refine wpAny_bind (wpAny_typeNameOf_keyiter it1.typeIs (wpAny_pure ?_))
  refine wpAny_bind (wpAny_fieldsOf e1 e3 ?_)
  simp only [noTuple, Bool.false_eq_true, if_false]
  have notNone : ¬ (Value.ref d == Value.none) = true := Bool.false_ne_true
  show wpAny _ _ (if (Value.ref d == Value.none) = true then _ else _) _ _ s
  rw [if_neg notNone]
  refine wpAny_bind (wpAny_pure (wpAny_bind (wpAny_dictEntries od1 od2 ?_)))
  rw [if_neg (by rw [sz]; simp)]
  refine wpAny_bind (wpAny_pure (wpAny_bind (wpAny_dictEpoch od1 od2 ?_)))
  rw [if_neg (by simp)]
  refine wpAny_pure ?_
  simp only [show ¬ ((i : Int) < 0) from by omega, if_false, Int.toNat_natCast, Array.getElem?_eq_getElem lt]
  refine wpAny_bind ?_
  first | refine wpAny_bind (wpAny_typeNameOfWhole_keyiter it1.typeIs (wpAny_pure ?_)) | refine wpAny_bind (wpAny_typeNameOf_keyiter it1.typeIs (wpAny_pure ?_))
  refine wpAny_bind (wpAny_isOneOf_keyiter it1.typeIs ?_)
  show wpAny _ _ (setField (.ref it) 1 (rawInt ((i : Int) + 1)) >>= _) _ _ s
  have it2 : (s.heap.update it (Obj.mapFields (·.setIfInBounds 1 (rawInt ((i : Int) + 1))))).IsKeyIter it d (i + 1) n ep :=
    ⟨_, Heap.get?_update_self _ e1 (Obj.isFreed_of_fields (Obj.data_mapFields e3 _)), (Obj.cls_mapFields ..).trans e2, by simp [Obj.data_mapFields e3, rawInt]⟩
  refine wpAny_bind (wpAny_setField e1 e3 (by simp) (wpAny_bind (wpAny_holding (wpAny_bind (wpAny_isOneOf_keyiter (s := { s with heap := s.heap.update it (Obj.mapFields (·.setIfInBounds 1 (rawInt ((i : Int) + 1)))) }) it2.typeIs ?_)))))
  show wpAny _ _ (pure es[i].key) _ _ _
  rw [enE]
  exact wpAny_pure (wpAny_pure ⟨_, rfl, wpAny_pure (go _ it2 (Heap.SameBut.update ..))⟩)
/-- .. or none is left -/
theorem keys_end {Q : Value → Shared → Prop} (hh : A.handled = none) (it1 : s.heap.IsKeyIter it d n n ep) (od1 : s.heap.get? d = some od) (od2 : od.data = .dict es ep) (sz : es.size = n)
    (go : ∀ h' e, Heap.ExtBut it s.heap h' → (∃ o, h'.get? e = some o ∧ o.cls = .type "StopIteration") → E (.ref e) { s with heap := h' }) : wpAny (model prog w) A (Builtin.SmallTypes.nextOf (.ref it)) Q E s := by
  obtain ⟨oi, e1, e2, e3⟩ := id it1
  have past : es.size ≤ n := by omega
  have noTuple : Builtin.Dict_items.ownsTuple "dict_keyiterator" = false := by decide
  have notNone : ¬ (Value.ref d == Value.none) = true := Bool.false_ne_true
  unfold Builtin.SmallTypes.nextOf
  refine wpAny_bind (wpAny_callSpecial?_slot (name := Str.ofString "__next__") it1.typeIs F.slot_dict_keyiterator_next (wpAny_call_entry F.slot_dict_keyiterator_next it1.typeIs F.entry_dict_keyiterator_next ?_ (F.args_dict_keyiterator_next_1 _)))
  refine wpAny_bind (wpAny_pure (wpAny_bind (wpAny_bind ?_)))
  first | refine wpAny_bind (wpAny_typeNameOfWhole_keyiter it1.typeIs (wpAny_pure ?_)) | refine wpAny_bind (wpAny_typeNameOf_keyiter it1.typeIs (wpAny_pure ?_))
  refine wpAny_bind (wpAny_fieldsOf e1 e3 ?_)
  simp only [noTuple, Bool.false_eq_true, if_false]
  show wpAny _ _ (if (Value.ref d == Value.none) = true then _ else _) _ _ s
  rw [if_neg notNone]
  refine wpAny_bind (wpAny_pure (wpAny_bind (wpAny_dictEntries od1 od2 ?_)))
  rw [if_neg (by rw [sz]; simp)]
  refine wpAny_bind (wpAny_pure (wpAny_bind (wpAny_dictEpoch od1 od2 ?_)))
  rw [if_neg (by simp)]
  refine wpAny_pure ?_
  simp only [show ¬ ((n : Int) < 0) from by omega, if_false, Int.toNat_natCast, Array.getElem?_eq_none past]
  refine wpAny_bind ?_
  first | refine wpAny_bind (wpAny_typeNameOfWhole_keyiter it1.typeIs (wpAny_pure ?_)) | refine wpAny_bind (wpAny_typeNameOf_keyiter it1.typeIs (wpAny_pure ?_))
  show wpAny _ _ (setField (.ref it) 0 .none >>= _) _ _ s
  refine wpAny_bind (wpAny_setField e1 e3 (by simp) ?_)
  show wpAny _ _ (newExc (.type "StopIteration") [] >>= _) _ _ _
  refine wpAny_bind ?_
  simp only [newExc, newTuple]
  refine wpAny_bind (wpAny_newObj_type (wpAny_bind (m := firstArgMember _ _) (wpAny_of_eq (a := Value.none) (by first | rfl | (simp only [firstArgMember]; rfl)) (wpAny_newObj_type ?_ (by size_fits)))) (by size_fits))
  simp only [raiseNew]
  refine wpAny_bind (wpAny_handled ?_)
  rw [show A.in1.handled = none from hh]
  refine wpAny_bind (wpAny_pure (wpAny_throw (go _ _ (((Heap.SameBut.update ..).extBut.push _).push _) ⟨_, Heap.get?_push_size _ rfl, rfl⟩)))
end
theorem keys_drawn {prog : Program} {w : World} {A : Around} (hh : A.handled = none) (it d : Addr) (ne : d ≠ it) (es : Array DictEntry) (ep : Nat) :
    Draws prog w A it [it, d] es.size (fun i v => ∃ en, es[i]? = some en ∧ v = en.key) (fun i h => h.IsKeyIter it d i es.size ep ∧ ∃ o, h.get? d = some o ∧ o.data = .dict es ep) where
  live := fun _ _ st => let ⟨o, e, _⟩ := st.1; ⟨o, e⟩
  frame := fun i h h' ⟨⟨o, e, r⟩, od, e1, e2⟩ k => ⟨⟨o, k it (by simp) o e, r⟩, od, k d (by simp) od e1, e2⟩
  item := fun i s Q E hi ⟨st, od, e1, e2⟩ q => keys_next st e1 e2 rfl (Array.getElem?_eq_getElem hi) fun h' st' sb => q _ h' s.toks ⟨_, Array.getElem?_eq_getElem hi, rfl⟩ ⟨st', od, (sb.2 d ne).trans e1, e2⟩ sb
  done := fun s Q E ⟨st, od, e1, e2⟩ q => keys_end hh st e1 e2 rfl q
theorem begins_keys (d : Addr) (hd : (d == sysModules) = false) (es : Array DictEntry) (ep : Nat) : Begins (.ref d) { cls := .type "dict_keyiterator", data := .fields #[.ref d, .int 0 0, .int es.size 0, .int ep 0] } fun h => ∃ o, h.get? d = some o ∧ o.ExactDict ∧ o.data = .dict es ep where
  iter := fun prog w A E s Q ⟨o, e1, e2, e3⟩ h => L2.iter_keys hd e1 e2 e3 h
  keeps := fun h h' ⟨o, e1, r⟩ k => ⟨o, k d o e1, r⟩
  free := rfl
/-- the keys of the locked dict at d -/
def Ikn (d : Addr) (o : Obj) (kvs : List (Key × V)) : It :=
  ⟨fun i H => H d = some (.frz o (.dK kvs)) ∧ i < kvs.length, fun i H v H' => ∃ T k u, kvs[i]? = some (k, u) ∧ v = .ref T ∧ H T = none ∧ H' = upd H T (.tup [.int (i : Nat), kV k]),
    fun i H => H d = some (.frz o (.dK kvs)) ∧ kvs.length ≤ i⟩
theorem turn_kn {P : Program} {w : World} {K : PySem.W.Frag} {elts : List Expr} {kk : Nat} {tpos : Pos} {d e it : Addr} {o : Obj} {es : Array DictEntry} {ep : Nat} {kvs : List (Key × V)} (de : d ≠ e) (di : d ≠ it) (hod : o.data = .dict es ep) (hsz : es.size = kvs.length) :
    Turn P w K (.Tuple elts kk tpos) (Ikn d o kvs) [e, it] e (fun i h => (∃ old, IsEnum h e it ((i : Nat) : Int) old) ∧ h.IsKeyIter it d i es.size ep ∧ e ≠ it ∧ i ≤ es.size) where
  mem := by simp
  obj := fun i h ⟨⟨old, he⟩, ⟨oi, ho, hc, hdat⟩, _⟩ b hb => by
    rcases (show b = e ∨ b = it by simpa using hb) with rfl | rfl
    · exact ⟨_, he, fun v q => nomatch q⟩
    · exact ⟨oi, ho, fun v q => by rw [hdat] at q; cases q⟩
  keep := fun i h h' ⟨⟨old, he⟩, ⟨oi, ho, r⟩, more⟩ k => ⟨⟨old, k e (by simp) _ he⟩, ⟨oi, k it (by simp) oi ho, r⟩, more⟩
  item := by
    intro X hP hw hK hc i pins s σ H E I hf st hg
    subst hP hw hK
    obtain ⟨⟨old, he⟩, hit, hne, _⟩ := st
    obtain ⟨hd, hi⟩ := hg
    obtain ⟨hs, hgd, hx, es', ep', vs, hdt, hsz', kv, od', es2, h1, h2, h3, h4⟩ := I.frzK hd
    obtain ⟨rfl, rfl⟩ := L2.dict_ep hod hdt
    obtain ⟨⟨k, v⟩, hkv⟩ : ∃ p, kvs[i]? = some p := ⟨kvs[i], List.getElem?_eq_getElem hi⟩
    rw [hgd] at h1
    cases h1
    obtain ⟨rfl, _⟩ := L2.dict_ep hod h3
    have Dr := keys_drawn (prog := X.prog) (w := X.w) (A := X.A.in1) (I.ok.hd hc) it d di es2 ep'
    have le : e < s.heap.objs.size := Heap.lt_size he
    have li : it < s.heap.objs.size := by obtain ⟨_, q, _⟩ := hit; exact Heap.lt_size q
    refine wpAny_pyNext_enum_itemD Dr he ⟨hit, _, hgd, hod⟩ (by rw [hsz]; exact hi) hne (fun z => by simp [hne, de.symm] at z) fun x2 h' tk y2 ho hst hT hz hk => ?_
    obtain ⟨en, hen, rfl⟩ := y2
    obtain ⟨u, hu, _⟩ := L2.kv_get kv hkv
    have rk : RelV (kV k) en.key := L2.relV_key (h4.2.1.get? (e := en) (by rw [Array.getElem?_toList]; exact hen) hu).1
    refine ⟨_, rfl, wpAny_letOwnedTupleGo_enum (s := { s with heap := h', toks := tk + 1 }) ho fun h'' he' sb => ?_⟩
    have atT : h''.get? s.heap.objs.size = some { cls := .type "tuple", data := .seq #[.int i tk, en.key] } := (sb.2 _ (Nat.ne_of_gt le)).trans hT
    have new : ObjOk X.prog X.w (upd H s.heap.objs.size (.tup [.int (i : Nat), kV k])) h'' s.heap.objs.size (.tup [.int (i : Nat), kV k]) :=
      ⟨by show 2 ≤ sizeLine; decide, [.int i tk, en.key], .cons ⟨_, rfl⟩ (.cons rk .nil), ⟨_, atT, rfl, _, rfl⟩⟩
    have I1 : L2.Inv X pins σ (upd H s.heap.objs.size (.tup [.int (i : Nat), kV k])) { s with heap := h'', toks := tk + 1 } :=
      I.turnedNew (ch := [e, it]) (fun b ob hb q => (sb.2 b (fun z => hb (by simp [z]))).trans (hk b ob (fun z => hb (by simp [z])) (fun z => hb (by simp [z])) q)) hf (Nat.le_refl _) new
    refine ⟨.ref s.heap.objs.size, _, I1, rfl, ⟨_, k, v, hkv, rfl, I.hok.fresh (Nat.le_refl _), rfl⟩, ⟨⟨en.key, ?_⟩, ?_, hne, by omega⟩, fun b hb => ?_⟩
    · rw [show ((i + 1 : Nat) : Int) = (i : Int) + 1 by omega]; exact he'
    · obtain ⟨oi, q1, q2⟩ := hst.1
      exact ⟨oi, (sb.2 it (Ne.symm hne)).trans q1, q2⟩
    · have lb : b < s.heap.objs.size := by
        rcases (show b = e ∨ b = it by simpa using hb) with rfl | rfl
        · exact le
        · exact li
      rw [upd_ne (Nat.ne_of_lt lb)]
      exact (hf b hb).1
  done := by
    intro X hP hw hK hc i pins s σ H E I hf st hg
    subst hP hw hK
    obtain ⟨⟨old, he⟩, hit, hne, hn⟩ := st
    obtain ⟨hd, hi⟩ := hg
    obtain ⟨_, hgd, _⟩ := I.frzK hd
    have Dr := keys_drawn (prog := X.prog) (w := X.w) (A := X.A.in1) (I.ok.hd hc) it d di es ep
    obtain ⟨f0, f1, f2, f3, f4, f5⟩ := hf it (by simp)
    have last : i = es.size := by omega
    exact wpAny_pyNext_enum_endD Dr he ⟨last ▸ hit, o, hgd, hod⟩ fun h' eb => ⟨rfl, I.turned (t' := s.toks) (fun b o hb q => eb b o hb q) f0 f1 f3 f4 f5⟩
  self := fun A i s Q E ⟨⟨_, he⟩, _⟩ h => wpAny_pyIter_enum he h
/-- enumerate(d), d locked -/
def iKn (ta : TA) : TI := fun σ H R => ta σ H fun vs H1 => ∃ d od kvs, vs = [V.ref d] ∧ H1 d = some (.frz od (.dK kvs)) ∧ R (Ikn d od kvs) H1
theorem pi_kn {X : Cx} {e : Expr} {ta : TA} {p pos tpos : Pos} {elts : List Expr} {kk : Nat} (hg : Gl X "enumerate") (hm : X.mg "enumerate" = none) (ha : PA X [e] ta) (hs : starEach [e] X.env = [(false, eval e X.env)] := by rfl) :
    PI X (.Tuple elts kk tpos) (.Call (.Name "enumerate" p) [e] [] pos) (iKn ta) := by
  refine ⟨fun pins s σ H R I h => Call_ (ld_blt I hg hm boot_enumerate (PyProof.Rows.callWith_type1 (thn (ha.run pos pins s σ H _ I h) fun us s1 ⟨vs, H1, I1, r1, d, od, kvs, ex, hd, q⟩ => ?_) hs rfl))⟩
  subst ex
  rw [Vals.ref1 r1]
  obtain ⟨hs, hgd, hx, es, ep, vs, hdt, hsz, _⟩ := I1.frzK hd
  have ld : d < s1.heap.objs.size := Heap.lt_size hgd
  refine call_en (begins_keys d hs es ep) ⟨od, hgd, hx, hdt⟩ fun h' he hi hk => wpAny_pyIter_enum he ?_
  have I2 : L2.Inv X pins σ H1 { s1 with heap := h' } := I1.kept (t' := s1.toks) hk
  refine ⟨s1.heap.objs.size + 1, [s1.heap.objs.size + 1, s1.heap.objs.size], _, _, H1, rfl, I2, turn_kn (e := s1.heap.objs.size + 1) (it := s1.heap.objs.size) (Nat.ne_of_lt (Nat.lt_succ_of_lt ld)) (Nat.ne_of_lt ld) hdt hsz, ⟨⟨.none, he⟩, ⟨_, hi, rfl, rfl⟩, Nat.succ_ne_self _, Nat.zero_le _⟩, fun b hb => ?_, q⟩
  have hle : s1.heap.objs.size ≤ b := by
    rcases (show b = s1.heap.objs.size + 1 ∨ b = s1.heap.objs.size by simpa using hb) with z | z <;> rw [z] <;> first | exact Nat.le_refl _ | exact Nat.le_succ _
  exact I1.fpOk hle (I1.hok.fresh hle)
section
variable {env : Nv} {nx : Nv → Prop} {rt : D → Prop} {bk ct : Nv → Prop} {K : PySem.W.Frag}
/-- y = {key: number for number, key in enumerate(d)} -/
theorem ds_numK {i k a b : Nat} {kvs : List (Key × V)} {ps : List Nat} (hk : env[k]? = some (.dat (.dK kvs))) (hab : a ≠ b) (ha : a < env.length) (hb : b < env.length) (hp : kvs.map (·.1) = ps.map fun p : Nat => (.inl (p : Int) : Key)) (nd : ps.Nodup) (hz : ps.length ≤ 1000000)
    (h : nx (env.set i (.own (.dK (nbD ps))))) : Ds (tLock (tAsg (tDc (iKn (tCons (tVar k) tNil)) (gTup K 2 (gCons (gName a) (gCons (gName b) gNil))) tYes (tVar b) (tVar a) [a, b]) (gName i))) env nx rt bk ct := fun B M σ H S E q1 q2 q3 q4 => by
  obtain ⟨v, hv, iv⟩ := S.dat k _ hk
  obtain ⟨p, rfl, hm, hpd⟩ : ∃ p, v = .ref p ∧ p ∉ M ∧ H p = some (.dK kvs) := by cases iv with | dK m e _ => exact ⟨_, rfl, m, e⟩
  have np : p ≠ B.st := fun z => hm (z ▸ S.stM)
  have hlen : kvs.length = ps.length := by have := congrArg List.length hp; rwa [List.length_map, List.length_map] at this
  have la : a < σ.length := by rw [S.len]; exact ha
  have lb : b < σ.length := by rw [S.len]; exact hb
  refine ⟨p, _, hpd, trivial, fun od => ?_⟩
  show tDc _ _ _ _ _ _ σ (upd H p (.frz od (.dK kvs))) _
  refine ⟨.ref p, hv, p, od, kvs, rfl, upd_same, fun c hc => ?_⟩
  have ncp : c ≠ p := fun z => by rw [z, upd_same] at hc; cases hc
  have hcn : H c = none := by rwa [upd_ne ncp] at hc
  have ncs : c ≠ B.st := S.nst hcn
  refine ⟨fun n m Hx => m = ps.length - n ∧ n ≤ ps.length ∧ Hx p = some (.frz od (.dK kvs)) ∧ Hx c = some (.dK (nbD (ps.take n))) ∧ ∀ x o, x ≠ p → H x = some o → Hx x = some o, ⟨_, rfl, Nat.zero_le _, ?_, upd_same, fun x o nx' hx => ?_⟩, ?_⟩
  · rw [upd_ne (Ne.symm ncp)]; exact upd_same
  · rw [upd_ne (fun z => by rw [z, hcn] at hx; cases hx), upd_ne nx']; exact hx
  rintro n m Hx ⟨rfl, hn, h1, h2, h3⟩
  by_cases hlt : n < ps.length
  · refine .inr ⟨⟨h1, by omega⟩, fun Hy => Hy p = some (.frz od (.dK kvs)) ∧ Hy c = some (.dK (nbD (ps.take (n + 1)))) ∧ ∀ x o, x ≠ p → H x = some o → Hy x = some o, fun Hy ⟨z1, z2, z3⟩ => ⟨_, by omega, rfl, hlt, z1, z2, z3⟩, fun x Hy hy => ?_⟩
    obtain ⟨T, key, u, e1, rfl, e3, rfl⟩ := hy
    have hkey : key = .inl ((ps[n] : Nat) : Int) := by
      have : (kvs.map (·.1))[n]? = some key := by rw [List.getElem?_map, e1]; rfl
      rw [hp, List.getElem?_map, List.getElem?_eq_getElem hlt] at this
      exact (Option.some.inj this).symm
    subst hkey
    refine ⟨T, _, rfl, .of upd_same, rfl, _, _, rfl, _, _, rfl, rfl, ?_, ?_⟩
    · rw [wipe_set (List.mem_cons_of_mem _ List.mem_cons_self), wipe_set List.mem_cons_self, wipe_wipe fun _ z => z]
    · have nT : ∀ x o, Hx x = some o → x ≠ T := fun x o hx z => by rw [z, e3] at hx; cases hx
      refine ⟨kV (.inl ((ps[n] : Nat) : Int)), ?_, .int (n : Nat), ?_, nbD (ps.take n), .inl ((ps[n] : Nat) : Int), rfl, by rw [upd_ne (nT c _ h2)]; exact h2, ?_, ?_, ?_, fun x o nx' hx => ?_⟩
      · rw [List.getElem?_set_self (by rw [List.length_set, wipe_length]; exact lb)]
      · rw [List.getElem?_set_ne (Ne.symm hab), List.getElem?_set_self (by rw [wipe_length]; exact la)]
      · rw [nbD_len, List.length_take]
        exact Nat.lt_of_le_of_lt (Nat.min_le_left _ _) (Nat.lt_of_lt_of_le hlt (Nat.le_trans hz (by decide)))
      · rw [upd_ne (Ne.symm ncp), upd_ne (nT p _ h1)]; exact h1
      · have hnm : ps[n] ∉ ps.take n := fun z => by
          obtain ⟨j, hj, e⟩ := List.getElem_of_mem z
          rw [List.length_take] at hj
          rw [List.getElem_take] at e
          exact absurd e (List.pairwise_iff_getElem.mp nd j n (by omega) hlt (by omega))
        have put := nbD_put hnm
        rw [List.length_take, Nat.min_eq_left (Nat.le_of_lt hlt), List.take_append_getElem hlt] at put
        rw [upd_same, put]
      · have hxx := h3 x o nx' hx
        rw [upd_ne (fun z => by rw [z, hcn] at hx; cases hx), upd_ne (nT x _ hxx)]
        exact hxx
  · have en : n = ps.length := by omega
    subst en
    rw [List.take_length] at h2
    refine .inl ⟨⟨h1, by omega⟩, h1, ?_⟩
    have fx : Fx B.st H (upd Hx p (.dK kvs)) := ⟨fun x o _ hx => by
      by_cases z : x = p
      · rw [z] at hx ⊢
        rw [hpd] at hx
        cases hx
        exact upd_same
      · rw [upd_ne z]; exact h3 x o z hx, fun a1 c1 k1 z1 z2 z3 => ⟨c1, k1, z1, z2, by rw [upd_ne (Ne.symm np)]; exact h3 _ _ (Ne.symm np) z3⟩⟩
    have hcc : upd Hx p (.dK kvs) c = some (.dK (nbD ps)) := by rw [upd_ne ncp]; exact h2
    have S' := S.newIn' hcn fx hcc
    refine q1 _ _ _ _ h (S'.setN S hcn hcc (.dK fun kv hkv => ?_))
    unfold nbD at hkv
    rw [List.mem_mapIdx] at hkv
    obtain ⟨j, hj, rfl⟩ := hkv
    rfl
end
end DL

/-! sorted(xs), xs a list of tuples of ints and texts; in, not in over a list of tuples -/
namespace TK
open PySem PySem.Spec PyProof.Rows L2

def rSrtL (shape : Nat → Bool) (K : PySem.W.Frag) : List V → Hp → VK → Prop := fun vs H Q => ∃ (l : Addr) (rows : List Rw), vs = [V.ref l] ∧ SqL K H l (rows.map fun r => V.ref r.1) ∧ (∀ r ∈ rows, H r.1 = some (.tup (r.2.map kV)) ∧ fitK shape 0 r.2 = true ∧ r.2 ≠ []) ∧
  ∀ (p : Addr) (rows2 : List Rw), rows2.Perm rows → rows2.Pairwise (fun q r => leK q.2 r.2 = true) → H p = none → Q (.ref p) (upd H p (.lst (rows2.map fun r => V.ref r.1)))
theorem refs_only : ∀ {rs : List Rw} {us : List Value}, Vals (rs.map fun r => V.ref r.1) us → us = rs.map fun r => Value.ref r.1
  | [], _, .nil => rfl
  | r :: rs, _, .cons h t => by
    cases h
    rw [refs_only t]
    rfl
theorem refs_vals : ∀ rs : List Rw, Vals (rs.map fun r => V.ref r.1) (rs.map fun r => Value.ref r.1)
  | [] => .nil
  | r :: rs => .cons rfl (refs_vals rs)
theorem each_ref {f : Value → Rw → Prop} : ∀ {l : List Rw}, (∀ r ∈ l, f (.ref r.1) r) → PySem.W.EachIs f (l.map fun r => Value.ref r.1) l
  | [], _ => .nil
  | r :: l, hf => .cons (hf r List.mem_cons_self) (each_ref fun q hq => hf q (List.mem_cons_of_mem _ hq))
theorem cr_srtL {X : Cx} {shape : Nat → Bool} : CallR X (.builtin "sorted") (rSrtL shape X.K) := fun pins s σ H vs us Q I r ⟨l, rows, e, hl, hr, q⟩ => by
  subst e
  rw [Vals.ref1 r]
  obtain ⟨its, rv, pl, hz⟩ := I.list hl
  have ei := refs_only rv
  subst ei
  have len : (rows.map fun r => V.ref r.1).length = rows.length := List.length_map _
  have each : ∀ r ∈ rows, IsTupleKey (mixKind X.prog X.w) s.heap r.2 r.1 ∧ fitK shape 0 r.2 = true ∧ r.2 ≠ [] := fun r hm => ⟨keyAt I (hr r hm).1, (hr r hm).2⟩
  obtain ⟨fs, ht⟩ := tupsOf_at each
  have keys : ∀ v ∈ rows.map (fun r => Value.ref r.1), ∃ k, G.tupKeyC s.heap shape v = some k := fun v hv => by
    obtain ⟨r, hm, rfl⟩ := List.mem_map.mp hv
    exact ⟨_, tupKey_at (each r hm).1 (each r hm).2.1⟩
  refine G.sorted_tups (shape := shape) (vs := rows.map fun r => Value.ref r.1) pl.isList ht keys (by rw [List.length_map]; rw [len] at hz; exact hz) fun st' a1 a2 a3 => ?_
  have out := PySem.W.sort_out (rev := false) (G.tupKeys keys) a1 a2 a3
  simp only [Bool.false_eq_true, if_false] at out
  have srt := PySem.W.sortVals_each (κ := G.tupKindC s.heap shape) (rev := false) (R := fun v (r : Rw) => v = Value.ref r.1) (fun r => r.2.map tokK) (each_ref (l := rows) fun r _ => rfl) (each_ref (l := rows) fun r hm => tupKey_at (each r hm).1 (each r hm).2.1)
  have ord := PySem.W.sort_pairwise (PySem.W.sortLe_total (listOrd itemOrd) false fun r : Rw => r.2.map tokK) rows
  have pmL := List.mergeSort_perm rows (PySem.W.sortLe (listOrd itemOrd) false fun r : Rw => r.2.map tokK)
  generalize rows.mergeSort (PySem.W.sortLe (listOrd itemOrd) false fun r : Rw => r.2.map tokK) = L' at srt ord pmL
  have outL : ((arrOf st').map (·.2)).toList = L'.map fun r => Value.ref r.1 := by
    rw [out]
    generalize PySem.W.sortVals _ _ _ _ = ws at srt
    clear out ord pmL
    induction srt with
    | nil => rfl
    | cons e _ ih => rw [List.map_cons, e, ih]
  obtain ⟨ep, he⟩ := PyProof.Rows.sortedAll_at s.heap (rows.map fun r => Value.ref r.1) ((arrOf st').map (·.2))
  have vL := refs_vals L'
  rw [← outL] at vL
  exact ⟨.ref _, upd H (s.heap.objs.size + 1) (.lst (L'.map fun r => V.ref r.1)), I.laid (t' := s.toks) (fun _ _ => PyProof.Rows.sortedAll_old) (Nat.le_succ _) ⟨by rw [List.length_map, pmL.length_eq]; rw [len] at hz; exact hz, _, ep, vL, he⟩, rfl,
    q _ L' pmL ord (I.hok.fresh (Nat.le_succ _))⟩
end TK
namespace DL
open PySem PySem.Spec PyProof.Rows L2 TK
def tkD (ks : List Key) : D := .tup (ks.map keyD)
theorem kV_of {st : Addr} {M : List Addr} {H : Hp} {v : V} {k : Key} (h : Is st M H v (keyD k)) : v = kV k := by
  cases k with
  | inl i => exact is_int h
  | inr x =>
    have e := is_str h
    rw [e, Array.toArray_toList]
    rfl
theorem kVs_of {st : Addr} {M : List Addr} {H : Hp} : ∀ {ks : List Key} {vs : List V}, Iss st M H vs (ks.map keyD) → vs = ks.map kV
  | [], _, .nil => rfl
  | k :: ks, _, .cons h t => by rw [kV_of h, kVs_of t]; rfl
theorem rows_of {st : Addr} {M : List Addr} {H : Hp} : ∀ {kss : List (List Key)} {vs : List V}, Iss st M H vs (kss.map tkD) → ∃ rows : List Rw, vs = rows.map (fun r => V.ref r.1) ∧ rows.map Prod.snd = kss ∧ ∀ r ∈ rows, H r.1 = some (.tup (r.2.map kV))
  | [], _, .nil => ⟨[], rfl, rfl, (fun _ z => nomatch z)⟩
  | ks :: kss, _, .cons h t => by
    obtain ⟨rows, rfl, e2, e3⟩ := rows_of t
    obtain ⟨p, vs, rfl, hp, hs⟩ := is_tup h
    have := kVs_of hs
    subst this
    exact ⟨(p, ks) :: rows, rfl, by rw [List.map_cons, e2], fun r hr => (List.mem_cons.mp hr).elim (fun z => by rw [z]; exact hp) (e3 r)⟩
section
variable {K : PySem.W.Frag} {post : D → Prop}
theorem dcl_srtL {shape : Nat → Bool} {kss : List (List Key)} (hf : ∀ ks ∈ kss, fitK shape 0 ks = true ∧ ks ≠ []) (h : ∀ kss2 : List (List Key), kss2.Perm kss → kss2.Pairwise (fun a b => leK a b = true) → post (.lst (kss2.map tkD))) :
    Dcl (rSrtL shape K) [.lst (kss.map tkD)] post := fun st M H vs hst hM trk iv Q q => by
  cases iv with
  | cons a r =>
    cases r
    obtain ⟨l, us, rfl, _, hl, hs⟩ := is_lst a
    obtain ⟨rows, rfl, e2, e3⟩ := rows_of hs
    refine ⟨l, rows, rfl, .of hl, fun r hr => ⟨e3 r hr, hf r.2 (by rw [← e2]; exact List.mem_map.mpr ⟨r, hr, rfl⟩)⟩, fun p rows2 pm pw hp => ?_⟩
    have fin := h (rows2.map Prod.snd) (by rw [← e2]; exact pm.map _) (List.pairwise_map.mpr pw)
    rw [List.map_map] at fin
    refine q _ _ _ fin (Fx.new hp) (.lst (fun z => ?_) upd_same ?_)
    · obtain ⟨o, ho⟩ := trk _ z
      rw [hp] at ho
      cases ho
    · have each : ∀ rs : List Rw, (∀ r ∈ rs, H r.1 = some (.tup (r.2.map kV))) → Iss st M (upd H p (.lst (rows2.map fun r => V.ref r.1))) (rs.map fun r => V.ref r.1) (rs.map (tkD ∘ Prod.snd)) := by
        intro rs
        induction rs with
        | nil => exact fun _ => .nil
        | cons r rs ih =>
          intro hr
          have a1 := hr r List.mem_cons_self
          exact .cons (.tup (by rw [upd_ne (fun z => by rw [z, hp] at a1; cases a1)]; exact a1) (iss_kd r.2)) (ih fun z hz => hr z (List.mem_cons_of_mem _ hz))
      exact each rows2 fun r hr => e3 r (pm.mem_iff.mp hr)
end
end DL

namespace DL
open PySem PySem.Spec PyProof.Rows L2 TK

/-! ### x not in xs, xs a list of plain data -/
/-! ### edges as keys -/
def edK (e : Ed) : List Key := [.inl (e.1 : Int), .inr ⟨#[e.2.1]⟩, .inl (e.2.2 : Int)]
theorem edK_inj {e f : Ed} (h : edK e = edK f) : e = f := by
  obtain ⟨a, b, c⟩ := e
  obtain ⟨a', b', c'⟩ := f
  simp [edK] at h
  rw [show a = a' by omega, h.2.1, show c = c' by omega]
theorem plD_ed {e : Ed} (h : e.2.1 ∈ LTR) : plD 1 (edD e) = true := by
  obtain ⟨a, b, c⟩ := e
  have lt : ∀ c ∈ LTR, c < 0x110000 := by decide
  have hb : decide (b < 0x110000) = true := decide_eq_true (lt b h)
  simp [edD, sign, plD, plDs, hb]
theorem eqv_ed (e f : Ed) : PyData.eqv (pyD (edD e)) (pyD (edD f)) = decide (e = f) := by
  obtain ⟨a, b, c⟩ := e
  obtain ⟨a', b', c'⟩ := f
  simp only [edD, sign, pyD, pyDs, PyData.eqv, PyData.eqvAll, Bool.and_true]
  by_cases h1 : a = a'
  · by_cases h2 : b = b'
    · by_cases h3 : c = c'
      · subst h1 h2 h3; simp
      · simp [h3, show ¬ ((c : Int) = c') by omega]
    · simp [h2]
  · simp [h1, show ¬ ((a : Int) = a') by omega]
/-- each edge once, in the sequence in which it first stands -/
def ddS (acc : List Ed) (e : Ed) : List Ed := if e ∈ acc then acc else acc ++ [e]
def dd (es : List Ed) : List Ed := es.foldl ddS []
theorem ddS_insK (acc : List Ed) (e : Ed) : insK (acc.map edK) (edK e) = (ddS acc e).map edK := by
  unfold insK ddS
  by_cases h : e ∈ acc
  · rw [if_pos h, if_pos (List.mem_map.mpr ⟨e, h, rfl⟩)]
  · rw [if_neg h, if_neg, List.map_append]
    · rfl
    · intro z
      obtain ⟨f, hf, e'⟩ := List.mem_map.mp z
      exact h (edK_inj e' ▸ hf)
theorem dd_fl : ∀ (es acc : List Ed), acc.Nodup → (es.foldl ddS acc).Nodup ∧ (∀ e, e ∈ es.foldl ddS acc ↔ e ∈ acc ∨ e ∈ es) ∧ (es.foldl ddS acc).length ≤ acc.length + es.length
  | [], acc, h => ⟨h, (fun e => by simp), by simp⟩
  | x :: es, acc, h => by
    have hn : (ddS acc x).Nodup := by
      unfold ddS
      split
      · exact h
      · rename_i hx
        rw [List.nodup_append]
        exact ⟨h, by simp, fun a ha b hb e => hx (by rw [← List.mem_singleton.mp hb, ← e]; exact ha)⟩
    have hm : ∀ e, e ∈ ddS acc x ↔ e ∈ acc ∨ e = x := fun e => by
      unfold ddS
      split
      · rename_i hx
        exact ⟨.inl, fun z => z.elim id fun z => z ▸ hx⟩
      · simp
    have hl : (ddS acc x).length ≤ acc.length + 1 := by
      unfold ddS
      split
      · omega
      · rw [List.length_append, List.length_singleton]
        omega
    obtain ⟨a, b, c⟩ := dd_fl es (ddS acc x) hn
    refine ⟨a, fun e => ?_, by rw [List.foldl_cons, List.length_cons]; omega⟩
    rw [List.foldl_cons, b, hm, List.mem_cons, or_assoc]
theorem dd_nd (es : List Ed) : (dd es).Nodup := (dd_fl es [] List.nodup_nil).1
theorem dd_mem (es : List Ed) (e : Ed) : e ∈ dd es ↔ e ∈ es := by
  have := (dd_fl es [] List.nodup_nil).2.1 e
  unfold dd
  rw [this]
  simp
theorem dd_len (es : List Ed) : (dd es).length ≤ es.length := by
  have := (dd_fl es [] List.nodup_nil).2.2
  unfold dd
  simpa using this
/-- in their order -/
def srtE (es : List Ed) : List Ed := es.mergeSort (PySem.W.sortLe (listOrd itemOrd) false fun e => (edK e).map tokK)
theorem srtE_perm (es : List Ed) : (srtE es).Perm es := List.mergeSort_perm _ _
theorem tok_inj {e f : Ed} (h : (edK e).map tokK = (edK f).map tokK) : e = f := by
  obtain ⟨a, b, c⟩ := e
  obtain ⟨a', b', c'⟩ := f
  simp [edK, tokK] at h
  rw [show a = a' by omega, h.2.1, show c = c' by omega]
theorem srtE_only {l : List Ed} {kss : List (List Key)} (pm : kss.Perm (l.map edK)) (pw : kss.Pairwise fun a b => leK a b = true) : kss = (srtE l).map edK := by
  obtain ⟨l2, p2, rfl⟩ := perm_map_ex pm rfl
  have pw2 := List.pairwise_map.mp pw
  have pw3 := PySem.W.sort_pairwise (PySem.W.sortLe_total (listOrd itemOrd) false fun e : Ed => (edK e).map tokK) l
  refine congrArg (List.map edK) (List.Perm.eq_of_pairwise (le := fun a b => leK (edK a) (edK b) = true) (fun a b _ _ h1 h2 => ?_) pw2 pw3 (p2.trans (srtE_perm l).symm))
  refine tok_inj (lex_total (O := itemOrd) _ _ ?_ ?_)
  · simpa [leK] using h2
  · simpa [leK] using h1
/-! ### graphs -/
abbrev Gr := Nat × List Ed
def grD (g : Gr) : D := .tup [.int (g.1 : Int), .tup (g.2.map edD)]
def nmE (ps : List Nat) (e : Ed) : Ed := (ps.idxOf e.1, e.2.1, ps.idxOf e.2.2)
def numG (es : List Ed) (ls : List Nat) (p0 N : Nat) : Gr := ((fw (mvs es) ls p0 N).1.length, srtE (dd (es.map (nmE (fw (mvs es) ls p0 N).1))))

/-! ### steps along edges -/
def Stp (es : List Ed) (p c q : Nat) : Prop := (c ∈ SM ∧ (p, c, q) ∈ es) ∨ (sw c ∈ SM ∧ c ∈ LTR ∧ (q, sw c, p) ∈ es)
theorem Stp.sub {es fs : List Ed} {p c q : Nat} (h : ∀ e ∈ es, e ∈ fs) (k : Stp es p c q) : Stp fs p c q := k.imp (fun z => ⟨z.1, h _ z.2⟩) fun z => ⟨z.1, z.2.1, h _ z.2.2⟩
theorem Stp.of {es : List Ed} {e : Ed} (hs : e.2.1 ∈ SM) (he : e ∈ es) : Stp es e.1 e.2.1 e.2.2 ∧ Stp es e.2.2 (sw e.2.1) e.1 :=
  ⟨.inl ⟨hs, he⟩, .inr ⟨by rw [sw_sw (SM_LTR hs)]; exact hs, sw_mem (SM_LTR hs), by rw [sw_sw (SM_LTR hs)]; exact he⟩⟩
theorem Stp.lt {es : List Ed} {p c q : Nat} (k : Stp es p c q) : c ∈ LTR := k.elim (fun z => SM_LTR z.1) fun z => z.2.1
theorem Stp.back {es : List Ed} {p c q : Nat} (k : Stp es p c q) : Stp es q (sw c) p := by
  rcases k with ⟨a, b⟩ | ⟨a, b, c⟩
  · exact (Stp.of (e := (p, c, q)) a b).2
  · exact .inl ⟨a, c⟩
theorem Stp.map {es : List Ed} {p c q : Nat} (f : Nat → Nat) (k : Stp es p c q) : Stp (es.map fun e => (f e.1, e.2.1, f e.2.2)) (f p) c (f q) :=
  k.imp (fun z => ⟨z.1, List.mem_map.mpr ⟨_, z.2, rfl⟩⟩) fun z => ⟨z.1, z.2.1, List.mem_map.mpr ⟨_, z.2.2, rfl⟩⟩
theorem stO_fl {p c q : Nat} : ∀ (es : List Ed) {kvs : List (List Key × V)}, (∀ e ∈ es, e.2.1 ∈ SM) → stO (es.foldl put2 kvs) p c = some q → Stp es p c q ∨ stO kvs p c = some q
  | [], _, _, h => .inr h
  | e :: es, kvs, hs, h => by
    have he := hs e List.mem_cons_self
    rcases stO_fl es (fun x hx => hs x (List.mem_cons_of_mem _ hx)) h with z | z
    · exact .inl (z.sub fun x hx => List.mem_cons_of_mem _ hx)
    · unfold put2 at z
      obtain ⟨o1, o2⟩ := Stp.of (es := e :: es) he List.mem_cons_self
      rw [stO_put, stO_put] at z
      by_cases g1 : p = e.2.2 ∧ c = sw e.2.1
      · rw [if_pos g1] at z
        obtain rfl : e.1 = q := Option.some.inj z
        rw [g1.1, g1.2]
        exact .inl o2
      · rw [if_neg g1] at z
        by_cases g2 : p = e.1 ∧ c = e.2.1
        · rw [if_pos g2] at z
          obtain rfl : e.2.2 = q := Option.some.inj z
          rw [g2.1, g2.2]
          exact .inl o1
        · rw [if_neg g2] at z
          exact .inr z
theorem stO_mem {es : List Ed} {p c q : Nat} (hs : ∀ e ∈ es, e.2.1 ∈ SM) (h : stO (mvs es) p c = some q) : Stp es p c q := by
  rcases stO_fl es hs h with z | z
  · exact z
  · simp [stO, valV] at z
theorem mvs_mv {n : Nat} {es : List Ed} (hb : ∀ e ∈ es, e.1 < n ∧ e.2.2 < n) : Mv (mvs es) n := by
  have go : ∀ (es : List Ed) (kvs : List (List Key × V)), (∀ e ∈ es, e.1 < n ∧ e.2.2 < n) → Mv kvs n → Mv (es.foldl put2 kvs) n := by
    intro es
    induction es with
    | nil => exact fun _ _ h => h
    | cons e es ih =>
      intro kvs hb h
      obtain ⟨a, b⟩ := hb e List.mem_cons_self
      exact ih _ (fun x hx => hb x (List.mem_cons_of_mem _ hx)) (mv_put (mv_put h b) a)
  exact go es [] hb (mv_nil n)
/-- no two edges with one letter leave, or enter, one place -/
structure Fld (es : List Ed) : Prop where
  sm : ∀ e ∈ es, e.2.1 ∈ SM
  fwd : ∀ e ∈ es, ∀ f ∈ es, e.2.1 = f.2.1 → e.1 = f.1 → e.2.2 = f.2.2
  bwd : ∀ e ∈ es, ∀ f ∈ es, e.2.1 = f.2.1 → e.2.2 = f.2.2 → e.1 = f.1
theorem Fld.step {es : List Ed} (F : Fld es) {p c q : Nat} (h : Stp es p c q) : stO (mvs es) p c = some q := by
  have v : valV (mvs es) (kk p c) = some (.int (q : Int)) := by
    refine put_last es (fun e he => ⟨fun hk => ?_, fun hk => ?_⟩) (.inl ?_)
    · obtain ⟨a, b⟩ := kk_inj.mp hk
      rcases h with ⟨h1, h2⟩ | ⟨h1, h2, h3⟩
      · exact F.fwd e he _ h2 b a
      · exact absurd h1 (SM_sw (b ▸ F.sm e he))
    · obtain ⟨a, b⟩ := kk_inj.mp hk
      rcases h with ⟨h1, h2⟩ | ⟨h1, h2, h3⟩
      · exact absurd h1 (b ▸ SM_sw (F.sm e he))
      · refine F.bwd e he _ h3 ?_ a
        show e.2.1 = sw c
        rw [← b, sw_sw (SM_LTR (F.sm e he))]
    · rcases h with ⟨h1, h2⟩ | ⟨h1, h2, h3⟩
      · exact ⟨_, h2, .inl rfl⟩
      · exact ⟨_, h3, .inr (by show kk p (sw (sw c)) = _; rw [sw_sw h2])⟩
  unfold stO
  rw [v]
  simp
theorem fw_cl {kvs : List (List Key × V)} {ls : List Nat} {p0 N p c q : Nat} (M : Mv kvs N) (h0 : p0 < N) (hp : p ∈ (fw kvs ls p0 N).1) (hc : c ∈ ls) (hq : stO kvs p c = some q) : q ∈ (fw kvs ls p0 N).1 := by
  have W := (WI.range (ls := ls) M h0 N).1
  obtain ⟨i, hi⟩ := List.mem_iff_getElem?.mp hp
  have hl : i < (fw kvs ls p0 N).2.length := by rw [W.len]; exact (List.getElem?_eq_some_iff.mp hi).1
  obtain ⟨w1, w2, _⟩ := W.way i _ (List.getElem?_eq_getElem hl)
  refine fw_all M h0 (w := (fw kvs ls p0 N).2[i] ++ [c]) (fun x hx => ?_) ?_
  · rcases List.mem_append.mp hx with z | z
    · exact w2 x z
    · rw [List.mem_singleton.mp z]; exact hc
  · rw [wkO_snoc, w1, hi]
    exact hq
/-- each place but the first is found from one before it -/
theorem fw_tree {kvs : List (List Key × V)} {ls : List Nat} {p0 N k : Nat} (M : Mv kvs N) (hA : Asc ls) (h0 : p0 < N) (h1 : 1 ≤ k) (hk : k < (fw kvs ls p0 N).1.length) :
    ∃ t c, t < k ∧ stO kvs ((fw kvs ls p0 N).1.getD t 0) c = some ((fw kvs ls p0 N).1.getD k 0) := by
  have W := (WI.range (ls := ls) M h0 N).1
  have O := OI.range M hA h0 N
  obtain ⟨a1, a2, a3, a4⟩ := W.at hk
  rcases O.form _ (List.mem_of_getElem? a2) with e | ⟨t', c', u, _, hu, e⟩
  · exfalso
    have w := (W.way k _ a2).1
    rw [e, a1] at w
    have z : (fw kvs ls p0 N).1[k]? = some p0 := a1.trans w.symm
    obtain ⟨k0, e0⟩ := List.getElem?_eq_some_iff.mp W.zero
    obtain ⟨k1, e1⟩ := List.getElem?_eq_some_iff.mp z
    exact absurd (e0.trans e1.symm) (List.pairwise_iff_getElem.mp W.nd 0 k k0 k1 (by omega))
  · have lt' : t' < (fw kvs ls p0 N).2.length := (List.getElem?_eq_some_iff.mp hu).1
    have lt : t' < (fw kvs ls p0 N).1.length := by rw [← W.len]; exact lt'
    obtain ⟨b1, b2, b3, b4⟩ := W.at lt
    rw [hu] at b2
    have hu2 := Option.some.inj b2
    have w := (W.way k _ a2).1
    rw [e, wkO_snoc, (W.way t' u hu).1, b1, a1] at w
    refine ⟨t', c', ?_, w⟩
    rcases Nat.lt_trichotomy t' k with z | z | z
    · exact z
    · subst z
      rw [← hu2] at e
      have := congrArg List.length e
      simp at this
    · exfalso
      have hk2 : k < (fw kvs ls p0 N).2.length := by rw [W.len]; exact hk
      have pw := List.pairwise_iff_getElem.mp O.srt k t' hk2 lt' z
      have q1 : (fw kvs ls p0 N).2[k] = u ++ [c'] := by rw [List.getElem?_eq_getElem hk2] at a2; rw [Option.some.inj a2, e]
      have q2 : (fw kvs ls p0 N).2[t'] = u := by rw [List.getElem?_eq_getElem lt'] at hu; exact Option.some.inj hu
      rw [q1, q2] at pw
      rcases ltW_iff.mp pw with y | ⟨y, _⟩ <;> simp at y <;> omega
/-- letters of no move add nothing -/
theorem fw_more {kvs : List (List Key × V)} {ls r : List Nat} {p0 : Nat} (h : ∀ c ∈ r, ∀ p, stO kvs p c = none) : ∀ m, fw kvs (ls ++ r) p0 m = fw kvs ls p0 m
  | 0 => rfl
  | m + 1 => by
    have no : ∀ (r : List Nat) (s : Fd) (t : Nat), (∀ c ∈ r, ∀ p, stO kvs p c = none) → r.foldl (fwL kvs t) s = s := by
      intro r
      induction r with
      | nil => exact fun _ _ _ => rfl
      | cons c r ih =>
        intro s t h
        have e : fwL kvs t s c = s := by unfold fwL; rw [h c List.mem_cons_self]
        rw [List.foldl_cons, e]
        exact ih s t fun x hx => h x (List.mem_cons_of_mem _ hx)
    rw [fw_succ, fw_succ, fw_more h m]
    unfold fwT
    split
    · rw [List.foldl_append, no r _ _ h]
    · rfl
end DL

namespace DL
open PySem PySem.Spec PyProof.Rows L2 TK

/-! ### words walked along edges; trees -/
def Wlk (es : List Ed) : Nat → List Nat → Nat → Prop
  | p, [], q => p = q
  | p, c :: w, q => ∃ r, Stp es p c r ∧ Wlk es r w q
theorem Wlk.sub {es fs : List Ed} (h : ∀ e ∈ es, e ∈ fs) : ∀ {w : List Nat} {p q : Nat}, Wlk es p w q → Wlk fs p w q
  | [], _, _, k => k
  | c :: w, _, _, ⟨r, a, b⟩ => ⟨r, a.sub h, Wlk.sub h b⟩
theorem Wlk.map {es : List Ed} (f : Nat → Nat) : ∀ {w : List Nat} {p q : Nat}, Wlk es p w q → Wlk (es.map fun e => (f e.1, e.2.1, f e.2.2)) (f p) w (f q)
  | [], _, _, k => congrArg f k
  | c :: w, _, _, ⟨r, a, b⟩ => ⟨f r, a.map f, Wlk.map f b⟩
theorem Wlk.app {es : List Ed} : ∀ {u v : List Nat} {p q r : Nat}, Wlk es p u q → Wlk es q v r → Wlk es p (u ++ v) r
  | [], _, _, _, _, k, k2 => by cases k; exact k2
  | c :: u, _, _, _, _, ⟨x, a, b⟩, k2 => ⟨x, a, Wlk.app b k2⟩
theorem Wlk.wkO {es : List Ed} (F : Fld es) : ∀ {w : List Nat} {p q : Nat}, Wlk es p w q → wkO (mvs es) p w = some q
  | [], _, _, k => congrArg some k
  | c :: w, p, q, ⟨r, a, b⟩ => by
    show w.foldl _ ((some p).bind fun p => stO (mvs es) p c) = _
    rw [Option.bind_some, F.step a]
    exact Wlk.wkO F b
/-- a tree: the higher place of an edge is not the lower one, and tells the edge -/
structure Tr (es : List Ed) : Prop where
  lt : ∀ e ∈ es, min e.1 e.2.2 < max e.1 e.2.2
  inj : ∀ e ∈ es, ∀ f ∈ es, max e.1 e.2.2 = max f.1 f.2.2 → e = f
theorem Tr.up {es : List Ed} (T : Tr es) : ∀ {w : List Nat} {p c r q : Nat}, Stp es p c r → p < r → red (c :: w) → Wlk es r w q → r ≤ q
  | [], p, c, r, q, _, _, _, k => by cases k; exact Nat.le_refl _
  | d :: w, p, c, r, q, h1, hlt, hred, ⟨x, h2, k⟩ => by
    have hcd : c ≠ sw d := hred.1
    rcases Nat.lt_trichotomy r x with z | z | z
    · have := Tr.up T h2 z hred.2 k
      omega
    · exfalso
      rcases h2 with ⟨_, b⟩ | ⟨_, _, b⟩ <;> (have := T.lt _ b; dsimp only at this; omega)
    · exfalso
      have e1 : ∃ e ∈ es, max e.1 e.2.2 = r ∧ ((c ∈ SM ∧ e = (p, c, r)) ∨ (c ∈ LTR ∧ e = (r, sw c, p))) := by
        rcases h1 with ⟨a, b⟩ | ⟨a, a', b⟩
        · exact ⟨_, b, by show max p r = r; omega, .inl ⟨a, rfl⟩⟩
        · exact ⟨_, b, by show max r p = r; omega, .inr ⟨a', rfl⟩⟩
      have e2 : ∃ e ∈ es, max e.1 e.2.2 = r ∧ (e = (r, d, x) ∨ (d ∈ LTR ∧ e = (x, sw d, r))) := by
        rcases h2 with ⟨a, b⟩ | ⟨a, a', b⟩
        · exact ⟨_, b, by show max r x = r; omega, .inl rfl⟩
        · exact ⟨_, b, by show max x r = r; omega, .inr ⟨a', rfl⟩⟩
      obtain ⟨e, he, me, ce⟩ := e1
      obtain ⟨f, hf, mf, cf⟩ := e2
      have ef := T.inj e he f hf (me.trans mf.symm)
      subst ef
      rcases ce with ⟨_, rfl⟩ | ⟨hc, rfl⟩
      · rcases cf with z2 | ⟨_, z2⟩
        · have := congrArg Prod.fst z2
          dsimp only at this
          omega
        · have := congrArg (fun e : Ed => e.2.1) z2
          exact hcd this
      · rcases cf with z2 | ⟨_, z2⟩
        · have : sw c = d := congrArg (fun e : Ed => e.2.1) z2
          exact hcd (by rw [← this, sw_sw hc])
        · have := congrArg Prod.fst z2
          dsimp only at this
          omega
theorem Tr.none {es : List Ed} (T : Tr es) {w : List Nat} (hw : red w) (h0 : w ≠ []) : ¬ Wlk es 0 w 0 := fun k => by
  cases w with
  | nil => exact h0 rfl
  | cons c w =>
    obtain ⟨r, a, b⟩ := k
    have hr : 0 < r := by
      rcases Nat.eq_zero_or_pos r with z | z
      · exfalso
        subst z
        rcases a with ⟨_, y⟩ | ⟨_, _, y⟩ <;> (have := T.lt _ y; dsimp only at this; omega)
      · exact z
    have := T.up a hr hw b
    omega
theorem nd_perm : ∀ {as bs : List Nat}, as.Nodup → (∀ x ∈ as, x ∈ bs) → bs.length ≤ as.length → as.Perm bs
  | [], bs, _, _, h => by
    rw [List.length_eq_zero_iff.mp (Nat.le_zero.mp h)]
  | a :: as, bs, nd, sub, h => by
    obtain ⟨n1, n2⟩ := List.nodup_cons.mp nd
    have ha : a ∈ bs := sub a List.mem_cons_self
    have p := List.perm_cons_erase ha
    have len := List.length_erase_of_mem ha
    refine ((nd_perm (bs := bs.erase a) n2 (fun x hx => (List.mem_erase_of_ne (show x ≠ a from fun z => n1 (z ▸ hx))).mpr (sub x (List.mem_cons_of_mem _ hx))) ?_).cons a).trans p.symm
    rw [List.length_cons] at h
    omega
/-- V places, each but the first one the higher place of some edge that has a lower one: an edge at least for each; with no more, a tree -/
theorem tree_of {es : List Ed} {V : Nat} (nd : es.Nodup) (h : ∀ k, 1 ≤ k → k < V → ∃ e ∈ es, max e.1 e.2.2 = k ∧ min e.1 e.2.2 < k) : V ≤ es.length + 1 ∧ (V = es.length + 1 → Tr es) := by
  have sub : ∀ x ∈ (List.range (V - 1)).map (· + 1), x ∈ es.map fun e => max e.1 e.2.2 := fun x hx => by
    obtain ⟨j, hj, rfl⟩ := List.mem_map.mp hx
    have := List.mem_range.mp hj
    obtain ⟨e, he, m, _⟩ := h (j + 1) (by omega) (by omega)
    exact List.mem_map.mpr ⟨e, he, m⟩
  have ndr : ((List.range (V - 1)).map (· + 1)).Nodup := List.pairwise_map.mpr (List.Pairwise.imp (fun {a b} z y => z (Nat.succ.inj y)) List.nodup_range)
  have le := List.Nodup.length_le_of_subset ndr sub
  rw [List.length_map, List.length_range, List.length_map] at le
  refine ⟨by omega, fun hV => ?_⟩
  have pm : ((List.range (V - 1)).map (· + 1)).Perm (es.map fun e => max e.1 e.2.2) := nd_perm ndr sub (by rw [List.length_map, List.length_map, List.length_range]; omega)
  have ndm : (es.map fun e => max e.1 e.2.2).Nodup := pm.nodup_iff.mp ndr
  have inj : ∀ e ∈ es, ∀ f ∈ es, max e.1 e.2.2 = max f.1 f.2.2 → e = f := fun e he f hf z => by
    obtain ⟨i, hi, rfl⟩ := List.getElem_of_mem he
    obtain ⟨j, hj, rfl⟩ := List.getElem_of_mem hf
    have pw := List.pairwise_iff_getElem.mp ndm
    rcases Nat.lt_trichotomy i j with y | y | y
    · have := pw i j (by rw [List.length_map]; exact hi) (by rw [List.length_map]; exact hj) y
      rw [List.getElem_map, List.getElem_map] at this
      exact absurd z this
    · subst y; rfl
    · have := pw j i (by rw [List.length_map]; exact hj) (by rw [List.length_map]; exact hi) y
      rw [List.getElem_map, List.getElem_map] at this
      exact absurd z.symm this
  refine ⟨fun e he => ?_, inj⟩
  have hx := pm.mem_iff.mpr (List.mem_map.mpr ⟨e, he, rfl⟩)
  obtain ⟨j, hj, ej⟩ := List.mem_map.mp hx
  have := List.mem_range.mp hj
  obtain ⟨f, hf, m1, m2⟩ := h (j + 1) (by omega) (by omega)
  have := inj f hf e he (by rw [m1]; exact ej)
  subst this
  omega

/-! ### petals: each word goes round from 0 to its end, all points are joined -/
theorem ptS_sub (w : List Nat) : ∀ s : Ps, ∀ e ∈ s.1, e ∈ (w.foldl ptS s).1 := by
  induction w with
  | nil => exact fun s e h => h
  | cons c w ih => exact fun s e h => ih (ptS s c) e (List.mem_append_left _ h)
theorem edB_stp {es : List Ed} {p c q : Nat} (hc : c ∈ LTR) (h : edB p c q ∈ es) : Stp es p c q := by
  have hsw : ∀ c ∈ LTR, c ∉ SM → sw c ∈ SM := by decide
  unfold edB at h
  by_cases z : c ∈ SM
  · rw [if_pos z] at h
    exact .inl ⟨z, h⟩
  · rw [if_neg z] at h
    exact .inr ⟨hsw c hc z, hc, h⟩
theorem ptS_wlk : ∀ (w : List Nat) (s : Ps), (∀ c ∈ w, c ∈ LTR) → Wlk (w.foldl ptS s).1 s.2.1 w (w.foldl ptS s).2.1
  | [], _, _ => rfl
  | c :: w, s, h => ⟨s.2.2, edB_stp (h c List.mem_cons_self) (ptS_sub w (ptS s c) _ (List.mem_append_right _ List.mem_cons_self)), ptS_wlk w (ptS s c) fun x hx => h x (List.mem_cons_of_mem _ hx)⟩
theorem ptW_sub (vs : List (List Nat)) : ∀ s : List Ed × List Nat × Nat, (∀ e ∈ s.1, e ∈ (vs.foldl ptW s).1) ∧ ∀ x ∈ s.2.1, x ∈ (vs.foldl ptW s).2.1 := by
  induction vs with
  | nil => exact fun s => ⟨fun e h => h, fun e h => h⟩
  | cons v vs ih => exact fun s => ⟨fun e h => (ih (ptW s v)).1 e (ptS_sub v (s.1, 0, s.2.2) e h), fun x h => (ih (ptW s v)).2 x (List.mem_append_left _ h)⟩
theorem ptW_wlk : ∀ (vs : List (List Nat)) (s : List Ed × List Nat × Nat), (∀ v ∈ vs, ∀ c ∈ v, c ∈ LTR) → ∀ v ∈ vs, ∃ x ∈ (vs.foldl ptW s).2.1, Wlk (vs.foldl ptW s).1 0 v x
  | [], _, _, v, hv => nomatch hv
  | u :: vs, s, h, v, hv => by
    rcases List.mem_cons.mp hv with rfl | hv
    · exact ⟨_, (ptW_sub vs (ptW s v)).2 _ (List.mem_append_right _ List.mem_cons_self), (ptS_wlk v (s.1, 0, s.2.2) (h v List.mem_cons_self)).sub (ptW_sub vs (ptW s v)).1⟩
    · exact ptW_wlk vs (ptW s u) (fun x hx => h x (List.mem_cons_of_mem _ hx)) v hv
theorem ptS_all {R : Nat → Prop} : ∀ (w : List Nat) (s : Ps), (∀ p, p < s.2.2 → R p) → s.2.1 < s.2.2 → (∀ e ∈ (w.foldl ptS s).1, R e.1 ↔ R e.2.2) → ∀ p, p < (w.foldl ptS s).2.2 → R p
  | [], _, h, _, _ => h
  | c :: w, s, h, hl, hR => by
    refine ptS_all w (ptS s c) (fun p hp => ?_) (Nat.lt_succ_self _) hR
    have hp : p < s.2.2 + 1 := hp
    rcases Nat.lt_succ_iff_lt_or_eq.mp hp with z | z
    · exact h p z
    · subst z
      have he := hR _ (ptS_sub w (ptS s c) (edB s.2.1 c s.2.2) (List.mem_append_right _ List.mem_cons_self))
      have h0 := h _ hl
      unfold edB at he
      split at he
      · exact he.mp h0
      · exact he.mpr h0
theorem ptW_all {R : Nat → Prop} : ∀ (vs : List (List Nat)) (s : List Ed × List Nat × Nat), (∀ p, p < s.2.2 → R p) → 0 < s.2.2 → (∀ e ∈ (vs.foldl ptW s).1, R e.1 ↔ R e.2.2) → ∀ p, p < (vs.foldl ptW s).2.2 → R p
  | [], _, h, _, _ => h
  | v :: vs, s, h, h0, hR => by
    have hR1 : ∀ e ∈ (v.foldl ptS (s.1, 0, s.2.2)).1, R e.1 ↔ R e.2.2 := fun e he => hR e ((ptW_sub vs (ptW s v)).1 e he)
    have all := ptS_all v (s.1, 0, s.2.2) h h0 hR1
    have grow : ∀ (w : List Nat) (s : Ps), s.2.2 ≤ (w.foldl ptS s).2.2 := by
      intro w
      induction w with
      | nil => exact fun _ => Nat.le_refl _
      | cons c w ih => exact fun s => Nat.le_trans (Nat.le_succ _) (ih (ptS s c))
    exact ptW_all vs (ptW s v) all (Nat.lt_of_lt_of_le h0 (grow v (s.1, 0, s.2.2))) hR
theorem ptl_all {R : Nat → Prop} {ws : List (List Nat)} (h0 : R 0) (hR : ∀ e ∈ (ptl ws).1, R e.1 ↔ R e.2.2) : ∀ p, p < (ptl ws).2.2 → R p :=
  ptW_all (ws.map fold) ([], [], 1) (fun p hp => by rw [show p = 0 from Nat.lt_one_iff.mp hp]; exact h0) Nat.one_pos hR
theorem ptl_wlk {ws : List (List Nat)} (h : ∀ w ∈ ws, Lts w) : ∀ w ∈ ws, ∃ x ∈ (ptl ws).2.1, Wlk (ptl ws).1 0 (fold w) x := fun w hw =>
  ptW_wlk (ws.map fold) ([], [], 1) (fun v hv => by obtain ⟨u, hu, rfl⟩ := List.mem_map.mp hv; exact fold_lts (h u hu)) _ (List.mem_map.mpr ⟨w, hw, rfl⟩)
theorem ptW_count : ∀ (vs : List (List Nat)) (s : List Ed × List Nat × Nat), (vs.foldl ptW s).1.length = s.1.length + (vs.map List.length).sum
  | [], _ => by simp
  | v :: vs, s => by
    rw [List.foldl_cons, ptW_count vs, show (ptW s v).1.length = s.1.length + v.length from ptS_len v (s.1, 0, s.2.2), List.map_cons, List.sum_cons]
    omega
theorem ptl_count (ws : List (List Nat)) : (ptl ws).1.length = (ws.map fun w => (fold w).length).sum := by
  have := ptW_count (ws.map fold) ([], [], 1)
  rw [List.map_map, show (List.length ∘ fold) = fun w => (fold w).length from rfl] at this
  simpa [ptl] using this

/-! ### the folded graph of a family -/
def fE (l : List Nat) (es : List Ed) : List Ed := es.map fun e => (l.getD e.1 0, e.2.1, l.getD e.2.2 0)
/-- what is known of the folded edges, the places found along them, the numbers -/
structure GrOk (ws : List (List Nat)) (l : List Nat) (ls : List Nat) : Prop where
  fld : Fld (fE l (ptl ws).1)
  bd : ∀ e ∈ fE l (ptl ws).1, e.1 < (ptl ws).2.2 ∧ e.2.2 < (ptl ws).2.2
  all : ∀ e ∈ fE l (ptl ws).1, e.1 ∈ (fw (mvs (fE l (ptl ws).1)) ls 0 (ptl ws).2.2).1 ∧ e.2.2 ∈ (fw (mvs (fE l (ptl ws).1)) ls 0 (ptl ws).2.2).1
theorem GrOk.of {ws : List (List Nat)} {l ls : List Nat} (hw : ∀ w ∈ ws, Lts w) (L : Lsq (ptl ws).1 (ptl ws).2.1 (ptl ws).2.2 l) (hl : ∀ e ∈ (ptl ws).1, e.2.1 ∈ ls ∧ sw e.2.1 ∈ ls) : GrOk ws l ls := by
  have P := ptl_ok hw
  have hlen := L.lp.len
  have bd : ∀ e ∈ fE l (ptl ws).1, e.1 < (ptl ws).2.2 ∧ e.2.2 < (ptl ws).2.2 := fun e he => by
    obtain ⟨f, hf, rfl⟩ := List.mem_map.mp he
    obtain ⟨a, b, _⟩ := P.eb f hf
    exact ⟨Nat.lt_of_le_of_lt (L.lp.le _ a) a, Nat.lt_of_le_of_lt (L.lp.le _ b) b⟩
  have sm : ∀ e ∈ fE l (ptl ws).1, e.2.1 ∈ SM := fun e he => by
    obtain ⟨f, hf, rfl⟩ := List.mem_map.mp he
    exact (P.eb f hf).2.2
  have F : Fld (fE l (ptl ws).1) := ⟨sm, fun e he f hf h1 h2 => by
    obtain ⟨e', he', rfl⟩ := List.mem_map.mp he
    obtain ⟨f', hf', rfl⟩ := List.mem_map.mp hf
    exact L.clo.fwd e' he' f' hf' h1 h2, fun e he f hf h1 h2 => by
    obtain ⟨e', he', rfl⟩ := List.mem_map.mp he
    obtain ⟨f', hf', rfl⟩ := List.mem_map.mp hf
    exact L.clo.bwd e' he' f' hf' h1 h2⟩
  have h0 : 0 < (ptl ws).2.2 := by have := P.len; omega
  have M := mvs_mv bd
  have l0 : l.getD 0 0 = 0 := Nat.le_zero.mp (L.lp.le 0 h0)
  have found : ∀ p, p < (ptl ws).2.2 → l.getD p 0 ∈ (fw (mvs (fE l (ptl ws).1)) ls 0 (ptl ws).2.2).1 := by
    refine ptl_all ?_ fun e he => ?_
    · rw [l0]
      exact List.mem_of_getElem? (WI.range (ls := ls) M h0 (ptl ws).2.2).1.zero
    · obtain ⟨s1, s2⟩ := Stp.of (es := fE l (ptl ws).1) (e := (l.getD e.1 0, e.2.1, l.getD e.2.2 0)) (P.eb e he).2.2 (List.mem_map.mpr ⟨e, he, rfl⟩)
      obtain ⟨c1, c2⟩ := hl e he
      exact ⟨fun z => fw_cl M h0 z c1 (F.step s1), fun z => fw_cl M h0 z c2 (F.step s2)⟩
  refine ⟨F, bd, fun e he => ?_⟩
  obtain ⟨f, hf, rfl⟩ := List.mem_map.mp he
  obtain ⟨a, b, _⟩ := P.eb f hf
  exact ⟨found _ a, found _ b⟩
def famG (ws : List (List Nat)) (l ls : List Nat) : Gr := numG (fE l (ptl ws).1) ls 0 (ptl ws).2.2
/-- the bounds that the document tells -/
theorem GrOk.bounds {ws : List (List Nat)} {l ls : List Nat} (hw : ∀ w ∈ ws, Lts w) (hA : Asc ls) (L : Lsq (ptl ws).1 (ptl ws).2.1 (ptl ws).2.2 l) (G : GrOk ws l ls) :
    (famG ws l ls).1 ≤ (ws.map fun w => (fold w).length).sum + 1 ∧ (famG ws l ls).2.length ≤ (ws.map fun w => (fold w).length).sum ∧ (famG ws l ls).1 ≤ (famG ws l ls).2.length + 1 ∧
      ((famG ws l ls).1 = (famG ws l ls).2.length + 1 ↔ ∀ w ∈ ws, fold w = []) := by
  have P := ptl_ok hw
  have P1 := P.len
  have h0 : 0 < (ptl ws).2.2 := by omega
  have M := mvs_mv G.bd
  have W := (WI.range (ls := ls) M h0 (ptl ws).2.2).1
  have cnt := ptl_count ws
  have lenE : (fE l (ptl ws).1).length = (ptl ws).1.length := List.length_map _
  have e2 : (famG ws l ls).2.length = (dd ((fE l (ptl ws).1).map (nmE (fw (mvs (fE l (ptl ws).1)) ls 0 (ptl ws).2.2).1))).length := (srtE_perm _).length_eq
  have e3 := dd_len ((fE l (ptl ws).1).map (nmE (fw (mvs (fE l (ptl ws).1)) ls 0 (ptl ws).2.2).1))
  rw [List.length_map, lenE] at e3
  have e1 : (famG ws l ls).1 = (fw (mvs (fE l (ptl ws).1)) ls 0 (ptl ws).2.2).1.length := rfl
  have l1 := W.len_le
  have ge1 : 1 ≤ (fw (mvs (fE l (ptl ws).1)) ls 0 (ptl ws).2.2).1.length := by have := (List.getElem?_eq_some_iff.mp W.zero).1; omega
  have nmap : ∀ ps : List Nat, (fE l (ptl ws).1).map (nmE ps) = (ptl ws).1.map fun e => (ps.idxOf (l.getD e.1 0), e.2.1, ps.idxOf (l.getD e.2.2 0)) := fun ps => by
    unfold fE
    rw [List.map_map]
    rfl
  have T := tree_of (es := dd ((fE l (ptl ws).1).map (nmE (fw (mvs (fE l (ptl ws).1)) ls 0 (ptl ws).2.2).1))) (V := (fw (mvs (fE l (ptl ws).1)) ls 0 (ptl ws).2.2).1.length) (dd_nd _) fun k hk1 hk2 => by
    obtain ⟨t, c, ht, hs⟩ := fw_tree M hA h0 hk1 hk2
    have ix : ∀ i, i < (fw (mvs (fE l (ptl ws).1)) ls 0 (ptl ws).2.2).1.length → (fw (mvs (fE l (ptl ws).1)) ls 0 (ptl ws).2.2).1.idxOf ((fw (mvs (fE l (ptl ws).1)) ls 0 (ptl ws).2.2).1.getD i 0) = i := fun i hi => by
      rw [List.getD_eq_getElem?_getD, List.getElem?_eq_getElem hi, Option.getD_some]
      exact List.Nodup.idxOf_getElem W.nd i hi
    rcases stO_mem G.fld.sm hs with ⟨_, hm⟩ | ⟨_, _, hm⟩
    · exact ⟨(t, c, k), (dd_mem _ _).mpr (List.mem_map.mpr ⟨_, hm, by unfold nmE; dsimp only; rw [ix t (by omega), ix k hk2]⟩), by show max t k = k; omega, by show min t k < k; omega⟩
    · exact ⟨(k, sw c, t), (dd_mem _ _).mpr (List.mem_map.mpr ⟨_, hm, by unfold nmE; dsimp only; rw [ix t (by omega), ix k hk2]⟩), by show max k t = k; omega, by show min k t < k; omega⟩
  rw [e1, e2]
  refine ⟨by omega, by omega, T.1, fun hV w hwm => ?_, fun hall => ?_⟩
  · have tr := T.2 hV
    by_cases hne : fold w = []
    · exact hne
    · exfalso
      obtain ⟨x, hx, wk⟩ := ptl_wlk hw w hwm
      have lx : l.getD x 0 = 0 := (L.clo.ends x hx).trans (Nat.le_zero.mp (L.lp.le 0 h0))
      have l0 : l.getD 0 0 = 0 := Nat.le_zero.mp (L.lp.le 0 h0)
      have wk2 := wk.map fun p => (fw (mvs (fE l (ptl ws).1)) ls 0 (ptl ws).2.2).1.idxOf (l.getD p 0)
      rw [lx, l0] at wk2
      have i0 : (fw (mvs (fE l (ptl ws).1)) ls 0 (ptl ws).2.2).1.idxOf 0 = 0 := by
        obtain ⟨z1, z2⟩ := List.getElem?_eq_some_iff.mp W.zero
        have := List.Nodup.idxOf_getElem W.nd 0 z1
        rwa [z2] at this
      rw [i0] at wk2
      refine tr.none (fold_red (hw w hwm)) hne (wk2.sub fun e he => ?_)
      rw [dd_mem, nmap]
      exact he
  · have z : (ws.map fun w => (fold w).length).sum = 0 := by
      have : ∀ vs : List (List Nat), (∀ w ∈ vs, fold w = []) → (vs.map fun w => (fold w).length).sum = 0 := by
        intro vs
        induction vs with
        | nil => exact fun _ => rfl
        | cons v vs ih =>
          intro h
          rw [List.map_cons, List.sum_cons, h v List.mem_cons_self, ih fun x hx => h x (List.mem_cons_of_mem _ hx)]
          rfl
      exact this ws hall
    omega
end DL

namespace DL
open PySem PySem.Spec PyProof.Rows L2 TK

theorem only_three {K : PySem.W.Frag} {i j k : Nat} {is : List Nat} (hi : i ∈ is) (hj : j ∈ is) (hk : k ∈ is) : Only (gTup K 3 (gCons (gName i) (gCons (gName j) (gCons (gName k) gNil)))) is := fun x σ H Q ⟨a, xs, e, hs, hl, v, r, e2, v2, r2, e3, v3, r3, e4, e5, q⟩ =>
  ⟨a, xs, e, hs, hl, v, r, e2, v2, r2, e3, v3, r3, e4, e5, by rw [wipe_set hk, wipe_set hj, wipe_set hi], q⟩
section
variable {env : Nv} {post : D → Prop} {ty : TE} {K : PySem.W.Frag}
theorem dcl_sum {ns : List Int} (h : post (.int ns.sum)) : Dcl (rSum K) [.lst (ns.map D.int)] post := fun st M H vs hst hM trk iv Q q => by
  cases iv with
  | cons a r =>
    cases r
    obtain ⟨p, ws, rfl, _, hl, hs⟩ := is_lst a
    have := iss_ints hs
    subst this
    exact ⟨p, ns, rfl, .of hl, q _ H _ h (Fx.refl _ _) (.int _)⟩
end
theorem fitE (e : Ed) : fitK (fun i => i == 1) 0 (edK e) = true ∧ edK e ≠ [] := ⟨rfl, by unfold edK; simp⟩
theorem wd_fst {s : Fd} (h : s.2.length = s.1.length) : (wd s).map (·.1) = s.1.map fun p : Nat => (.inl (p : Int) : Key) := by
  unfold wd
  rw [List.map_map]
  have : ∀ (ps : List Nat) (ws : List (List Nat)), ws.length = ps.length → (ps.zip ws).map ((fun x : Key × V => x.1) ∘ fun x : Nat × List Nat => ((.inl (x.1 : Int) : Key), V.str ⟨x.2.toArray⟩)) = ps.map fun p : Nat => (.inl (p : Int) : Key) := by
    intro ps
    induction ps with
    | nil => intro ws _; simp
    | cons p ps ih =>
      intro ws hw
      cases ws with
      | nil => simp at hw
      | cons w ws =>
        rw [List.zip_cons_cons, List.map_cons, List.map_cons, ih ws (by simpa using hw)]
        rfl
  exact this _ _ h
theorem dd_take {es : List Ed} {i : Nat} {e : Ed} (f : Ed → Ed) (h : es[i]? = some e) : dd ((es.take (i + 1)).map f) = ddS (dd ((es.take i).map f)) (f e) := by
  unfold dd
  rw [List.take_add_one, h, List.map_append, List.foldl_append]
  rfl
/-- letters of petals -/
theorem psh_in {ls : List Nat} {k : List Nat} {c : Nat} (hk : ∀ x ∈ k, x ∈ ls) (hc : c ∈ ls) : ∀ x ∈ psh k c, x ∈ ls := by
  cases k with
  | nil => intro x hx; rw [List.mem_singleton.mp hx]; exact hc
  | cons y r =>
    rw [psh_cons]
    split
    · exact fun x hx => hk x (List.mem_cons_of_mem _ hx)
    · exact fun x hx => (List.mem_cons.mp hx).elim (fun z => z ▸ hc) (hk x)
theorem fold_in {ls w : List Nat} (hw : ∀ c ∈ w, c ∈ ls) : ∀ c ∈ fold w, c ∈ ls := by
  have go : ∀ (w k : List Nat), (∀ c ∈ w, c ∈ ls) → (∀ c ∈ k, c ∈ ls) → ∀ c ∈ w.foldl psh k, c ∈ ls := by
    intro w
    induction w with
    | nil => exact fun _ _ h => h
    | cons c w ih => exact fun k h1 h2 => ih _ (fun x hx => h1 x (List.mem_cons_of_mem _ hx)) (psh_in h2 (h1 c List.mem_cons_self))
  exact fun c hc => go w [] hw (fun _ z => nomatch z) c (List.mem_reverse.mp hc)
theorem ptl_in {ls : List Nat} {ws : List (List Nat)} (hsw : ∀ c ∈ ls, sw c ∈ ls) (hlt : ∀ c ∈ ls, c ∈ LTR) (hw : ∀ w ∈ ws, ∀ c ∈ w, c ∈ ls) : ∀ e ∈ (ptl ws).1, e.2.1 ∈ ls ∧ sw e.2.1 ∈ ls := by
  have oneS : ∀ (w : List Nat) (s : Ps), (∀ c ∈ w, c ∈ ls) → (∀ e ∈ s.1, e.2.1 ∈ ls) → ∀ e ∈ (w.foldl ptS s).1, e.2.1 ∈ ls := by
    intro w
    induction w with
    | nil => exact fun _ _ h => h
    | cons c w ih =>
      intro s hc hs
      refine ih (ptS s c) (fun x hx => hc x (List.mem_cons_of_mem _ hx)) fun e he => ?_
      rcases List.mem_append.mp he with z | z
      · exact hs e z
      · rw [List.mem_singleton.mp z]
        unfold edB
        split
        · exact hc c List.mem_cons_self
        · exact hsw c (hc c List.mem_cons_self)
  have allW : ∀ (vs : List (List Nat)) (s : List Ed × List Nat × Nat), (∀ v ∈ vs, ∀ c ∈ v, c ∈ ls) → (∀ e ∈ s.1, e.2.1 ∈ ls) → ∀ e ∈ (vs.foldl ptW s).1, e.2.1 ∈ ls := by
    intro vs
    induction vs with
    | nil => exact fun _ _ h => h
    | cons v vs ih => exact fun s hv hs => ih (ptW s v) (fun x hx => hv x (List.mem_cons_of_mem _ hx)) (oneS v (s.1, 0, s.2.2) (hv v List.mem_cons_self) hs)
  intro e he
  have := allW (ws.map fold) ([], [], 1) (fun v hv => by obtain ⟨u, hu, rfl⟩ := List.mem_map.mp hv; exact fold_in (hw u hu)) (fun _ z => nomatch z) e he
  exact ⟨this, hsw _ this⟩
theorem fE_at {l : List Nat} {es : List Ed} {i : Nat} {e : Ed} (h : es[i]? = some e) : (fE l (es.take i)).map edD ++ [edD (l.getD e.1 0, e.2.1, l.getD e.2.2 0)] = (fE l (es.take (i + 1))).map edD := by
  unfold fE
  rw [List.take_add_one, h, List.map_append, List.map_append]
  rfl
theorem fE_len (l : List Nat) (es : List Ed) : (fE l es).length = es.length := List.length_map _
/-! ### c.upper() -/
def rUpper : V → List V → Hp → VK → Prop := fun x xs H Q => ∃ a : Str, x = .str a ∧ xs = [] ∧ a.length ≤ 5592405 ∧ Q (.str (Txt.upper a)) H
theorem md_upper {X : Cx} : MtR X "str.upper" rUpper := mt_upper
theorem dmt_upperS {K : PySem.W.Frag} {post : D → Prop} {c : Nat} (hc : c ∈ SM) (h : post (.str [sw c])) : Dmt K "str" rUpper (.str [c]) [] post := fun st M H v vs hst hM trk iv ivs Q q => by
  have up : Txt.upper ⟨[c].toArray⟩ = ⟨[sw c].toArray⟩ := by
    have e : ∀ c ∈ SM, Txt.upper ⟨[c].toArray⟩ = ⟨[sw c].toArray⟩ := by decide +kernel
    exact e c hc
  cases is_str iv
  cases ivs
  refine ⟨_, rfl, rfl, by rw [len_of]; exact (by decide : 1 ≤ 5592405), ?_⟩
  rw [up]
  exact q _ H _ h (Fx.refl _ _) (.str _)
/-! ### [.. for a, b, .. in ..] -/
section
variable {env : Nv}
theorem den_lcG {wi : TI} {g : TG} {is : List Nat} {tt : TT} {te : TE} {postN : Ow → Prop} (hg : Only g is) (h : Di wi env fun ds => ds.length ≤ 1000000 ∧ ∃ Iv : Nat → List D → Prop, Iv 0 [] ∧
      (∀ i d acc, ds[i]? = some d → acc.length ≤ i → Iv i acc → Dg g d (wipeE env is) fun e2 => Dt tt e2 fun b => if b = true then De te e2 fun y => Iv (i + 1) (acc ++ [y]) else Iv (i + 1) acc) ∧
      ∀ acc, Iv ds.length acc → postN (.lst acc)) : DeN (tLc wi g tt te is) env postN := fun B M σ H S Q q => by
  refine h B M σ H S _ fun J H1 hv ds ⟨hz, Iv, h0, hs, hd⟩ S1 e1 hh T c hn => ?_
  have ne : c ≠ B.st := S1.nst hn
  refine ⟨fun n k Hx => k = ds.length - n ∧ n ≤ ds.length ∧ ∃ acc accv, acc.length ≤ n ∧ Iv n acc ∧ Fx B.st H1 Hx ∧ Hx c = some (.lst accv) ∧ Iss B.st (c :: M) Hx accv acc, ⟨_, rfl, Nat.zero_le _, [], [], Nat.le_refl _, h0, Fx.new hn, upd_same, .nil⟩, ?_⟩
  rintro n k Hx ⟨rfl, le, acc, accv, al, iv, fx, at1, ia⟩
  have S2 : Sr { B with hid := hv ++ B.hid } (c :: M) (wipe σ is) Hx (wipeE env is) := ((S1.hide hh).newIn' (B := { B with hid := hv ++ B.hid }) hn fx at1).wipes is
  obtain ⟨t1, t2, t3⟩ := T.run _ Hx S2.stm S2.stM S2.hv
  by_cases lt : n < ds.length
  · refine .inr ⟨t1 n lt, fun Hy => ∃ acc accv, acc.length ≤ n + 1 ∧ Iv (n + 1) acc ∧ Fx B.st H1 Hy ∧ Hy c = some (.lst accv) ∧ Iss B.st (c :: M) Hy accv acc, fun Hy z => ⟨_, by omega, rfl, lt, z⟩, fun x H3 hy => ?_⟩
    obtain ⟨hH, ix⟩ := t3 n _ x H3 (List.getElem?_eq_getElem lt) hy
    have e3 : Fx B.st Hx H3 := by
      rcases hH with z | ⟨T, o, hT, z⟩
      · rw [z]; exact Fx.refl _ _
      · rw [z]; exact Fx.new hT
    have back : wipe (wipe σ is) is = wipe σ is := wipe_wipe fun _ z => z
    have go := hg x (wipe σ is) H3
    rw [back] at go
    refine go _ (hs n _ acc (List.getElem?_eq_getElem lt) al iv _ _ _ H3 _ (S2.fx e3) ix _ fun σ4 env4 h4 S4 => h4 _ _ _ H3 S4 _ fun b H4 hb S5 e4 => ?_)
    have f4 : Fx B.st H1 H4 := (fx.trans e3).trans e4
    have a4 : Iss B.st (c :: M) H4 accv acc := S2.iss (e3.trans e4) ia
    have D4 : H4 c = some (.lst accv) := e4.1 _ _ ne (e3.1 _ _ ne at1)
    cases b with
    | false => exact ⟨acc, accv, by omega, hb, f4, D4, a4⟩
    | true =>
      refine hb _ _ _ H4 S5 _ fun y H5 d5 h5 S6 e5 i5 => ?_
      have a5 : Iss B.st (c :: M) H5 accv acc := S5.iss e5 a4
      have D5 : H5 c = some (.lst accv) := e5.1 _ _ ne D4
      have room : accv.length < sizeLine := Nat.lt_of_le_of_lt (by rw [a5.length]; exact al) (Nat.lt_of_lt_of_le lt (Nat.le_trans hz (by decide)))
      exact ⟨accv, D5, room, acc ++ [d5], accv ++ [y], by rw [List.length_append, List.length_singleton]; omega, h5, (f4.trans e5).mut hn ne, upd_same, (a5.append (.cons i5 .nil)).upd List.mem_cons_self fun vs z => by rw [D5] at z; cases z⟩
  · obtain rfl : n = ds.length := by omega
    exact .inl ⟨t2 _ (Nat.le_refl _), q c Hx (.lst accv) (.lst acc) (hd acc iv) (S1.newIn' hn fx at1) (e1.trans fx) at1 (.lst ia) (fresh_back e1 ne hn)⟩
end
theorem wiUp {kvs : List (List Key × V)} {ls : List Nat} {p0 N : Nat} (M : Mv kvs N) (h0 : p0 < N) (t i : Nat) (ht : t < (fw kvs ls p0 t).1.length) : WI kvs ls p0 N ((ls.take i).foldl (fwL kvs t) (fw kvs ls p0 t)) ∧ t < ((ls.take i).foldl (fwL kvs t) (fw kvs ls p0 t)).1.length := by
  obtain ⟨a, b, _⟩ := (WI.range M h0 t).1.stepLs M (ls.take i) ht fun _ z => List.mem_of_mem_take z
  exact ⟨a, Nat.lt_of_lt_of_le ht b.length_le⟩
/-! ### where a word leads, or nothing -/
def optD : Option Nat → D
  | some p => .int (p : Int)
  | none => .non
theorem pe_bmZ {X : Cx} {K : PySem.W.Frag} {e : Expr} {T : String} {r : V → List V → Hp → VK → Prop} {to : TE} (hK : X.K = K) (h : PE X e (tBM0 X.K T r to)) : PE X e (tBM0 K T r to) := hK ▸ h
end DL

namespace DL
open PySem PySem.Spec PyProof.Rows L2 TK

/-! ### walks in folded graphs -/
theorem Fld.det {es : List Ed} (F : Fld es) {p c q r : Nat} (h : Stp es p c q) (k : Stp es p c r) : q = r := by
  have a := F.step h
  rw [F.step k] at a
  exact (Option.some.inj a).symm
theorem Wlk.det {es : List Ed} (F : Fld es) : ∀ {w : List Nat} {p q r : Nat}, Wlk es p w q → Wlk es p w r → q = r
  | [], _, _, _, h, k => h.symm.trans k
  | c :: w, _, _, _, ⟨x, a, b⟩, ⟨y, a2, b2⟩ => by
    obtain rfl := F.det a a2
    exact Wlk.det F b b2
theorem Wlk.split {es : List Ed} : ∀ {u v : List Nat} {p q : Nat}, Wlk es p (u ++ v) q → ∃ m, Wlk es p u m ∧ Wlk es m v q
  | [], v, p, q, h => ⟨p, rfl, h⟩
  | c :: u, v, p, q, ⟨x, a, b⟩ => by
    obtain ⟨m, h1, h2⟩ := Wlk.split b
    exact ⟨m, ⟨x, a, h1⟩, h2⟩
theorem Wlk.lts {es : List Ed} : ∀ {w : List Nat} {p q : Nat}, Wlk es p w q → Lts w
  | [], _, _, _ => fun _ z => nomatch z
  | c :: w, _, _, ⟨x, a, b⟩ => fun d hd => (List.mem_cons.mp hd).elim (fun z => z ▸ a.lt) fun z => Wlk.lts b d z
theorem Wlk.psh {es : List Ed} (F : Fld es) : ∀ (w : List Nat) {k : List Nat} {p x y : Nat}, Wlk es p k.reverse x → Wlk es x w y → Wlk es p (w.foldl psh k).reverse y
  | [], k, p, x, y, h, z => by cases z; exact h
  | c :: w, k, p, x, y, h, ⟨z, a, b⟩ => by
    refine Wlk.psh F w (k := DL.psh k c) ?_ b
    cases k with
    | nil =>
      cases h
      exact ⟨z, a, rfl⟩
    | cons y0 r =>
      rw [psh_cons]
      by_cases e : y0 = sw c
      · rw [if_pos e]
        rw [List.reverse_cons] at h
        obtain ⟨m, h1, ⟨x', h2, h3⟩⟩ := Wlk.split h
        cases h3
        have back := h2.back
        rw [e, sw_sw a.lt] at back
        rw [F.det a back]
        exact h1
      · rw [if_neg e, List.reverse_cons]
        exact h.app ⟨z, a, rfl⟩
/-- a word and its reduced form lead alike -/
theorem Wlk.fold {es : List Ed} (F : Fld es) {w : List Nat} {p q : Nat} (h : Wlk es p w q) : Wlk es p (fold w) q := Wlk.psh F w (k := []) (p := p) rfl h
theorem Wlk.inv {es : List Ed} : ∀ {w : List Nat} {p q : Nat}, Wlk es p w q → Wlk es q (DL.inv w) p
  | [], _, _, h => h.symm
  | c :: w, p, q, ⟨x, a, b⟩ => by
    have e : DL.inv (c :: w) = DL.inv w ++ [sw c] := by unfold DL.inv; rw [List.reverse_cons, List.map_append]; rfl
    rw [e]
    exact (Wlk.inv b).app ⟨p, a.back, rfl⟩
theorem Wlk.app2 {es : List Ed} (F : Fld es) {u v : List Nat} {p q r : Nat} (hu : Lts u) (hv : Lts v) (h : Wlk es p (DL.fold u) q) (k : Wlk es q (DL.fold v) r) : Wlk es p (DL.fold (u ++ v)) r := by
  have := (h.app k).fold F
  rwa [fold_app_l hu, fold_app_r hu hv] at this
/-- what is made of words and their inverses -/
def Prod (ws : List (List Nat)) (w : List Nat) : Prop := ∃ ps : List (List Nat), w = ps.flatten ∧ ∀ p ∈ ps, p ∈ ws ∨ ∃ v ∈ ws, p = DL.inv v
theorem Prod.nil (ws : List (List Nat)) : Prod ws [] := ⟨[], rfl, (fun _ z => nomatch z)⟩
theorem Prod.lts {ws : List (List Nat)} (hL : ∀ w ∈ ws, Lts w) {w : List Nat} (h : Prod ws w) : Lts w := by
  obtain ⟨ps, rfl, h2⟩ := h
  intro c hc
  obtain ⟨p, hp, hcp⟩ := List.mem_flatten.mp hc
  rcases h2 p hp with z | ⟨v, hv, rfl⟩
  · exact hL p z c hcp
  · exact inv_lts (hL v hv) c hcp
theorem Prod.wlk {es : List Ed} (F : Fld es) {ws : List (List Nat)} (hL : ∀ w ∈ ws, Lts w) (hk : ∀ w ∈ ws, Wlk es 0 (DL.fold w) 0) {w : List Nat} (h : Prod ws w) : Wlk es 0 (DL.fold w) 0 := by
  obtain ⟨ps, rfl, h2⟩ := h
  induction ps with
  | nil => exact rfl
  | cons p ps ih =>
    have hp : Lts p ∧ Wlk es 0 (DL.fold p) 0 := by
      rcases h2 p List.mem_cons_self with z | ⟨v, hv, rfl⟩
      · exact ⟨hL p z, hk p z⟩
      · refine ⟨inv_lts (hL v hv), ?_⟩
        rw [fold_inv (hL v hv)]
        exact (hk v hv).inv
    have hps : ∀ q ∈ ps, q ∈ ws ∨ ∃ v ∈ ws, q = DL.inv v := fun q hq => h2 q (List.mem_cons_of_mem _ hq)
    rw [List.flatten_cons]
    exact Wlk.app2 F hp.1 (Prod.lts hL ⟨ps, rfl, hps⟩) hp.2 (ih hps)

/-! ### the graph with its numbers -/
theorem ixOf_inj {ps : List Nat} {a b : Nat} (ha : a ∈ ps) (hb : b ∈ ps) (h : ps.idxOf a = ps.idxOf b) : a = b := by
  have la := List.idxOf_lt_length_of_mem ha
  have lb := List.idxOf_lt_length_of_mem hb
  have ea := List.getElem_idxOf la
  have eb := List.getElem_idxOf lb
  rw [← ea, ← eb]
  congr 1
structure GnOk (g : Gr) : Prop where
  fld : Fld g.2
  bd : ∀ e ∈ g.2, e.1 < g.1 ∧ e.2.2 < g.1
  pos : 0 < g.1
theorem mem_numG {es : List Ed} {ls : List Nat} {p0 N : Nat} {e : Ed} : e ∈ (numG es ls p0 N).2 ↔ ∃ f ∈ es, e = nmE (fw (mvs es) ls p0 N).1 f := by
  show e ∈ srtE _ ↔ _
  rw [(srtE_perm _).mem_iff, dd_mem, List.mem_map]
  exact ⟨fun ⟨f, a, b⟩ => ⟨f, a, b.symm⟩, fun ⟨f, a, b⟩ => ⟨f, a, b.symm⟩⟩
theorem numG_ok {es : List Ed} {ls : List Nat} {p0 N : Nat} (F : Fld es) (hb : ∀ e ∈ es, e.1 < N ∧ e.2.2 < N) (h0 : p0 < N) (hall : ∀ e ∈ es, e.1 ∈ (fw (mvs es) ls p0 N).1 ∧ e.2.2 ∈ (fw (mvs es) ls p0 N).1) : GnOk (numG es ls p0 N) := by
  refine ⟨⟨fun e he => ?_, fun e he f hf h1 h2 => ?_, fun e he f hf h1 h2 => ?_⟩, fun e he => ?_, ?_⟩
  · obtain ⟨f, hf, rfl⟩ := mem_numG.mp he
    exact F.sm f hf
  · obtain ⟨e', he', rfl⟩ := mem_numG.mp he
    obtain ⟨f', hf', rfl⟩ := mem_numG.mp hf
    have := F.fwd e' he' f' hf' h1 (ixOf_inj (hall e' he').1 (hall f' hf').1 h2)
    show List.idxOf _ _ = List.idxOf _ _
    rw [this]
  · obtain ⟨e', he', rfl⟩ := mem_numG.mp he
    obtain ⟨f', hf', rfl⟩ := mem_numG.mp hf
    have := F.bwd e' he' f' hf' h1 (ixOf_inj (hall e' he').2 (hall f' hf').2 h2)
    show List.idxOf _ _ = List.idxOf _ _
    rw [this]
  · obtain ⟨f, hf, rfl⟩ := mem_numG.mp he
    exact ⟨List.idxOf_lt_length_of_mem (hall f hf).1, List.idxOf_lt_length_of_mem (hall f hf).2⟩
  · exact (List.getElem?_eq_some_iff.mp (WI.range (ls := ls) (mvs_mv hb) h0 N).1.zero).1
theorem GrOk.num {ws : List (List Nat)} {l ls : List Nat} (hw : ∀ w ∈ ws, Lts w) (G : GrOk ws l ls) : GnOk (famG ws l ls) := by
  have := (ptl_ok hw).len
  exact numG_ok G.fld G.bd (by omega) G.all
/-- each given word goes round in the graph -/
theorem GrOk.given {ws : List (List Nat)} {l ls : List Nat} (hw : ∀ w ∈ ws, Lts w) (L : Lsq (ptl ws).1 (ptl ws).2.1 (ptl ws).2.2 l) (G : GrOk ws l ls) : ∀ w ∈ ws, Wlk (famG ws l ls).2 0 (DL.fold w) 0 := fun w hwm => by
  have P1 := (ptl_ok hw).len
  have h0 : 0 < (ptl ws).2.2 := by omega
  have W := (WI.range (ls := ls) (mvs_mv G.bd) h0 (ptl ws).2.2).1
  obtain ⟨x, hx, wk⟩ := ptl_wlk hw w hwm
  have l0 : l.getD 0 0 = 0 := Nat.le_zero.mp (L.lp.le 0 h0)
  have lx : l.getD x 0 = 0 := (L.clo.ends x hx).trans l0
  have wk2 := wk.map fun p => (fw (mvs (fE l (ptl ws).1)) ls 0 (ptl ws).2.2).1.idxOf (l.getD p 0)
  rw [lx, l0] at wk2
  have i0 : (fw (mvs (fE l (ptl ws).1)) ls 0 (ptl ws).2.2).1.idxOf 0 = 0 := by
    obtain ⟨z1, z2⟩ := List.getElem?_eq_some_iff.mp W.zero
    have := List.Nodup.idxOf_getElem W.nd 0 z1
    rwa [z2] at this
  rw [i0] at wk2
  refine wk2.sub fun e he => mem_numG.mpr ?_
  obtain ⟨f, hf, rfl⟩ := List.mem_map.mp he
  exact ⟨_, List.mem_map.mpr ⟨f, hf, rfl⟩, rfl⟩
/-! ### the law's step: the ends of the edges that match -/
def lwE (es : List Ed) (p c : Nat) : List Nat := ((es.filter fun e => decide (e.1 = p) && decide (e.2.1 = c)).map fun e => e.2.2) ++ ((es.filter fun e => decide (e.2.2 = p) && decide (sw e.2.1 = c)).map fun e => e.1)
theorem lwE_head {es : List Ed} (F : Fld es) {p c : Nat} (hc : c ∈ LTR) : (lwE es p c).head? = stO (mvs es) p c := by
  have all : ∀ x ∈ lwE es p c, stO (mvs es) p c = some x := fun x hx => by
    rcases List.mem_append.mp hx with z | z
    · obtain ⟨e, he, rfl⟩ := List.mem_map.mp z
      obtain ⟨h1, h2⟩ := List.mem_filter.mp he
      rw [Bool.and_eq_true, decide_eq_true_eq, decide_eq_true_eq] at h2
      obtain ⟨rfl, rfl⟩ := h2
      exact F.step (Stp.of (F.sm e h1) h1).1
    · obtain ⟨e, he, rfl⟩ := List.mem_map.mp z
      obtain ⟨h1, h2⟩ := List.mem_filter.mp he
      rw [Bool.and_eq_true, decide_eq_true_eq, decide_eq_true_eq] at h2
      obtain ⟨rfl, rfl⟩ := h2
      exact F.step (Stp.of (F.sm e h1) h1).2
  cases h : lwE es p c with
  | cons x r => exact (all x (by rw [h]; exact List.mem_cons_self)).symm
  | nil =>
    cases e : stO (mvs es) p c with
    | none => rfl
    | some q =>
      exfalso
      have : q ∈ lwE es p c := by
        unfold lwE
        rcases stO_mem F.sm e with ⟨a, b⟩ | ⟨a, b, d⟩
        · exact List.mem_append_left _ (List.mem_map.mpr ⟨_, List.mem_filter.mpr ⟨b, by simp⟩, rfl⟩)
        · exact List.mem_append_right _ (List.mem_map.mpr ⟨_, List.mem_filter.mpr ⟨d, by simp [sw_sw b]⟩, rfl⟩)
      rw [h] at this
      cases this
theorem filt_take {es : List Ed} {i : Nat} {e : Ed} (h : es[i]? = some e) (f : Ed → Bool) (g : Ed → D) : ((es.take (i + 1)).filter f).map g = ((es.take i).filter f).map g ++ (if f e = true then [g e] else []) := by
  rw [List.take_add_one, h, Option.toList_some, List.filter_append, List.map_append]
  by_cases k : f e = true
  · simp [k]
  · simp [k]
/-! ### for .. in xs, xs a list or a tuple -/
def iSeq (K : PySem.W.Frag) (tl : TE) : TI := fun σ H R => tl σ H fun x H1 => ∃ a, x = .ref a ∧ (((∃ xs, SqL K H1 a xs) ∧ R (Itl K a) H1) ∨ ((∃ xs, SqT K H1 a xs) ∧ R (Itt K a) H1))
theorem pi_sq {X : Cx} {tg l : Expr} {tl : TE} (hl : PE X l tl) : PI X tg l (iSeq X.K tl) :=
  ⟨fun pins s σ H R I h => thn (hl.run pins s σ H _ I h) fun v s1 ⟨x, H1, I1, r1, a, ex, both⟩ => by
    subst ex
    cases r1
    have mine : ∀ b ∈ [s1.heap.objs.size], FpOk X pins H1 b := fun b hb => by
      rw [List.mem_singleton.mp hb]
      exact I1.fpOk (Nat.le_refl _) (I1.hok.fresh (Nat.le_refl _))
    rcases both with ⟨⟨xs, hq⟩, q⟩ | ⟨⟨xs, hq⟩, q⟩
    · obtain ⟨its, rv, p, hz⟩ := I1.list hq
      exact wpAny_pyIter_list p.isList ⟨s1.heap.objs.size, [s1.heap.objs.size], _, _, H1, rfl, I1.kept (t' := s1.toks) fun b o e => Heap.get?_push_of_some _ e, turn_list a _, ⟨_, Heap.get?_push_size _ rfl, rfl, rfl⟩, mine, q⟩
    · obtain ⟨its, rv, p, hz⟩ := I1.tuple hq
      exact wpAny_pyIter_tuple (show s1.heap.IsTuple a its.toArray from p) ⟨s1.heap.objs.size, [s1.heap.objs.size], _, _, H1, rfl, I1.kept (t' := s1.toks) fun b o e => Heap.get?_push_of_some _ e, turn_tuple a _, ⟨_, Heap.get?_push_size _ rfl, rfl, rfl⟩, mine, q⟩⟩
def lsD : D → List D → Prop
  | .lst l, ds => l = ds
  | .tup l, ds => l = ds
  | _, _ => False
theorem di_ls {env : Nv} {te : TE} {K : PySem.W.Frag} {post : List D → Prop} (h : De te env fun d => ∃ ds, lsD d ds ∧ post ds) : Di (iSeq K te) env post := fun B M σ H S R q =>
  h B M σ H S _ fun v H1 d ⟨ds, e, hp⟩ S1 e1 i1 => by
    cases d with
    | lst l =>
      obtain rfl : l = ds := e
      obtain ⟨p, vs, rfl, hm, hl, hs⟩ := is_lst i1
      refine ⟨p, rfl, .inl ⟨⟨vs, .of hl⟩, q _ H1 [(.ref p, .lst l)] l hp S1 e1 (fun x hx => by rw [List.mem_singleton.mp hx]; exact i1) ⟨fun M2 H2 hst hM hh => ?_⟩⟩⟩
      obtain ⟨p2, vs2, e2, hm2, hl2, hs2⟩ := is_lst (hh _ (List.mem_singleton.mpr rfl))
      cases e2
      refine ⟨fun i hi => ?_, fun i hi => ⟨vs2, .of hl2, by rw [hs2.length]; exact hi⟩, fun i d x H' hd ⟨eh, hy⟩ => ?_⟩
      · obtain ⟨v, hv, _⟩ := hs2.get (List.getElem?_eq_getElem hi)
        exact ⟨vs2, v, .of hl2, hv⟩
      · obtain ⟨v, hv, iv⟩ := hs2.get hd
        have same := hy vs2 (.of hl2)
        rw [hv] at same
        cases same
        rw [eh]
        exact ⟨.inl rfl, iv⟩
    | tup l =>
      obtain rfl : l = ds := e
      obtain ⟨p, vs, rfl, hl, hs⟩ := is_tup i1
      refine ⟨p, rfl, .inr ⟨⟨vs, .of hl⟩, q _ H1 [(.ref p, .tup l)] l hp S1 e1 (fun x hx => by rw [List.mem_singleton.mp hx]; exact i1) ⟨fun M2 H2 hst hM hh => ?_⟩⟩⟩
      obtain ⟨p2, vs2, e2, hl2, hs2⟩ := is_tup (hh _ (List.mem_singleton.mpr rfl))
      cases e2
      refine ⟨fun i hi => ?_, fun i hi => ⟨vs2, .of hl2, by rw [hs2.length]; exact hi⟩, fun i d x H' hd ⟨eh, hy⟩ => ?_⟩
      · obtain ⟨v, hv, _⟩ := hs2.get (List.getElem?_eq_getElem hi)
        exact ⟨vs2, v, .of hl2, hv⟩
      · obtain ⟨v, hv, iv⟩ := hs2.get hd
        have same := hy vs2 (.of hl2)
        rw [hv] at same
        cases same
        rw [eh]
        exact ⟨.inl rfl, iv⟩
    | _ => exact e.elim
theorem Prod.lets {ls : List Nat} {ws : List (List Nat)} (hsw : ∀ c ∈ ls, sw c ∈ ls) (hw : ∀ w ∈ ws, ∀ c ∈ w, c ∈ ls) {w : List Nat} (h : Prod ws w) : ∀ c ∈ w, c ∈ ls := by
  obtain ⟨ps, rfl, h2⟩ := h
  intro c hc
  obtain ⟨p, hp, hcp⟩ := List.mem_flatten.mp hc
  rcases h2 p hp with z | ⟨v, hv, rfl⟩
  · exact hw p z c hcp
  · unfold DL.inv at hcp
    obtain ⟨d, hd, rfl⟩ := List.mem_map.mp hcp
    exact hsw d (hw v hv d (List.mem_reverse.mp hd))
end DL

namespace DL
open PySem PySem.Spec PyProof.Rows L2 TK

/-! ### words up to what is reduced; sets of words that are kept -/
theorem ltsA {u v : List Nat} (hu : Lts u) (hv : Lts v) : Lts (u ++ v) := fun c hc => (List.mem_append.mp hc).elim (hu c) (hv c)
theorem lts0 : Lts [] := fun _ z => nomatch z
theorem lts1 {c : Nat} (h : c ∈ LTR) : Lts [c] := fun x hx => by rw [List.mem_singleton.mp hx]; exact h
theorem fold_cong {u u' v v' : List Nat} (hu : Lts u) (hu' : Lts u') (hv : Lts v) (hv' : Lts v') (h1 : fold u = fold u') (h2 : fold v = fold v') : fold (u ++ v) = fold (u' ++ v') := by
  rw [← fold_app_r hu hv, h2, fold_app_r hu hv', ← fold_app_l hu, h1, fold_app_l hu']
structure Sgp (H : List Nat → Prop) : Prop where
  one : H []
  mul : ∀ {u v : List Nat}, Lts u → Lts v → H u → H v → H (fold (u ++ v))
  inv : ∀ {u : List Nat}, Lts u → H u → H (inv u)
section
variable {H : List Nat → Prop}
theorem Sgp.app (S : Sgp H) {u v : List Nat} (hu : Lts u) (hv : Lts v) (h : H (fold u)) (k : H (fold v)) : H (fold (u ++ v)) := by
  have := S.mul (fold_lts hu) (fold_lts hv) h k
  rwa [fold_app_l hu, fold_app_r hu hv] at this
theorem Sgp.back (S : Sgp H) {u : List Nat} (hu : Lts u) (h : H (fold u)) : H (fold (DL.inv u)) := by
  rw [fold_inv hu]
  exact S.inv (fold_lts hu) h
theorem fold_xx {a x b : List Nat} (ha : Lts a) (hx : Lts x) (hb : Lts b) : fold (a ++ inv x ++ (x ++ b)) = fold (a ++ b) := by
  have e : fold (inv x ++ x) = [] := by
    have := fold_self_inv (inv_lts hx)
    rwa [inv_inv hx] at this
  have hix := inv_lts hx
  have e1 : fold (a ++ (inv x ++ x)) = fold (a ++ []) := fold_cong ha ha (ltsA hix hx) lts0 rfl (by rw [e]; rfl)
  rw [List.append_nil] at e1
  rw [show a ++ inv x ++ (x ++ b) = (a ++ (inv x ++ x)) ++ b by simp only [List.append_assoc]]
  exact fold_cong (ltsA ha (ltsA hix hx)) ha hb hb e1 rfl
theorem Sgp.join (S : Sgp H) {a x b : List Nat} (ha : Lts a) (hx : Lts x) (hb : Lts b) (h : H (fold (a ++ DL.inv x))) (k : H (fold (x ++ b))) : H (fold (a ++ b)) := by
  have := S.app (ltsA ha (inv_lts hx)) (ltsA hx hb) h k
  rwa [fold_xx ha hx hb] at this
end
/-! ### a word for each point of petals -/
def lg (lam : List (List Nat)) (p : Nat) : List Nat := lam.getD p []
theorem lg_old {lam : List (List Nat)} {x : List Nat} {p : Nat} (h : p < lam.length) : lg (lam ++ [x]) p = lg lam p := by
  unfold lg
  rw [List.getD_eq_getElem?_getD, List.getElem?_append_left h, ← List.getD_eq_getElem?_getD]
theorem lg_new {lam : List (List Nat)} {x : List Nat} : lg (lam ++ [x]) lam.length = x := by
  unfold lg
  rw [List.getD_eq_getElem?_getD, List.getElem?_append_right (Nat.le_refl _), Nat.sub_self]
  rfl
structure Lam (es : List Ed) (lam : List (List Nat)) : Prop where
  lts : ∀ p, Lts (lg lam p)
  ed : ∀ e ∈ es, fold (lg lam e.1 ++ [e.2.1]) = fold (lg lam e.2.2)
theorem Lam.step {s : Ps} {lam : List (List Nat)} {c : Nat} (P : Pi1 s) (hl : lam.length = s.2.2) (L : Lam s.1 lam) (hc : c ∈ LTR) : Lam (ptS s c).1 (lam ++ [lg lam s.2.1 ++ [c]]) := by
  have here : s.2.1 < lam.length := by rw [hl]; exact P.pl
  refine ⟨fun p => ?_, fun e he => ?_⟩
  · rcases Nat.lt_trichotomy p lam.length with z | z | z
    · rw [lg_old z]; exact L.lts p
    · rw [z, lg_new]; exact ltsA (L.lts _) (lts1 hc)
    · have : lg (lam ++ [lg lam s.2.1 ++ [c]]) p = [] := by
        unfold lg
        rw [List.getD_eq_getElem?_getD, List.getElem?_eq_none (by rw [List.length_append, List.length_singleton]; omega)]
        rfl
      rw [this]; exact lts0
  · rcases List.mem_append.mp he with z | z
    · obtain ⟨b1, b2, _⟩ := P.eb e z
      rw [lg_old (by omega), lg_old (by omega)]
      exact L.ed e z
    · rw [List.mem_singleton.mp z]
      unfold edB
      split
      · show fold (lg _ s.2.1 ++ [c]) = fold (lg _ s.2.2)
        rw [lg_old here, ← hl, lg_new]
      · show fold (lg _ s.2.2 ++ [sw c]) = fold (lg _ s.2.1)
        rw [lg_old here, ← hl, lg_new, List.append_assoc]
        have := fold_cut (u := lg lam s.2.1) (v := []) (c := c) (d := sw c) (L.lts _) (sw_mem hc) (sw_sw hc).symm
        rwa [List.append_nil] at this
theorem Lam.run : ∀ (w : List Nat) {s : Ps} {lam : List (List Nat)}, Pi1 s → lam.length = s.2.2 → Lam s.1 lam → (∀ c ∈ w, c ∈ LTR) →
    ∃ lam', lam'.length = (w.foldl ptS s).2.2 ∧ Lam (w.foldl ptS s).1 lam' ∧ (∀ p, p < lam.length → lg lam' p = lg lam p) ∧ lg lam' (w.foldl ptS s).2.1 = lg lam s.2.1 ++ w
  | [], s, lam, _, hl, L, _ => ⟨lam, hl, L, (fun _ _ => rfl), by simp⟩
  | c :: w, s, lam, P, hl, L, hw => by
    have hc := hw c List.mem_cons_self
    obtain ⟨lam', a1, a2, a3, a4⟩ := Lam.run w (P.step hc) (lam := lam ++ [lg lam s.2.1 ++ [c]]) (by rw [List.length_append, List.length_singleton, hl]; rfl) (L.step P hl hc) fun x hx => hw x (List.mem_cons_of_mem _ hx)
    refine ⟨lam', a1, a2, fun p hp => ?_, ?_⟩
    · rw [a3 p (by rw [List.length_append]; omega), lg_old hp]
    · show lg lam' (w.foldl ptS (ptS s c)).2.1 = _
      rw [a4, show (ptS s c).2.1 = lam.length from hl.symm, lg_new, List.append_assoc]
      rfl
theorem Lam.all {V : List (List Nat)} : ∀ (vs : List (List Nat)) {s : List Ed × List Nat × Nat} {lam : List (List Nat)}, Pi2 s → lam.length = s.2.2 → Lam s.1 lam → lg lam 0 = [] → (∀ x ∈ s.2.1, lg lam x ∈ V) → (∀ v ∈ vs, (∀ c ∈ v, c ∈ LTR) ∧ v ∈ V) →
    ∃ lam', Lam (vs.foldl ptW s).1 lam' ∧ lg lam' 0 = [] ∧ ∀ x ∈ (vs.foldl ptW s).2.1, lg lam' x ∈ V
  | [], s, lam, _, _, L, h0, hx, _ => ⟨lam, L, h0, hx⟩
  | v :: vs, s, lam, P, hl, L, h0, hx, hv => by
    obtain ⟨v1, v2⟩ := hv v List.mem_cons_self
    have z0 : 0 < s.2.2 := by have := P.len; omega
    obtain ⟨lam', a1, a2, a3, a4⟩ := Lam.run v (s := (s.1, 0, s.2.2)) ⟨P.len, z0, P.eb⟩ hl L v1
    refine Lam.all vs (P.step v1) a1 a2 (by rw [a3 0 (by rw [hl]; exact z0), h0]) (fun x hxx => ?_) fun u hu => hv u (List.mem_cons_of_mem _ hu)
    rcases List.mem_append.mp hxx with z | z
    · rw [a3 x (by rw [hl]; exact P.ends x z)]
      exact hx x z
    · rw [List.mem_singleton.mp z, a4]
      show lg lam 0 ++ v ∈ V
      rw [h0]
      exact v2
theorem ptl_lam {ws : List (List Nat)} (hw : ∀ w ∈ ws, Lts w) : ∃ lam, Lam (ptl ws).1 lam ∧ lg lam 0 = [] ∧ ∀ x ∈ (ptl ws).2.1, ∃ w ∈ ws, lg lam x = fold w := by
  obtain ⟨lam, a, b, c⟩ := Lam.all (V := ws.map fold) (ws.map fold) (s := ([], [], 1)) (lam := [[]]) pi2_nil rfl ⟨fun p => by
    have : lg [[]] p = [] := by cases p <;> rfl
    rw [this]; exact lts0, (fun _ z => nomatch z)⟩ rfl (fun _ z => nomatch z) fun v hv => ⟨by
      obtain ⟨u, hu, rfl⟩ := List.mem_map.mp hv
      exact fold_lts (hw u hu), hv⟩
  exact ⟨lam, a, b, fun x hx => by
    obtain ⟨w, hw, e⟩ := List.mem_map.mp (c x hx)
    exact ⟨w, hw, e.symm⟩⟩
/-- what goes round in the folded graph is made of the given words -/
theorem sound {H : List Nat → Prop} (S : Sgp H) {ws : List (List Nat)} {l ls : List Nat} (hw : ∀ w ∈ ws, Lts w) (L : Lsq (ptl ws).1 (ptl ws).2.1 (ptl ws).2.2 l) (G : GrOk ws l ls) (hH : ∀ w ∈ ws, H (fold w)) {w : List Nat} (k : Wlk (famG ws l ls).2 0 w 0) : H (fold w) := by
  obtain ⟨lam, La, l0, le⟩ := ptl_lam hw
  have P := ptl_ok hw
  have P1 := P.len
  have z0 : 0 < (ptl ws).2.2 := by omega
  have lt := La.lts
  have li : ∀ p, Lts (inv (lg lam p)) := fun p => inv_lts (lt p)
  have key : ∀ e ∈ (ptl ws).1, ∀ f ∈ (ptl ws).1, e.2.1 = f.2.1 → fold (lg lam e.2.2 ++ inv (lg lam f.2.2)) = fold (lg lam e.1 ++ inv (lg lam f.1)) := fun e he f hf hc => by
    have hcl := SM_LTR (P.eb e he).2.2
    have hcl' : f.2.1 ∈ LTR := hc ▸ hcl
    have i1 : fold (inv (lg lam f.2.2)) = fold (inv (lg lam f.1 ++ [f.2.1])) := by
      rw [fold_inv (lt _), fold_inv (ltsA (lt _) (lts1 hcl')), La.ed f hf]
    rw [fold_cong (lt _) (ltsA (lt e.1) (lts1 hcl)) (li _) (inv_lts (ltsA (lt f.1) (lts1 hcl'))) (La.ed e he).symm i1, inv_app]
    show fold (lg lam e.1 ++ [e.2.1] ++ (sw f.2.1 :: inv (lg lam f.1))) = _
    rw [List.append_assoc, ← hc]
    exact fold_cut (lt _) (sw_mem hcl) (sw_sw hcl).symm
  have C : Cong (ptl ws).1 (ptl ws).2.1 fun a b => H (fold (lg lam a ++ inv (lg lam b))) := by
    refine ⟨fun a => ?_, fun {a b} h => ?_, fun {a b c} h k => S.join (lt _) (lt _) (li _) h k, fun e he => ?_, fun e he f hf hc h => ?_, fun e he f hf hc h => ?_⟩
    · show H (fold (lg lam a ++ inv (lg lam a)))
      rw [fold_self_inv (lt a)]
      exact S.one
    · have := S.back (ltsA (lt a) (li b)) h
      rwa [inv_app, inv_inv (lt b)] at this
    · obtain ⟨w, hwm, e2⟩ := le e he
      show H (fold (lg lam e ++ inv (lg lam 0)))
      rw [l0, show inv [] = [] from rfl, List.append_nil, e2, fold_fold (hw w hwm)]
      exact hH w hwm
    · show H (fold (lg lam e.2.2 ++ inv (lg lam f.2.2)))
      rw [key e he f hf hc]
      exact h
    · have h : H (fold (lg lam e.2.2 ++ inv (lg lam f.2.2))) := h
      rw [key e he f hf hc] at h
      exact h
  have Rl := L.snd _ C
  have one : ∀ {p c r : Nat}, Stp (fE l (ptl ws).1) p c r → H (fold (lg lam p ++ [c] ++ inv (lg lam r))) := fun {p c r} h => by
    have hc := h.lt
    have out : ∀ e ∈ (ptl ws).1, e.1 < l.length ∧ e.2.2 < l.length := fun e he => by
      obtain ⟨a, b, _⟩ := P.eb e he
      rw [L.lp.len]
      exact ⟨a, b⟩
    rcases h with ⟨a, b⟩ | ⟨a, a2, b⟩
    · obtain ⟨e, he, ee⟩ := List.mem_map.mp b
      have e1 : l.getD e.1 0 = p := congrArg Prod.fst ee
      have e2 : e.2.1 = c := congrArg (fun e : Ed => e.2.1) ee
      have e3 : l.getD e.2.2 0 = r := congrArg (fun e : Ed => e.2.2) ee
      have r1 := C.symm (Rl e.1 (out e he).1)
      have r2 := Rl e.2.2 (out e he).2
      rw [e1] at r1
      rw [e3] at r2
      have mid : fold (lg lam e.1 ++ ([c] ++ inv (lg lam r))) = fold (lg lam e.2.2 ++ inv (lg lam r)) := by
        rw [← List.append_assoc, ← e2]
        exact fold_cong (ltsA (lt _) (lts1 (SM_LTR (P.eb e he).2.2))) (lt _) (li _) (li _) (La.ed e he) rfl
      have := S.join (a := lg lam p) (x := lg lam e.1) (b := [c] ++ inv (lg lam r)) (lt _) (lt _) (ltsA (lts1 hc) (li _)) r1 (by rw [mid]; exact r2)
      rwa [← List.append_assoc] at this
    · obtain ⟨e, he, ee⟩ := List.mem_map.mp b
      have e1 : l.getD e.1 0 = r := congrArg Prod.fst ee
      have e2 : e.2.1 = sw c := congrArg (fun e : Ed => e.2.1) ee
      have e3 : l.getD e.2.2 0 = p := congrArg (fun e : Ed => e.2.2) ee
      have r1 := C.symm (Rl e.2.2 (out e he).2)
      have r2 := Rl e.1 (out e he).1
      rw [e3] at r1
      rw [e1] at r2
      have hsc := sw_mem hc
      have ed := La.ed e he
      rw [e2] at ed
      have mid : fold (lg lam e.2.2 ++ ([c] ++ inv (lg lam r))) = fold (lg lam e.1 ++ inv (lg lam r)) := by
        rw [fold_cong (lt e.2.2) (ltsA (lt e.1) (lts1 hsc)) (ltsA (lts1 hc) (li r)) (ltsA (lts1 hc) (li r)) ed.symm rfl, List.append_assoc]
        exact fold_cut (lt _) hc rfl
      have := S.join (a := lg lam p) (x := lg lam e.2.2) (b := [c] ++ inv (lg lam r)) (lt _) (lt _) (ltsA (lts1 hc) (li _)) r1 (by rw [mid]; exact r2)
      rwa [← List.append_assoc] at this
  have walkd : ∀ {w : List Nat} {p q : Nat}, Wlk (fE l (ptl ws).1) p w q → H (fold (lg lam p ++ (w ++ inv (lg lam q)))) := by
    intro w
    induction w with
    | nil =>
      intro p q h
      cases h
      show H (fold (lg lam p ++ inv (lg lam p)))
      rw [fold_self_inv (lt p)]
      exact S.one
    | cons c w ih =>
      intro p q ⟨r, a, b⟩
      have := S.join (a := lg lam p ++ [c]) (x := lg lam r) (b := w ++ inv (lg lam q)) (ltsA (lt _) (lts1 a.lt)) (lt _) (ltsA b.lts (li _)) (one a) (ih b)
      rwa [List.append_assoc] at this
  have W := (WI.range (ls := ls) (mvs_mv G.bd) z0 (ptl ws).2.2).1
  have k2 := k.map fun i => (fw (mvs (fE l (ptl ws).1)) ls 0 (ptl ws).2.2).1.getD i 0
  have e0 : (fw (mvs (fE l (ptl ws).1)) ls 0 (ptl ws).2.2).1.getD 0 0 = 0 := by rw [List.getD_eq_getElem?_getD, W.zero]; rfl
  rw [e0] at k2
  have at' : ∀ p ∈ (fw (mvs (fE l (ptl ws).1)) ls 0 (ptl ws).2.2).1, (fw (mvs (fE l (ptl ws).1)) ls 0 (ptl ws).2.2).1.getD ((fw (mvs (fE l (ptl ws).1)) ls 0 (ptl ws).2.2).1.idxOf p) 0 = p := fun p hp => by
    have := List.idxOf_lt_length_of_mem hp
    rw [List.getD_eq_getElem?_getD, List.getElem?_eq_getElem this, Option.getD_some, List.getElem_idxOf]
  have k3 := walkd (k2.sub fun e he => by
    obtain ⟨f, hf, rfl⟩ := List.mem_map.mp he
    obtain ⟨g, hg, rfl⟩ := mem_numG.mp hf
    obtain ⟨m1, m2⟩ := G.all g hg
    unfold nmE
    dsimp only
    rw [at' _ m1, at' _ m2]
    exact hg)
  rw [l0, show inv [] = [] from rfl, List.append_nil, List.nil_append] at k3
  exact k3
end DL

namespace DL
open PySem PySem.Spec PyProof.Rows L2 TK

/-! ### the same search in two move tables that answer to one another -/
structure Brel (k1 k2 : List (List Key × V)) (ls : List Nat) (φ : Nat → Nat → Prop) (p0 q0 : Nat) : Prop where
  ini : φ p0 q0
  fn : ∀ {p q q' : Nat}, φ p q → φ p q' → q = q'
  inj : ∀ {p p' q : Nat}, φ p q → φ p' q → p = p'
  fwd : ∀ {p q c p' : Nat}, c ∈ ls → φ p q → stO k1 p c = some p' → ∃ q', stO k2 q c = some q' ∧ φ p' q'
  bwd : ∀ {p q c q' : Nat}, c ∈ ls → φ p q → stO k2 q c = some q' → ∃ p', stO k1 p c = some p' ∧ φ p' q'
structure FwR (φ : Nat → Nat → Prop) (s1 s2 : Fd) : Prop where
  len : s1.1.length = s2.1.length
  at' : ∀ (k p q : Nat), s1.1[k]? = some p → s2.1[k]? = some q → φ p q
  wd : s1.2 = s2.2
section
variable {k1 k2 : List (List Key × V)} {ls : List Nat} {φ : Nat → Nat → Prop} {p0 q0 : Nat}
theorem FwR.mem (B : Brel k1 k2 ls φ p0 q0) {s1 s2 : Fd} (R : FwR φ s1 s2) {p q : Nat} (h : φ p q) : p ∈ s1.1 ↔ q ∈ s2.1 := by
  constructor
  · intro z
    obtain ⟨k, hk⟩ := List.mem_iff_getElem?.mp z
    have lt : k < s2.1.length := by rw [← R.len]; exact (List.getElem?_eq_some_iff.mp hk).1
    have := R.at' k p _ hk (List.getElem?_eq_getElem lt)
    rw [B.fn h this]
    exact List.getElem_mem lt
  · intro z
    obtain ⟨k, hk⟩ := List.mem_iff_getElem?.mp z
    have lt : k < s1.1.length := by rw [R.len]; exact (List.getElem?_eq_some_iff.mp hk).1
    have := R.at' k _ q (List.getElem?_eq_getElem lt) hk
    rw [B.inj h this]
    exact List.getElem_mem lt
theorem FwR.stepL (B : Brel k1 k2 ls φ p0 q0) {s1 s2 : Fd} (R : FwR φ s1 s2) {t c : Nat} (ht : t < s1.1.length) (hc : c ∈ ls) : FwR φ (fwL k1 t s1 c) (fwL k2 t s2 c) ∧ s1.1.length ≤ (fwL k1 t s1 c).1.length := by
  have ht2 : t < s2.1.length := by rw [← R.len]; exact ht
  have e1 : s1.1[t]? = some (s1.1.getD t 0) := by rw [List.getD_eq_getElem?_getD, List.getElem?_eq_getElem ht]; rfl
  have e2 : s2.1[t]? = some (s2.1.getD t 0) := by rw [List.getD_eq_getElem?_getD, List.getElem?_eq_getElem ht2]; rfl
  have h := R.at' t _ _ e1 e2
  unfold fwL
  cases a : stO k1 (s1.1.getD t 0) c with
  | none =>
    cases b : stO k2 (s2.1.getD t 0) c with
    | none => exact ⟨R, Nat.le_refl _⟩
    | some q' =>
      obtain ⟨p', z, _⟩ := B.bwd hc h b
      rw [a] at z
      cases z
  | some p' =>
    obtain ⟨q', b, h'⟩ := B.fwd hc h a
    rw [b]
    dsimp only
    have m := R.mem B h'
    by_cases hm : p' ∈ s1.1
    · rw [if_pos hm, if_pos (m.mp hm)]
      exact ⟨R, Nat.le_refl _⟩
    · rw [if_neg hm, if_neg fun z => hm (m.mpr z)]
      refine ⟨⟨by simp [R.len], fun k p q hp hq => ?_, by rw [R.wd]⟩, by simp⟩
      have hp : (s1.1 ++ [p'])[k]? = some p := hp
      have hq : (s2.1 ++ [q'])[k]? = some q := hq
      by_cases hk : k < s1.1.length
      · rw [List.getElem?_append_left hk] at hp
        rw [List.getElem?_append_left (by rw [← R.len]; exact hk)] at hq
        exact R.at' k p q hp hq
      · have hk2 : k = s1.1.length := by
          have := (List.getElem?_eq_some_iff.mp hp).1
          rw [List.length_append, List.length_singleton] at this
          omega
        subst hk2
        rw [List.getElem?_append_right (Nat.le_refl _), Nat.sub_self] at hp
        rw [R.len, List.getElem?_append_right (Nat.le_refl _), Nat.sub_self] at hq
        cases hp
        cases hq
        exact h'
theorem FwR.stepLs (B : Brel k1 k2 ls φ p0 q0) {t : Nat} : ∀ (cs : List Nat) {s1 s2 : Fd}, FwR φ s1 s2 → t < s1.1.length → (∀ c ∈ cs, c ∈ ls) → FwR φ (cs.foldl (fwL k1 t) s1) (cs.foldl (fwL k2 t) s2)
  | [], _, _, R, _, _ => R
  | c :: cs, s1, s2, R, ht, h => by
    obtain ⟨a, b⟩ := R.stepL B ht (h c List.mem_cons_self)
    exact FwR.stepLs B cs a (by omega) fun x hx => h x (List.mem_cons_of_mem _ hx)
theorem FwR.all (B : Brel k1 k2 ls φ p0 q0) : ∀ m, FwR φ (fw k1 ls p0 m) (fw k2 ls q0 m)
  | 0 => ⟨rfl, fun k p q hp hq => by
      cases k with
      | zero => cases hp; cases hq; exact B.ini
      | succ k => exact absurd (List.getElem?_eq_some_iff.mp hp).1 (by simp [fw]), rfl⟩
  | m + 1 => by
    have R := FwR.all B m
    rw [fw_succ, fw_succ]
    unfold fwT
    by_cases ht : m < (fw k1 ls p0 m).1.length
    · rw [if_pos ht, if_pos (by rw [← R.len]; exact ht)]
      exact R.stepLs B ls ht fun _ z => z
    · rw [if_neg ht, if_neg (by rw [← R.len]; exact ht)]
      exact R
end
/-! ### numbered once more nothing changes -/
theorem getD_idx {ps : List Nat} {p : Nat} (h : p ∈ ps) : ps.getD (ps.idxOf p) 0 = p := by
  have := List.idxOf_lt_length_of_mem h
  rw [List.getD_eq_getElem?_getD, List.getElem?_eq_getElem this, Option.getD_some, List.getElem_idxOf]
theorem num_rel {es : List Ed} {ls : List Nat} {p0 N : Nat} (F : Fld es) (hb : ∀ e ∈ es, e.1 < N ∧ e.2.2 < N) (h0 : p0 < N) (hall : ∀ e ∈ es, e.1 ∈ (fw (mvs es) ls p0 N).1 ∧ e.2.2 ∈ (fw (mvs es) ls p0 N).1) :
    Brel (mvs es) (mvs (numG es ls p0 N).2) ls (fun p i => p ∈ (fw (mvs es) ls p0 N).1 ∧ i = (fw (mvs es) ls p0 N).1.idxOf p) p0 0 := by
  have M := mvs_mv hb
  have W := (WI.range (ls := ls) M h0 N).1
  have N2 := numG_ok F hb h0 hall
  obtain ⟨z1, z2⟩ := List.getElem?_eq_some_iff.mp W.zero
  refine ⟨⟨List.mem_of_getElem? W.zero, ?_⟩, fun h k => h.2.trans k.2.symm, fun h k => ixOf_inj h.1 k.1 (h.2.symm.trans k.2), fun {p q c p'} hc h a => ?_, fun {p q c q'} hc h b => ?_⟩
  · have := List.Nodup.idxOf_getElem W.nd 0 z1
    rw [z2] at this
    exact this.symm
  · obtain ⟨hp, rfl⟩ := h
    refine ⟨_, N2.fld.step ?_, fw_cl M h0 hp hc a, rfl⟩
    exact ((stO_mem F.sm a).map fun p => (fw (mvs es) ls p0 N).1.idxOf p).sub fun e he => by
      obtain ⟨f, hf, rfl⟩ := List.mem_map.mp he
      exact mem_numG.mpr ⟨f, hf, rfl⟩
  · obtain ⟨hp, rfl⟩ := h
    have k := (stO_mem N2.fld.sm b).map fun i => (fw (mvs es) ls p0 N).1.getD i 0
    have sub := k.sub (fs := es) fun e he => by
      obtain ⟨f, hf, rfl⟩ := List.mem_map.mp he
      obtain ⟨g, hg, rfl⟩ := mem_numG.mp hf
      obtain ⟨m1, m2⟩ := hall g hg
      unfold nmE
      dsimp only
      rw [getD_idx m1, getD_idx m2]
      exact hg
    rw [getD_idx hp] at sub
    have hq' : q' < (fw (mvs es) ls p0 N).1.length := by
      rcases stO_mem N2.fld.sm b with ⟨_, y⟩ | ⟨_, _, y⟩
      · exact (N2.bd _ y).2
      · exact (N2.bd _ y).1
    have eq : (fw (mvs es) ls p0 N).1.idxOf ((fw (mvs es) ls p0 N).1.getD q' 0) = q' := by
      rw [List.getD_eq_getElem?_getD, List.getElem?_eq_getElem hq', Option.getD_some]
      exact List.Nodup.idxOf_getElem W.nd q' hq'
    exact ⟨_, F.step sub, fw_cl M h0 hp hc (F.step sub), eq.symm⟩
/-- found anew from 0, the vertices stand in their numbers, by the same words -/
theorem num_fw {es : List Ed} {ls : List Nat} {p0 N : Nat} (F : Fld es) (hb : ∀ e ∈ es, e.1 < N ∧ e.2.2 < N) (h0 : p0 < N) (hall : ∀ e ∈ es, e.1 ∈ (fw (mvs es) ls p0 N).1 ∧ e.2.2 ∈ (fw (mvs es) ls p0 N).1) {m : Nat} (hm : N ≤ m) :
    fw (mvs (numG es ls p0 N).2) ls 0 m = (List.range (numG es ls p0 N).1, (fw (mvs es) ls p0 N).2) := by
  have R := FwR.all (num_rel F hb h0 hall) m
  have M := mvs_mv hb
  rw [fw_any M h0 hm] at R
  have W := (WI.range (ls := ls) M h0 N).1
  refine Prod.ext ?_ R.wd.symm
  refine List.ext_getElem (by rw [← R.len, List.length_range]; rfl) fun k k1 k2 => ?_
  have kl : k < (fw (mvs es) ls p0 N).1.length := by rw [R.len]; exact k1
  obtain ⟨_, e⟩ := R.at' k _ _ (List.getElem?_eq_getElem kl) (List.getElem?_eq_getElem k1)
  rw [e, List.getElem_range]
  exact List.Nodup.idxOf_getElem W.nd k kl
theorem GrOk.fw {ws : List (List Nat)} {l ls : List Nat} (hw : ∀ w ∈ ws, Lts w) (G : GrOk ws l ls) {m : Nat} (hm : (ptl ws).2.2 ≤ m) :
    DL.fw (mvs (famG ws l ls).2) ls 0 m = (List.range (famG ws l ls).1, (DL.fw (mvs (fE l (ptl ws).1)) ls 0 (ptl ws).2.2).2) := by
  have := (ptl_ok hw).len
  exact num_fw G.fld G.bd (by omega) G.all hm
/-! ### each edge is walked along in some given word -/
def Trv (E : List Ed) (w : List Nat) (p0 : Nat) (x : Nat) (e : Ed) : Prop := ∃ a b, (w = a ++ e.2.1 :: b ∧ Wlk E p0 a e.1 ∧ Wlk E e.2.2 b x) ∨ (w = a ++ sw e.2.1 :: b ∧ Wlk E p0 a e.2.2 ∧ Wlk E e.1 b x)
theorem ptS_trv {E : List Ed} : ∀ (w : List Nat) (s : Ps), (∀ c ∈ w, c ∈ LTR) → (∀ e ∈ (w.foldl ptS s).1, e ∈ E) → ∀ e ∈ (w.foldl ptS s).1, e ∈ s.1 ∨ Trv E w s.2.1 (w.foldl ptS s).2.1 e
  | [], _, _, _, e, he => .inl he
  | c :: w, s, hw, hE, e, he => by
    have hc := hw c List.mem_cons_self
    have hin : edB s.2.1 c s.2.2 ∈ E := hE _ (ptS_sub w (ptS s c) _ (List.mem_append_right _ List.mem_cons_self))
    have st : Stp E s.2.1 c s.2.2 := edB_stp hc hin
    rcases ptS_trv w (ptS s c) (fun x hx => hw x (List.mem_cons_of_mem _ hx)) hE e he with z | ⟨a, b, z⟩
    · rcases List.mem_append.mp z with y | y
      · exact .inl y
      · right
        have tail : Wlk E s.2.2 w (w.foldl ptS (ptS s c)).2.1 := (ptS_wlk w (ptS s c) fun x hx => hw x (List.mem_cons_of_mem _ hx)).sub hE
        rw [List.mem_singleton.mp y]
        unfold edB
        split
        · exact ⟨[], w, .inl ⟨rfl, rfl, tail⟩⟩
        · exact ⟨[], w, .inr ⟨by show c :: w = [] ++ sw (sw c) :: w; rw [sw_sw hc]; rfl, rfl, tail⟩⟩
    · right
      rcases z with ⟨h1, h2, h3⟩ | ⟨h1, h2, h3⟩
      · exact ⟨c :: a, b, .inl ⟨by rw [h1]; rfl, ⟨_, st, h2⟩, h3⟩⟩
      · exact ⟨c :: a, b, .inr ⟨by rw [h1]; rfl, ⟨_, st, h2⟩, h3⟩⟩
theorem ptW_trv {E : List Ed} {X : List Nat} : ∀ (vs : List (List Nat)) (s : List Ed × List Nat × Nat), (∀ v ∈ vs, ∀ c ∈ v, c ∈ LTR) → (∀ e ∈ (vs.foldl ptW s).1, e ∈ E) → (∀ x ∈ (vs.foldl ptW s).2.1, x ∈ X) →
    ∀ e ∈ (vs.foldl ptW s).1, e ∈ s.1 ∨ ∃ v ∈ vs, ∃ x ∈ X, Trv E v 0 x e
  | [], _, _, _, _, e, he => .inl he
  | v :: vs, s, hv, hE, hX, e, he => by
    have sub := ptW_sub vs (ptW s v)
    rcases ptW_trv vs (ptW s v) (fun u hu => hv u (List.mem_cons_of_mem _ hu)) hE hX e he with z | ⟨u, hu, x, hx, z⟩
    · rcases ptS_trv (E := E) v (s.1, 0, s.2.2) (hv v List.mem_cons_self) (fun f hf => hE f (sub.1 f hf)) e z with y | y
      · exact .inl y
      · exact .inr ⟨v, List.mem_cons_self, _, hX _ (sub.2 _ (List.mem_append_right _ List.mem_cons_self)), y⟩
    · exact .inr ⟨u, List.mem_cons_of_mem _ hu, x, hx, z⟩
theorem GrOk.trv {ws : List (List Nat)} {l ls : List Nat} (hw : ∀ w ∈ ws, Lts w) (L : Lsq (ptl ws).1 (ptl ws).2.1 (ptl ws).2.2 l) (G : GrOk ws l ls) : ∀ e ∈ (famG ws l ls).2, ∃ w ∈ ws, Trv (famG ws l ls).2 (DL.fold w) 0 0 e := fun e he => by
  have P1 := (ptl_ok hw).len
  have h0 : 0 < (ptl ws).2.2 := by omega
  have W := (WI.range (ls := ls) (mvs_mv G.bd) h0 (ptl ws).2.2).1
  have l0 : l.getD 0 0 = 0 := Nat.le_zero.mp (L.lp.le 0 h0)
  have i0 : (DL.fw (mvs (fE l (ptl ws).1)) ls 0 (ptl ws).2.2).1.idxOf 0 = 0 := by
    obtain ⟨z1, z2⟩ := List.getElem?_eq_some_iff.mp W.zero
    have := List.Nodup.idxOf_getElem W.nd 0 z1
    rwa [z2] at this
  obtain ⟨f, hf, rfl⟩ := mem_numG.mp he
  obtain ⟨g, hg, rfl⟩ := List.mem_map.mp hf
  rcases ptW_trv (E := (ptl ws).1) (X := (ptl ws).2.1) (ws.map fold) ([], [], 1) (fun v hv => by obtain ⟨u, hu, rfl⟩ := List.mem_map.mp hv; exact fold_lts (hw u hu)) (fun _ z => z) (fun _ z => z) g hg with z | ⟨v, hv, x, hx, a, b, z⟩
  · cases z
  · obtain ⟨w, hwm, rfl⟩ := List.mem_map.mp hv
    have lx : l.getD x 0 = 0 := (L.clo.ends x hx).trans l0
    have mp : ∀ {u : List Nat} {p q : Nat}, Wlk (ptl ws).1 p u q → Wlk (famG ws l ls).2 ((DL.fw (mvs (fE l (ptl ws).1)) ls 0 (ptl ws).2.2).1.idxOf (l.getD p 0)) u ((DL.fw (mvs (fE l (ptl ws).1)) ls 0 (ptl ws).2.2).1.idxOf (l.getD q 0)) := fun {u p q} k =>
      (k.map fun p => (DL.fw (mvs (fE l (ptl ws).1)) ls 0 (ptl ws).2.2).1.idxOf (l.getD p 0)).sub fun e he => mem_numG.mpr (by
        obtain ⟨f, hf, rfl⟩ := List.mem_map.mp he
        exact ⟨_, List.mem_map.mpr ⟨f, hf, rfl⟩, rfl⟩)
    refine ⟨w, hwm, a, b, ?_⟩
    rcases z with ⟨z1, z2, z3⟩ | ⟨z1, z2, z3⟩
    · have k2 := mp z2
      have k3 := mp z3
      rw [l0, i0] at k2
      rw [lx, i0] at k3
      exact .inl ⟨z1, k2, k3⟩
    · have k2 := mp z2
      have k3 := mp z3
      rw [l0, i0] at k2
      rw [lx, i0] at k3
      exact .inr ⟨z1, k2, k3⟩
theorem trv_stp {E : List Ed} {P : List Nat → Prop} (h : ∀ e ∈ E, ∃ w, P w ∧ Trv E w 0 0 e) {p c q : Nat} (k : Stp E p c q) : ∃ w, P w ∧ ∃ a b, (w = a ++ c :: b ∧ Wlk E 0 a p ∧ Wlk E q b 0) ∨ (w = a ++ sw c :: b ∧ Wlk E 0 a q ∧ Wlk E p b 0) := by
  rcases k with ⟨_, y⟩ | ⟨_, hc, y⟩
  · obtain ⟨w, hw, a, b, z⟩ := h _ y
    exact ⟨w, hw, a, b, z⟩
  · obtain ⟨w, hw, a, b, z⟩ := h _ y
    refine ⟨w, hw, a, b, ?_⟩
    rcases z with z | ⟨z1, z2, z3⟩
    · exact .inr z
    · dsimp only at z1
      rw [sw_sw hc] at z1
      exact .inl ⟨z1, z2, z3⟩
/-! ### what goes round tells the graph -/
def Cls (g : Gr) : List Nat → Prop := fun w => Wlk g.2 0 w 0
theorem cls_sgp {g : Gr} (F : Fld g.2) : Sgp (Cls g) := ⟨rfl, fun _ _ h k => (Wlk.app h k).fold F, fun _ h => Wlk.inv h⟩
/-- the graphs answer to one another -/
theorem cls_rel {g1 g2 : Gr} (F1 : Fld g1.2) (F2 : Fld g2.2) (T1 : ∀ e ∈ g1.2, ∃ w, (Lts w ∧ Cls g2 w) ∧ Trv g1.2 w 0 0 e) (T2 : ∀ e ∈ g2.2, ∃ w, (Lts w ∧ Cls g1 w) ∧ Trv g2.2 w 0 0 e)
    (h12 : ∀ w, Cls g1 w → Cls g2 (DL.fold w)) (h21 : ∀ w, Cls g2 w → Cls g1 (DL.fold w)) : Brel (mvs g1.2) (mvs g2.2) LTR (fun i j => ∃ u, Wlk g1.2 0 u i ∧ Wlk g2.2 0 u j) 0 0 := by
  have fn : ∀ {g1 g2 : Gr}, Fld g1.2 → Fld g2.2 → (∀ w, Cls g1 w → Cls g2 (DL.fold w)) → ∀ {i j j' : Nat}, (∃ u, Wlk g1.2 0 u i ∧ Wlk g2.2 0 u j) → (∃ u, Wlk g1.2 0 u i ∧ Wlk g2.2 0 u j') → j = j' := fun {g1 g2} F1 F2 h12 {i j j'} ⟨u, a, b⟩ ⟨v, a', b'⟩ => by
    have lu := a.lts
    have lv := a'.lts
    have liv := inv_lts lv
    have k := h12 _ (a.app a'.inv)
    have k2 := (b.inv.app k).fold F2
    rw [fold_app_r (inv_lts lu) (ltsA lu liv)] at k2
    have e : DL.fold (DL.inv u ++ (u ++ DL.inv v)) = DL.fold (DL.inv v) := by
      have := fold_xx (a := []) (x := u) (b := DL.inv v) lts0 lu liv
      simpa using this
    rw [e] at k2
    have k3 := b'.inv.fold F2
    exact Wlk.det F2 k2.inv k3.inv
  have fwd : ∀ {g1 g2 : Gr}, Fld g1.2 → Fld g2.2 → (∀ e ∈ g1.2, ∃ w, (Lts w ∧ Cls g2 w) ∧ Trv g1.2 w 0 0 e) → (∀ w, Cls g1 w → Cls g2 (DL.fold w)) → ∀ {i j c i2 : Nat}, (∃ u, Wlk g1.2 0 u i ∧ Wlk g2.2 0 u j) → stO (mvs g1.2) i c = some i2 →
      ∃ j2, stO (mvs g2.2) j c = some j2 ∧ ∃ u, Wlk g1.2 0 u i2 ∧ Wlk g2.2 0 u j2 := fun {g1 g2} F1 F2 T1 h12 {i j c i2} h a => by
    have st := stO_mem F1.sm a
    obtain ⟨w, ⟨_, hw⟩, a, b, z⟩ := trv_stp T1 st
    rcases z with ⟨rfl, z1, z2⟩ | ⟨rfl, z1, z2⟩
    · obtain ⟨m, y1, ⟨x, y2, y3⟩⟩ := Wlk.split hw
      have := fn F1 F2 h12 ⟨a, z1, y1⟩ h
      subst this
      exact ⟨x, F2.step y2, a ++ [c], z1.app ⟨i2, st, rfl⟩, y1.app ⟨x, y2, rfl⟩⟩
    · obtain ⟨m, y1, ⟨x, y2, y3⟩⟩ := Wlk.split hw
      have s1 : Wlk g1.2 0 (a ++ [sw c]) i := z1.app ⟨i, st.back, rfl⟩
      have := fn F1 F2 h12 ⟨a ++ [sw c], s1, y1.app ⟨x, y2, rfl⟩⟩ h
      subst this
      have bk := y2.back
      rw [sw_sw st.lt] at bk
      exact ⟨m, F2.step bk, a, z1, y1⟩
  have turn : ∀ {i j : Nat}, (∃ u, Wlk g1.2 0 u i ∧ Wlk g2.2 0 u j) → ∃ u, Wlk g2.2 0 u j ∧ Wlk g1.2 0 u i := fun ⟨u, a, b⟩ => ⟨u, b, a⟩
  refine ⟨⟨[], rfl, rfl⟩, fun h k => fn F1 F2 h12 h k, fun {p p' q} h k => fn F2 F1 h21 (turn h) (turn k), fun _ h a => fwd F1 F2 T1 h12 h a, fun {p q c q'} _ h b => ?_⟩
  obtain ⟨p', x, u, y1, y2⟩ := fwd F2 F1 T2 h21 (turn h) b
  exact ⟨p', x, u, y2, y1⟩
theorem srtE_same {a b : List Ed} (ha : a.Nodup) (hb : b.Nodup) (h : ∀ e, e ∈ a ↔ e ∈ b) : srtE a = srtE b := by
  have pm : (srtE a).Perm (srtE b) := ((srtE_perm a).trans ((List.perm_ext_iff_of_nodup ha hb).mpr h)).trans (srtE_perm b).symm
  have tot := PySem.W.sortLe_total (listOrd itemOrd) false fun e : Ed => (edK e).map tokK
  refine List.Perm.eq_of_pairwise (le := fun a b => PySem.W.sortLe (listOrd itemOrd) false (fun e : Ed => (edK e).map tokK) a b = true) (fun x y _ _ h1 h2 => ?_) (PySem.W.sort_pairwise tot a) (PySem.W.sort_pairwise tot b) pm
  refine tok_inj (lex_total (O := itemOrd) _ _ ?_ ?_)
  · have h2 : (!lexLt itemOrd ((edK x).map tokK) ((edK y).map tokK)) = true := h2
    simpa using h2
  · have h1 : (!lexLt itemOrd ((edK y).map tokK) ((edK x).map tokK)) = true := h1
    simpa using h1
/-! ### graphs as data -/
theorem Prod.mono {ws vs : List (List Nat)} (h : ∀ w ∈ ws, w ∈ vs) {w : List Nat} (k : Prod ws w) : Prod vs w := by
  obtain ⟨ps, rfl, z⟩ := k
  exact ⟨ps, rfl, fun p hp => (z p hp).imp (h p) fun ⟨v, hv, e⟩ => ⟨v, h v hv, e⟩⟩
end DL

namespace DL
open PySem PySem.Spec PyProof.Rows L2 TK

section
variable {env : Nv} {nx : Nv → Prop} {rt : D → Prop} {bk ct : Nv → Prop} {K : PySem.W.Frag} {te : TE}
end
/-! ### given words that make the same -/
def Gen (ws vs : List (List Nat)) : Prop := ∀ H, Sgp H → ((∀ v ∈ vs, H (fold v)) ↔ ∀ w ∈ ws, H (fold w))
theorem Gen.refl (ws : List (List Nat)) : Gen ws ws := fun _ _ => Iff.rfl
theorem Gen.perm {ws vs us : List (List Nat)} (h : Gen ws vs) (p : us.Perm vs) : Gen ws us := fun H S => (show (∀ v ∈ us, H (fold v)) ↔ ∀ v ∈ vs, H (fold v) from ⟨fun k v hv => k v (p.mem_iff.mpr hv), fun k v hv => k v (p.mem_iff.mp hv)⟩).trans (h H S)
theorem all_set {P : List Nat → Prop} {vs : List (List Nat)} {n : Nat} {x : List Nat} (hn : n < vs.length) : (∀ u ∈ vs.set n x, P u) ↔ P x ∧ ∀ (j : Nat) u, j ≠ n → vs[j]? = some u → P u := by
  constructor
  · refine fun k => ⟨k x (List.mem_of_getElem? (List.getElem?_set_self hn)), fun j u hj hu => k u (List.mem_of_getElem? (i := j) ?_)⟩
    rw [List.getElem?_set_ne (Ne.symm hj)]
    exact hu
  · rintro ⟨k1, k2⟩ u hu
    obtain ⟨j, hj⟩ := List.mem_iff_getElem?.mp hu
    by_cases e : j = n
    · subst e
      rw [List.getElem?_set_self hn] at hj
      cases hj
      exact k1
    · rw [List.getElem?_set_ne (Ne.symm e)] at hj
      exact k2 j u e hj
theorem Gen.at' {ws vs : List (List Nat)} {n : Nat} {v x : List Nat} (h : Gen ws vs) (hv : vs[n]? = some v) (hx : ∀ H, Sgp H → (∀ (j : Nat) u, j ≠ n → vs[j]? = some u → H (fold u)) → (H (fold x) ↔ H (fold v))) : Gen ws (vs.set n x) := fun H S => by
  have hn := (List.getElem?_eq_some_iff.mp hv).1
  rw [← h H S, all_set (P := fun u => H (fold u)) hn]
  have self : vs.set n v = vs := by
    have := (List.getElem?_eq_some_iff.mp hv).2
    rw [← this]
    exact List.set_getElem_self hn
  have old := all_set (P := fun u => H (fold u)) (vs := vs) (x := v) hn
  rw [self] at old
  rw [old]
  exact ⟨fun ⟨a, b⟩ => ⟨(hx H S b).mp a, b⟩, fun ⟨a, b⟩ => ⟨(hx H S b).mpr a, b⟩⟩
theorem Gen.turn {ws vs : List (List Nat)} {n : Nat} {v : List Nat} (h : Gen ws vs) (hv : vs[n]? = some v) (lv : Lts v) : Gen ws (vs.set n (inv v)) :=
  h.at' hv fun H S _ => ⟨fun k => by have := S.back (inv_lts lv) k; rwa [inv_inv lv] at this, S.back lv⟩
theorem Gen.put {ws vs : List (List Nat)} {n m : Nat} {v o : List Nat} (h : Gen ws vs) (hv : vs[n]? = some v) (ho : vs[m]? = some o) (hm : m ≠ n) (lv : Lts v) (lo : Lts o) : Gen ws (vs.set n (v ++ o)) :=
  h.at' hv fun H S k => by
    have ko := k m o hm ho
    refine ⟨fun z => ?_, fun z => S.app lv lo z ko⟩
    have := S.app (ltsA lv lo) (inv_lts lo) z (S.back lo ko)
    have e : fold (v ++ o ++ inv o) = fold v := by
      rw [List.append_assoc]
      have := fold_cong lv lv (ltsA lo (inv_lts lo)) lts0 rfl (show fold (o ++ inv o) = fold [] by rw [fold_self_inv lo]; rfl)
      rwa [List.append_nil] at this
    rwa [e] at this
end DL

namespace DL
open PySem PySem.Spec PyProof.Rows L2 TK

/-! ### the places found, with their words, from the a-th on -/
def entD (w : List Nat) (v : Nat) : D := .tup [.str w, .int (v : Int)]
def ents (s : Fd) (a : Nat) : List D := ((s.2.zip s.1).drop a).map fun x => entD x.1 x.2
/-! ### paths are short -/
end DL

namespace DL
open PySem PySem.Spec PyProof.Rows L2 TK

/-! ### errors that are raised: the class's name, its fields (the last one set comes first) -/
abbrev Xn := Str × List (Str × D)
def XOk (mg : Str → Option Value) (st : Addr) (M : List Addr) (x : Xn) (cls : Value) (d : Option Addr) (H : Hp) : Prop :=
  ∃ (C dd : Addr) (vs : List V), mg x.1 = some (.ref C) ∧ cls = .ref C ∧ d = some dd ∧ dd ∉ M ∧ H dd = some (.xd ((x.2.map (·.1)).zip vs)) ∧ x.2.length = vs.length ∧ Iss st M H vs (x.2.map (·.2))
structure FSX extends FS where
  xr : α → Xn → Prop
def PFX (mg : Str → Option Value) (F : FSX) : Sp := fun vs H Q E => ∃ (a : F.α) (st : Addr) (M : List Addr), Stm st M H ∧ st ∈ M ∧ (∀ b ∈ M, ∃ o, H b = some o) ∧ Iss st M H vs (F.arg a) ∧ F.pre a ∧
  (∀ r H' d, F.rel a d → Fx st H H' → Is st M H' r d → Q r H') ∧ ∀ cls d H' x, F.xr a x → Fx st H H' → XOk mg st M x cls d H' → E cls d H'
structure CalX (P : Program) (w : World) (K : PySem.W.Frag) (mg : Str → Option Value) (base : Heap) (k : Nat) (x : Str) (sp : Sp) : Prop where
  ex : ∃ (f : Addr) (fd : FuncData) (ps : List Str), FnOk P w K mg base (L2.CX P w) k f fd ps sp ∧ mg x = some (.ref f) ∧ PySem.W.keepIn K (.ref f) = true ∧ Binds K fd ps []
section
variable {X : Cx} {W : WX} {x : Str} {k j : Nat} {sp : Sp} {p pos pos2 : Pos} {e : Expr} {es : List Expr} {ta : TA} {te : TE}
theorem pe_x (c : CalX X.prog X.w X.K X.mg X.base k x sp) (hr : Room j X.A) (hk : k ≤ j) (hg : Gl X x) (tk : Takes X W) (ha : PA X (e :: es) ta)
    (hdb : (x == ("__debug__" : Str)) = false := by decide) (he : starEach (e :: es) X.env = (false, eval e X.env) :: starEach es X.env := by rfl) (hpl : (backTo pos (starEach es X.env)).any (·.1) = false := by rfl) :
    PE X (.Call (.Name x p) (e :: es) [] pos) (tCallS sp (WE W) ta) := by
  obtain ⟨f, fd, ps, F, hm, kp, b⟩ := c.ex
  exact pe_callS F (hr.mono hk) hg hm kp b (fun σ => passAt tk σ) ha hdb he hpl
/-- readings made such that a weaker wish may be put -/
def upA (ta : TA) : TA := fun σ H Q => ∃ Q0, ta σ H Q0 ∧ ∀ vs H1, Q0 vs H1 → Q vs H1
def upE (te : TE) : TE := fun σ H Q => ∃ Q0, te σ H Q0 ∧ ∀ v H1, Q0 v H1 → Q v H1
theorem pa_up (h : PA X es ta) : PA X es (upA ta) := ⟨fun pins pos s σ H Q I ⟨Q0, h0, m⟩ =>
  wpAny_mono (h.run pins pos s σ H Q0 I h0) (fun us s1 ⟨vs, H1, I1, r, q⟩ => ⟨vs, H1, I1, r, m vs H1 q⟩) fun _ _ z => z⟩
theorem pe_up (h : PE X e te) : PE X e (upE te) := ⟨fun pins s σ H Q I ⟨Q0, h0, m⟩ =>
  wpAny_mono (h.run pins s σ H Q0 I h0) (fun us s1 ⟨vs, H1, I1, r, q⟩ => ⟨vs, H1, I1, r, m vs H1 q⟩) fun _ _ z => z⟩
end

/-- a call of a def that may raise, told for good arguments alone, and for bad ones -/
def tCallJ (s1 s2 : Sp) (E : L2.St → XK) (ta : TA) : TE := fun σ H Q => ta σ H fun vs H1 => s1 vs H1 Q E0 ∨ s2 vs H1 Q (E σ)
section
variable {X : Cx} {W : WX} {x : Str} {k1 k2 j : Nat} {s1 s2 : Sp} {p pos : Pos} {e : Expr} {es : List Expr} {ta : TA}
theorem pe_xj (c : C8.Cal X.prog X.w X.K X.mg X.base k1 x s1 []) (cx : CalX X.prog X.w X.K X.mg X.base k2 x s2) (hr : Room j X.A) (hk : k1 ≤ j ∧ k2 ≤ j) (hg : Gl X x) (tk : Takes X W) (ha : PA X (e :: es) ta)
    (hdb : (x == ("__debug__" : Str)) = false := by decide) (he : starEach (e :: es) X.env = (false, eval e X.env) :: starEach es X.env := by rfl) (hpl : (backTo pos (starEach es X.env)).any (·.1) = false := by rfl) :
    PE X (.Call (.Name x p) (e :: es) [] pos) (tCallJ s1 s2 (WE W) ta) := by
  obtain ⟨f, fd, ps, ds, F, hm, kp, b, dv⟩ := c.ex
  obtain ⟨f', fd', ps', F', hm', kp', b'⟩ := cx.ex
  have ef : f' = f := by rw [hm] at hm'; cases hm'; rfl
  subst ef
  exact ⟨fun pins s σ H Q I h => wpAny_Call_Name_kw (ld_glob I hg hm
    (PySem.W.callWith_K (h₀ := X.base) I.ok.mod.kin kp (thn (ha.run pos pins s σ H _ I h) fun us s1 ⟨vs, H1, I1, r, q⟩ => ⟨I1.kIn, q.elim
      (fun q => run_fn F (hr.mono hk.1) b dv pass0 I1 r (by cases dv; rw [List.append_nil]; exact q))
      (fun q => run_fnS F' (hr.mono hk.2) b' (passAt tk σ) I1 r q)⟩) he hpl) hdb)⟩
end

/-! ### raise X(..) -/
/-- what __init__ of an own error keeps: each parameter is stored under its name -/
def spI (K : PySem.W.Frag) (fs : List Str) : Sp := fun vs H Q _ => ∃ (a C : Addr) (ys : List V), vs = .ref a :: ys ∧ ys.length = fs.length ∧ OexC K C ∧ (∀ f ∈ fs, PySem.W.findIn K (.ref C) f = some none) ∧ H a = some (exo a C none) ∧
  ∀ dx, H dx = none → dx ≠ a → Q .non (upd (upd H dx (exd dx (fs.zip ys).reverse)) a (exo a C (some dx)))
structure MakX (K : PySem.W.Frag) (mg : Str → Option Value) (x : Str) (fs : List Str) : Prop where
  ex : ∃ (C fI : Addr) (fd : FuncData), OexC K C ∧ PySem.W.findIn K (.ref C) "__init__" = some (some (.ref fI)) ∧ PySem.W.typeIn K (.ref fI) = some (.type "function") ∧ (∀ (P : Program) (w : World) (base : Heap), FnOk P w K mg base CX0 1 fI fd ("self" :: fs) (spI K fs)) ∧ mg x = some (.ref C) ∧
    Binds K fd ("self" :: fs) [] ∧ ∀ f ∈ fs, PySem.W.findIn K (.ref C) f = some none
def tRaiseX (mg : Str → Option Value) (x : Str) (fs : List Str) (W : WX) (ta : TA) : TS := fun _ σ H => ta σ H fun vs H1 => vs.length = fs.length ∧ fs.length ≤ 900 ∧ ∀ C dd, mg x = some (.ref C) → H1 dd = none → W (.ref C) (some dd) σ (upd H1 dd (.xd (fs.zip vs).reverse))
section
variable {X : Cx} {W : WX} {x : Str} {k j : Nat} {p pos pos2 : Pos} {e : Expr} {es : List Expr} {ta : TA} {fs : List Str}
theorem upd_back {H : Hp} {a dx : Addr} {o1 o2 o3 u : HO} (hn : H a = none) (ne : dx ≠ a) : upd (del (upd (upd (upd H a o1) dx o2) a o3) a) dx u = upd H dx u := by
  funext b
  by_cases h : b = dx
  · rw [h, upd_same, upd_same]
  · rw [upd_ne h, upd_ne h]
    by_cases h2 : b = a
    · rw [h2, del_same, hn]
    · rw [del_ne h2, upd_ne h2, upd_ne h, upd_ne h2]
theorem ps_raiseX (hc : X.calm = true) (m : MakX X.K X.mg x fs) (hr : Room j X.A) (hj : 2 ≤ j) (hg : Gl X x) (tk : Takes X W) (ha : PA X (e :: es) ta)
    (hdb : (x == ("__debug__" : Str)) = false := by decide) (he : starEach (e :: es) X.env = (false, eval e X.env) :: starEach es X.env := by rfl) (hpl : (backTo pos (starEach es X.env)).any (·.1) = false := by rfl) :
    PS X (.Raise (some (.Call (.Name x p) (e :: es) [] pos)) none pos2) (tRaiseX X.mg x fs W ta) := by
  obtain ⟨C, fI, fd, T, iC, tI, F1, hm, hb, hno⟩ := m.ex
  have P := ps_raise (pos := pos2) hc tk (pmk_oex (p := p) (pos := pos) (dvs := []) T iC tI (F1 X.prog X.w X.base) (hr.mono hj) hb .nil pass0 hg hm (pa_up ha) hdb he hpl)
  refine ⟨fun pins s σ H D I h => P.run pins s σ H D I ⟨_, h, fun vs H1 ⟨hl, hf, q⟩ => ⟨by omega, fun a ha => ⟨a, C, vs, by rw [List.append_nil], hl, T, hno, upd_same, fun dx hd ne => ⟨rfl, dx, (fs.zip vs).reverse, upd_same, ?_, ?_, ?_⟩⟩⟩⟩⟩
  · rw [upd_ne ne, upd_same]
  · rw [upd_ne ne] at hd
    exact hd
  · rw [upd_ne ne] at hd
    rw [upd_back ha ne]
    exact q C dx hm hd
end
section
variable {P : Program} {w : World} {K : PySem.W.Frag} {mg : Str → Option Value} {base : Heap}
/-- def __init__(self, f): self.f = f -/
theorem init1 {qual f : Str} {st : Stmt} {g : Addr} {fd : FuncData} {p1 p2 p3 p4 : Pos} (F : Fun K "__init__" qual st g fd) (S : FnScope ["self", f] ["self", f] (defScope st)) (hb : defBody st = [.Assign [.Attribute (.Name "self" p1) f p2] (.Name f p3) p4])
    (h1 : Vis (defScope st) "self") (h2 : Vis (defScope st) f) (hd : (f == ("__debug__" : Str)) = false) (hcd : (f == ("__classdict__" : Str)) = false) : FnOk P w K mg base CX0 1 g fd ["self", f] (spI K [f]) := by
  refine F.ok S (fun vs H Q E h => ?_) (fun cdv A outer s H vs Q E hr h => ?_)
  · obtain ⟨a, C, ys, rfl, hl, _⟩ := h
    rw [List.length_cons, hl]
    rfl
  · obtain ⟨a, C, ys, rfl, hl, T, hno, ha, q⟩ := h
    obtain ⟨y, rfl⟩ : ∃ y, ys = [y] := List.length_eq_one_iff.mp hl
    rw [hb]
    exact ⟨_, pss_one (ps_ost (pe_var (i := 0) rfl h1 (by decide) (by decide)) (pe_var (i := 1) rfl h2 hd hcd)), y, rfl, .ref a, rfl, a, C, rfl, T, hno f (by simp), .inl ⟨ha, fun dx n ne => q dx n ne⟩⟩
end

section
variable {K : PySem.W.Frag} {h : Heap} {mg : Str → Option Value} {x qual : Str} {C fI : Addr}
theorem oexC_of {nm q : Str} {N : Addr} {bs bm : List Value} {sn : List Str} {sub : List Value} {ab : Bool} {col : Option Bool} {dd : Option Addr} {m0 m1 m2 m3 m5 : Option Value} (xL : K.lookup C = some (excClassObj nm q C N bs bm true sn sub ab col dd m0 m1 m2 m3 m5 "ValueError.__new__")) (hbm : PySem.HandSPX.refsVE bm = true)
    (sa : PySem.W.findIn K (.ref C) "__setattr__" = some (some (.builtin "object.__setattr__"))) (eC : PySem.W.subIn K (.ref C) (.type "BaseException") = some true) (tC : PySem.W.typeIn K (.ref C) = some (.type "type")) (kC : PySem.W.keepIn K (.ref C) = true) : OexC K C :=
  ⟨⟨nm, q, N, bs, bm, sn, sub, ab, col, dd, m0, m1, m2, m3, m5, xL, hbm⟩, sa, eC, tC, kC⟩
theorem makX1 {f : Str} {st : Stmt} {oc : Value} {od an : Option Addr} {osl : Array (Option Value)} {kV doc pm cdv ct : Value} {p1 p2 p3 p4 : Pos} (X : K.In h) (G : h.Ns mainGlobals mg) (aC : PySem.W.nsIn K mainGlobals x = some (some (.ref C))) (T : OexC K C) (iC : PySem.W.findIn K (.ref C) "__init__" = some (some (.ref fI)))
    (tI : PySem.W.typeIn K (.ref fI) = some (.type "function")) (l : K.lookup fI = some ⟨oc, od, .func (PySem.W.fnOf "__init__" qual (defArgs st) (defBody st) (defScope st) .none kV doc pm an cdv ct), osl⟩) (c : PySem.W.codeIn K cdv qual = true) (k : PySem.W.keepIn K (.ref fI) = true) (hno : PySem.W.findIn K (.ref C) f = some none)
    (S : FnScope ["self", f] ["self", f] (defScope st)) (hb : defBody st = [.Assign [.Attribute (.Name "self" p1) f p2] (.Name f p3) p4])
    (h1 : Vis (defScope st) "self") (h2 : Vis (defScope st) f) (hd : (f == ("__debug__" : Str)) = false) (hcd : (f == ("__classdict__" : Str)) = false)
    (bb : ∀ (kV doc pm : Value) (an : Option Addr) (cdv ct : Value) (us : List Value), us.length = (["self", f] : List Str).length → bindArgs (PySem.W.fnOf "__init__" qual (defArgs st) (defBody st) (defScope st) .none kV doc pm an cdv ct) ⟨us, []⟩ = pure ((["self", f] : List Str).zip us)) : MakX K mg x [f] :=
  ⟨C, fI, _, T, iC, tI, fun P w base => init1 (fun_mk l c k) S hb h1 h2 hd hcd, PySem.W.mg_of X G aC, (fun_mk l c k).binds bb, fun y hy => by rw [List.mem_singleton.mp hy]; exact hno⟩
end

/-! ### judgements with errors -/
section
variable (mg : Str → Option Value)
def DeW (te : TE) (W : WX) (env : Nv) (post : D → Prop) (xt : Xn → Prop) : Prop := ∀ B M σ H, Sr B M σ H env → ∀ Q : VK,
  (∀ v H' d, post d → Sr B M σ H' env → Fx B.st H H' → Is B.st M H' v d → Q v H') → (∀ cls d H' x, xt x → Sr B M σ H' env → XOk mg B.st M x cls d H' → W cls d σ H') → te σ H Q
def DtW (tt : TT) (W : WX) (env : Nv) (post : Bool → Prop) (xt : Xn → Prop) : Prop := ∀ B M σ H, Sr B M σ H env → ∀ Q : Bool → Hp → Prop,
  (∀ b H', post b → Sr B M σ H' env → Fx B.st H H' → Q b H') → (∀ cls d H' x, xt x → Sr B M σ H' env → XOk mg B.st M x cls d H' → W cls d σ H') → tt σ H Q
def DsW (ts : TS) (W : WX) (env : Nv) (nx : Nv → Prop) (rt : D → Prop) (bk ct : Nv → Prop) (xt : Nv → Xn → Prop) : Prop := ∀ B M σ H, Sr B M σ H env → ∀ D : Ends,
  (∀ M' σ' H' env', nx env' → Sr B M' σ' H' env' → D.nx σ' H') →
  (∀ v H' d, rt d → Fx B.st B.H0 H' → Is B.st B.M0 H' v d → D.rt v H') →
  (∀ M' σ' H' env', bk env' → Sr B M' σ' H' env' → D.bk σ' H') →
  (∀ M' σ' H' env', ct env' → Sr B M' σ' H' env' → D.ct σ' H') →
  (∀ M' σ' H' env' x cls d, xt env' x → Sr B M' σ' H' env' → XOk mg B.st M' x cls d H' → W cls d σ' H') → ts D σ H
end
section
variable {mg : Str → Option Value} {W : WX} {env : Nv} {post : D → Prop} {postb : Bool → Prop} {xt : Xn → Prop} {te tb : TE} {tt tu : TT} {tas : TA} {t u : TS} {nx bk ct : Nv → Prop} {rt : D → Prop} {xs : Nv → Xn → Prop} {K : PySem.W.Frag}
theorem dtw_of (h : Dt tt env postb) : DtW mg tt W env postb xt := fun B M σ H S Q q _ => h B M σ H S Q q
theorem dw_of (h : Ds t env nx rt bk ct) : DsW mg t W env nx rt bk ct xs := fun B M σ H S D q1 q2 q3 q4 _ => h B M σ H S D q1 q2 q3 q4
theorem dew_call {F : FSX} (h : Da tas env fun xs => ∃ a : F.α, xs = F.arg a ∧ F.pre a ∧ (∀ d, F.rel a d → post d) ∧ ∀ x, F.xr a x → xt x) : DeW mg (tCallS (PFX mg F) (WE W) tas) W env post xt := fun B M σ H S Q q qx =>
  h B M σ H S _ fun vs H2 xs ⟨a, ea, p, r, x⟩ S2 e2 i2 => ⟨a, B.st, M, S2.stm, S2.stM, S2.trk, by rw [← ea]; exact i2, p, fun v H' d hd e3 i3 => q v H' d (r d hd) (S2.fx e3) (e2.trans e3) i3, fun cls d H' y hy e3 k => qx cls d H' y (x y hy) (S2.fx e3) k⟩
theorem dew_callJ {G : FS} {F : FSX} (h : Da tas env fun xs => (∃ a : G.α, xs = G.arg a ∧ G.pre a ∧ ∀ d, G.rel a d → post d) ∨ ∃ a : F.α, xs = F.arg a ∧ F.pre a ∧ (∀ d, F.rel a d → post d) ∧ ∀ x, F.xr a x → xt x) : DeW mg (tCallJ (PF G) (PFX mg F) (WE W) tas) W env post xt := fun B M σ H S Q q qx =>
  h B M σ H S _ fun vs H2 xs hh S2 e2 i2 => hh.imp
    (fun ⟨a, ea, p, r⟩ => ⟨a, B.st, M, S2.stm, S2.stM, S2.trk, by rw [← ea]; exact i2, p, fun v H' d hd e3 i3 => q v H' d (r d hd) (S2.fx e3) (e2.trans e3) i3⟩)
    fun ⟨a, ea, p, r, x⟩ => ⟨a, B.st, M, S2.stm, S2.stM, S2.trk, by rw [← ea]; exact i2, p, fun v H' d hd e3 i3 => q v H' d (r d hd) (S2.fx e3) (e2.trans e3) i3, fun cls d H' y hy e3 k => qx cls d H' y (x y hy) (S2.fx e3) k⟩
theorem dw_seq (h : DsW mg t W env (fun e => DsW mg u W e nx rt bk ct xs) rt bk ct xs) : DsW mg (tSeq t u) W env nx rt bk ct xs := fun B M σ H S D q1 q2 q3 q4 qx =>
  h B M σ H S { D with nx := u D } (fun M' σ' H' e' he S' => he B M' σ' H' S' D q1 q2 q3 q4 qx) q2 q3 q4 qx
theorem dw_if (h : DtW mg tt W env (fun b => if b = true then DsW mg t W env nx rt bk ct xs else DsW mg u W env nx rt bk ct xs) (xs env)) : DsW mg (tIfS tt t u) W env nx rt bk ct xs := fun B M σ H S D q1 q2 q3 q4 qx =>
  h B M σ H S _ (fun b H' hb S' e => by
    cases b with
    | true =>
      rw [if_pos rfl] at hb
      rw [if_pos rfl]
      exact hb B M σ H' S' D q1 q2 q3 q4 qx
    | false =>
      rw [if_neg (by decide)] at hb
      rw [if_neg (by decide)]
      exact hb B M σ H' S' D q1 q2 q3 q4 qx) fun cls d H' x hx S' k => qx M σ H' env x cls d hx S' k
theorem dw_drop (h : DeW mg te W env (fun _ => nx env) (xs env)) : DsW mg (tDrop te) W env nx rt bk ct xs := fun B M σ H S D q1 q2 q3 q4 qx =>
  h B M σ H S _ (fun v H' d hd S' e i => q1 M σ H' env hd S') fun cls d H' x hx S' k => qx M σ H' env x cls d hx S' k
theorem iss_rev {st : Addr} {M : List Addr} {H : Hp} : ∀ {vs : List V} {ds : List D}, Iss st M H vs ds → Iss st M H vs.reverse ds.reverse
  | _, _, .nil => .nil
  | _, _, .cons h t => by
    rw [List.reverse_cons, List.reverse_cons]
    exact (iss_rev t).append (.cons h .nil)
theorem dw_raise {x : Str} {fs : List Str} (h : Da tas env fun ds => ds.length = fs.length ∧ fs.length ≤ 900 ∧ xs env (x, (fs.zip ds).reverse)) : DsW mg (tRaiseX mg x fs W tas) W env nx rt bk ct xs := fun B M σ H S D q1 q2 q3 q4 qx =>
  h B M σ H S _ fun vs H1 ds ⟨hl, hz, hx⟩ S1 e1 i1 => ⟨i1.length.trans hl, hz, fun C dd hm hn => by
    have hv := i1.length.trans hl
    refine qx M σ _ env _ (.ref C) (some dd) hx (S1.new hn) ⟨C, dd, vs.reverse, hm, rfl, rfl, S1.newM hn, ?_, by simp [hl, hv], ?_⟩
    · rw [upd_same]
      have e1 : ((fs.zip ds).reverse.map fun y => y.1).zip vs.reverse = (fs.zip vs).reverse := by
        rw [List.map_reverse, List.map_fst_zip (by omega), List.zip_eq_zipWith, List.zip_eq_zipWith]
        exact (List.reverse_zipWith (by omega)).symm
      exact congrArg some (congrArg HO.xd e1.symm)
    · show Iss B.st M _ vs.reverse ((fs.zip ds).reverse.map fun y => y.2)
      rw [List.map_reverse, List.map_snd_zip (by omega)]
      exact iss_rev (S1.iss (Fx.new hn) i1)⟩
end
/-- a raising def's promise from its body -/
theorem df_calX {P : Program} {w : World} {K : PySem.W.Frag} {mg : Str → Option Value} {base : Heap} {x : Str} {st : Stmt} {N ps : List Str} {k : Nat} {F : FSX} (d : Df K mg x st ps) (S : FnScope N ps (defScope st))
    (len : ∀ a, (F.arg a).length = ps.length)
    (hbody : ∀ (f : Addr) (cdv : Value) (A : Around) (outer : List PySem.Env) (s : Shared) (H : Hp) (E : XK), Room k (A.deeper (envOfC x (defScope st) s.heap.objs.size f cdv)) →
      ∃ t, PSs (cxOf (L2.CX P w) P w K mg base N x (defScope st) f cdv A outer s H E) (defBody st) t ∧
        ∀ a, F.pre a → DsW mg t (fun cls d _ H => E cls d H) ((F.arg a).map Sl.dat ++ List.replicate (N.length - (F.arg a).length) Sl.any) (fun _ => F.rel a .non) (F.rel a) (fun _ => False) (fun _ => False) fun _ x => F.xr a x) : CalX P w K mg base (k + 1) x (PFX mg F) := by
  obtain ⟨f, fd, Fn, hm, hb⟩ := d.ex
  refine ⟨f, fd, ps, Fn.okX S (fun vs H Q E h => ?_) (fun cdv A outer s H vs Q E hr h => ?_), hm, Fn.kp, hb⟩
  · obtain ⟨a, st', M, _, _, _, hs, _⟩ := h
    rw [hs.length]
    exact len a
  · obtain ⟨t, ht, hd⟩ := hbody f cdv A outer s H E hr
    refine ⟨t, ht, ?_⟩
    obtain ⟨a, st', M, h1, h2, h3, hs, hp, q, qx⟩ := h
    refine hd a hp _ M _ H (sr_start (F := F.toFS) h1 h2 h3 hs) _ (fun M' σ' H' e' he S' => q .non H' .non he S'.keep .non) (fun v H' d hr fx iv => q v H' d hr fx iv) (fun M' σ' H' e' he S' => he.elim) (fun M' σ' H' e' he S' => he.elim) (fun M' σ' H' e' y cls d hx S' k => qx cls d H' y hx S'.keep ?_)
    obtain ⟨C, dd, vs', k1, k2, k3, k4, k5, k6, k7⟩ := k
    exact ⟨C, dd, vs', k1, k2, k3, fun z => k4 (S'.sub _ z), k5, k6, k7.mono S'.sub S'.stM (Fx.refl _ _) S'.nt⟩

/-! ### except X as e: what the suite reads of e -/
structure XcI (K : PySem.W.Frag) (C : Addr) : Prop where
  cl : (PySem.W.clsIn K C).isSome = true
  xf : XfC K C
  ha : PySem.W.findIn K (.ref C) "__class__" = some (some (.builtin "object.__class__"))
  hn : PySem.W.specialIn K (.builtin "object.__class__") "__get__" = some (some (.builtin "getset_descriptor.__get__"))
  ht : PySem.W.takesIn K (.builtin "object.__class__") = some true
  hm : PySem.W.mroIn K C (.type "object") = some true
/-- e.f -/
def tXe (K : PySem.W.Frag) (a : Addr) (cls : Value) (d : Option Addr) (f : Str) (te : TE) : TE := fun σ H Q => ∃ C dd, cls = .ref C ∧ d = some dd ∧ XfC K C ∧ PySem.W.findIn K (.ref C) f = some none ∧
  te σ H fun x H1 => x = .ref a ∧ ∃ (fs : List (Str × V)) (v : V), H1 dd = some (.xd fs) ∧ fs.lookup f = some v ∧ Q v H1
/-- isinstance(e, c) -/
def rIsX (K : PySem.W.Frag) (a : Addr) (cls : Value) (d : Option Addr) : List V → Hp → VK → Prop := fun xs H Q => ∃ (C dd : Addr) (fs : List (Str × V)) (c : V) (cv : Value) (b : Bool), cls = .ref C ∧ d = some dd ∧ XcI K C ∧ xs = [.ref a, c] ∧ ClsV c cv ∧ H dd = some (.xd fs) ∧
  PySem.W.kitOne K (.ref C) cv = some b ∧ Q (.bl b) H
section
variable {X : Cx} {a : Addr} {oe : Obj} {cls : Value} {d : Option Addr} {pn : List (Addr × Obj)} {e : Expr} {te : TE} {pos : Pos} {n : Str}
theorem pe_xe (hz : Zc cls d oe) (hf : ∃ vs, oe.data = .fields vs) (he : PE (X.suite a ((a, oe) :: pn)) e te) (hb : attributeBase e n X.env (eval e X.env) = eval e X.env := by rfl) :
    PE (X.suite a ((a, oe) :: pn)) (.Attribute e n pos) (tXe X.K a cls d n te) := ⟨fun pins s σ H Q I h => by
  obtain ⟨C, dd, rfl, rfl, T, hno, h⟩ := h
  refine (pe_xf T hno hz hf (pe_up he) hb).run pins s σ H Q I ⟨_, h, fun x H1 ⟨ex, fs, v, h1, h2, q⟩ => ⟨ex, rfl, dd, fs, v, rfl, h1, h2, q⟩⟩⟩
end
def tTry (K : PySem.W.Frag) (c : Value) (i : Nat) (tb : WX → TS) (ts : Addr → Value → Option Addr → TS) (Wo : WX) : TS := fun D σ H => tb (wAs K c i ts Wo D) D σ H
theorem ps_tryA {X : Cx} {x n : Str} {c : Value} {i : Nat} {bd su : List Stmt} {b0 : Stmt} {p1 p2 p3 : Pos} {tb : WX → TS} {ts : Addr → Value → Option Addr → TS} {Wo : WX} (h1 : X.stack = X.env :: X.outer) (h2 : X.env.frame = some X.env.locals) (nd : X.N.Nodup)
    (hi : X.N[i]? = some n) (hl : X.env.kindOf n = some .local) (hc : Names X x c) (tk : Takes X Wo)
    (hb : ∀ (W : WX) (pn : List (Addr × Obj)) (xe : Value → Shared → Prop), Takes (X.tr pn xe) W →
      PassesOwn (model X.prog X.w) X.A X.env xe → PSs (X.tr pn xe) bd (tb W))
    (hs : ∀ (a : Addr) (oe : Obj) (cls : Value) (d : Option Addr) (pn : List (Addr × Obj)), Zc cls d oe →
      (∃ vs, oe.data = .fields vs) → PSs (X.suite a ((a, oe) :: pn)) (b0 :: su) (ts a cls d)) :
    PS X (.Try bd [.ExceptHandler (some (.Name x p1)) (some n) (b0 :: su) p2] [] [] p3) (tTry X.K c i tb ts Wo) := ps_try_as h1 h2 nd hi hl hc tk hb hs
section
variable {mg : Str → Option Value} {env : Nv} {post : D → Prop} {te : TE} {nx bk ct : Nv → Prop} {rt : D → Prop} {K : PySem.W.Frag}
theorem look_zip {st : Addr} {M : List Addr} {H : Hp} {f : Str} {y : D} : ∀ {ns : List Str} {vs : List V} {ds : List D}, Iss st M H vs ds → (ns.zip ds).lookup f = some y → ∃ v, (ns.zip vs).lookup f = some v ∧ Is st M H v y
  | [], _, _, _, h => by simp at h
  | _ :: _, _, _, .nil, h => by simp at h
  | n :: ns, _, _, .cons (v := v) (d := d) i t, h => by
    rw [List.zip_cons_cons] at h ⊢
    by_cases e : f = n
    · subst e
      simp only [List.lookup, beq_self_eq_true] at h ⊢
      cases h
      exact ⟨v, rfl, i⟩
    · have ne : (f == n) = false := by simpa using e
      simp only [List.lookup, ne] at h ⊢
      exact look_zip t h
theorem de_xe {a C dd : Addr} {f : Str} {cls : Value} {dx : Option Addr} (hc : cls = .ref C) (hx : dx = some dd) (T : XfC K C) (hno : PySem.W.findIn K (.ref C) f = some none)
    (h : De te env fun x => ∃ ns ds y, x = .exc a dd ns ds ∧ (ns.zip ds).lookup f = some y ∧ post y) : De (tXe K a cls dx f te) env post := fun B M σ H S Q q =>
  ⟨C, dd, hc, hx, T, hno, h B M σ H S _ fun v H1 x ⟨ns, ds, y, e, hl, hp⟩ S1 e1 i1 => by
    subst e
    cases i1 with
    | exc hm hh hl2 hs =>
      obtain ⟨v, hv, iv⟩ := look_zip hs hl
      exact ⟨rfl, _, v, hh, hv, q v H1 y hp S1 e1 iv⟩⟩
/-- try: .. except c as n: what the body lets out is of the class, and the suite goes on -/
theorem ds_try {c : Value} {i : Nat} {ts : Addr → Value → Option Addr → TS} {Wout : WX} {tb : WX → TS} (xs : Nv → Xn → Prop) (hb : ∀ W, DsW mg (tb W) W env nx rt bk ct xs)
    (hs : ∀ env' x, xs env' x → ∀ C, mg x.1 = some (.ref C) → PySem.W.exmOne K (.ref C) c = some true ∧ ∀ a dd, Ds (ts a (.ref C) (some dd)) (env'.set i (.dat (.exc a dd (x.2.map (·.1)) (x.2.map (·.2))))) (fun e => nx (e.set i .any)) rt (fun e => bk (e.set i .any)) (fun e => ct (e.set i .any))) :
    Ds (tTry K c i tb ts Wout) env nx rt bk ct := fun B M σ H S D q1 q2 q3 q4 =>
  hb _ B M σ H S D q1 q2 q3 q4 fun M' σ' H' env' x cls d hx S' k => by
    obtain ⟨C, dd, vs, k1, k2, k3, k4, k5, k6, k7⟩ := k
    subst k2 k3
    obtain ⟨e1, e2⟩ := hs env' x hx C k1
    refine ⟨true, e1, fun _ a ha => ?_, fun z => Bool.noConfusion z⟩
    have S2 := S'.set (i := i) (v := .ref a) (d := .exc a dd (x.2.map (·.1)) (x.2.map (·.2))) (.exc k4 k5 (by rw [List.length_map]; exact k6) k7)
    exact e2 a dd B M' _ H' S2 _ (fun M2 σ2 H2 e2 he S3 => q1 M2 _ H2 _ he S3.any) q2 (fun M2 σ2 H2 e2 he S3 => q3 M2 _ H2 _ he S3.any) (fun M2 σ2 H2 e2 he S3 => q4 M2 _ H2 _ he S3.any)
end
end DL
namespace DL
open PySem PySem.Spec PyProof.Rows L2
theorem ref_inj {m : Option Value} {C D : Addr} (e : m = some (.ref C)) (e2 : m = some (.ref D)) : D = C := by
  rw [e] at e2
  cases e2
  rfl
theorem xcI_of {K : PySem.W.Frag} {C : Addr} (cl : PySem.W.isClsIn K C = true) (ga : PySem.W.findIn K (.ref C) "__getattribute__" = some (some (.builtin "BaseException.__getattribute__"))) (gg : PySem.W.findIn K (.ref C) "__getattr__" = some none) (exC : PySem.W.subIn K (.ref C) (.type "BaseException") = some true) (hdC : PySem.W.hasDictIn K C = true)
    (ha : PySem.W.findIn K (.ref C) "__class__" = some (some (.builtin "object.__class__"))) (hn : PySem.W.specialIn K (.builtin "object.__class__") "__get__" = some (some (.builtin "getset_descriptor.__get__"))) (ht : PySem.W.takesIn K (.builtin "object.__class__") = some true) (hm : PySem.W.mroIn K C (.type "object") = some true) : XcI K C :=
  ⟨cl, ⟨ga, gg, exC, hdC⟩, ha, hn, ht, hm⟩
theorem exm_of {K : PySem.W.Frag} {C D : Addr} {b : Bool} (h1 : PySem.W.subIn K (.ref D) (.type "BaseException") = some true) (hd : PySem.W.isClsIn K D = true) (ht : PySem.W.typeIn K (.ref D) = some (.type "type")) (h4 : PySem.W.subIn K (.ref C) (.ref D) = some b) : PySem.W.exmOne K (.ref C) (.ref D) = some b := by
  have e1 : (PySem.W.subIn K (.ref D) (.type "BaseException") == some true) = true := by rw [h1]; rfl
  have hd' : (PySem.W.clsIn K D).isSome = true := hd
  have e2 : ((PySem.W.clsIn K D).isSome && PySem.W.typeIn K (.ref D) == some (.type "type")) = true := by rw [hd', ht]; rfl
  unfold PySem.W.exmOne
  rw [if_pos e1]
  show (if ((PySem.W.clsIn K D).isSome && PySem.W.typeIn K (.ref D) == some (.type "type")) = true then PySem.W.subIn K (.ref C) (.ref D) else none) = some b
  rw [if_pos e2]
  exact h4
section
variable {K : PySem.W.Frag} {post : D → Prop}
/-- one of a list's items, whichever -/
theorem dop_ixlm {l : List D} {i : Int} (h0 : 0 ≤ i) (h1 : i < l.length) (h : ∀ x ∈ l, post x) : Dop (rIxL K) (.lst l) (.int i) post := by
  obtain ⟨x, hx, hm⟩ := atI_lt l i h0 h1
  exact dop_ixl hx (h x hm)
end
end DL

namespace DL
open PySem PySem.Spec PyProof.Rows L2 TK

/-! ### zip of two lists -/
def zzD (l m : List D) : List D := (l.zip m).map fun p => .tup [p.1, p.2]
section
variable {env : Nv} {nx : Nv → Prop} {rt : D → Prop} {bk ct : Nv → Prop} {K : PySem.W.Frag} {tas : TA} {te : TE}
/-! ### dicts of points -/
def iD (l : List (Nat × Nat)) : List (Key × V) := l.map fun x => (.inl (x.1 : Int), .int (x.2 : Int))
def bD (l : List Nat) : List (Key × V) := l.map fun q : Nat => ((.inl (q : Int) : Key), V.bl true)
theorem look_of {l : List (Nat × Nat)} (nd : (l.map (·.1)).Nodup) {p q : Nat} (h : (p, q) ∈ l) : l.lookup p = some q := by
  induction l with
  | nil => cases h
  | cons x l ih =>
    obtain ⟨a, b⟩ := x
    rw [List.map_cons, List.nodup_cons] at nd
    rcases List.mem_cons.mp h with e | h
    · cases e
      simp [List.lookup]
    · have ne : p ≠ a := fun z => nd.1 (List.mem_map.mpr ⟨(p, q), h, z⟩)
      have : (p == a) = false := by simpa using ne
      simp only [List.lookup, this]
      exact ih nd.2 h
end

/-! ### a folded graph, completed -/
def rowE (c : Nat) (es : List Ed) : List (Nat × Nat) := (es.filter fun e => e.2.1 == c).map fun e => (e.1, e.2.2)
def outs (V : Nat) (l : List Nat) : List Nat := (List.range V).filter fun p => !decide (p ∈ l)
/-- all images of the completed letter -/
def fullE (V c : Nat) (es : List Ed) : List (Nat × Nat) := rowE c es ++ (outs V ((rowE c es).map (·.1))).zip (outs V ((rowE c es).map (·.2)))
def imgC (V c : Nat) (es : List Ed) : List Nat := (List.range V).map fun p => ((fullE V c es).lookup p).getD 0
structure FlR (V : Nat) (l : List (Nat × Nat)) : Prop where
  fst : (l.map (·.1)).Perm (List.range V)
  snd : (l.map (·.2)).Perm (List.range V)
theorem FlR.at' {V : Nat} {l : List (Nat × Nat)} (h : FlR V l) {p : Nat} (hp : p < V) : ∃ q, l.lookup p = some q ∧ (p, q) ∈ l := by
  have hm := h.fst.mem_iff.mpr (List.mem_range.mpr hp)
  obtain ⟨⟨a, q⟩, hx, rfl⟩ := List.mem_map.mp hm
  exact ⟨q, look_of (h.fst.nodup_iff.mpr List.nodup_range) hx, hx⟩
theorem FlR.perm {V : Nat} {l : List (Nat × Nat)} (h : FlR V l) : DL.perm V ((List.range V).map fun p => (l.lookup p).getD 0) := by
  have nd := h.fst.nodup_iff.mpr List.nodup_range
  have e : l.map (·.2) = (l.map (·.1)).map fun p => (l.lookup p).getD 0 := by
    rw [List.map_map]
    refine List.map_congr_left fun x hx => ?_
    show x.2 = (l.lookup x.1).getD 0
    rw [look_of nd (p := x.1) (q := x.2) hx]
    rfl
  have := (h.fst.map fun p => (l.lookup p).getD 0).symm.trans (e ▸ h.snd)
  exact this
def compl (ls : List Nat) (g : Gr) : List (List Nat) := ls.map fun c => imgC g.1 c g.2
end DL
namespace DL
theorem famG_nd (ws : List (List Nat)) (l ls : List Nat) : (famG ws l ls).2.Nodup := (srtE_perm _).nodup_iff.mpr (dd_nd _)
end DL

namespace DL
open PySem PySem.Spec PyProof.Rows L2 TK

/-! ### a word attached to a folded graph -/
abbrev As := Nat × List Ed × Nat
def attS (kvs : List (List Key × V)) (s : As) (c : Nat) : As := match stO kvs s.2.2 c with
  | some q => (s.1, s.2.1, q)
  | none => (s.1 + 1, s.2.1 ++ [edB s.2.2 c s.1], s.1)
def attF (g : Gr) (u : List Nat) : As := u.foldl (attS (mvs g.2)) (g.1, [], 0)
def attG (g : Gr) (w : List Nat) : Gr := ((attF g (fold w)).1, srtE (g.2 ++ (attF g (fold w)).2.1))
def attE (g : Gr) (w : List Nat) : Nat := (attF g (fold w)).2.2
theorem edB_cases {p c q : Nat} (hc : c ∈ LTR) : (c ∈ SM ∧ edB p c q = (p, c, q)) ∨ (c ∉ SM ∧ sw c ∈ SM ∧ edB p c q = (q, sw c, p)) := by
  have hsw : ∀ c ∈ LTR, c ∉ SM → sw c ∈ SM := by decide
  unfold edB
  by_cases h : c ∈ SM
  · exact .inl ⟨h, if_pos h⟩
  · exact .inr ⟨h, hsw c hc h, if_neg h⟩
/-- a new edge at a free end, to a new vertex -/
theorem Fld.more {es : List Ed} {V p c : Nat} (F : Fld es) (hb : ∀ e ∈ es, e.1 < V ∧ e.2.2 < V) (nd : es.Nodup) (hp : p < V) (hc : c ∈ LTR) (hf : ∀ q, ¬ Stp es p c q) :
    Fld (es ++ [edB p c V]) ∧ (∀ e ∈ es ++ [edB p c V], e.1 < V + 1 ∧ e.2.2 < V + 1) ∧ (es ++ [edB p c V]).Nodup ∧ (∀ d, d ≠ sw c → ∀ q, ¬ Stp (es ++ [edB p c V]) V d q) ∧ Stp (es ++ [edB p c V]) p c V := by
  have new : ∀ e ∈ es, e.1 ≠ V ∧ e.2.2 ≠ V := fun e he => ⟨Nat.ne_of_lt (hb e he).1, Nat.ne_of_lt (hb e he).2⟩
  have mem : ∀ {e : Ed}, e ∈ es ++ [edB p c V] → e ∈ es ∨ e = edB p c V := fun h => by
    rcases List.mem_append.mp h with h | h
    · exact .inl h
    · exact .inr (List.mem_singleton.mp h)
  rcases edB_cases (p := p) (q := V) hc with ⟨hs, he⟩ | ⟨hs, hs2, he⟩
  · rw [he] at mem ⊢
    have no1 : ∀ q, (p, c, q) ∉ es := fun q h => hf q (.inl ⟨hs, h⟩)
    refine ⟨⟨fun e h => ?_, fun e h f k h1 h2 => ?_, fun e h f k h1 h2 => ?_⟩, fun e h => ?_, ?_, fun d hd q k => ?_, .inl ⟨hs, List.mem_append_right _ List.mem_cons_self⟩⟩
    · rcases mem h with h | rfl
      · exact F.sm e h
      · exact hs
    · rcases mem h with h | rfl <;> rcases mem k with k | rfl
      · exact F.fwd e h f k h1 h2
      · exact absurd (show (p, c, e.2.2) ∈ es by rw [← show e.2.1 = c from h1, ← show e.1 = p from h2]; exact h) (no1 _)
      · exact absurd (show (p, c, f.2.2) ∈ es by rw [show c = f.2.1 from h1, show p = f.1 from h2]; exact k) (no1 _)
      · rfl
    · rcases mem h with h | rfl <;> rcases mem k with k | rfl
      · exact F.bwd e h f k h1 h2
      · exact absurd h2 (new e h).2
      · exact absurd h2.symm (new f k).2
      · rfl
    · rcases mem h with h | rfl
      · have := hb e h; omega
      · exact ⟨Nat.lt_succ_of_lt hp, Nat.lt_succ_self _⟩
    · rw [List.nodup_append]
      exact ⟨nd, by simp, fun a ha b hb' e => no1 V (by rw [List.mem_singleton.mp hb'] at e; exact e ▸ ha)⟩
    · rcases k with ⟨k1, k2⟩ | ⟨k1, k2, k3⟩
      · rcases mem k2 with k2 | k2
        · exact (new _ k2).1 rfl
        · have := congrArg Prod.fst k2
          exact absurd this (Nat.ne_of_gt hp)
      · rcases mem k3 with k3 | k3
        · exact (new _ k3).2 rfl
        · have e1 : sw d = c := congrArg (fun x : Ed => x.2.1) k3
          exact hd (by rw [← e1, sw_sw k2])
  · rw [he] at mem ⊢
    have no1 : ∀ q, (q, sw c, p) ∉ es := fun q h => hf q (.inr ⟨hs2, hc, h⟩)
    refine ⟨⟨fun e h => ?_, fun e h f k h1 h2 => ?_, fun e h f k h1 h2 => ?_⟩, fun e h => ?_, ?_, fun d hd q k => ?_, .inr ⟨hs2, hc, List.mem_append_right _ List.mem_cons_self⟩⟩
    · rcases mem h with h | rfl
      · exact F.sm e h
      · exact hs2
    · rcases mem h with h | rfl <;> rcases mem k with k | rfl
      · exact F.fwd e h f k h1 h2
      · exact absurd h2 (new e h).1
      · exact absurd h2.symm (new f k).1
      · rfl
    · rcases mem h with h | rfl <;> rcases mem k with k | rfl
      · exact F.bwd e h f k h1 h2
      · exact absurd (show (e.1, sw c, p) ∈ es by rw [← show e.2.1 = sw c from h1, ← show e.2.2 = p from h2]; exact h) (no1 _)
      · exact absurd (show (f.1, sw c, p) ∈ es by rw [show sw c = f.2.1 from h1, show p = f.2.2 from h2]; exact k) (no1 _)
      · rfl
    · rcases mem h with h | rfl
      · have := hb e h; omega
      · exact ⟨Nat.lt_succ_self _, Nat.lt_succ_of_lt hp⟩
    · rw [List.nodup_append]
      exact ⟨nd, by simp, fun a ha b hb' e => no1 V (by rw [List.mem_singleton.mp hb'] at e; exact e ▸ ha)⟩
    · rcases k with ⟨k1, k2⟩ | ⟨k1, k2, k3⟩
      · rcases mem k2 with k2 | k2
        · exact (new _ k2).1 rfl
        · have e1 : d = sw c := congrArg (fun x : Ed => x.2.1) k2
          exact hd e1
      · rcases mem k3 with k3 | k3
        · exact (new _ k3).2 rfl
        · have := congrArg (fun x : Ed => x.2.2) k3
          exact absurd this (Nat.ne_of_gt hp)
structure AtI (g : Gr) (u : List Nat) (s : As) : Prop where
  fld : Fld (g.2 ++ s.2.1)
  bd : ∀ e ∈ g.2 ++ s.2.1, e.1 < s.1 ∧ e.2.2 < s.1
  nd : (g.2 ++ s.2.1).Nodup
  pl : s.2.2 < s.1
  wlk : Wlk (g.2 ++ s.2.1) 0 u s.2.2
  le : s.1 = g.1 + s.2.1.length
  ul : s.2.1.length ≤ u.length
  out : (s.2.1 = [] ∧ wkO (mvs g.2) 0 u = some s.2.2) ∨ (g.1 ≤ s.2.2 ∧ wkO (mvs g.2) 0 u = none ∧ ∃ v c, u = v ++ [c] ∧ ∀ d, d ≠ sw c → ∀ q, ¬ Stp (g.2 ++ s.2.1) s.2.2 d q)
theorem red_snoc {c d : Nat} : ∀ {v : List Nat}, red (v ++ [c] ++ [d]) → c ≠ sw d
  | [], h => h.1
  | x :: [], h => h.2.1
  | x :: y :: v, h => red_snoc (v := y :: v) h.2
theorem Fld.perm {es fs : List Ed} (F : Fld es) (p : fs.Perm es) : Fld fs := ⟨fun e h => F.sm e (p.mem_iff.mp h), fun e h f k => F.fwd e (p.mem_iff.mp h) f (p.mem_iff.mp k), fun e h f k => F.bwd e (p.mem_iff.mp h) f (p.mem_iff.mp k)⟩
/-! ### letters asked -/
def rIslow : V → List V → Hp → VK → Prop := fun x xs H Q => ∃ a : Str, x = .str a ∧ xs = [] ∧ True ∧ Q (.bl (Txt.islower a)) H
section
variable {K : PySem.W.Frag} {post : D → Prop}
end
section
variable {env : Nv} {ta tb : TE}
end
end DL

namespace DL
open PySem PySem.Spec PyProof.Rows L2 TK

/-! ### the action to which a folded graph is completed -/
section
variable {g : Gr} {k : Nat}
end
end DL

namespace DL
open PySem PySem.Spec PyProof.Rows L2 TK

/-! ### looking at one's own list for a dict -/
section
variable {env : Nv} {te : TE} {post : D → Prop}
end
/-- at the end of what was attached the graph and what was added to it go on alike -/
theorem AtI.more {g : Gr} (N : GnOk g) {v : List Nat} {s : As} (I : AtI g v s) {c : Nat} (hr : red (v ++ [c])) (hl : Lts v) (hc : c ∈ LTR) : stO (mvs (g.2 ++ s.2.1)) s.2.2 c = stO (mvs g.2) s.2.2 c := by
  rcases I.out with ⟨e, _⟩ | ⟨hp, _, v', c', rfl, hno⟩
  · rw [e, List.append_nil]
  · have r : stO (mvs g.2) s.2.2 c = none := by
      cases e : stO (mvs g.2) s.2.2 c with
      | none => rfl
      | some q =>
        have st := stO_mem N.fld.sm e
        have : s.2.2 < g.1 := by
          rcases st with ⟨_, z⟩ | ⟨_, _, z⟩
          · exact (N.bd _ z).1
          · exact (N.bd _ z).2
        omega
    rw [r]
    cases e : stO (mvs (g.2 ++ s.2.1)) s.2.2 c with
    | none => rfl
    | some q =>
      exfalso
      refine hno c (fun z => ?_) q (stO_mem I.fld.sm e)
      have := red_snoc hr
      apply this
      rw [z]
      exact (sw_sw (hl c' (by simp))).symm
/-! ### paths are no longer than half the words -/
end DL

namespace DL
open PySem PySem.Spec PyProof.Rows L2 TK

/-! ### petals whose last letters lead back to 0, and edges put together pair by pair, in whatever sequence -/
structure Bq (ws : List (List Nat)) (E : List Ed) : Prop where
  sm : ∀ e ∈ E, e.2.1 ∈ SM
  giv : ∀ w ∈ ws, Wlk E 0 (fold w) 0
  trv : ∀ e ∈ E, ∃ w ∈ ws, Trv E (fold w) 0 0 e
  lam : ∃ lam : Nat → List Nat, lam 0 = [] ∧ (∀ p, Lts (lam p)) ∧ ∀ H, Sgp H → (∀ w ∈ ws, H (fold w)) → ∀ e ∈ E, H (fold (lam e.1 ++ [e.2.1] ++ DL.inv (lam e.2.2)))
def mg (u v p : Nat) : Nat := if p = max u v then min u v else p
def mrg (u v : Nat) (E : List Ed) : List Ed := E.map fun e => (mg u v e.1, e.2.1, mg u v e.2.2)
def Clash (E : List Ed) (u v : Nat) : Prop := u ≠ v ∧ ∃ e ∈ E, ∃ f ∈ E, e.2.1 = f.2.1 ∧ ((e.1 = f.1 ∧ u = e.2.2 ∧ v = f.2.2) ∨ (e.2.2 = f.2.2 ∧ u = e.1 ∧ v = f.1))
theorem mg0 {u v : Nat} (h : u ≠ v) : mg u v 0 = 0 := by
  unfold mg
  rw [if_neg (by omega)]
theorem Clash.symm {E : List Ed} {u v : Nat} (h : Clash E u v) : Clash E v u := by
  obtain ⟨n, e, he, f, hf, c, k⟩ := h
  exact ⟨n.symm, f, hf, e, he, c.symm, k.imp (fun ⟨a, b, d⟩ => ⟨a.symm, d, b⟩) fun ⟨a, b, d⟩ => ⟨a.symm, d, b⟩⟩
theorem fld_of {E : List Ed} (hs : ∀ e ∈ E, e.2.1 ∈ SM) (h : ∀ u v, ¬ Clash E u v) : Fld E := ⟨hs, fun e he f hf c k => Decidable.byContradiction fun n => h _ _ ⟨n, e, he, f, hf, c, .inl ⟨k, rfl, rfl⟩⟩,
  fun e he f hf c k => Decidable.byContradiction fun n => h _ _ ⟨n, e, he, f, hf, c, .inr ⟨k, rfl, rfl⟩⟩⟩
theorem Trv.map {E : List Ed} (f : Nat → Nat) {w : List Nat} {p x : Nat} {e : Ed} (h : Trv E w p x e) : Trv (E.map fun e => (f e.1, e.2.1, f e.2.2)) w (f p) (f x) (f e.1, e.2.1, f e.2.2) := by
  obtain ⟨a, b, h⟩ := h
  exact ⟨a, b, h.imp (fun ⟨x, y, z⟩ => ⟨x, y.map f, z.map f⟩) fun ⟨x, y, z⟩ => ⟨x, y.map f, z.map f⟩⟩
section
variable {H : List Nat → Prop}
theorem Sgp.nil (S : Sgp H) {x : List Nat} (hx : Lts x) : H (fold (x ++ DL.inv x)) := by rw [fold_self_inv hx]; exact S.one
theorem Sgp.flip (S : Sgp H) {x y : List Nat} {c : Nat} (hx : Lts x) (hy : Lts y) (hc : c ∈ LTR) (h : H (fold (x ++ [c] ++ DL.inv y))) : H (fold (y ++ [sw c] ++ DL.inv x)) := by
  have := S.back (ltsA (ltsA hx (lts1 hc)) (inv_lts hy)) h
  rw [inv_app, inv_app, inv_inv hy] at this
  rwa [List.append_assoc]
/-- an edge's word goes on to be made when its ends are exchanged for what is linked with them -/
theorem Sgp.move (S : Sgp H) {a a' b b' : List Nat} {c : Nat} (ha : Lts a) (ha' : Lts a') (hb : Lts b) (hb' : Lts b') (hc : c ∈ LTR) (h : H (fold (a ++ [c] ++ DL.inv b))) (h1 : H (fold (a' ++ DL.inv a))) (h2 : H (fold (b ++ DL.inv b'))) : H (fold (a' ++ [c] ++ DL.inv b')) := by
  have k := S.join (a := a') (x := a) (b := [c] ++ DL.inv b) ha' ha (ltsA (lts1 hc) (inv_lts hb)) h1 (by rw [← List.append_assoc]; exact h)
  exact S.join (a := a' ++ [c]) (x := b) (b := DL.inv b') (ltsA ha' (lts1 hc)) hb (inv_lts hb') (by rw [List.append_assoc]; exact k) h2
theorem Sgp.swap (S : Sgp H) {a b : List Nat} (ha : Lts a) (hb : Lts b) (h : H (fold (a ++ DL.inv b))) : H (fold (b ++ DL.inv a)) := by
  have := S.back (ltsA ha (inv_lts hb)) h
  rwa [inv_app, inv_inv hb] at this
end
theorem Bq.link {ws : List (List Nat)} {E : List Ed} {u v : Nat} {lam : Nat → List Nat} {H : List Nat → Prop} (S : Sgp H) (hs : ∀ e ∈ E, e.2.1 ∈ SM) (lt : ∀ p, Lts (lam p)) (h : ∀ e ∈ E, H (fold (lam e.1 ++ [e.2.1] ++ DL.inv (lam e.2.2)))) (c : Clash E u v) : H (fold (lam u ++ DL.inv (lam v))) := by
  obtain ⟨n, e, he, f, hf, c, k⟩ := c
  have hc := SM_LTR (hs e he)
  have h1 := h e he
  have h2 := h f hf
  rcases k with ⟨a, rfl, rfl⟩ | ⟨a, rfl, rfl⟩
  · rw [← a, ← c] at h2
    have := S.swap (a := lam e.1 ++ [e.2.1]) (b := lam e.2.2) (ltsA (lt _) (lts1 hc)) (lt _) h1
    exact S.join (lt _) (ltsA (lt _) (lts1 hc)) (inv_lts (lt _)) this h2
  · rw [← a, ← c] at h2
    have := S.swap (a := lam f.1 ++ [e.2.1]) (b := lam e.2.2) (ltsA (lt _) (lts1 hc)) (lt _) h2
    have k := S.join (a := lam e.1 ++ [e.2.1]) (x := lam e.2.2) (b := DL.inv (lam f.1 ++ [e.2.1])) (ltsA (lt _) (lts1 hc)) (lt _) (inv_lts (ltsA (lt _) (lts1 hc))) h1 this
    rw [inv_app, show DL.inv [e.2.1] = [sw e.2.1] from rfl, List.append_assoc] at k
    show H (fold (lam e.1 ++ DL.inv (lam f.1)))
    rw [← fold_cut (v := DL.inv (lam f.1)) (lt e.1) (sw_mem hc) (sw_sw hc).symm]
    exact k
theorem Bq.mrg {ws : List (List Nat)} {E : List Ed} {u v : Nat} (B : Bq ws E) (c : Clash E u v) : Bq ws (DL.mrg u v E) := by
  have n := c.1
  have z := mg0 n
  refine ⟨fun e he => ?_, fun w hw => ?_, fun e he => ?_, ?_⟩
  · obtain ⟨f, hf, rfl⟩ := List.mem_map.mp he
    exact B.sm f hf
  · have := (B.giv w hw).map (mg u v)
    rwa [z] at this
  · obtain ⟨f, hf, rfl⟩ := List.mem_map.mp he
    obtain ⟨w, hw, t⟩ := B.trv f hf
    have := t.map (mg u v)
    rw [z] at this
    exact ⟨w, hw, this⟩
  · obtain ⟨lam, l0, lt, h⟩ := B.lam
    refine ⟨lam, l0, lt, fun H S hH e he => ?_⟩
    obtain ⟨f, hf, rfl⟩ := List.mem_map.mp he
    have hE := h H S hH
    have uv := Bq.link (ws := ws) S B.sm lt hE c
    have one : ∀ p, H (fold (lam (mg u v p) ++ DL.inv (lam p))) := fun p => by
      unfold mg
      split
      · rename_i e
        rcases Nat.le_total u v with y | y
        · rw [e, Nat.max_eq_right y, Nat.min_eq_left y]; exact uv
        · rw [e, Nat.max_eq_left y, Nat.min_eq_right y]; exact S.swap (lt _) (lt _) uv
      · exact S.nil (lt p)
    exact S.move (lt _) (lt _) (lt _) (lt _) (SM_LTR (B.sm f hf)) (hE f hf) (one _) (S.swap (lt _) (lt _) (one _))
/-- what goes round is made of the words -/
theorem Bq.sound {ws : List (List Nat)} {E : List Ed} (B : Bq ws E) {H : List Nat → Prop} (S : Sgp H) (hH : ∀ w ∈ ws, H (fold w)) {w : List Nat} (k : Wlk E 0 w 0) : H (fold w) := by
  obtain ⟨lam, l0, lt, h⟩ := B.lam
  have hE := h H S hH
  have stp : ∀ {p c q : Nat}, Stp E p c q → H (fold (lam p ++ [c] ++ DL.inv (lam q))) := fun {p c q} k => by
    rcases k with ⟨a, b⟩ | ⟨a, a', b⟩
    · exact hE _ b
    · have := S.flip (lt _) (lt _) (SM_LTR a) (hE _ b)
      dsimp only at this
      rwa [sw_sw a'] at this
  have walkd : ∀ {w : List Nat} {p q : Nat}, Wlk E p w q → H (fold (lam p ++ (w ++ DL.inv (lam q)))) := by
    intro w
    induction w with
    | nil =>
      intro p q h
      cases h
      exact S.nil (lt p)
    | cons c w ih =>
      intro p q ⟨r, a, b⟩
      have := S.join (a := lam p ++ [c]) (x := lam r) (b := w ++ DL.inv (lam q)) (ltsA (lt _) (lts1 a.lt)) (lt _) (ltsA b.lts (inv_lts (lt _))) (stp a) (ih b)
      rwa [List.append_assoc] at this
  have := walkd k
  rwa [l0, show DL.inv [] = [] from rfl, List.append_nil, List.nil_append] at this
/-! the same graph as that of the family -/
theorem Bq.rel {ws : List (List Nat)} {l : List Nat} {E : List Ed} (hw : ∀ w ∈ ws, Lts w) (L : Lsq (ptl ws).1 (ptl ws).2.1 (ptl ws).2.2 l) (G : GrOk ws l LTR) (B : Bq ws E) (F : Fld E) :
    (∀ w, Wlk E 0 w 0 → Cls (famG ws l LTR) (DL.fold w)) ∧ (∀ w, Cls (famG ws l LTR) w → Wlk E 0 (DL.fold w) 0) ∧
    Brel (mvs E) (mvs (famG ws l LTR).2) LTR (fun i j => ∃ u, Wlk E 0 u i ∧ Wlk (famG ws l LTR).2 0 u j) 0 0 := by
  have N := G.num hw
  have gv := G.given hw L
  have h12 : ∀ w, Wlk E 0 w 0 → Cls (famG ws l LTR) (DL.fold w) := fun w k => B.sound (cls_sgp N.fld) gv k
  have h21 : ∀ w, Cls (famG ws l LTR) w → Wlk E 0 (DL.fold w) 0 := fun w k => DL.sound (cls_sgp (g := (0, E)) F) hw L G B.giv k
  refine ⟨h12, h21, cls_rel (g1 := (0, E)) F N.fld (fun e he => ?_) (fun e he => ?_) h12 h21⟩
  · obtain ⟨w, hwm, t⟩ := B.trv e he
    exact ⟨_, ⟨fold_lts (hw w hwm), gv w hwm⟩, t⟩
  · obtain ⟨w, hwm, t⟩ := G.trv hw L e he
    exact ⟨_, ⟨fold_lts (hw w hwm), B.giv w hwm⟩, t⟩
theorem Bq.found {ws : List (List Nat)} {E : List Ed} {ls : List Nat} {N : Nat} (B : Bq ws E) (F : Fld E) (hb : ∀ e ∈ E, e.1 < N ∧ e.2.2 < N) (h0 : 0 < N) (hl : ∀ w ∈ ws, ∀ c ∈ fold w, c ∈ ls) (hsw : ∀ c ∈ ls, sw c ∈ ls) :
    ∀ e ∈ E, e.1 ∈ (fw (mvs E) ls 0 N).1 ∧ e.2.2 ∈ (fw (mvs E) ls 0 N).1 := fun e he => by
  have M := mvs_mv hb
  obtain ⟨w, hw, a, b, k⟩ := B.trv e he
  have hwl := hl w hw
  obtain ⟨s1, s2⟩ := Stp.of (B.sm e he) he
  rcases k with ⟨e1, k1, _⟩ | ⟨e1, k1, _⟩
  · rw [e1] at hwl
    have m := fw_all (ls := ls) M h0 (fun c hc => hwl c (List.mem_append_left _ hc)) (k1.wkO F)
    have hc : e.2.1 ∈ ls := hwl _ (List.mem_append_right _ List.mem_cons_self)
    exact ⟨m, fw_cl M h0 m hc (F.step s1)⟩
  · rw [e1] at hwl
    have m := fw_all (ls := ls) M h0 (fun c hc => hwl c (List.mem_append_left _ hc)) (k1.wkO F)
    have hc : sw e.2.1 ∈ ls := hwl _ (List.mem_append_right _ List.mem_cons_self)
    exact ⟨fw_cl M h0 m hc (F.step s2), m⟩
theorem Bq.num {ws : List (List Nat)} {l : List Nat} {E : List Ed} {N : Nat} (hw : ∀ w ∈ ws, Lts w) (L : Lsq (ptl ws).1 (ptl ws).2.1 (ptl ws).2.2 l) (B : Bq ws E) (F : Fld E) (hb : ∀ e ∈ E, e.1 < N ∧ e.2.2 < N) (h0 : 0 < N) :
    numG E LTR 0 N = famG ws l LTR ∧ (fw (mvs E) LTR 0 N).2 = (fw (mvs (famG ws l LTR).2) LTR 0 (famG ws l LTR).1).2 := by
  have G : GrOk ws l LTR := GrOk.of hw L (ptl_in (ls := LTR) (fun c => sw_mem) (fun c h => h) hw)
  have GN := G.num hw
  obtain ⟨_, _, R⟩ := B.rel hw L G F
  have M := mvs_mv hb
  have M2 := mvs_mv GN.bd
  have all := B.found (ls := LTR) F hb h0 (fun w h => fold_lts (hw w h)) fun c => sw_mem
  have W := (WI.range (ls := LTR) M h0 N).1
  have Fr := FwR.all R (max N (max (ptl ws).2.2 (famG ws l LTR).1))
  rw [fw_any M h0 (Nat.le_max_left _ _), G.fw hw (Nat.le_trans (Nat.le_max_left _ _) (Nat.le_max_right _ _))] at Fr
  have e2 := G.fw hw (m := max N (max (ptl ws).2.2 (famG ws l LTR).1)) (Nat.le_trans (Nat.le_max_left _ _) (Nat.le_max_right _ _))
  rw [fw_any M2 GN.pos (Nat.le_trans (Nat.le_max_right _ _) (Nat.le_max_right _ _))] at e2
  have hV : (fw (mvs E) LTR 0 N).1.length = (famG ws l LTR).1 := by
    have := Fr.len
    rwa [List.length_range] at this
  have id : ∀ p, p ∈ (fw (mvs E) LTR 0 N).1 → ∃ u, Wlk E 0 u p ∧ Wlk (famG ws l LTR).2 0 u ((fw (mvs E) LTR 0 N).1.idxOf p) := fun p hp => by
    have hi := List.idxOf_lt_length_of_mem hp
    exact Fr.at' ((fw (mvs E) LTR 0 N).1.idxOf p) p ((fw (mvs E) LTR 0 N).1.idxOf p) (by rw [List.getElem?_eq_getElem hi, List.getElem_idxOf]) (by rw [List.getElem?_range (by rw [← hV]; exact hi)])
  have one : ∀ e ∈ E, nmE (fw (mvs E) LTR 0 N).1 e ∈ (famG ws l LTR).2 := fun e he => by
    obtain ⟨m1, m2⟩ := all e he
    have sm := B.sm e he
    obtain ⟨j2, s2, r2⟩ := R.fwd (SM_LTR sm) (id _ m1) (F.step (Stp.of sm he).1)
    have := R.fn r2 (id _ m2)
    subst this
    rcases stO_mem GN.fld.sm s2 with ⟨_, y⟩ | ⟨y, _⟩
    · exact y
    · exact absurd y (SM_sw sm)
  have two : ∀ e ∈ (famG ws l LTR).2, ∃ f ∈ E, e = nmE (fw (mvs E) LTR 0 N).1 f := fun e he => by
    have sm := GN.fld.sm e he
    obtain ⟨b1, b2⟩ := GN.bd e he
    have g1 : e.1 < (fw (mvs E) LTR 0 N).1.length := by omega
    have g2 : e.2.2 < (fw (mvs E) LTR 0 N).1.length := by omega
    have i1 := id _ (List.getElem_mem g1)
    have i2 := id _ (List.getElem_mem g2)
    rw [List.Nodup.idxOf_getElem W.nd _ g1] at i1
    rw [List.Nodup.idxOf_getElem W.nd _ g2] at i2
    obtain ⟨j2, s2, r2⟩ := R.bwd (SM_LTR sm) i1 (GN.fld.step (Stp.of sm he).1)
    have := R.inj r2 i2
    rw [this] at s2
    rcases stO_mem F.sm s2 with ⟨_, y⟩ | ⟨y, _⟩
    · refine ⟨_, y, ?_⟩
      unfold nmE
      dsimp only
      rw [List.Nodup.idxOf_getElem W.nd _ g1, List.Nodup.idxOf_getElem W.nd _ g2]
    · exact absurd y (SM_sw sm)
  refine ⟨Prod.ext hV ?_, by rw [Fr.wd, e2]⟩
  have hm : ∀ e, e ∈ (famG ws l LTR).2 ↔ e ∈ (numG E LTR 0 N).2 := fun e => ⟨fun h => mem_numG.mpr (two e h), fun h => by
    obtain ⟨f, hf, rfl⟩ := mem_numG.mp h
    exact one f hf⟩
  unfold famG numG at hm ⊢
  dsimp only at hm ⊢
  refine srtE_same (dd_nd _) (dd_nd _) fun e => ?_
  rw [← (srtE_perm (dd (E.map _))).mem_iff, ← (srtE_perm (dd ((fE l (ptl ws).1).map _))).mem_iff]
  exact (hm e).symm
/-! ### the petals -/
def pt (n L i : Nat) : Nat := if i = 0 ∨ i = L then 0 else n + i - 1
def bqE (n : Nat) (w : List Nat) : List Ed := (List.range w.length).map fun i => edB (pt n w.length i) (w.getD i 0) (pt n w.length (i + 1))
def bqW (s : List Ed × Nat) (w : List Nat) : List Ed × Nat := (s.1 ++ bqE s.2 w, s.2 + (w.length - 1))
def bq (ws : List (List Nat)) : List Ed × Nat := (ws.map fold).foldl bqW ([], 1)
theorem bqW_sub (vs : List (List Nat)) : ∀ s : List Ed × Nat, (∀ e ∈ s.1, e ∈ (vs.foldl bqW s).1) ∧ s.2 ≤ (vs.foldl bqW s).2 := by
  induction vs with
  | nil => exact fun s => ⟨fun e h => h, Nat.le_refl _⟩
  | cons v vs ih => exact fun s => ⟨fun e h => (ih (bqW s v)).1 e (List.mem_append_left _ h), Nat.le_trans (Nat.le_add_right _ _) (ih (bqW s v)).2⟩
theorem drop_cons {w : List Nat} {i : Nat} (h : i < w.length) : w.drop i = w.getD i 0 :: w.drop (i + 1) := by
  rw [List.drop_eq_getElem_cons h, List.getD_eq_getElem?_getD, List.getElem?_eq_getElem h]
  rfl
theorem take_snoc {w : List Nat} {i : Nat} (h : i < w.length) : w.take (i + 1) = w.take i ++ [w.getD i 0] := by
  rw [List.take_add_one, List.getD_eq_getElem?_getD, List.getElem?_eq_getElem h]
  rfl
theorem bqE_walks {E : List Ed} {n : Nat} {w : List Nat} (hw : Lts w) (hE : ∀ e ∈ bqE n w, e ∈ E) : (∀ i, i ≤ w.length → Wlk E 0 (w.take i) (pt n w.length i)) ∧ ∀ k, k ≤ w.length → Wlk E (pt n w.length (w.length - k)) (w.drop (w.length - k)) 0 := by
  have st : ∀ i, i < w.length → Stp E (pt n w.length i) (w.getD i 0) (pt n w.length (i + 1)) := fun i hi => edB_stp (hw _ (by rw [List.getD_eq_getElem?_getD, List.getElem?_eq_getElem hi]; exact List.getElem_mem hi)) (hE _ (List.mem_map.mpr ⟨i, List.mem_range.mpr hi, rfl⟩))
  constructor
  · intro i
    induction i with
    | zero => exact fun _ => by show 0 = pt n w.length 0; unfold pt; rw [if_pos (.inl rfl)]
    | succ i ih =>
      intro hi
      rw [take_snoc (by omega)]
      exact (ih (by omega)).app ⟨_, st i (by omega), rfl⟩
  · intro k
    induction k with
    | zero =>
      intro _
      rw [Nat.sub_zero, List.drop_length]
      show pt n w.length w.length = 0
      unfold pt
      rw [if_pos (.inr rfl)]
    | succ k ih =>
      intro hk
      have h1 : w.length - (k + 1) < w.length := by omega
      have h2 := ih (by omega)
      rw [drop_cons h1, show w.length - (k + 1) + 1 = w.length - k by omega]
      refine ⟨_, st _ h1, ?_⟩
      rw [show w.length - (k + 1) + 1 = w.length - k by omega]
      exact h2
theorem bqE_trv {E : List Ed} {n : Nat} {w : List Nat} (hw : Lts w) (hE : ∀ e ∈ bqE n w, e ∈ E) : ∀ e ∈ bqE n w, Trv E w 0 0 e := fun e he => by
  obtain ⟨a, b⟩ := bqE_walks hw hE
  obtain ⟨i, hi, rfl⟩ := List.mem_map.mp he
  have hi := List.mem_range.mp hi
  have hc : w.getD i 0 ∈ LTR := hw _ (by rw [List.getD_eq_getElem?_getD, List.getElem?_eq_getElem hi]; exact List.getElem_mem hi)
  have e1 : w = w.take i ++ w.getD i 0 :: w.drop (i + 1) := by rw [← drop_cons hi, List.take_append_drop]
  have k1 := a i (by omega)
  have k2 := b (w.length - (i + 1)) (by omega)
  rw [show w.length - (w.length - (i + 1)) = i + 1 by omega] at k2
  refine ⟨w.take i, w.drop (i + 1), ?_⟩
  unfold edB
  split
  · exact .inl ⟨e1, k1, k2⟩
  · refine .inr ⟨?_, k1, k2⟩
    rw [show sw (pt n w.length (i + 1), sw (w.getD i 0), pt n w.length i).2.1 = sw (sw (w.getD i 0)) from rfl, sw_sw hc]
    exact e1
/-- the words of the points, kept while petals are put in -/
structure BqL (V : List (List Nat)) (s : List Ed × Nat) (lam : Nat → List Nat) : Prop where
  pos : 0 < s.2
  bd : ∀ e ∈ s.1, e.1 < s.2 ∧ e.2.2 < s.2
  sm : ∀ e ∈ s.1, e.2.1 ∈ SM
  l0 : lam 0 = []
  lt : ∀ p, Lts (lam p)
  ed : ∀ H, Sgp H → (∀ w ∈ V, H (fold w)) → ∀ e ∈ s.1, H (fold (lam e.1 ++ [e.2.1] ++ DL.inv (lam e.2.2)))
theorem pt_lt {n L i : Nat} (h0 : 0 < n) (h : i ≤ L) : pt n L i < n + (L - 1) := by
  unfold pt
  split
  · omega
  · omega
theorem BqL.step {V : List (List Nat)} {s : List Ed × Nat} {lam : Nat → List Nat} (B : BqL V s lam) {w : List Nat} (hw : Lts w) (hr : fold w = w) (hv : w ∈ V) : BqL V (bqW s w) fun p => if s.2 ≤ p ∧ p < s.2 + (w.length - 1) then w.take (p - s.2 + 1) else lam p := by
  have h0 := B.pos
  have lt2 : ∀ p, Lts (if s.2 ≤ p ∧ p < s.2 + (w.length - 1) then w.take (p - s.2 + 1) else lam p) := fun p => by
    split
    · exact fun c hc => hw c (List.mem_of_mem_take hc)
    · exact B.lt p
  have hsw : ∀ c ∈ LTR, c ∉ SM → sw c ∈ SM := by decide
  have hcl : ∀ i, i < w.length → w.getD i 0 ∈ LTR := fun i hi => hw _ (by rw [List.getD_eq_getElem?_getD, List.getElem?_eq_getElem hi]; exact List.getElem_mem hi)
  have old : ∀ e ∈ s.1, (e.1 < s.2 ∧ e.2.2 < s.2) := B.bd
  have at' : ∀ i, i < w.length → (if s.2 ≤ pt s.2 w.length i ∧ pt s.2 w.length i < s.2 + (w.length - 1) then w.take (pt s.2 w.length i - s.2 + 1) else lam (pt s.2 w.length i)) = w.take i := fun i hi => by
    by_cases z : i = 0
    · have e : pt s.2 w.length i = 0 := by unfold pt; rw [if_pos (.inl z)]
      rw [e, if_neg (by omega), B.l0, z, List.take_zero]
    · have e : pt s.2 w.length i = s.2 + i - 1 := by unfold pt; rw [if_neg (by omega)]
      rw [e, if_pos (by omega), show s.2 + i - 1 - s.2 + 1 = i by omega]
  refine ⟨by show 0 < s.2 + (w.length - 1); omega, fun e he => ?_, fun e he => ?_, ?_, lt2, fun H S hH e he => ?_⟩
  · rcases List.mem_append.mp he with z | z
    · obtain ⟨a, b⟩ := B.bd e z
      show e.1 < s.2 + (w.length - 1) ∧ e.2.2 < s.2 + (w.length - 1)
      omega
    · obtain ⟨i, hi, rfl⟩ := List.mem_map.mp z
      have hi := List.mem_range.mp hi
      have a := pt_lt (n := s.2) (L := w.length) (i := i) h0 (by omega)
      have b := pt_lt (n := s.2) (L := w.length) (i := i + 1) h0 (by omega)
      unfold edB
      split
      · exact ⟨a, b⟩
      · exact ⟨b, a⟩
  · rcases List.mem_append.mp he with z | z
    · exact B.sm e z
    · obtain ⟨i, hi, rfl⟩ := List.mem_map.mp z
      unfold edB
      split
      · assumption
      · exact hsw _ (hcl i (List.mem_range.mp hi)) ‹_›
  · show (if s.2 ≤ 0 ∧ 0 < s.2 + (w.length - 1) then w.take (0 - s.2 + 1) else lam 0) = []
    rw [if_neg (by omega)]
    exact B.l0
  · rcases List.mem_append.mp he with z | z
    · obtain ⟨a, b⟩ := B.bd e z
      rw [if_neg (by omega), if_neg (by omega)]
      exact B.ed H S hH e z
    · obtain ⟨i, hi, rfl⟩ := List.mem_map.mp z
      have hi := List.mem_range.mp hi
      have hc := hcl i hi
      have key : H (fold ((if s.2 ≤ pt s.2 w.length i ∧ pt s.2 w.length i < s.2 + (w.length - 1) then w.take (pt s.2 w.length i - s.2 + 1) else lam (pt s.2 w.length i)) ++ [w.getD i 0] ++ DL.inv (if s.2 ≤ pt s.2 w.length (i + 1) ∧ pt s.2 w.length (i + 1) < s.2 + (w.length - 1) then w.take (pt s.2 w.length (i + 1) - s.2 + 1) else lam (pt s.2 w.length (i + 1))))) := by
        rw [at' i hi, ← take_snoc hi]
        by_cases y : i + 1 < w.length
        · rw [at' (i + 1) y]
          exact S.nil fun c hc => hw c (List.mem_of_mem_take hc)
        · have e0 : pt s.2 w.length (i + 1) = 0 := by unfold pt; rw [if_pos (.inr (by omega))]
          rw [e0, if_neg (by omega), B.l0, show DL.inv [] = [] from rfl, List.append_nil, show i + 1 = w.length by omega, List.take_length]
          exact hH w hv
      unfold edB
      split
      · exact key
      · exact S.flip (lt2 _) (lt2 _) hc key
theorem BqL.run {V : List (List Nat)} : ∀ (vs : List (List Nat)) {s : List Ed × Nat} {lam : Nat → List Nat}, BqL V s lam → (∀ v ∈ vs, Lts v ∧ fold v = v ∧ v ∈ V) → ∃ lam', BqL V (vs.foldl bqW s) lam'
  | [], s, lam, B, _ => ⟨lam, B⟩
  | v :: vs, s, lam, B, h => by
    obtain ⟨a, b, c⟩ := h v List.mem_cons_self
    exact BqL.run vs (B.step a b c) fun u hu => h u (List.mem_cons_of_mem _ hu)
theorem bqW_trv {E : List Ed} : ∀ (vs : List (List Nat)) (s : List Ed × Nat), (∀ v ∈ vs, Lts v) → (∀ e ∈ (vs.foldl bqW s).1, e ∈ E) → (∀ v ∈ vs, Wlk E 0 v 0) ∧ ∀ e ∈ (vs.foldl bqW s).1, e ∈ s.1 ∨ ∃ v ∈ vs, Trv E v 0 0 e
  | [], _, _, _ => ⟨(fun _ z => nomatch z), fun e he => .inl he⟩
  | v :: vs, s, hv, hE => by
    obtain ⟨i1, i2⟩ := bqW_trv vs (bqW s v) (fun u hu => hv u (List.mem_cons_of_mem _ hu)) hE
    have sub : ∀ e ∈ bqE s.2 v, e ∈ E := fun e he => hE e ((bqW_sub vs (bqW s v)).1 e (List.mem_append_right _ he))
    have hvl := hv v List.mem_cons_self
    refine ⟨fun u hu => ?_, fun e he => ?_⟩
    · rcases List.mem_cons.mp hu with rfl | hu
      · have := (bqE_walks hvl sub).1 u.length (Nat.le_refl _)
        rw [List.take_length] at this
        have e0 : pt s.2 u.length u.length = 0 := by unfold pt; rw [if_pos (.inr rfl)]
        rwa [e0] at this
      · exact i1 u hu
    · rcases i2 e he with z | ⟨u, hu, t⟩
      · rcases List.mem_append.mp z with y | y
        · exact .inl y
        · exact .inr ⟨v, List.mem_cons_self, bqE_trv hvl sub e y⟩
      · exact .inr ⟨u, List.mem_cons_of_mem _ hu, t⟩
theorem bq_len : ∀ (vs : List (List Nat)) (s : List Ed × Nat), s.2 ≤ s.1.length + 1 → (vs.foldl bqW s).2 ≤ (vs.foldl bqW s).1.length + 1 ∧ (vs.foldl bqW s).1.length = s.1.length + (vs.map List.length).sum
  | [], s, h => ⟨h, by simp⟩
  | v :: vs, s, h => by
    have e : (bqW s v).1.length = s.1.length + v.length := by
      show (s.1 ++ bqE s.2 v).length = _
      rw [List.length_append]
      unfold bqE
      rw [List.length_map, List.length_range]
    obtain ⟨a, b⟩ := bq_len vs (bqW s v) (by rw [e]; show s.2 + (v.length - 1) ≤ _; omega)
    rw [List.foldl_cons]
    refine ⟨a, ?_⟩
    rw [b, e, List.map_cons, List.sum_cons]
    omega
theorem bq_ok {ws : List (List Nat)} (hw : ∀ w ∈ ws, Lts w) : Bq ws (bq ws).1 ∧ 0 < (bq ws).2 ∧ (bq ws).2 ≤ (bq ws).1.length + 1 ∧ (∀ e ∈ (bq ws).1, e.1 < (bq ws).2 ∧ e.2.2 < (bq ws).2) ∧ (bq ws).1.length = (ws.map fun w => (fold w).length).sum := by
  obtain ⟨lam, B⟩ := BqL.run (V := ws.map fold) (ws.map fold) (s := ([], 1)) (lam := fun _ => []) ⟨Nat.one_pos, (fun _ z => nomatch z), (fun _ z => nomatch z), rfl, fun _ => lts0, fun _ _ _ _ z => nomatch z⟩ fun v hv => by
    obtain ⟨u, hu, rfl⟩ := List.mem_map.mp hv
    exact ⟨fold_lts (hw u hu), fold_fold (hw u hu), hv⟩
  obtain ⟨t1, t2⟩ := bqW_trv (E := (bq ws).1) (ws.map fold) ([], 1) (fun v hv => by
    obtain ⟨u, hu, rfl⟩ := List.mem_map.mp hv
    exact fold_lts (hw u hu)) fun _ z => z
  obtain ⟨n1, n2⟩ := bq_len (ws.map fold) ([], 1) (Nat.le_refl _)
  refine ⟨⟨B.sm, fun w h => t1 _ (List.mem_map.mpr ⟨w, h, rfl⟩), fun e he => ?_, lam, B.l0, B.lt, fun H S hH => B.ed H S fun v hv => ?_⟩, B.pos, n1, B.bd, ?_⟩
  · rcases t2 e he with z | ⟨v, hv, t⟩
    · cases z
    · obtain ⟨u, hu, rfl⟩ := List.mem_map.mp hv
      exact ⟨u, hu, t⟩
  · obtain ⟨u, hu, rfl⟩ := List.mem_map.mp hv
    rw [fold_fold (hw u hu)]
    exact hH u hu
  · rw [List.map_map] at n2
    simpa [bq, Function.comp_def] using n2
/-! ### turns: each puts two places together that clash, until none do -/
structure Fos (ws : List (List Nat)) (n k : Nat) (E : List Ed) : Prop where
  ok : Bq ws E
  bd : ∀ e ∈ E, e.1 < n ∧ e.2.2 < n
  pos : 0 < n
  lv : ∃ P : List Nat, 0 ∈ P ∧ (∀ e ∈ E, e.1 ∈ P ∧ e.2.2 ∈ P) ∧ P.length ≤ k
theorem Fos.init {ws : List (List Nat)} (hw : ∀ w ∈ ws, Lts w) : Fos ws (bq ws).2 (bq ws).2 (bq ws).1 := by
  obtain ⟨a, b, c, d, _⟩ := bq_ok hw
  exact ⟨a, d, b, List.range (bq ws).2, List.mem_range.mpr b, fun e he => ⟨List.mem_range.mpr (d e he).1, List.mem_range.mpr (d e he).2⟩, by rw [List.length_range]; exact Nat.le_refl _⟩
theorem Fos.mrg {ws : List (List Nat)} {n k : Nat} {E : List Ed} {u v : Nat} (h : Fos ws n (k + 1) E) (c : Clash E u v) : Fos ws n k (DL.mrg u v E) := by
  obtain ⟨P, z, hP, hl⟩ := h.lv
  have hne := c.1
  have both : u ∈ P ∧ v ∈ P ∧ u < n ∧ v < n := by
    obtain ⟨_, e, he, f, hf, _, k⟩ := id c
    have a := hP e he
    have b := hP f hf
    have a2 := h.bd e he
    have b2 := h.bd f hf
    rcases k with ⟨_, rfl, rfl⟩ | ⟨_, rfl, rfl⟩
    · exact ⟨a.2, b.2, a2.2, b2.2⟩
    · exact ⟨a.1, b.1, a2.1, b2.1⟩
  obtain ⟨pu, pv, nu, nv⟩ := both
  have mx : max u v ∈ P := by rcases Nat.le_total u v with y | y <;> simp only [Nat.max_eq_right, Nat.max_eq_left, y] <;> assumption
  have mn : min u v ∈ P := by rcases Nat.le_total u v with y | y <;> simp only [Nat.min_eq_right, Nat.min_eq_left, y] <;> assumption
  have inP : ∀ p ∈ P, mg u v p ∈ P.filter fun p => decide (p ≠ max u v) := fun p hp => by
    unfold mg
    split
    · exact List.mem_filter.mpr ⟨mn, decide_eq_true (by omega)⟩
    · exact List.mem_filter.mpr ⟨hp, decide_eq_true ‹_›⟩
  have lt : ∀ p, p < n → mg u v p < n := fun p hp => by
    unfold mg
    split <;> omega
  refine ⟨h.ok.mrg c, fun e he => ?_, h.pos, P.filter fun p => decide (p ≠ max u v), ?_, fun e he => ?_, ?_⟩
  · obtain ⟨f, hf, rfl⟩ := List.mem_map.mp he
    exact ⟨lt _ (h.bd f hf).1, lt _ (h.bd f hf).2⟩
  · have := inP 0 z
    rwa [mg0 hne] at this
  · obtain ⟨f, hf, rfl⟩ := List.mem_map.mp he
    exact ⟨inP _ (hP f hf).1, inP _ (hP f hf).2⟩
  · have : (P.filter fun p => decide (p ≠ max u v)).length < P.length := by
      refine List.length_filter_lt_length_iff_exists.mpr ⟨_, mx, by simp⟩
    omega
theorem Fos.some {ws : List (List Nat)} {n k : Nat} {E : List Ed} (h : Fos ws n k E) : 0 < k := by
  obtain ⟨P, z, _, hl⟩ := h.lv
  cases P with
  | nil => cases z
  | cons p P => rw [List.length_cons] at hl; omega
theorem mrg_len (u v : Nat) (E : List Ed) : (mrg u v E).length = E.length := List.length_map _
/-- after so many turns: either there are no clashes, or there is one place less for each turn -/
def FoT (ws : List (List Nat)) (t : Nat) (E : List Ed) : Prop := E.length = (bq ws).1.length ∧ ((∃ k, k + t = (bq ws).2 ∧ Fos ws (bq ws).2 k E) ∨ (Fos ws (bq ws).2 (bq ws).2 E ∧ ∀ u v, ¬ Clash E u v))
theorem FoT.init {ws : List (List Nat)} (hw : ∀ w ∈ ws, Lts w) : FoT ws 0 (bq ws).1 := ⟨rfl, .inl ⟨_, rfl, Fos.init hw⟩⟩
theorem FoT.ok {ws : List (List Nat)} {t : Nat} {E : List Ed} (h : FoT ws t E) : Bq ws E ∧ (∀ e ∈ E, e.1 < (bq ws).2 ∧ e.2.2 < (bq ws).2) ∧ 0 < (bq ws).2 := by
  rcases h.2 with ⟨_, _, a⟩ | ⟨a, _⟩ <;> exact ⟨a.ok, a.bd, a.pos⟩
theorem FoT.mrg {ws : List (List Nat)} {t : Nat} {E : List Ed} (h : FoT ws t E) {u v : Nat} (c : Clash E u v) : FoT ws (t + 1) (DL.mrg u v E) := by
  refine ⟨(mrg_len u v E).trans h.1, ?_⟩
  rcases h.2 with ⟨k, hk, a⟩ | ⟨_, no⟩
  · obtain ⟨k, rfl⟩ : ∃ j, k = j + 1 := ⟨k - 1, by have := a.some; omega⟩
    exact .inl ⟨k, by omega, a.mrg c⟩
  · exact absurd c (no u v)
theorem FoT.stay {ws : List (List Nat)} {t : Nat} {E : List Ed} (h : FoT ws t E) (no : ∀ u v, ¬ Clash E u v) (t' : Nat) : FoT ws t' E := by
  refine ⟨h.1, .inr ⟨?_, no⟩⟩
  rcases h.2 with ⟨k, hk, a⟩ | ⟨a, _⟩
  · obtain ⟨P, z, hP, hl⟩ := a.lv
    exact ⟨a.ok, a.bd, a.pos, P, z, hP, by omega⟩
  · exact a
theorem FoT.done {ws : List (List Nat)} {t : Nat} {E : List Ed} (h : FoT ws t E) (ht : (bq ws).2 ≤ t) : Fld E ∧ Bq ws E ∧ (∀ e ∈ E, e.1 < (bq ws).2 ∧ e.2.2 < (bq ws).2) ∧ 0 < (bq ws).2 := by
  obtain ⟨a, b, c⟩ := h.ok
  refine ⟨?_, a, b, c⟩
  rcases h.2 with ⟨k, hk, f⟩ | ⟨f, no⟩
  · have := f.some
    omega
  · exact fld_of f.ok.sm no
end DL

namespace DL
open PySem PySem.Spec PyProof.Rows L2 TK

/-! ### a graph has no more free edges than there are words that are not empty -/
def Rk (m : Nat) (E : List Ed) : Prop := ∃ (D : List Ed) (P : List Nat), (∀ e ∈ E, e ∈ D) ∧ P.Nodup ∧ (∀ p ∈ P, p = 0 ∨ ∃ e ∈ E, p = e.1 ∨ p = e.2.2) ∧ D.length + 1 ≤ P.length + m
theorem Rk.mrg {m : Nat} {E : List Ed} {u v : Nat} (h : Rk m E) (c : Clash E u v) : Rk m (DL.mrg u v E) := by
  obtain ⟨D, P, hD, nd, hP, hl⟩ := h
  obtain ⟨ne, e, he, f, hf, hc, k⟩ := id c
  have hne : e ≠ f := fun z => by
    subst z
    rcases k with ⟨_, a, b⟩ | ⟨_, a, b⟩ <;> exact ne (a.trans b.symm)
  have same : (mg u v e.1, e.2.1, mg u v e.2.2) = (mg u v f.1, f.2.1, mg u v f.2.2) := by
    have uv : mg u v u = mg u v v := by
      unfold mg
      rcases Nat.le_total u v with y | y
      · rw [Nat.max_eq_right y, Nat.min_eq_left y, if_pos rfl, if_neg ne]
      · rw [Nat.max_eq_left y, Nat.min_eq_right y, if_pos rfl, if_neg ne.symm]
    rcases k with ⟨a, rfl, rfl⟩ | ⟨a, rfl, rfl⟩
    · rw [a, hc, uv]
    · rw [a, hc, uv]
  have nd2 : (P.filter fun p => decide (p ≠ max u v)).Nodup := List.Pairwise.sublist List.filter_sublist nd
  have cnt : P.length ≤ (P.filter fun p => decide (p ≠ max u v)).length + 1 := by
    have hsub : P.length ≤ (max u v :: P.filter fun p => decide (p ≠ max u v)).length := List.Nodup.length_le_of_subset nd fun x hx => by
      by_cases z : x = max u v
      · rw [z]; exact List.mem_cons_self
      · exact List.mem_cons_of_mem _ (List.mem_filter.mpr ⟨hx, decide_eq_true z⟩)
    simpa using hsub
  refine ⟨(D.erase f).map fun e => (mg u v e.1, e.2.1, mg u v e.2.2), P.filter fun p => decide (p ≠ max u v), fun x hx => ?_, nd2, fun p hp => ?_, ?_⟩
  · obtain ⟨g, hg, rfl⟩ := List.mem_map.mp hx
    by_cases z : g = f
    · subst z
      rw [← same]
      exact List.mem_map.mpr ⟨e, (List.mem_erase_of_ne hne).mpr (hD e he), rfl⟩
    · exact List.mem_map.mpr ⟨g, (List.mem_erase_of_ne z).mpr (hD g hg), rfl⟩
  · obtain ⟨h1, h2⟩ := List.mem_filter.mp hp
    have h2 : p ≠ max u v := of_decide_eq_true h2
    have fix : mg u v p = p := by unfold mg; rw [if_neg h2]
    rcases hP p h1 with z | ⟨g, hg, z⟩
    · exact .inl z
    · refine .inr ⟨_, List.mem_map.mpr ⟨g, hg, rfl⟩, ?_⟩
      rcases z with rfl | rfl
      · exact .inl fix.symm
      · exact .inr fix.symm
  · rw [List.length_map, List.length_erase_of_mem (hD f hf)]
    have : 0 < D.length := List.length_pos_of_mem (hD f hf)
    omega
theorem bqW_rk : ∀ (vs : List (List Nat)) (s : List Ed × Nat) (m : Nat), 0 < s.2 → (∀ p, p < s.2 → p = 0 ∨ ∃ e ∈ s.1, p = e.1 ∨ p = e.2.2) → s.1.length + 1 ≤ s.2 + m →
    (∀ p, p < (vs.foldl bqW s).2 → p = 0 ∨ ∃ e ∈ (vs.foldl bqW s).1, p = e.1 ∨ p = e.2.2) ∧ (vs.foldl bqW s).1.length + 1 ≤ (vs.foldl bqW s).2 + (m + (vs.filter fun v => decide (v ≠ [])).length)
  | [], s, m, _, h, hl => ⟨h, by simpa using hl⟩
  | v :: vs, s, m, h0, h, hl => by
    have e : (bqW s v).1.length = s.1.length + v.length := by
      show (s.1 ++ bqE s.2 v).length = _
      rw [List.length_append]
      unfold bqE
      rw [List.length_map, List.length_range]
    have hs2 : (bqW s v).2 = s.2 + (v.length - 1) := rfl
    have g1 : ∀ p, p < (bqW s v).2 → p = 0 ∨ ∃ e ∈ (bqW s v).1, p = e.1 ∨ p = e.2.2 := fun p hp => by
      rw [hs2] at hp
      by_cases z : p < s.2
      · rcases h p z with y | ⟨g, hg, y⟩
        · exact .inl y
        · exact .inr ⟨g, List.mem_append_left _ hg, y⟩
      · right
        have hi : p - s.2 < v.length := by omega
        refine ⟨edB (pt s.2 v.length (p - s.2)) (v.getD (p - s.2) 0) (pt s.2 v.length (p - s.2 + 1)), List.mem_append_right _ (List.mem_map.mpr ⟨_, List.mem_range.mpr hi, rfl⟩), ?_⟩
        have e2 : pt s.2 v.length (p - s.2 + 1) = p := by unfold pt; rw [if_neg (by omega)]; omega
        rw [e2]
        unfold edB
        split
        · exact .inr rfl
        · exact .inl rfl
    have g2 : (bqW s v).1.length + 1 ≤ (bqW s v).2 + (m + if v = [] then 0 else 1) := by
      rw [e, hs2]
      by_cases z : v = []
      · have : v.length = 0 := by rw [z]; rfl
        rw [if_pos z]
        omega
      · rw [if_neg z]
        have : 0 < v.length := List.length_pos_iff.mpr z
        omega
    obtain ⟨a, b⟩ := bqW_rk vs (bqW s v) (m + if v = [] then 0 else 1) (by rw [hs2]; omega) g1 g2
    refine ⟨a, ?_⟩
    rw [List.foldl_cons, List.filter_cons]
    by_cases z : v = []
    · rw [if_pos z] at b
      rw [if_neg (by simpa using z)]
      omega
    · rw [if_neg z] at b
      rw [if_pos (by simpa using z), List.length_cons]
      omega
theorem Rk.init (ws : List (List Nat)) : Rk (ws.filter fun w => decide (fold w ≠ [])).length (bq ws).1 := by
  obtain ⟨a, b⟩ := bqW_rk (ws.map fold) ([], 1) 0 Nat.one_pos (fun p hp => .inl (Nat.lt_one_iff.mp hp)) (Nat.le_refl _)
  refine ⟨(bq ws).1, List.range (bq ws).2, fun _ h => h, List.nodup_range, fun p hp => a p (List.mem_range.mp hp), ?_⟩
  rw [List.length_range]
  have e : ((ws.map fold).filter fun v => decide (v ≠ [])).length = (ws.filter fun w => decide (fold w ≠ [])).length := by
    rw [List.filter_map, List.length_map]
    rfl
  rw [e, Nat.zero_add] at b
  exact b
end DL

namespace DL
open PySem PySem.Spec PyProof.Rows L2 TK

/-! ### dicts of any data -/
section
variable {κ : Type} [DecidableEq κ]
def lkD (ks : List κ) (ds : List D) (k : κ) : Option D := ((ks.zip ds).find? fun kv => decide (kv.1 = k)).map (·.2)
end
section
variable {B : Bs} {M : List Addr} {H : Hp} {σ : L2.St} {env : Nv} {te ty tk tv tk2 tv2 : TE} {post : D → Prop} {K : PySem.W.Frag}
def dicX (env : Nv) (i : Nat) (ks : List Key) (ds : List D) : Prop := env[i]? = some (.own (.dKx ks ds)) ∨ env[i]? = some (.dat (.dKx ks ds))
theorem Sr.dicX {i : Nat} {ks : List Key} {ds : List D} (S : Sr B M σ H env) (h : dicX env i ks ds) : ∃ p vs, σ[i]? = some (some (.ref p)) ∧ H p = some (.dK (ks.zip vs)) ∧ Iss B.st M H vs ds ∧ p ≠ B.st := by
  rcases h with h | h
  · obtain ⟨p, u, h1, h2, h3, h4, h5⟩ := S.own i _ h
    cases h5 with
    | dKx hl hs => exact ⟨p, _, h1, h4, hs, fun z => h3 (z ▸ S.st0)⟩
  · obtain ⟨v, h1, h2⟩ := S.dat i _ h
    cases h2 with
    | dKx hm hp hl hs => exact ⟨_, _, h1, hp, hs, fun z => hm (z ▸ S.stM)⟩
end
end DL

/-! set(xs), xs a list of tuples whose items are carried by value; its length -/
namespace TK
open PySem PySem.Spec PyProof.Rows L2
section
variable {P : Program} {w : World} {A : Around} {E : Value → Shared → Prop} {κ : Type} [DecidableEq κ] {knd : PySem.KeyKind P w κ}
theorem SetK.moved {h h2 : Heap} {b : Addr} {rows : List (Addr × List κ)} {es : Array (Int × Value)} {ep : Nat} {t : SetTable} (S : SetK knd h b rows es ep t) (keepB : ∀ o, h.get? b = some o → h2.get? b = some o)
    (keys : ∀ r ∈ rows, IsTupleKey knd h2 r.2 r.1) : SetK knd h2 b rows es ep t := by
  obtain ⟨⟨o, ho, more⟩, a2, a3, a4, _, a6, a7, a8⟩ := S
  exact ⟨⟨o, keepB o ho, more⟩, a2, a3, a4, keys, a6, a7, a8⟩
/-- what is put in so far -/
structure Filled (knd : PySem.KeyKind P w κ) (h0 : Heap) (b : Addr) (ks : List (Addr × List κ)) (i : Nat) (s : Shared) (rows : List (Addr × List κ)) : Prop where
  set : ∃ es ep t, SetK knd s.heap b rows es ep t
  few : rows.length ≤ i
  sub : ∀ r ∈ rows, r ∈ ks
  all : ∀ r ∈ ks.take i, r.2 ∈ rows.map Prod.snd
  old : ∀ c o, h0.get? c = some o → s.heap.get? c = some o
end
end TK

namespace TK
open PySem PySem.Spec PyProof.Rows L2
/-- set(xs) of a list of tuples of ints and texts -/
def rSetK (K : PySem.W.Frag) (P : Program) (w : World) : List V → Hp → VK → Prop := fun xs H Q => ∃ (l : Addr) (ks : List Rw), xs = [V.ref l] ∧ SqL K H l (ks.map fun r => V.ref r.1) ∧ (∀ r ∈ ks, H r.1 = some (.tup (r.2.map kV))) ∧ ks.length < 64 ∧
  ∀ a rows, H a = none → (∀ r ∈ rows, r ∈ ks) → (∀ r ∈ ks, r.2 ∈ rows.map Prod.snd) → (rows.map Prod.snd).Nodup → Q (.ref a) (upd H a (kset P w a rows))
/-- len of such a set -/
def rLenK (P : Program) (w : World) : List V → Hp → VK → Prop := fun xs H Q => ∃ (a : Addr) (rows : List Rw), xs = [V.ref a] ∧ H a = some (kset P w a rows) ∧ (∀ r ∈ rows, H r.1 = some (.tup (r.2.map kV))) ∧ Q (.int (rows.length : Nat)) H
section
variable {X : Cx}
end
end TK
namespace DL
open PySem PySem.Spec PyProof.Rows L2 TK
section
variable {P : Program} {w : World} {K : PySem.W.Frag} {env : Nv} {post : D → Prop}
end
end DL
namespace DL
open PySem PySem.Spec PyProof.Rows L2 TK
/-! ### x in xs, xs a tuple of plain data -/
def rInDT (K : PySem.W.Frag) : R2 := fun x y H Q => ∃ d ds, Dp K H x d ∧ Dp K H y (.tuple ds) ∧ d.plain = true ∧ PyData.plainAll ds = true ∧ d.depth ≤ 40 ∧ Q (.bl (ds.any fun z => PyData.eqv z d)) H
end DL

namespace HT
open PySem PySem.Spec PyProof.Rows L2
/-! ### t[::-1] of a tuple -/
theorem back_adjust (n : Nat) : Builtin.Slice.sliceAdjust none none (-1) (n : Int) = ((n : Int) - 1, -1) := by
  unfold Builtin.Slice.sliceAdjust
  rfl
theorem back_places (n : Nat) : Builtin.Slice.slicePlaces ((n : Int) - 1) (-1) (-1) = n := by
  unfold Builtin.Slice.slicePlaces
  have h1 : ¬ ((-1 : Int) > 0) := by decide
  simp only [h1, if_false]
  split
  · simp only [show (- -1 : Int) = 1 by decide, Int.ediv_one]
    omega
  · omega
theorem back_pick (xs : Array Value) : ((List.range xs.size).filterMap fun (m : Nat) => xs[((xs.size : Int) - 1 + (m : Int) * (-1)).toNat]?).toArray = xs.toList.reverse.toArray := by
  congr 1
  have e : (List.range xs.size).filterMap (fun (m : Nat) => xs[((xs.size : Int) - 1 + (m : Int) * (-1)).toNat]?) = (List.range xs.size).filterMap fun m => xs[xs.size - 1 - m]? := by
    congr 1
    funext m
    rw [show ((xs.size : Int) - 1 + (m : Int) * (-1)).toNat = xs.size - 1 - m by omega]
  rw [e]
  have e2 : (List.range xs.size).filterMap (fun m => xs[xs.size - 1 - m]?) = ((List.range xs.size).map fun k => xs.size - 1 - k).filterMap (xs[·]?) := by
    rw [List.filterMap_map]
    rfl
  rw [e2, PySem.W.krv_range, List.filterMap_reverse, PySem.W.krv_all]
section
variable {prog : Program} {w : World} {A : Around} {E : Value → Shared → Prop} {s : Shared}
theorem getItem_tuple_back {t sl : Addr} {items : Array Value} {vs : Value} {Q : Value → Shared → Prop} (ht : IsTup s.heap t items) (hs : s.heap.IsSliceOf sl .none .none vs) (ps : IsPart vs (some (-1)))
    (h : Q (.ref s.heap.objs.size) { s with heap := s.heap.push { cls := .type "tuple", data := .seq items.toList.reverse.toArray } })
    (hsz : items.size ≤ sizeLine) : wpAny (model prog w) A (getItem (.ref t) (.ref sl)) Q E s := by
  have htake : sizeOk (.seq items.toList.reverse.toArray) := by
    show items.toList.reverse.toArray.size ≤ sizeLine
    rw [List.size_toArray, List.length_reverse, Array.length_toList]
    exact hsz
  obtain ⟨os, hos, hcs, hds⟩ := id hs
  have hTs : s.TypeIs (.ref sl) "slice" := ⟨os, hos, hcs⟩
  unfold getItem
  try with_reducible refine wpAny_holding ?_
  first | refine wpAny_bind (wpAny_pure ?_) | skip
  refine wpAny_bind (wpAny_sequenceKey ht.typeIs (by decide) ?_)
  refine wpAny_bind (wpAny_callSpecial?_slot (name := Str.ofString "__getitem__") ht.typeIs PyProof.Rows.slot_tuple_getitem
    (wpAny_call_entry PyProof.Rows.slot_tuple_getitem ht.typeIs entry_tuple_getitem ?_ (args_tuple_getitem _ _)))
  show wpAny _ _ (Builtin.Tuple.tupleItemsOf (.ref t) >>= _) _ _ s
  refine wpAny_bind (tupleItemsOf_ ht ?_)
  refine wpAny_bind (wpAny_typeOf hTs ?_)
  rw [if_pos (by decide)]
  have ap : ∀ {A : Around} {Q : Int × Int × Nat → Shared → Prop}, Q ((items.size : Int) - 1, -1, items.size) s → wpAny (model prog w) A (Builtin.Slice.sliceApplied (.ref sl) (pure (items.size : Int))) Q E s := fun {A Q} h => by
    unfold Builtin.Slice.sliceApplied Builtin.Slice.sliceFields
    refine wpAny_bind (wpAny_bind (wpAny_field hos hds (x := .none) rfl (wpAny_bind (wpAny_field hos hds (x := .none) rfl (wpAny_bind (wpAny_field hos hds (x := vs) rfl (wpAny_pure ?_)))))))
    refine wpAny_bind (slicePart_ ps ?_)
    show wpAny _ _ (if ((-1 : Int) == 0) = true then _ else _) _ _ s
    rw [if_neg (by decide)]
    refine wpAny_bind (slicePart_none (wpAny_bind (slicePart_none (wpAny_bind (wpAny_pure ?_)))))
    show wpAny _ _ (match Builtin.Slice.sliceAdjust none none (-1) (items.size : Int) with | (lo, hi) => pure (lo, (-1 : Int), Builtin.Slice.slicePlaces lo hi (-1))) _ _ s
    rw [back_adjust]
    show wpAny _ _ (pure ((items.size : Int) - 1, (-1 : Int), Builtin.Slice.slicePlaces ((items.size : Int) - 1) (-1) (-1))) _ _ s
    rw [back_places]
    exact wpAny_pure h
  refine wpAny_bind (ap ?_)
  show wpAny _ _ (if (((items.size : Int) - 1) == 0 && (-1 : Int) == 1 && items.size == items.size) = true then _ else _) _ _ s
  rw [if_neg (by rw [show ((-1 : Int) == 1) = false from rfl, Bool.and_false, Bool.false_and]; exact Bool.false_ne_true), back_pick]
  first
    | exact wpAny_bind (m := Builtin.Tuple.tupleExact _) (wpAny_newObj_type (wpAny_pure ⟨_, rfl, wpAny_pure h⟩) htake)
    | exact wpAny_bind (m := Builtin.Tuple.tupleExact _) (wpAny_newObj_type (wpAny_bind (wpAny_pure (wpAny_pure ⟨_, rfl, wpAny_pure h⟩))) htake)
    | exact wpAny_bind (wpAny_bind (m := Builtin.Tuple.tupleExact _) (wpAny_newObj_type (wpAny_pure (wpAny_pure ⟨_, rfl, wpAny_pure h⟩)) htake))
    | exact wpAny_bind (wpAny_bind (m := Builtin.Tuple.tupleExact _) (wpAny_newObj_type (wpAny_pure ⟨_, rfl, wpAny_pure h⟩) htake))
end
end HT
namespace L2
open PySem PySem.Spec PyProof.Rows
section
variable {X : Cx}
def tRevT (K : PySem.W.Frag) (te : TE) : TE := fun σ H Q => te σ H fun x H1 => ∃ a xs, x = .ref a ∧ SqT K H1 a xs ∧ ∀ p, H1 p = none → Q (.ref p) (upd H1 p (.tup xs.reverse))
theorem pe_revT {e : Expr} {te : TE} {k : Nat} {p1 p2 p3 pos : Pos} (he : PE X e te) : PE X (.Subscript e (.Slice none none (some (.UnaryOp .USub (.Constant (.int 1) k p1) p2)) p3) pos) (tRevT X.K te) := by
  refine ⟨fun pins s σ H Q I h => ?_⟩
  refine Subscript_ (thn (he.run pins s σ H _ I h) fun v s1 ⟨x, H1, I1, r1, q1⟩ => ?_)
  obtain ⟨a, xs, ex, hx, q⟩ := q1
  subst ex
  cases r1
  have hst : PO X (some (.UnaryOp .USub (.Constant (.int 1) k p1) p2)) (tPart (tUn (rU fun i => .int (-i)) (tC (.int 1)))) := po_some (pe_un un_neg pe_int)
  refine wpAny_Slice (thn (po_none.run pins s1 σ H1 (fun o H2 => o = none ∧ H2 = H1) I1 ⟨rfl, rfl⟩) fun vl s2 ⟨l, H2, I2, pl, el, e2⟩ => ?_)
  subst el e2
  refine thn (po_none.run pins s2 σ H2 (fun o H3 => o = none ∧ H3 = H2) I2 ⟨rfl, rfl⟩) fun vu s3 ⟨u, H3, I3, pu, eu, e3⟩ => ?_
  subst eu e3
  refine thn (hst.run pins s3 σ H3 (fun o H4 => o = some (-1) ∧ H4 = H3) I3 ⟨1, rfl, -1, rfl, rfl, rfl⟩) fun vs s4 ⟨o, H4, I4, ps, eo, e4⟩ => ?_
  subst eo e4
  cases pl
  cases pu
  have I5 : Inv X pins σ H4 { s4 with heap := s4.heap.push { cls := .type "slice", data := .fields #[.none, .none, vs] } } := I4.kept (t' := s4.toks) fun b ob q => Heap.get?_push_of_some _ q
  obtain ⟨its, r, ht, hz⟩ := I5.tuple hx
  have hlen := r.length
  show wpAny (model X.prog X.w) X.A (subscriptTail e (.Slice none none (some (.UnaryOp .USub (.Constant (.int 1) k p1) p2)) p3) (.ref a) (.ref s4.heap.objs.size)) (EP X pins σ Q) X.xe { s4 with heap := s4.heap.push { cls := .type "slice", data := .fields #[.none, .none, vs] } }
  refine tail_any (ops := [.ref a, .ref s4.heap.objs.size]) ht.typeIs (PyProof.Rows.slot_tuple_getitem.lookup) ?_ (by with_unfolding_all rfl)
  refine HT.getItem_tuple_back ht (Heap.IsSliceOf.new _ .none .none vs) ps ?_ (by rw [List.size_toArray]; omega)
  refine ⟨.ref _, _, I5.laid (t' := s4.toks) (o := .tup xs.reverse) (fun b ob q => Heap.get?_push_of_some _ q) (Nat.le_refl _) ?_, rfl, q _ (I5.hok.fresh (Nat.le_refl _))⟩
  exact ⟨by rw [List.length_reverse]; exact hz, _, r.reverse, IsTup.new _ _⟩
end
end L2
namespace DL
open PySem PySem.Spec PyProof.Rows L2
theorem de_revT {K : PySem.W.Frag} {te : TE} {env : Nv} {post : D → Prop} (h : De te env fun x => ∃ ds, SqD x ds ∧ post (.tup ds.reverse)) : De (tRevT K te) env post := fun B M σ H S Q q =>
  h B M σ H S _ fun v H1 d ⟨ds, e, hp⟩ S1 e1 i1 => by
    obtain ⟨p, vs, rfl, hl, hs⟩ := is_sq (K := K) e i1
    exact ⟨p, vs, rfl, hl, fun p' hn => q _ _ _ hp (S1.new hn) (e1.trans (Fx.new hn)) (.tup upd_same (S1.iss (Fx.new hn) (iss_rev hs)))⟩
end DL

namespace DL
open PySem PySem.Spec PyProof.Rows L2
section
variable {env : Nv} {K : PySem.W.Frag} {te : TE} {nx : Nv → Prop} {rt : D → Prop} {bk ct : Nv → Prop}
end
/-! ### reduced words in order: those that go on from a word -/
/-- the letters that can come behind a word -/
def chW (ls w : List Nat) : List Nat := ls.filter fun c => decide (w.getLast? ≠ some (sw c))
/-- the words that go on by n letters, in order -/
def extW (ls : List Nat) : Nat → List Nat → List (List Nat)
  | 0, w => [w]
  | n + 1, w => (chW ls w).flatMap fun c => extW ls n (w ++ [c])
theorem flatMap_len {α β : Type} {f : α → List β} {m : Nat} : ∀ (l : List α), (∀ a ∈ l, (f a).length = m) → (l.flatMap f).length = l.length * m
  | [], _ => by simp
  | b :: l, hl => by
    rw [List.flatMap_cons, List.length_append, hl b List.mem_cons_self, flatMap_len l fun x hx => hl x (List.mem_cons_of_mem _ hx), List.length_cons, Nat.succ_mul, Nat.add_comm]
/-- how many go on by n letters -/
def cntW (ls : List Nat) (n : Nat) (w : List Nat) : Nat := if w = [] then (if n = 0 then 1 else ls.length * (ls.length - 1) ^ (n - 1)) else (ls.length - 1) ^ n
theorem no_in {ls : List Nat} : ∀ c ∈ ([] : List Nat), c ∈ ls := fun _ z => nomatch z
structure LsOk (ls : List Nat) : Prop where
  asc : Asc ls
  nd : ls.Nodup
  swp : ∀ c ∈ ls, sw c ∈ ls
  lt : ∀ c ∈ ls, c ∈ LTR
  two : 2 ≤ ls.length
theorem chW_nil (ls : List Nat) : chW ls [] = ls := by
  unfold chW
  rw [List.filter_eq_self]
  intro c hc
  exact decide_eq_true (by simp)
theorem filter_ne_len {l : List Nat} {x : Nat} (nd : l.Nodup) (h : x ∈ l) : (l.filter fun c => decide (c ≠ x)).length = l.length - 1 := by
  have e : (l.filter fun c => decide (c ≠ x)) = l.erase x := by
    rw [nd.erase_eq_filter]
    congr 1
    funext c
    by_cases z : c = x <;> simp [z]
  rw [e, List.length_erase_of_mem h]
theorem chW_len {ls w : List Nat} (L : LsOk ls) (hw : ∀ c ∈ w, c ∈ ls) (h0 : w ≠ []) : (chW ls w).length = ls.length - 1 := by
  have hl := List.getLast_mem h0
  have hx := hw _ hl
  have e : chW ls w = ls.filter fun c => decide (c ≠ sw (w.getLast h0)) := by
    unfold chW
    refine List.filter_congr fun c hc => ?_
    rw [List.getLast?_eq_some_getLast h0]
    refine decide_eq_decide.mpr (not_congr ⟨fun z => ?_, fun z => ?_⟩)
    · have := Option.some.inj z
      rw [this, sw_sw (L.lt c hc)]
    · rw [z, sw_sw (L.lt _ hx)]
  rw [e, filter_ne_len L.nd (L.swp _ hx)]
theorem chW_sub {ls w : List Nat} : ∀ c ∈ chW ls w, c ∈ ls := fun c hc => (List.mem_filter.mp hc).1
theorem chW_len2 {ls w : List Nat} (L : LsOk ls) (hw : ∀ c ∈ w, c ∈ ls) : (chW ls w).length = if w = [] then ls.length else ls.length - 1 := by
  split
  · next h => rw [h, chW_nil]
  · next h => exact chW_len L hw h
theorem cntW_step {ls w : List Nat} (L : LsOk ls) (hw : ∀ c ∈ w, c ∈ ls) (n : Nat) (c : Nat) : cntW ls (n + 1) w = (chW ls w).length * cntW ls n (w ++ [c]) := by
  have ne : w ++ [c] ≠ [] := by simp
  rw [chW_len2 L hw]
  unfold cntW
  rw [if_neg ne]
  split
  · rw [if_neg (by omega)]
    rfl
  · rw [Nat.pow_succ, Nat.mul_comm]
theorem in_snoc {ls w : List Nat} {c : Nat} (hw : ∀ c ∈ w, c ∈ ls) (hc : c ∈ ls) : ∀ x ∈ w ++ [c], x ∈ ls := fun x hx => (List.mem_append.mp hx).elim (hw x) fun z => by rw [List.mem_singleton.mp z]; exact hc
theorem cntW_same {ls : List Nat} (n : Nat) (w : List Nat) (c d : Nat) : cntW ls n (w ++ [c]) = cntW ls n (w ++ [d]) := by
  unfold cntW
  rw [if_neg (by simp), if_neg (by simp)]
theorem extW_len {ls : List Nat} (L : LsOk ls) : ∀ (n : Nat) (w : List Nat), (∀ c ∈ w, c ∈ ls) → (extW ls n w).length = cntW ls n w
  | 0, w, _ => by
    show 1 = cntW ls 0 w
    unfold cntW
    split <;> simp
  | n + 1, w, hw => by
    show ((chW ls w).flatMap fun c => extW ls n (w ++ [c])).length = _
    rw [cntW_step L hw n 0, flatMap_len (m := cntW ls n (w ++ [0])) _ fun c hc => by rw [extW_len L n _ (in_snoc hw (chW_sub c hc))]; exact cntW_same _ _ _ _]
theorem extW_mem {ls : List Nat} : ∀ (n : Nat) {w v : List Nat}, v ∈ extW ls n w → ∃ u, v = w ++ u ∧ u.length = n
  | 0, w, v, h => ⟨[], by rw [List.append_nil]; exact List.mem_singleton.mp h, rfl⟩
  | n + 1, w, v, h => by
    obtain ⟨c, hc, hv⟩ := List.mem_flatMap.mp h
    obtain ⟨u, e, hu⟩ := extW_mem n hv
    exact ⟨c :: u, by rw [e, List.append_assoc]; rfl, by rw [List.length_cons, hu]⟩
theorem redW_snoc {w : List Nat} {c : Nat} (hc : c ∈ LTR) : red (w ++ [c]) ↔ red w ∧ w.getLast? ≠ some (sw c) := by
  rw [red_append]
  constructor
  · rintro ⟨a, _, b⟩
    exact ⟨a, fun z => b (sw c) c z rfl rfl⟩
  · rintro ⟨a, b⟩
    refine ⟨a, trivial, fun x y hx hy e => b ?_⟩
    have hy : some c = some y := hy
    rw [hx, e, Option.some.inj hy]
/-- all of them are reduced words, and all reduced words are there -/
theorem extW_red {ls : List Nat} (L : LsOk ls) : ∀ (n : Nat) {w : List Nat}, (∀ c ∈ w, c ∈ ls) → red w → ∀ v, v ∈ extW ls n w ↔ (∃ u, v = w ++ u ∧ u.length = n) ∧ red v ∧ ∀ c ∈ v, c ∈ ls
  | 0, w, hw, hr, v => by
    constructor
    · intro h
      have e : v = w := List.mem_singleton.mp h
      exact ⟨⟨[], by rw [List.append_nil]; exact e, rfl⟩, by rw [e]; exact hr, by rw [e]; exact hw⟩
    · rintro ⟨⟨u, e, hu⟩, _⟩
      rw [List.length_eq_zero_iff.mp hu, List.append_nil] at e
      exact List.mem_singleton.mpr e
  | n + 1, w, hw, hr, v => by
    constructor
    · intro h
      obtain ⟨c, hc, hv⟩ := List.mem_flatMap.mp h
      obtain ⟨h1, h2⟩ := List.mem_filter.mp hc
      have h2 := of_decide_eq_true h2
      obtain ⟨⟨u, e, hu⟩, a, b⟩ := (extW_red L n (in_snoc hw h1) ((redW_snoc (L.lt c h1)).mpr ⟨hr, h2⟩) v).mp hv
      exact ⟨⟨c :: u, by rw [e, List.append_assoc]; rfl, by rw [List.length_cons, hu]⟩, a, b⟩
    · rintro ⟨⟨u, e, hu⟩, a, b⟩
      cases u with
      | nil => cases hu
      | cons c u =>
        have e2 : v = (w ++ [c]) ++ u := by rw [e, List.append_assoc]; rfl
        have hc : c ∈ ls := b c (by rw [e]; simp)
        have hr2 : red (w ++ [c]) := by
          rw [e2] at a
          exact (red_append.mp a).1
        refine List.mem_flatMap.mpr ⟨c, List.mem_filter.mpr ⟨hc, decide_eq_true ((redW_snoc (L.lt c hc)).mp hr2).2⟩, (extW_red L n (in_snoc hw hc) hr2 v).mpr ⟨⟨u, e2, by rw [List.length_cons] at hu; omega⟩, a, b⟩⟩
theorem ltW_more {u v : List Nat} (h : ltW u v = true) : ∀ {a b : List Nat}, a.length = b.length → ltW (u ++ a) (v ++ b) = true := by
  intro a b hl
  induction a generalizing u v b with
  | nil =>
    rw [List.length_eq_zero_iff.mp hl.symm, List.append_nil, List.append_nil]
    exact h
  | cons c a ih =>
    cases b with
    | nil => cases hl
    | cons d b =>
      have := ih (ltW_snoc c d h) (b := b) (by rw [List.length_cons, List.length_cons] at hl; omega)
      rwa [List.append_assoc, List.append_assoc] at this
theorem pw_flatMap {α β : Type} {R : β → β → Prop} {f : α → List β} : ∀ {l : List α}, l.Pairwise (fun a b => ∀ x ∈ f a, ∀ y ∈ f b, R x y) → (∀ a ∈ l, (f a).Pairwise R) → (l.flatMap f).Pairwise R
  | [], _, _ => List.Pairwise.nil
  | a :: l, h, k => by
    obtain ⟨h1, h2⟩ := List.pairwise_cons.mp h
    rw [List.flatMap_cons]
    refine List.pairwise_append.mpr ⟨k a List.mem_cons_self, pw_flatMap h2 fun b hb => k b (List.mem_cons_of_mem _ hb), fun x hx y hy => ?_⟩
    obtain ⟨b, hb, hy⟩ := List.mem_flatMap.mp hy
    exact h1 b hb x hx y hy
theorem extW_srt {ls : List Nat} (L : LsOk ls) : ∀ (n : Nat) (w : List Nat), (extW ls n w).Pairwise fun u v => ltW u v = true
  | 0, w => List.pairwise_singleton _ _
  | n + 1, w => by
    refine pw_flatMap ?_ fun c _ => extW_srt L n (w ++ [c])
    have A : (chW ls w).Pairwise fun a b => ixL a < ixL b := List.Pairwise.sublist List.filter_sublist L.asc
    refine A.imp fun {a b} hab x hx y hy => ?_
    obtain ⟨u, rfl, hu⟩ := extW_mem n hx
    obtain ⟨v, rfl, hv⟩ := extW_mem n hy
    exact ltW_more (ltW_last hab) (by omega)
theorem srt_idx {l : List (List Nat)} (h : l.Pairwise fun u v => ltW u v = true) {i j : Nat} {w : List Nat} (hi : l[i]? = some w) (hj : l[j]? = some w) : i = j := by
  obtain ⟨i1, i2⟩ := List.getElem?_eq_some_iff.mp hi
  obtain ⟨j1, j2⟩ := List.getElem?_eq_some_iff.mp hj
  have irr : ltW w w = true → False := fun z => by rw [ltW_irr] at z; cases z
  rcases Nat.lt_trichotomy i j with z | z | z
  · have := List.pairwise_iff_getElem.mp h i j i1 j1 z
    rw [i2, j2] at this
    exact (irr this).elim
  · exact z
  · have := List.pairwise_iff_getElem.mp h j i j1 i1 z
    rw [i2, j2] at this
    exact (irr this).elim
theorem srt_lt {l : List (List Nat)} (h : l.Pairwise fun u v => ltW u v = true) {i j : Nat} {u v : List Nat} (hi : l[i]? = some u) (hj : l[j]? = some v) (hij : i < j) : ltW u v = true := by
  obtain ⟨i1, i2⟩ := List.getElem?_eq_some_iff.mp hi
  obtain ⟨j1, j2⟩ := List.getElem?_eq_some_iff.mp hj
  have := List.pairwise_iff_getElem.mp h i j i1 j1 hij
  rwa [i2, j2] at this
/-- the words of fewer than n letters -/
def bseW (ls : List Nat) (n : Nat) : Nat := ((List.range n).map fun k => cntW ls k []).sum
theorem bseW_succ (ls : List Nat) (n : Nat) : bseW ls (n + 1) = bseW ls n + cntW ls n [] := by
  unfold bseW
  rw [List.range_succ, List.map_append, List.sum_append]
  simp
/-- the word with an index -/
structure NthW (ls : List Nat) (i : Nat) (w : List Nat) : Prop where
  at' : ∃ k, (extW ls w.length [])[k]? = some w ∧ i = bseW ls w.length + k ∧ k < cntW ls w.length []
theorem NthW.uniq {ls : List Nat} (L : LsOk ls) {i j : Nat} {w : List Nat} (h : NthW ls i w) (k : NthW ls j w) : i = j := by
  obtain ⟨a, h1, h2, _⟩ := h.at'
  obtain ⟨b, k1, k2, _⟩ := k.at'
  rw [h2, k2, srt_idx (extW_srt L _ _) h1 k1]
theorem bseW_mono {ls : List Nat} {m n : Nat} (h : m ≤ n) : bseW ls m ≤ bseW ls n := by
  induction n with
  | zero => rw [show m = 0 by omega]; exact Nat.le_refl _
  | succ n ih =>
    by_cases e : m = n + 1
    · rw [e]; exact Nat.le_refl _
    · rw [bseW_succ]
      exact Nat.le_trans (ih (by omega)) (Nat.le_add_right _ _)
theorem NthW.len {ls : List Nat} {i : Nat} {w : List Nat} (h : NthW ls i w) : bseW ls w.length ≤ i ∧ i < bseW ls (w.length + 1) := by
  obtain ⟨a, h1, h2, h3⟩ := h.at'
  rw [bseW_succ]
  omega
theorem NthW.lt {ls : List Nat} (L : LsOk ls) {i j : Nat} {u v : List Nat} (h : NthW ls i u) (k : NthW ls j v) (hij : i < j) : ltW u v = true := by
  have lu := h.len
  have lv := k.len
  rcases Nat.lt_trichotomy u.length v.length with z | z | z
  · exact ltW_iff.mpr (.inl z)
  · obtain ⟨a, h1, h2, _⟩ := h.at'
    obtain ⟨b, k1, k2, _⟩ := k.at'
    rw [← z] at k1 k2
    exact srt_lt (extW_srt L _ _) h1 k1 (by omega)
  · have := bseW_mono (ls := ls) (show v.length + 1 ≤ u.length from z)
    omega
theorem NthW.same {ls : List Nat} {i : Nat} {u v : List Nat} (h : NthW ls i u) (k : NthW ls i v) : u = v := by
  have lu := h.len
  have lv := k.len
  have z : u.length = v.length := by
    rcases Nat.lt_trichotomy u.length v.length with z | z | z
    · have := bseW_mono (ls := ls) (show u.length + 1 ≤ v.length from z)
      omega
    · exact z
    · have := bseW_mono (ls := ls) (show v.length + 1 ≤ u.length from z)
      omega
  obtain ⟨a, h1, h2, _⟩ := h.at'
  obtain ⟨b, k1, k2, _⟩ := k.at'
  rw [← z] at k1 k2
  obtain rfl : a = b := by omega
  rw [h1] at k1
  exact Option.some.inj k1
theorem NthW.red {ls : List Nat} (L : LsOk ls) {i : Nat} {w : List Nat} (h : NthW ls i w) : DL.red w ∧ ∀ c ∈ w, c ∈ ls := by
  obtain ⟨a, h1, _⟩ := h.at'
  exact ((extW_red L w.length (w := []) no_in trivial w).mp (List.mem_of_getElem? h1)).2
theorem NthW.of {ls : List Nat} (L : LsOk ls) {w : List Nat} (hr : DL.red w) (hw : ∀ c ∈ w, c ∈ ls) : ∃ i, NthW ls i w := by
  obtain ⟨k, hk⟩ := List.mem_iff_getElem?.mp ((extW_red L w.length (w := []) no_in trivial w).mpr ⟨⟨w, rfl, rfl⟩, hr, hw⟩)
  exact ⟨_, ⟨k, hk, rfl, by rw [← extW_len L w.length [] no_in]; exact (List.getElem?_eq_some_iff.mp hk).1⟩⟩
/-- all of at most n letters, in order -/
def allW (ls : List Nat) (n : Nat) : List (List Nat) := (List.range (n + 1)).flatMap fun k => extW ls k []
end DL

namespace DL
open PySem PySem.Spec PyProof.Rows L2
/-! ### walks told by the free edges that they go along -/
abbrev Pr := Nat × Int
def sgW (w : List Nat) (s : Int) : List Nat := if s = 1 then w else inv w
def sgE (c : Nat) : Int := if c ∈ SM then 1 else -1
def prE (fr : List Ed) (p c q : Nat) : List Pr := if edB p c q ∈ fr then [(fr.idxOf (edB p c q), sgE c)] else []
def exF (es fr : List Ed) : Nat → List Nat → List Pr
  | _, [] => []
  | p, c :: w => match stO (mvs es) p c with
    | none => []
    | some q => prE fr p c q ++ exF es fr q w
def valE (bs : List (List Nat)) (x : List Pr) : List Nat := (x.map fun y => sgW (bs.getD y.1 []) y.2).flatten
structure TrP (es fr : List Ed) (P : Nat → List Nat) : Prop where
  fld : Fld es
  lt : ∀ p, Lts (P p)
  sub : ∀ e ∈ fr, e ∈ es
  tree : ∀ e ∈ es, e ∉ fr → P e.2.2 = P e.1 ++ [e.2.1] ∨ P e.1 = P e.2.2 ++ [sw e.2.1]
def lpF (P : Nat → List Nat) (e : Ed) : List Nat := P e.1 ++ [e.2.1] ++ inv (P e.2.2)
section
variable {es fr : List Ed} {P : Nat → List Nat}
def ncP : List Pr → Prop
  | y :: z :: x => ¬ (y.1 = z.1 ∧ y.2 ≠ z.2) ∧ ncP (z :: x)
  | _ => True
/-! ### and back: what an expression without opposites makes -/
def pshP (k : List Pr) (y : Pr) : List Pr := match k with
  | z :: k' => if z.1 = y.1 ∧ z.2 ≠ y.2 then k' else y :: z :: k'
  | [] => [y]
def stkP (x : List Pr) : List Pr := x.foldl pshP []
end
end DL

namespace DL
open PySem PySem.Spec PyProof.Rows L2 TK
/-! ### which powers of a word belong -/
section
variable {E : List Ed} {w : List Nat}
/-- the k-th power of w belongs -/
def PwB (E : List Ed) (w : List Nat) (k : Nat) : Prop := Wlk E 0 (fold (pw k w)) 0
theorem PwB.zero : PwB E w 0 := rfl
theorem PwB.add (F : Fld E) (hw : Lts w) {a b : Nat} (h : PwB E w a) (k : PwB E w b) : PwB E w (a + b) := by
  unfold PwB
  rw [pw_add]
  exact Wlk.app2 F (pw_lts hw) (pw_lts hw) h k
theorem PwB.sub (F : Fld E) (hw : Lts w) {a b : Nat} (h : PwB E w (a + b)) (k : PwB E w b) : PwB E w a := by
  have hb : Lts (pw b w) := pw_lts hw
  have ha : Lts (pw a w) := pw_lts hw
  have ki : Wlk E 0 (fold (inv (pw b w))) 0 := by
    rw [fold_inv hb]
    exact Wlk.inv k
  have e := fold_xx (a := pw a w) (x := inv (pw b w)) (b := []) ha (inv_lts hb) lts0
  rw [inv_inv hb, List.append_nil, List.append_nil, ← pw_add] at e
  have := Wlk.app2 F (pw_lts hw (n := a + b)) (inv_lts hb) h ki
  unfold PwB
  rw [e] at this
  exact this
theorem PwB.mul (F : Fld E) (hw : Lts w) {a : Nat} (h : PwB E w a) : ∀ q : Nat, PwB E w (a * q)
  | 0 => by rw [Nat.mul_zero]; exact PwB.zero
  | q + 1 => by rw [Nat.mul_succ]; exact (PwB.mul F hw h q).add F hw h
theorem Wlk.ends {pts : List Nat} (hp : ∀ e ∈ E, e.1 ∈ pts ∧ e.2.2 ∈ pts) : ∀ {u : List Nat} {p q : Nat}, Wlk E p u q → p ∈ pts → q ∈ pts
  | [], p, q, h, hm => by
    have h : p = q := h
    exact h ▸ hm
  | c :: u, p, q, ⟨m, hs, hk⟩, hm => by
    refine Wlk.ends hp hk ?_
    rcases hs with ⟨_, z⟩ | ⟨_, _, z⟩
    · exact (hp _ z).2
    · exact (hp _ z).1
end
end DL

namespace DL
open PySem PySem.Spec PyProof.Rows L2
/-! ### how many keys a dict by tuples has -/
theorem dcl_lenT {kvs : List (List Key × V)} {post : D → Prop} (h : post (.int (kvs.length : Nat))) : Dcl rLenT [.dT kvs] post := fun st M H vs hst hM trk iv Q q => by
  cases iv with
  | cons i r =>
    cases r
    cases i with
    | dT hm hd hf => exact ⟨_, _, rfl, hd, q _ H _ h (Fx.refl _ _) (.int _)⟩
end DL

namespace DL
open PySem PySem.Spec PyProof.Rows L2
/-! ### objects: their fields -/
section
variable {st p C q : Addr} {M M' L : List Addr} {H H' : Hp} {fs fs' : List (Str × Fv)} {kvs : List (Str × V)} {f : Str} {d : D} {o : Ow}
theorem FdOk.none : ∀ {kvs : List (Str × V)} {fs : List (Str × Fv)}, FdOk st M H kvs fs → fs.lookup f = none → kvs.lookup f = none
  | _, _, .nil, _ => rfl
  | _, _, .val (n := n) h t, e => by
    rw [List.lookup_cons] at e ⊢
    cases z : f == n with
    | true => rw [z] at e; cases e
    | false => rw [z] at e; exact FdOk.none t e
  | _, _, .cell (n := n) hq k t, e => by
    rw [List.lookup_cons] at e ⊢
    cases z : f == n with
    | true => rw [z] at e; cases e
    | false => rw [z] at e; exact FdOk.none t e
theorem FdOk.at_cell : ∀ {kvs : List (Str × V)} {fs : List (Str × Fv)}, FdOk st M H kvs fs → fs.lookup f = some (.cell q o) → kvs.lookup f = some (.ref q) ∧ ∃ h, H q = some h ∧ OwOk st M H h o
  | _, _, .val (n := n) h t, e => by
    rw [List.lookup_cons] at e
    cases z : f == n with
    | true => rw [z] at e; cases e
    | false => rw [z] at e; obtain ⟨h1, h2⟩ := FdOk.at_cell t e; exact ⟨by rw [List.lookup_cons, z]; exact h1, h2⟩
  | _, _, .cell (n := n) hq k t, e => by
    rw [List.lookup_cons] at e
    cases z : f == n with
    | true => rw [z] at e; cases e; exact ⟨by rw [List.lookup_cons, z], _, hq, k⟩
    | false => rw [z] at e; obtain ⟨h1, h2⟩ := FdOk.at_cell t e; exact ⟨by rw [List.lookup_cons, z]; exact h1, h2⟩
theorem FdOk.len : ∀ {kvs : List (Str × V)} {fs : List (Str × Fv)}, FdOk st M H kvs fs → kvs.length = fs.length
  | _, _, .nil => rfl
  | _, _, .val _ t => congrArg (· + 1) (FdOk.len t)
  | _, _, .cell _ _ t => congrArg (· + 1) (FdOk.len t)
theorem cell_mem : ∀ {fs : List (Str × Fv)}, fs.lookup f = some (.cell q o) → q ∈ cells fs
  | (n, .val d) :: r, e => by
    rw [List.lookup_cons] at e
    cases z : f == n with
    | true => rw [z] at e; cases e
    | false => rw [z] at e; exact cell_mem (fs := r) e
  | (n, .cell q' o') :: r, e => by
    rw [List.lookup_cons] at e
    cases z : f == n with
    | true => rw [z] at e; cases e; exact List.mem_cons_self
    | false => rw [z] at e; exact List.mem_cons_of_mem _ (cell_mem (fs := r) e)
/-- a field's cell gets another content -/
def setF (f : Str) (o : Ow) : List (Str × Fv) → List (Str × Fv)
  | [] => []
  | (n, .val d) :: r => (n, .val d) :: setF f o r
  | (n, .cell q u) :: r => if n = f then (n, .cell q o) :: r else (n, .cell q u) :: setF f o r
/-- all that the object owns may change, nothing else -/
def FxO (st : Addr) (L : List Addr) (H H' : Hp) : Prop := (∀ b o, b ≠ st → b ∉ L → H b = some o → H' b = some o) ∧
  ∀ (a : Addr) (c k : Int), 0 ≤ c → 0 ≤ k → H st = some (.lst [.ref a, .int c, .int k]) → ∃ c' k' : Int, 0 ≤ c' ∧ 0 ≤ k' ∧ H' st = some (.lst [.ref a, .int c', .int k'])
mutual
theorem Is.chg (hL : ∀ x ∈ L, x ∈ M) (hT : ∀ x ∈ L, ∀ vs, H x ≠ some (.tup vs)) (hS : st ∈ M) (ht : ∀ vs, H st ≠ some (.tup vs)) (e : FxO st L H H') : ∀ {v : V} {d : D}, Is st M H v d → Is st M H' v d
  | _, _, .non => .non
  | _, _, .bl b => .bl b
  | _, _, .int i => .int i
  | _, _, .str s => .str s
  | _, _, .ty n => .ty n
  | _, _, .stm => .stm
  | _, _, .obn p => .obn p
  | _, _, .cls a => .cls a
  | _, _, .exc hm h hl hs => .exc hm (e.1 _ _ (fun z => hm (z ▸ hS)) (fun z => hm (hL _ z)) h) hl (Iss.chg hL hT hS ht e hs)
  | _, _, .tup h hs => .tup (e.1 _ _ (fun z => ht _ (z ▸ h)) (fun z => hT _ z _ h) h) (Iss.chg hL hT hS ht e hs)
  | _, _, .ptp hm h hc hs => .ptp hm (e.1 _ _ (fun z => hm (z ▸ hS)) (fun z => hm (hL _ z)) h) hc (Iss.chg hL hT hS ht e hs)
  | _, _, .lst hm h hs => .lst hm (e.1 _ _ (fun z => hm (z ▸ hS)) (fun z => hm (hL _ z)) h) (Iss.chg hL hT hS ht e hs)
  | _, _, .dK hm h hf => .dK hm (e.1 _ _ (fun z => hm (z ▸ hS)) (fun z => hm (hL _ z)) h) hf
  | _, _, .dT hm h hf => .dT hm (e.1 _ _ (fun z => hm (z ▸ hS)) (fun z => hm (hL _ z)) h) hf
  | _, _, .dKx hm h hl hs => .dKx hm (e.1 _ _ (fun z => hm (z ▸ hS)) (fun z => hm (hL _ z)) h) hl (Iss.chg hL hT hS ht e hs)
  | _, _, .dTx hm h hl hs => .dTx hm (e.1 _ _ (fun z => hm (z ▸ hS)) (fun z => hm (hL _ z)) h) hl (Iss.chg hL hT hS ht e hs)
theorem Iss.chg (hL : ∀ x ∈ L, x ∈ M) (hT : ∀ x ∈ L, ∀ vs, H x ≠ some (.tup vs)) (hS : st ∈ M) (ht : ∀ vs, H st ≠ some (.tup vs)) (e : FxO st L H H') : ∀ {vs : List V} {ds : List D}, Iss st M H vs ds → Iss st M H' vs ds
  | _, _, .nil => .nil
  | _, _, .cons h hs => .cons (Is.chg hL hT hS ht e h) (Iss.chg hL hT hS ht e hs)
end
/-- what an object owns is no tuple -/
theorem FdOk.notup : ∀ {kvs : List (Str × V)} {fs : List (Str × Fv)}, FdOk st M H kvs fs → ∀ x ∈ cells fs, ∀ vs, H x ≠ some (.tup vs)
  | _, _, .nil, x, hx, _ => nomatch hx
  | _, _, .val _ t, x, hx, vs => FdOk.notup t x hx vs
  | _, _, .cell hq k t, x, hx, vs => by
    rcases List.mem_cons.mp hx with rfl | hx
    · intro z
      rw [hq] at z
      exact k.notup vs (Option.some.inj z)
    · exact FdOk.notup t x hx vs
theorem ObAt.notup (O : ObAt st M H p C fs) : ∀ x ∈ p :: cells fs, ∀ vs, H x ≠ some (.tup vs) := fun x hx vs z => by
  obtain ⟨dx, kvs, h1, h2⟩ := O.ins
  rcases List.mem_cons.mp hx with rfl | hx
  · rw [h1] at z; cases z
  · exact h2.notup x hx vs z
theorem FdOk.trk : ∀ {kvs : List (Str × V)} {fs : List (Str × Fv)}, FdOk st M H kvs fs → ∀ x ∈ cells fs, ∃ o, H x = some o
  | _, _, .nil, x, hx => nomatch hx
  | _, _, .val _ t, x, hx => FdOk.trk t x hx
  | _, _, .cell hq k t, x, hx => by
    rcases List.mem_cons.mp hx with rfl | hx
    · exact ⟨_, hq⟩
    · exact FdOk.trk t x hx
theorem ObAt.trk (O : ObAt st M H p C fs) : ∀ x ∈ p :: cells fs, ∃ o, H x = some o := fun x hx => by
  obtain ⟨dx, kvs, h1, h2⟩ := O.ins
  rcases List.mem_cons.mp hx with rfl | hx
  · exact ⟨_, h1⟩
  · exact h2.trk x hx
theorem FdOk.chg (f' : ∀ {v : V} {d : D}, Is st M H v d → Is st M' H' v d) {h' : HO} {o' : Ow} (hq' : H' q = some h') (k' : OwOk st M' H' h' o') : ∀ {kvs : List (Str × V)} {fs : List (Str × Fv)}, FdOk st M H kvs fs →
    (∀ x ∈ cells fs, x ≠ q → ∀ o, H x = some o → H' x = some o) → (cells fs).Nodup → fs.lookup f = some (.cell q o) → FdOk st M' H' kvs (setF f o' fs)
  | _, _, .nil, _, _, e => nomatch e
  | _, _, .val (n := n) h t, hH, nd, e => by
    rw [List.lookup_cons] at e
    cases z : f == n with
    | true => rw [z] at e; cases e
    | false => rw [z] at e; exact .val (f' h) (FdOk.chg f' hq' k' t hH nd e)
  | _, _, .cell (n := n) (q := q2) hq k t, hH, nd, e => by
    obtain ⟨nd1, nd2⟩ := List.nodup_cons.mp nd
    rw [List.lookup_cons] at e
    unfold setF
    cases z : f == n with
    | true =>
      rw [z] at e
      cases e
      rw [if_pos (beq_iff_eq.mp z).symm]
      exact .cell hq' k' (t.tr f' fun x hx o hxo => hH x (List.mem_cons_of_mem _ hx) (fun y => nd1 (y ▸ hx)) o hxo)
    | false =>
      rw [z] at e
      rw [if_neg fun y => by rw [y, beq_self_eq_true] at z; cases z]
      have mq := cell_mem e
      exact .cell (hH q2 List.mem_cons_self (fun y => nd1 (y ▸ mq)) _ hq) (k.tr f') (FdOk.chg f' hq' k' t (fun x hx => hH x (List.mem_cons_of_mem _ hx)) nd2 e)
end
section
variable {B : Bs} {M M' L : List Addr} {H H' : Hp} {σ : L2.St} {env : Nv} {i : Nat} {b : Bool} {p C q : Addr} {fs fs' : List (Str × Fv)} {f : Str} {d : D} {o : Ow} {K : PySem.W.Frag} {te : TE} {post : D → Prop} {nx : Nv → Prop} {rt : D → Prop} {bk ct : Nv → Prop}
/-- what the object owns has changed -/
theorem Sr.chg (S : Sr B M σ H env) (hi : env[i]? = some (.obj true p C fs)) (e : FxO B.st (p :: cells fs) H H') (hc : cells fs' = cells fs) (O' : ObAt B.st M H' p C fs') : Sr B M σ H' (env.set i (.obj true p C fs')) := by
  have O := S.ob i true p C fs hi
  have hl : i < env.length := (List.getElem?_eq_some_iff.mp hi).1
  have ic : ∀ {v : V} {d : D}, Is B.st M H v d → Is B.st M H' v d := fun h => h.chg O.ob.inM O.ob.notup S.stM S.nt e
  refine ⟨?_, S.stM, ⟨fun x u hx h => ?_, fun a c k h1 h2 h => ?_⟩, S.sub, S.fresh, fun x hx => ?_, S.st0, S.trk0, by rw [List.length_set]; exact S.len, fun j d hj => ?_, fun j u hj => ?_, fun j k r u w hj hk g1 g2 => ?_, fun x hx => ic (S.hid x hx), fun j b' p' C' fs2 hj => ?_⟩
  · obtain ⟨a, ns, c, k, g1, g2, g3, g4, g5, g6⟩ := S.stm
    obtain ⟨c', k', r1, r2, r3⟩ := e.2 a c k g5 g6 g3
    exact ⟨a, ns, c', k', g1, g2, r3, e.1 a _ g2 (fun z => g1 (O.ob.inM a z)) g4, r1, r2⟩
  · refine e.1 x u hx (fun z => ?_) (S.keep.1 x u hx h)
    rcases S.fresh x (O.ob.inM x z) with y | y
    · exact O.no0 rfl x z y
    · rw [y] at h; cases h
  · obtain ⟨c', k', r1, r2, r3⟩ := S.keep.2 a c k h1 h2 h
    exact e.2 a c' k' r1 r2 r3
  · by_cases z : x ∈ p :: cells fs
    · exact O'.trk x (by rw [hc]; exact z)
    · by_cases y : x = B.st
      · obtain ⟨a, ns, c, k, g1, g2, g3, g4, g5, g6⟩ := S.stm
        obtain ⟨c', k', r1, r2, r3⟩ := e.2 a c k g5 g6 g3
        exact ⟨_, y ▸ r3⟩
      · obtain ⟨u, hu⟩ := S.trk x hx
        exact ⟨u, e.1 x u y z hu⟩
  · rcases setAt hj with ⟨_, z⟩ | ⟨_, hj⟩
    · cases z
    · obtain ⟨v, h1, h2⟩ := S.dat j d hj
      exact ⟨v, h1, ic h2⟩
  · rcases setAt hj with ⟨_, z⟩ | ⟨_, hj⟩
    · cases z
    · obtain ⟨r, h, h1, h2, h3, h4, h5⟩ := S.own j u hj
      exact ⟨r, h, h1, h2, h3, e.1 r h (fun z => h3 (z ▸ S.st0)) (O.dis j u r hj h1) h4, h5.tr ic⟩
  · rcases setAt hj with ⟨_, z⟩ | ⟨_, hj⟩
    · cases z
    · rcases setAt hk with ⟨_, z⟩ | ⟨_, hk⟩
      · cases z
      · exact S.inj j k r u w hj hk g1 g2
  · rcases setAt hj with ⟨rfl, z⟩ | ⟨nj, hj⟩
    · cases z
      refine ⟨O.at_, O', fun _ => by rw [hc]; exact O.no0 rfl, fun k u r hk hr => ?_, by rw [hc]; exact O.nst, fun k b' p' C' fs3 hk => ?_⟩
      · rw [hc]
        rcases setAt hk with ⟨_, z⟩ | ⟨_, hk⟩
        · cases z
        · exact O.dis k u r hk hr
      · rcases setAt hk with ⟨y, _⟩ | ⟨_, hk⟩
        · exact y
        · exact O.one k b' p' C' fs3 hk
    · exact absurd (O.one j b' p' C' fs2 hj) nj
/-- the class's fields are plain -/
abbrev Pla (Kf : PySem.W.Frag) (C : Addr) (f : Str) : Prop := L2.Cls Kf C ∧ NoAttr Kf C f
theorem Sr.cell (S : Sr B M σ H env) (hi : env[i]? = some (.obj b p C fs)) (hf : fs.lookup f = some (.cell q o)) : q ≠ B.st ∧ q ∈ M ∧ ∃ h, H q = some h ∧ OwOk B.st M H h o := by
  have O := S.ob i b p C fs hi
  obtain ⟨dx, kvs, h1, h2⟩ := O.ob.ins
  exact ⟨O.nst q (List.mem_cons_of_mem _ (cell_mem hf)), O.ob.inM q (List.mem_cons_of_mem _ (cell_mem hf)), (h2.at_cell hf).2⟩
/-- o.f[e] += x, a list of ints of its own -/
def rGetL : V → V → Hp → VK → Prop := fun x y H Q => ∃ l xs n v, x = .ref l ∧ y = .int ((n : Nat) : Int) ∧ H l = some (.lst xs) ∧ xs[n]? = some v ∧ n < 1000000 ∧ Q v H
/-! ### methods -/
/-- a method that only reads -/
structure FSR where
  α : Type
  obj : α → List (Str × Fv)
  arg : α → List D
  pre : α → Prop
  rel : α → D → Prop
def PR (F : FSR) (C : Addr) : Sp := fun vs H Q _ => ∃ (a : F.α) (st : Addr) (M : List Addr) (p : Addr) (ws : List V), vs = .ref p :: ws ∧ Stm st M H ∧ st ∈ M ∧ (∀ b ∈ M, ∃ o, H b = some o) ∧ Iss st M H ws (F.arg a) ∧ ObAt st M H p C (F.obj a) ∧ (∀ x ∈ p :: cells (F.obj a), x ≠ st) ∧ F.pre a ∧
  ∀ r H' d, F.rel a d → Fx st H H' → Is st M H' r d → Q r H'
/-- a method that changes what the object owns -/
structure FSO where
  α : Type
  obj : α → List (Str × Fv)
  arg : α → List D
  pre : α → Prop
  rel : α → D → List (Str × Fv) → Prop
def PO (F : FSO) (C : Addr) : Sp := fun vs H Q _ => ∃ (a : F.α) (st : Addr) (M : List Addr) (p : Addr) (ws : List V), vs = .ref p :: ws ∧ Stm st M H ∧ st ∈ M ∧ (∀ b ∈ M, ∃ o, H b = some o) ∧ Iss st M H ws (F.arg a) ∧ ObAt st M H p C (F.obj a) ∧ (∀ x ∈ p :: cells (F.obj a), x ≠ st) ∧ F.pre a ∧
  ∀ r H' d fs', F.rel a d fs' → cells fs' = cells (F.obj a) → FxO st (p :: cells (F.obj a)) H H' → Is st M H' r d → ObAt st M H' p C fs' → Q r H'
/-- __init__ -/
structure FSI where
  α : Type
  arg : α → List D
  pre : α → Prop
  rel : α → List (Str × Fv) → Prop
def PI' (F : FSI) (C : Addr) : Sp := fun vs H Q _ => ∃ (a : F.α) (st : Addr) (M : List Addr) (p : Addr) (ws : List V), vs = .ref p :: ws ∧ Stm st M H ∧ st ∈ M ∧ (∀ b ∈ M, ∃ o, H b = some o) ∧ Iss st M H ws (F.arg a) ∧ p ∉ M ∧ (∃ dx, H p = some (.ins C dx [])) ∧ F.pre a ∧
  ∀ H' fs, F.rel a fs → FxO st [p] H H' → ObAt st (p :: cells fs ++ M) H' p C fs → (∀ x ∈ cells fs, H x = none) → Q .non H'
variable {tas : TA} {m : Str} {E : XK}
end
end DL

namespace DL
open PySem PySem.Spec PyProof.Rows L2
section
variable {B : Bs} {M M' L : List Addr} {H H' : Hp} {σ : L2.St} {env : Nv} {i : Nat} {b : Bool} {p C q : Addr} {fs fs' : List (Str × Fv)} {f m : Str} {d : D} {o : Ow} {K : PySem.W.Frag} {te : TE} {tas : TA} {post : D → Prop} {nx : Nv → Prop} {rt : D → Prop} {bk ct : Nv → Prop} {E : XK}
end
end DL

namespace DL
open PySem PySem.Spec PyProof.Rows L2
/-! ### d.setdefault(k, x) of a dict by tuples -/
def tDSetT (td ty tx : TE) : TE := fun σ H Q => td σ H fun x H1 => ∃ a, x = .ref a ∧ IsD H1 a ∧ ty σ H1 fun y H2 => tx σ H2 fun z H3 => ∃ (kvs : List (List Key × V)) (k : List Key) (b : Addr), H3 a = some (.dT kvs) ∧ y = .ref b ∧ H3 b = some (.tup (k.map kV)) ∧ kvs.length < sizeLine ∧
  (∀ v, valV kvs k = some v → Q v H3) ∧ (valV kvs k = none → Q z (upd H3 a (.dT (putK kvs k z))))
section
variable {X : Cx} {pins : List (Addr × Obj)} {σ : L2.St} {H : Hp} {s : Shared} {a b : Addr} {u r : Value} {d : V} {k : List Key} {E : Value → Shared → Prop}
end
section
variable {X : Cx} {o e f : Expr} {td ty tx : TE} {apos cpos : Pos}
end
section
variable {B : Bs} {M M' : List Addr} {H H' : Hp} {σ : L2.St} {env : Nv} {i : Nat} {p C : Addr} {fs : List (Str × Fv)} {K : PySem.W.Frag} {tas : TA} {nx : Nv → Prop} {rt : D → Prop} {bk ct : Nv → Prop} {E : XK}
theorem Is.moreL {st : Addr} {v : V} {d : D} (h : Is st M H v d) : ∀ {L : List Addr}, (∀ x ∈ L, H x = none) → Is st (L ++ M) H v d
  | [], _ => h
  | x :: L, hn => (Is.moreL h fun y hy => hn y (List.mem_cons_of_mem _ hy)).more (hn x List.mem_cons_self)
/-- new objects are taken into M -/
theorem Sr.grow (S : Sr B M σ H env) {L : List Addr} (hn : ∀ x ∈ L, H x = none) (e : Fx B.st H H') (hp : ∀ x ∈ L, ∃ o, H' x = some o) : Sr B (L ++ M) σ H' env := by
  have S3 : Sr B M σ H' env := S.fx e
  have mo : ∀ {v : V} {d : D}, Is B.st M H v d → Is B.st (L ++ M) H' v d := fun h => (h.moreL hn).mono (fun _ z => z) (List.mem_append_right _ S.stM) e S.nt
  refine ⟨?_, List.mem_append_right _ S.stM, S3.keep, fun b hb => List.mem_append_right _ (S.sub b hb), fun b hb => (List.mem_append.mp hb).elim (fun z => .inr (S.new0 (hn b z))) (S.fresh b), fun b hb => (List.mem_append.mp hb).elim (hp b) (S3.trk b), S.st0, S.trk0, S.len, fun i d hd => ?_, fun i u ho => ?_, S.inj, fun x hx => mo (S.hid x hx), fun i b q C fs h => ?_⟩
  · obtain ⟨a, ns, c, k, g1, g2, g3, g4, g5, g6⟩ := S.stm
    obtain ⟨c', k', r1, r2, r3⟩ := e.2 a c k g5 g6 g3
    exact ⟨a, ns, c', k', fun z => (List.mem_append.mp z).elim (fun y => ne_of_none g4 (hn a y) rfl) g1, g2, r3, e.1 _ _ g2 g4, r1, r2⟩
  · obtain ⟨v, h1, h2⟩ := S.dat i d hd
    exact ⟨v, h1, mo h2⟩
  · obtain ⟨p', u', h1, h2, h3, h4, h5⟩ := S.own i u ho
    exact ⟨p', u', h1, List.mem_append_right _ h2, h3, e.1 _ _ (fun z => h3 (z ▸ S.st0)) h4, h5.tr mo⟩
  · have O := S.ob i b q C fs h
    exact O.tr rfl (fun x hx => List.mem_append_right _ (O.ob.inM x hx)) (fun x hx u hu => e.1 x u (O.nst x hx) hu) mo O.dis O.one
end
end DL

namespace DL
open PySem PySem.Spec PyProof.Rows L2 TK
/-! ### for a, c, b in moves: d.setdefault((tops[a], c), []).append((a, b)) -/
abbrev GrI := List (List Key × List (Nat × Nat))
def prI (x : Nat × Nat) : D := .tup [.int (x.1 : Int), .int (x.2 : Int)]
open Classical in
/-- put into its group -/
noncomputable def grp (L : GrI) (k : List Key) (x : Nat × Nat) : GrI := if k ∈ L.map (·.1) then L.map fun g => if g.1 = k then (g.1, g.2 ++ [x]) else g else L ++ [(k, [x])]
/-- the groups as they lie in the heap: the lists' addresses, the items' -/
structure GrH (H1 : Hp) (p : Addr) (H : Hp) (L : GrI) (as : List Addr) (is : List (List Addr)) : Prop where
  la : as.length = L.length
  li : is.length = L.length
  at_ : H p = some (.dT ((L.map (·.1)).zip (as.map V.ref)))
  nd : (L.map (·.1)).Nodup
  na : as.Nodup
  new : ∀ a ∈ as, H1 a = none ∧ a ≠ p
  lst : ∀ (j : Nat) (a : Addr) (us : List Addr) (g : List Key × List (Nat × Nat)), as[j]? = some a → is[j]? = some us → L[j]? = some g → H a = some (.lst (us.map V.ref)) ∧ us.length = g.2.length ∧ ∀ (n : Nat) (u : Addr) (x : Nat × Nat), us[n]? = some u → g.2[n]? = some x → H u = some (.tup [.int (x.1 : Int), .int (x.2 : Int)])
theorem GrH.mono {H1 H H' : Hp} {p : Addr} {L : GrI} {as : List Addr} {is : List (List Addr)} (G : GrH H1 p H L as is) (h : ∀ b o, H b = some o → H' b = some o) : GrH H1 p H' L as is :=
  ⟨G.la, G.li, h _ _ G.at_, G.nd, G.na, G.new, fun j a us g h1 h2 h3 => by
    obtain ⟨i1, i2, i3⟩ := G.lst j a us g h1 h2 h3
    exact ⟨h _ _ i1, i2, fun n u x h4 h5 => h _ _ (i3 n u x h4 h5)⟩⟩
/-- an item more in a group that is there -/
theorem GrH.more {H1 H : Hp} {p t : Addr} {L : GrI} {as : List Addr} {is : List (List Addr)} (G : GrH H1 p H L as is) {k : List Key} {x : Nat × Nat} {j : Nat} {a : Addr} {us : List Addr} (hk : (L.map (·.1))[j]? = some k) (ha : as[j]? = some a) (hu : is[j]? = some us)
    (ht : H t = some (.tup [.int (x.1 : Int), .int (x.2 : Int)])) : GrH H1 p (upd H a (.lst ((us ++ [t]).map V.ref))) (grp L k x) as (is.set j (us ++ [t])) := by
  have mk : k ∈ L.map (·.1) := List.mem_of_getElem? hk
  have eg : grp L k x = L.map fun g => if g.1 = k then (g.1, g.2 ++ [x]) else g := if_pos mk
  have ek : (grp L k x).map (·.1) = L.map (·.1) := by
    rw [eg, List.map_map]
    apply List.map_congr_left
    intro g _
    show (if g.1 = k then (g.1, g.2 ++ [x]) else g).1 = g.1
    split <;> rfl
  obtain ⟨n1, n2⟩ := G.new a (List.mem_of_getElem? ha)
  have la : (grp L k x).length = L.length := by rw [eg, List.length_map]
  refine ⟨G.la.trans la.symm, by rw [List.length_set, la]; exact G.li, by rw [upd_ne n2.symm, ek]; exact G.at_, by rw [ek]; exact G.nd, G.na, G.new, fun j' a' us' g' h1 h2 h3 => ?_⟩
  have key : ∀ {i : Nat}, (L.map (·.1))[i]? = some k → i = j := fun {i} hi => by
    have b1 := (List.getElem?_eq_some_iff.mp hi).1
    have b2 := (List.getElem?_eq_some_iff.mp hk).1
    exact (List.getElem_inj (h₀ := b1) (h₁ := b2) G.nd).mp (Option.some.inj (by rw [← List.getElem?_eq_getElem b1, ← List.getElem?_eq_getElem b2, hi, hk]))
  rw [eg, List.getElem?_map] at h3
  obtain ⟨g, hg, rfl⟩ := Option.map_eq_some_iff.mp h3
  have tup_ne : ∀ {u : Addr} {ys : List V}, H u = some (.tup ys) → u ≠ a := fun {u ys} hu' z => by
    obtain ⟨q, hq⟩ : ∃ q, L[j]? = some q := ⟨_, List.getElem?_eq_getElem (by have := (List.getElem?_eq_some_iff.mp ha).1; rw [← G.la]; exact this)⟩
    have := (G.lst j a us q ha hu hq).1
    rw [z, this] at hu'
    cases hu'
  by_cases hj : j' = j
  · subst hj
    rw [ha] at h1
    cases h1
    rw [List.getElem?_set_self (by rw [G.li, ← G.la]; exact (List.getElem?_eq_some_iff.mp ha).1)] at h2
    cases h2
    have hgk : g.1 = k := by
      rw [List.getElem?_map, hg] at hk
      exact Option.some.inj hk
    rw [if_pos hgk]
    obtain ⟨i1, i2, i3⟩ := G.lst _ a us g ha hu hg
    refine ⟨upd_same, by simp [i2], fun n u y h4 h5 => ?_⟩
    dsimp only at h5
    by_cases hn : n < us.length
    · rw [List.getElem?_append_left hn] at h4
      rw [List.getElem?_append_left (by omega)] at h5
      have := i3 n u y h4 h5
      rw [upd_ne (tup_ne this)]
      exact this
    · rw [List.getElem?_append_right (by omega)] at h4
      rw [List.getElem?_append_right (by omega)] at h5
      have hz : n - us.length = 0 := by
        have := (List.getElem?_eq_some_iff.mp h4).1
        simp at this
        omega
      rw [hz] at h4
      rw [← i2, hz] at h5
      obtain rfl : t = u := Option.some.inj h4
      obtain rfl : x = y := Option.some.inj h5
      rw [upd_ne (tup_ne ht)]
      exact ht
  · rw [List.getElem?_set_ne fun z => hj z.symm] at h2
    have hgk : g.1 ≠ k := fun z => hj (key (i := j') (by rw [List.getElem?_map, hg]; exact congrArg some z))
    rw [if_neg hgk]
    have na : a' ≠ a := fun z => by
      subst z
      have b1 := (List.getElem?_eq_some_iff.mp h1).1
      have b2 := (List.getElem?_eq_some_iff.mp ha).1
      exact hj ((List.getElem_inj (h₀ := b1) (h₁ := b2) G.na).mp (Option.some.inj (by rw [← List.getElem?_eq_getElem b1, ← List.getElem?_eq_getElem b2, h1, ha])))
    obtain ⟨i1, i2, i3⟩ := G.lst j' a' us' g h1 h2 hg
    refine ⟨by rw [upd_ne na]; exact i1, i2, fun n u y h4 h5 => ?_⟩
    have := i3 n u y h4 h5
    rw [upd_ne (tup_ne this)]
    exact this
end DL

namespace DL
open PySem PySem.Spec PyProof PyProof.Rows L2 TK

/-! ### several words attached, one after the other -/
def attW (g : Gr) (W : List (List Nat)) : Gr := W.foldl attG g
structure AtW (g : Gr) (W : List (List Nat)) (k : Gr) : Prop where
  ok : GnOk k
  nd : k.2.Nodup
  le : k.1 ≤ g.1 + (W.map List.length).sum
  el : k.2.length ≤ g.2.length + (W.map List.length).sum
  sub : ∀ e ∈ g.2, e ∈ k.2
  lang : ∀ u, red u → Wlk k.2 0 u 0 → Wlk g.2 0 u 0
  rd : ∀ w ∈ W, ∃ q, Wlk k.2 0 (fold w) q
theorem AtW.start {g : Gr} (N : GnOk g) (nd : g.2.Nodup) : AtW g [] g := ⟨N, nd, Nat.le_add_right _ _, Nat.le_add_right _ _, fun _ h => h, fun _ _ h => h, fun _ h => nomatch h⟩
end DL

/-! dicts whose keys are tuples that hold tuples (below the data layer): a cell of one's own over HO.ext -/
namespace DL
open PySem PySem.Spec PyProof.Rows L2
/-! ### keys -/
mutual
inductive NK (H : Hp) : NestedKey → V → Prop
  | non : NK H .none .non
  | int (i : Int) : NK H (.num i) (.int i)
  | str (z : Str) : NK H (.text z) (.str z)
  | tup {a : Addr} {ks : List NestedKey} {vs : List V} : H a = some (.tup vs) → NKs H ks vs → NK H (.tup ks) (.ref a)
inductive NKs (H : Hp) : List NestedKey → List V → Prop
  | nil : NKs H [] []
  | cons {k : NestedKey} {v : V} {ks : List NestedKey} {vs : List V} : NK H k v → NKs H ks vs → NKs H (k :: ks) (v :: vs)
end
section
variable {P : Program} {w : World} {H H' : Hp} {h : Heap}
mutual
theorem NK.is (ok : HOk P w H h) : ∀ {k : NestedKey} {v : V} {u : Value}, NK H k v → L2.RelV v u → NestedIs h k u
  | _, _, _, .non, r => by
    obtain rfl : _ = Value.none := r
    exact .none
  | _, _, _, .int i, r => by
    obtain ⟨t, rfl⟩ := r
    exact .int i t
  | _, _, _, .str z, r => by
    obtain ⟨t, rfl⟩ := r
    exact .text z t
  | _, _, _, .tup e q, r => by
    obtain rfl : _ = Value.ref _ := r
    obtain ⟨_, us, hv, o, h1, h2, n, h3⟩ := ok _ _ e
    exact .tup h1 h2 h3 (by rw [List.toList_toArray]; exact q.is ok hv)
theorem NKs.is (ok : HOk P w H h) : ∀ {ks : List NestedKey} {vs : List V} {us : List Value}, NKs H ks vs → Vals vs us → NestedAll h ks us
  | _, _, _, .nil, .nil => .nil
  | _, _, _, .cons a b, .cons r s => .cons (a.is ok r) (b.is ok s)
end
mutual
theorem NK.mono (t : ∀ c ys, H c = some (.tup ys) → H' c = some (.tup ys)) : ∀ {k : NestedKey} {v : V}, NK H k v → NK H' k v
  | _, _, .non => .non
  | _, _, .int i => .int i
  | _, _, .str z => .str z
  | _, _, .tup e q => .tup (t _ _ e) (q.mono t)
theorem NKs.mono (t : ∀ c ys, H c = some (.tup ys) → H' c = some (.tup ys)) : ∀ {ks : List NestedKey} {vs : List V}, NKs H ks vs → NKs H' ks vs
  | _, _, .nil => .nil
  | _, _, .cons a b => .cons (a.mono t) (b.mono t)
end
end
/-! ### the cell -/
def KN (H : Hp) : List (NestedKey × V) → List NRow → Prop := Paired fun p q => p.1 = q.1 ∧ NK H p.1 (.ref q.2.1) ∧ p.1.depth ≤ 8 ∧ L2.RelV p.2 q.2.2
/-- at a is a dict that holds kvs -/
def IsN (P : Program) (w : World) (H : Hp) (a : Addr) (kvs : List (NestedKey × V)) : Prop := ∃ xs, H a = some (nestO P w a xs) ∧ KN H kvs xs
section
variable {P : Program} {w : World} {H H' : Hp} {h : Heap} {a : Addr}
def valN (kvs : List (NestedKey × V)) (k : NestedKey) : Option V := (kvs.find? fun x => decide (x.1 = k)).map fun x => x.2
def putN (kvs : List (NestedKey × V)) (k : NestedKey) (v : V) : List (NestedKey × V) := if (kvs.any fun x => decide (x.1 = k)) = true then kvs.map fun x => if x.1 = k then (x.1, v) else x else kvs ++ [(k, v)]
theorem KN.mono (t : ∀ c ys, H c = some (.tup ys) → H' c = some (.tup ys)) : ∀ {kvs : List (NestedKey × V)} {xs : List NRow}, KN H kvs xs → KN H' kvs xs
  | _, _, .nil => .nil
  | _, _, .cons ⟨a, b, c, d⟩ q => .cons ⟨a, b.mono t, c, d⟩ (KN.mono t q)
theorem KN.val (k : NestedKey) : ∀ {kvs : List (NestedKey × V)} {xs : List NRow}, KN H kvs xs → (valN kvs k = none ∧ valueAt (pairsH xs) k = none) ∨ ∃ v u, valN kvs k = some v ∧ valueAt (pairsH xs) k = some u ∧ L2.RelV v u
  | _, _, .nil => .inl ⟨rfl, rfl⟩
  | (k1, v1) :: kvs, (k2, b, u) :: xs, .cons ⟨e, _, _, r⟩ q => by
    obtain rfl : k1 = k2 := e
    by_cases z : k1 = k
    · exact .inr ⟨v1, u, by simp [valN, z], by simp [valueAt, pairsH, z], r⟩
    · rcases KN.val k q with ⟨p1, p2⟩ | ⟨v, u2, p1, p2, p3⟩
      · exact .inl ⟨by simpa [valN, z] using p1, by simpa [valueAt, pairsH, z] using p2⟩
      · exact .inr ⟨v, u2, by simpa [valN, z] using p1, by simpa [valueAt, pairsH, z] using p2, p3⟩
theorem KN.any (k : NestedKey) : ∀ {kvs : List (NestedKey × V)} {xs : List NRow}, KN H kvs xs → (kvs.any fun x => decide (x.1 = k)) = xs.any fun x => decide (x.1 = k)
  | _, _, .nil => rfl
  | (k1, v1) :: kvs, (k2, b, u) :: xs, .cons ⟨e, _, _, r⟩ q => by
    obtain rfl : k1 = k2 := e
    rw [List.any_cons, List.any_cons, KN.any k q]
end
section
variable {X : Cx} {pins : List (Addr × Obj)} {σ : L2.St} {H : Hp} {s : Shared} {a : Addr} {kvs : List (NestedKey × V)}
theorem KN.is {P : Program} {w : World} {h : Heap} (ok : HOk P w H h) : ∀ {kvs : List (NestedKey × V)} {xs : List NRow}, KN H kvs xs → ∀ x ∈ xs, (nestedKind P w).is h x.1 x.2.1
  | _, _, .nil, _, hx => absurd hx List.not_mem_nil
  | _, _, .cons ⟨c1, c2, c3, _⟩ d, x, hx => by
    rcases List.mem_cons.mp hx with z | z
    · subst z
      exact ⟨(c1 ▸ c2).is ok rfl, c1 ▸ c3⟩
    · exact KN.is ok d x z
/-- d.get(k) -/
def rGetN (P : Program) (w : World) : V → List V → Hp → VK → Prop := fun x vs H Q => ∃ a kvs b k, x = .ref a ∧ vs = [.ref b] ∧ IsN P w H a kvs ∧ NK H k (.ref b) ∧ k.depth ≤ 8 ∧ Q ((valN kvs k).getD .non) H
/-- k in d, k not in d -/
def rInN (P : Program) (w : World) : V → V → Hp → (Bool → Hp → Prop) → Prop := fun y x H Q => ∃ a kvs b k, x = .ref a ∧ y = .ref b ∧ IsN P w H a kvs ∧ NK H k (.ref b) ∧ k.depth ≤ 8 ∧ Q (valN kvs k).isSome H
/-- d[k] -/
def rIxN (P : Program) (w : World) : V → V → Hp → VK → Prop := fun x y H Q => ∃ a kvs b k v, x = .ref a ∧ y = .ref b ∧ IsN P w H a kvs ∧ NK H k (.ref b) ∧ k.depth ≤ 8 ∧ valN kvs k = some v ∧ Q v H
/-- {} -/
def tDNewN (P : Program) (w : World) : TE := fun _ H Q => ∀ p, H p = none → Q (.ref p) (upd H p (nestO P w p []))
/-- d[k] = v -/
def tSetN (P : Program) (w : World) : V → V → V → Hp → (Hp → Prop) → Prop := fun o i v H Q => ∃ a kvs b k, o = .ref a ∧ i = .ref b ∧ IsN P w H a kvs ∧ NK H k (.ref b) ∧ k.depth ≤ 8 ∧ kvs.length < sizeLine ∧ ∀ xs, KN H (putN kvs k v) xs → Q (upd H a (nestO P w a xs))
theorem at_any (k : NestedKey) : ∀ xs : List NRow, (atKey xs k).isSome = xs.any fun x => decide (x.1 = k)
  | [] => rfl
  | x :: xs => by
    have ih := at_any k xs
    unfold atKey at ih ⊢
    rw [List.any_cons, ← ih]
    by_cases z : x.1 = k
    · simp [z]
    · simp [List.find?_cons, z]
theorem KN.put {k : NestedKey} {b : Addr} {v : V} {u : Value} (hk : NK H k (.ref b)) (h8 : k.depth ≤ 8) (r : L2.RelV v u) {kvs : List (NestedKey × V)} {xs : List NRow} (q : KN H kvs xs) : KN H (putN kvs k v) (storedH xs k b u) := by
  unfold putN storedH
  rw [q.any k, at_any]
  by_cases h : (xs.any fun x => decide (x.1 = k)) = true
  · rw [if_pos h, if_pos h]
    clear h
    induction q with
    | nil => exact .nil
    | cons c d ih =>
      rename_i x y l1 l2
      obtain ⟨c1, c2, c3, c4⟩ := c
      refine .cons ?_ ih
      unfold putAt
      dsimp only
      by_cases z : x.1 = k
      · rw [if_pos z, if_pos (c1 ▸ z)]
        exact ⟨c1, c2, c3, r⟩
      · rw [if_neg z, if_neg (fun e => z (c1.trans e))]
        exact ⟨c1, c2, c3, c4⟩
  · rw [if_neg h, if_neg h]
    clear h
    induction q with
    | nil => exact .cons ⟨rfl, hk, h8, r⟩ .nil
    | cons c d ih => exact .cons c ih
theorem KN.len : ∀ {kvs : List (NestedKey × V)} {xs : List NRow}, KN H kvs xs → kvs.length = xs.length
  | _, _, .nil => rfl
  | _, _, .cons _ q => by rw [List.length_cons, List.length_cons, KN.len q]
end
end DL

/-! dicts whose keys are tuples that hold tuples or None: the data layer -/
namespace DL
open PySem PySem.Spec PyProof.Rows L2
/-! ### a dict by tuples, asked for any key -/
def nk : Key → NestedKey
  | .inl i => .num i
  | .inr x => .text x
def nkT (ks : List Key) : NestedKey := .tup (ks.map nk)
def valNT (kvs : List (List Key × V)) (k : NestedKey) : Option V := (kvs.find? fun x => decide (nkT x.1 = k)).map fun x => x.2
section
variable {X : Cx} {pins : List (Addr × Obj)} {σ : L2.St} {H : Hp} {s : Shared} {a : Addr}
def liftR (x : List Key × Addr × Value) : NRow := (nkT x.1, x.2.1, x.2.2)
/-- d.get(k) of a dict by tuples, whatever the key's items -/
def tGetNT (td ty : TE) : TE := fun σ H Q => td σ H fun x H1 => ∃ a, x = .ref a ∧ IsD H1 a ∧ ty σ H1 fun y H2 => ∃ kvs b k, Rd H2 a (.dT kvs) ∧ y = .ref b ∧ NK H2 k (.ref b) ∧ k.depth ≤ 8 ∧ Q ((valNT kvs k).getD .non) H2
section
variable {o i e value : Expr} {apos cpos pos pos' : Pos} {td ty tv : TE}
/-! ### the dict of one's own -/
theorem get_mod (h : Heap) (c a : Addr) (ob : Obj) (hf : ob.data ≠ .freed) : (h.update c fun _ => ob).get? a = if c = a ∧ a < h.objs.size then some ob else h.get? a := by
  unfold Heap.update Heap.get?
  dsimp only
  rw [Array.getElem?_modify]
  by_cases e : c = a
  · subst e
    by_cases l : c < h.objs.size
    · rw [if_pos rfl, if_pos ⟨rfl, l⟩, Array.getElem?_eq_getElem l]
      obtain ⟨c1, d1, t1, s1⟩ := ob
      cases t1 <;> first | rfl | exact absurd rfl hf
    · rw [if_pos rfl, if_neg (fun z => l z.2), Array.getElem?_eq_none (Nat.le_of_not_lt l)]
      rfl
  · rw [if_neg e, if_neg (fun z => e z.1)]
theorem n_eq (I : Inv X pins σ H s) {c : Addr} {xs : List NRow} (e : H a = some (nestO X.prog X.w c xs)) : c = a := by
  obtain ⟨ph, ⟨o, ho⟩, st⟩ := I.hok a _ e
  apply Classical.byContradiction
  intro ne
  have p2 := st s.heap (s.heap.update c fun _ => { cls := .none, data := .plain }) ph fun u hu => by
    rw [get_mod _ _ _ _ (fun z => by cases z), if_neg (fun z => ne z.1)]
    exact hu
  obtain ⟨_, _, o1, es1, ep1, g1, _⟩ := ph
  obtain ⟨_, _, o2, es2, ep2, g2, g3, g4, _⟩ := p2
  rw [get_mod _ _ _ _ (fun z => by cases z), if_pos ⟨rfl, Heap.lt_size g1⟩] at g2
  cases g2
  cases g4
/-- at a is a dict that holds kvs (where it says it is, is left open) -/
def IsNo (P : Program) (w : World) (H : Hp) (a : Addr) (kvs : List (NestedKey × V)) : Prop := ∃ c xs, H a = some (nestO P w c xs) ∧ KN H kvs xs
theorem IsNo.is {kvs : List (NestedKey × V)} (I : Inv X pins σ H s) (h : IsNo X.prog X.w H a kvs) : IsN X.prog X.w H a kvs := by
  obtain ⟨c, xs, e, r⟩ := h
  obtain rfl := n_eq I e
  exact ⟨xs, e, r⟩
def tInN (P : Program) (w : World) (f : Bool → Bool) (ty td : TE) : TE := fun σ H Q => ty σ H fun y H1 => td σ H1 fun x H2 => ∃ a kvs b k, x = .ref a ∧ y = .ref b ∧ IsNo P w H2 a kvs ∧ NK H2 k (.ref b) ∧ k.depth ≤ 8 ∧ Q (.bl (f (valN kvs k).isSome)) H2
/-- d[y] = v -/
def sPutN (P : Program) (w : World) (td ty tv : TE) : TS := fun D σ H => tv σ H fun v H1 => td σ H1 fun x H2 => ty σ H2 fun y H3 => ∃ a c xs kvs b k, x = .ref a ∧ y = .ref b ∧ H3 a = some (nestO P w c xs) ∧ KN H3 kvs xs ∧ NK H3 k (.ref b) ∧ k.depth ≤ 8 ∧ kvs.length < sizeLine ∧
  ∀ u, L2.RelV v u → D.nx σ (upd H3 a (nestO P w a (storedH xs k b u)))
end
end
/-! ### data -/
mutual
theorem is_nk {st : Addr} {M : List Addr} {H : Hp} : ∀ {v : V} {d : D} {k : NestedKey}, Is st M H v d → toNK d = some k → NK H k v
  | _, _, _, .non, e => by cases e; exact .non
  | _, _, _, .int i, e => by cases e; exact .int i
  | _, _, _, .str z, e => by cases e; exact .str _
  | _, _, _, .tup h hs, e => by
    unfold toNK at e
    obtain ⟨ks, hk, rfl⟩ := Option.map_eq_some_iff.mp e
    exact .tup h (is_nks hs hk)
  | _, _, _, .obn _, e | _, _, _, .bl _, e | _, _, _, .ty _, e | _, _, _, .stm, e | _, _, _, .cls _, e | _, _, _, .exc _ _ _ _, e | _, _, _, .ptp _ _ _ _, e | _, _, _, .lst _ _ _, e | _, _, _, .dK _ _ _, e | _, _, _, .dT _ _ _, e | _, _, _, .dKx _ _ _ _, e | _, _, _, .dTx _ _ _ _, e => by cases e
theorem is_nks {st : Addr} {M : List Addr} {H : Hp} : ∀ {vs : List V} {ds : List D} {ks : List NestedKey}, Iss st M H vs ds → toNKs ds = some ks → NKs H ks vs
  | _, _, _, .nil, e => by cases e; exact .nil
  | _, _, _, .cons h t, e => by
    unfold toNKs at e
    obtain ⟨k, hk, e⟩ := Option.bind_eq_some_iff.mp e
    obtain ⟨ks, hks, rfl⟩ := Option.map_eq_some_iff.mp e
    exact .cons (is_nk h hk) (is_nks t hks)
end
section
variable {B : Bs} {M M' : List Addr} {H H' H1 : Hp} {σ : L2.St} {env env' : Nv} {nx : Nv → Prop} {rt : D → Prop} {bk ct : Nv → Prop} {t u : TS} {c : TT} {te ta tb td ty tv : TE} {tas : TA} {post : D → Prop} {P : Program} {w : World}
end
end DL

/-! neat graphs: edge ends counted; edges that are folded, told by the number of the moves -/
namespace DL
open PySem PySem.Spec PyProof.Rows L2
section
variable {env : Nv} {post : D → Prop} {ty tx : TE}
/-- d.get(k, x), by whole numbers or texts -/
theorem de_dget2Ki {i : Nat} {kvs : List (Key × V)} (hi : dicK env i kvs) (h : De ty env fun y => De tx env fun z => ∃ k d, toKey y = some k ∧ (match valV kvs k with | some w => toV d = some w | none => d = z) ∧ post d) : De (tDGet2 (tVar i) ty tx) env post := fun B M σ H S Q q => by
  obtain ⟨p, h1, h2, h3⟩ := S.dicK hi
  refine ⟨.ref p, h1, p, rfl, .inl ⟨kvs, .inl h2⟩, h B M σ H S _ fun v H1 d hd S1 e1 i1 => hd B M σ H1 S1 _ fun z H2 dz ⟨k, d', hk, hv, hp⟩ S2 e2 i2 => ?_⟩
  have := is_key i1 hk
  subst this
  have e12 := e1.trans e2
  refine ⟨valV kvs k, .k (e12.1 p _ h3 h2), ?_⟩
  cases hf : valV kvs k with
  | none =>
    rw [hf] at hv
    have hv : d' = dz := hv
    subst hv
    exact q z H2 _ hp S2 e12 i2
  | some w =>
    rw [hf] at hv
    exact q w H2 _ hp S2 e12 (of_flat hv)
end
/-! ### how many edge ends are at a vertex -/
def dgE (es : List Ed) (v : Nat) : Nat := (es.map fun e => (if e.1 = v then 1 else 0) + (if e.2.2 = v then 1 else 0)).sum
theorem dgE_snoc (es : List Ed) (e : Ed) (v : Nat) : dgE (es ++ [e]) v = dgE es v + ((if e.1 = v then 1 else 0) + (if e.2.2 = v then 1 else 0)) := by
  unfold dgE
  rw [List.map_append, List.sum_append]
  simp
/-- the dict of counts f, from 0 on -/
def Cnt (kvs : List (Key × V)) (f : Nat → Nat) : Prop := ∀ v : Nat, valV kvs (.inl (v : Int)) = if f v = 0 then none else some (.int (f v : Nat))
theorem Cnt.nil : Cnt [] fun _ => 0 := fun v => rfl
theorem Cnt.inc {kvs : List (Key × V)} {f : Nat → Nat} (h : Cnt kvs f) (p : Nat) : Cnt (putK kvs (.inl (p : Int)) (.int ((f p + 1 : Nat) : Int))) fun v => f v + if p = v then 1 else 0 := fun v => by
  rw [valV_put]
  by_cases e : p = v
  · subst e
    rw [if_pos rfl]
    show _ = if f p + (if p = p then 1 else 0) = 0 then none else some (V.int ((f p + (if p = p then 1 else 0) : Nat) : Int))
    rw [if_pos rfl, if_neg (by omega)]
  · have : ¬ ((.inl (v : Int) : Key) = .inl (p : Int)) := fun z => e (by have := Sum.inl.inj z; omega)
    rw [if_neg this, h v]
    show _ = if f v + (if p = v then 1 else 0) = 0 then none else some (V.int ((f v + (if p = v then 1 else 0) : Nat) : Int))
    rw [if_neg e]
    rfl
theorem Cnt.get {kvs : List (Key × V)} {f : Nat → Nat} (h : Cnt kvs f) (p : Nat) : match valV kvs (.inl (p : Int)) with | some w => toV (.int (f p : Nat)) = some w | none => D.int (f p : Nat) = .int 0 := by
  rw [h p]
  by_cases e : f p = 0
  · rw [if_pos e, e]
    rfl
  · rw [if_neg e]
    rfl
/-! ### as many moves as twice the edges: folded -/
/-- no two edges with one letter and one start or end -/
def FdP (es : List Ed) : Prop := es.Pairwise fun e f => e.2.1 = f.2.1 → e.1 ≠ f.1 ∧ e.2.2 ≠ f.2.2
theorem putK_len (kvs : List (List Key × V)) (k : List Key) (v : V) : (putK kvs k v).length = kvs.length + if (valV kvs k).isSome = true then 0 else 1 := by
  unfold putK
  rw [valV_any]
  cases (valV kvs k).isSome with
  | true => rw [if_pos rfl, if_pos rfl, List.length_map]; rfl
  | false => rw [if_neg Bool.false_ne_true, if_neg Bool.false_ne_true, List.length_append]; rfl
theorem mvs_has {es : List Ed} {k : List Key} : (valV (mvs es) k).isSome = true ↔ ∃ e ∈ es, kk e.1 e.2.1 = k ∨ kk e.2.2 (sw e.2.1) = k := by
  refine snoc_ind (P := fun es => (valV (mvs es) k).isSome = true ↔ ∃ e ∈ es, kk e.1 e.2.1 = k ∨ kk e.2.2 (sw e.2.1) = k) ?_ ?_ es
  · simp [mvs]
    rfl
  · intro es e ih
    have hm : mvs (es ++ [e]) = put2 (mvs es) e := by
      unfold mvs
      rw [List.foldl_append]
      rfl
    rw [hm]
    unfold put2
    rw [valV_put, valV_put]
    constructor
    · intro h
      by_cases a : k = kk e.2.2 (sw e.2.1)
      · exact ⟨e, by simp, .inr a.symm⟩
      · rw [if_neg a] at h
        by_cases b : k = kk e.1 e.2.1
        · exact ⟨e, by simp, .inl b.symm⟩
        · rw [if_neg b] at h
          obtain ⟨f, hf, h⟩ := ih.mp h
          exact ⟨f, List.mem_append_left _ hf, h⟩
    · rintro ⟨f, hf, h⟩
      by_cases a : k = kk e.2.2 (sw e.2.1)
      · rw [if_pos a]; rfl
      · rw [if_neg a]
        by_cases b : k = kk e.1 e.2.1
        · rw [if_pos b]; rfl
        · rw [if_neg b]
          rcases List.mem_append.mp hf with z | z
          · exact ih.mpr ⟨f, z, h⟩
          · rw [List.mem_singleton.mp z] at h
            rcases h with h | h
            · exact absurd h.symm b
            · exact absurd h.symm a
theorem mvs_two (es : List Ed) : (∀ e ∈ es, e.2.1 ∈ SM) → ((mvs es).length = 2 * es.length ↔ FdP es) := by
  refine snoc_ind (P := fun es : List Ed => (∀ e ∈ es, e.2.1 ∈ SM) → ((mvs es).length = 2 * es.length ↔ FdP es)) ?_ ?_ es
  · intro _
    exact ⟨fun _ => .nil, fun _ => rfl⟩
  · intro es e ih hs
    have ih := ih fun f hf => hs f (List.mem_append_left _ hf)
    have he : e.2.1 ∈ SM := hs e (by simp)
    have hm : mvs (es ++ [e]) = put2 (mvs es) e := by
      unfold mvs
      rw [List.foldl_append]
      rfl
    have le := mvs_len es
    have ne : ¬ kk e.2.2 (sw e.2.1) = kk e.1 e.2.1 := fun z => by
      have h := (kk_inj.mp z).2
      exact SM_sw he (by rw [h]; exact he)
    rw [hm, List.length_append, List.length_singleton]
    unfold put2
    rw [putK_len, putK_len, valV_put, if_neg ne]
    unfold FdP
    rw [List.pairwise_append]
    have key : (valV (mvs es) (kk e.1 e.2.1)).isSome = false ∧ (valV (mvs es) (kk e.2.2 (sw e.2.1))).isSome = false ↔ ∀ f ∈ es, f.2.1 = e.2.1 → f.1 ≠ e.1 ∧ f.2.2 ≠ e.2.2 := by
      rw [← Bool.not_eq_true, ← Bool.not_eq_true, mvs_has, mvs_has]
      constructor
      · rintro ⟨a, b⟩ f hf hl
        refine ⟨fun z => a ⟨f, hf, .inl (kk_inj.mpr ⟨z, hl⟩)⟩, fun z => b ⟨f, hf, .inr (kk_inj.mpr ⟨z, by rw [hl]⟩)⟩⟩
      · intro h
        refine ⟨?_, ?_⟩
        · rintro ⟨f, hf, z | z⟩
          · have := kk_inj.mp z
            exact (h f hf this.2).1 this.1
          · have := kk_inj.mp z
            exact SM_sw (hs f (List.mem_append_left _ hf)) (by rw [this.2]; exact he)
        · rintro ⟨f, hf, z | z⟩
          · have := kk_inj.mp z
            exact SM_sw he (by rw [← this.2]; exact hs f (List.mem_append_left _ hf))
          · have := kk_inj.mp z
            have fs := hs f (List.mem_append_left _ hf)
            have inj : ∀ a ∈ SM, ∀ b ∈ SM, sw a = sw b → a = b := by decide
            exact (h f hf (inj _ fs _ he this.2)).2 this.1
    have rhs : (List.Pairwise (fun e f : Ed => e.2.1 = f.2.1 → e.1 ≠ f.1 ∧ e.2.2 ≠ f.2.2) es ∧ List.Pairwise (fun e f : Ed => e.2.1 = f.2.1 → e.1 ≠ f.1 ∧ e.2.2 ≠ f.2.2) [e] ∧ ∀ a ∈ es, ∀ b ∈ [e], a.2.1 = b.2.1 → a.1 ≠ b.1 ∧ a.2.2 ≠ b.2.2) ↔ FdP es ∧ ∀ f ∈ es, f.2.1 = e.2.1 → f.1 ≠ e.1 ∧ f.2.2 ≠ e.2.2 := by
      constructor
      · rintro ⟨a, _, b⟩
        exact ⟨a, fun f hf => b f hf e (by simp)⟩
      · rintro ⟨a, b⟩
        exact ⟨a, by simp, fun f hf g hg => by rw [List.mem_singleton.mp hg]; exact b f hf⟩
    rw [rhs, ← key, ← ih]
    cases (valV (mvs es) (kk e.1 e.2.1)).isSome <;> cases (valV (mvs es) (kk e.2.2 (sw e.2.1))).isSome <;> simp <;> omega
theorem FdP.nd {es : List Ed} (h : FdP es) : es.Nodup := h.imp fun {e f} hef z => (hef (by rw [z])).1 (by rw [z])
theorem FdP.fld {es : List Ed} (h : FdP es) (hs : ∀ e ∈ es, e.2.1 ∈ SM) : Fld es := by
  have key : ∀ e ∈ es, ∀ f ∈ es, e.2.1 = f.2.1 → (e.1 = f.1 ∨ e.2.2 = f.2.2) → e = f := fun e he f hf hl hor => by
    obtain ⟨i, hi⟩ := List.mem_iff_getElem?.mp he
    obtain ⟨j, hj⟩ := List.mem_iff_getElem?.mp hf
    obtain ⟨il, hi⟩ := List.getElem?_eq_some_iff.mp hi
    obtain ⟨jl, hj⟩ := List.getElem?_eq_some_iff.mp hj
    rcases Nat.lt_trichotomy i j with z | z | z
    · have := List.pairwise_iff_getElem.mp h i j il jl z (by rw [hi, hj]; exact hl)
      rw [hi, hj] at this
      exact (hor.elim this.1 this.2).elim
    · subst z
      rw [← hi, ← hj]
    · have := List.pairwise_iff_getElem.mp h j i jl il z (by rw [hi, hj]; exact hl.symm)
      rw [hi, hj] at this
      exact (hor.elim (fun q => this.1 q.symm) fun q => this.2 q.symm).elim
  exact ⟨hs, fun e he f hf hl hst => by rw [key e he f hf hl (.inl hst)], fun e he f hf hl hst => by rw [key e he f hf hl (.inr hst)]⟩
theorem FdP.of {es : List Ed} (F : Fld es) (nd : es.Nodup) : FdP es := by
  refine List.pairwise_iff_getElem.mpr fun i j il jl z hl => ?_
  have ne : es[i] ≠ es[j] := fun q => by
    have := (List.getElem_inj nd).mp q
    omega
  have mi := List.getElem_mem il
  have mj := List.getElem_mem jl
  refine ⟨fun q => ne ?_, fun q => ne ?_⟩
  · have := F.fwd _ mi _ mj hl q
    exact Prod.ext q (Prod.ext hl this)
  · have := F.bwd _ mi _ mj hl q
    exact Prod.ext this (Prod.ext hl q)
end DL

/-! sorted(t), t a tuple of tuples of ints and texts -/
namespace TK
open PySem PySem.Spec PyProof PyProof.Rows L2
section
variable {prog : Program} {w : World} {A : Around} {E : Value → Shared → Prop} {s : Shared}
open Calls in
theorem srt_tupT {shape : Nat → Bool} {a : Addr} {vs fs : List Value} {Q : Value → Shared → Prop} (ha : s.heap.IsTuple a vs.toArray) (ht : TupsOf s.heap shape vs fs) (hk : ∀ v, v ∈ vs → ∃ l, G.tupKeyC s.heap shape v = some l) (hz : vs.length ≤ sizeLine)
    (h : ∀ st' : SortSt, (arrOf st').Perm (pairsOf vs) → SortedToK (G.tupKindC s.heap shape) (arrOf st') (pairsOf vs).size → Stable (G.tupKindC s.heap shape) (arrOf st') (pairsOf vs) →
      Q (.ref (s.heap.objs.size + 1)) { s with heap := sortedAll s.heap vs ((arrOf st').map (·.2)) }) :
    wpAny (model prog w) A (call (.builtin "sorted") [.ref a]) Q E s := by
  refine Calls.call_function_entry kind_sorted plain_sorted entry_sorted (args_sorted1 _) ?_
  unfold Builtin.«sorted»
  refine wpAny_bind (m := checkCount "sorted" 1 1 _) (wpAny_pure (wpAny_bind (DL.collect_tup ha hz (wpAny_bind (wpAny_newList ?_ hz)))))
  have z1 : ((s.heap.push (seqObj "list" #[] 0)).update s.heap.objs.size (Obj.mapSeq (· ++ vs.toArray))).objs.size = s.heap.objs.size + 1 := by
    rw [Heap.size_update, Heap.size_push]
  have n1 := Heap.get?_push_size ((s.heap.push (seqObj "list" #[] 0)).update s.heap.objs.size (Obj.mapSeq (· ++ vs.toArray))) (o := seqObj "list" vs.toArray 0) rfl
  rw [z1] at n1
  have hnew : (s.heap.push (seqObj "list" #[] 0)).get? s.heap.objs.size = some (seqObj "list" #[] 0) := Heap.get?_push_size _ rfl
  have k0 := ((G.KeepsTups.push s.heap (seqObj "list" #[] 0)).trans (G.KeepsTups.update (Obj.mapSeq (· ++ vs.toArray)) hnew G.not_tuple_list)).trans (G.KeepsTups.push _ (seqObj "list" vs.toArray 0))
  have k6 := k0.trans (G.keeps_sort6 (vs := vs) n1)
  show wpAny _ _ _ _ _ { s with heap := ((s.heap.push (seqObj "list" #[] 0)).update s.heap.objs.size (Obj.mapSeq (· ++ vs.toArray))).push (seqObj "list" vs.toArray 0) }
  rw [z1]
  refine wpAny_bind (wpAny_holding (wpAny_call_entry slot_list_sort ⟨_, n1, rfl⟩ entry_list_sort (G.list_sort_treeG (κ := G.tupKindC s.heap shape) n1 (G.tupKeys hk) (G.tupC_ltAt true k6) (fun h2 R hq => ?_) hz fun st' a1 a2 a3 => ⟨_, rfl, wpAny_pure ⟨_, rfl, h st' a1 a2 a3⟩⟩) (args_list_sort _)))
  exact tup_kind (by rw [G.TupsOf.length ht]; omega) (G.TupsOf.keep k6 ht) hq
end
def rSrtT (shape : Nat → Bool) (K : PySem.W.Frag) : List V → Hp → VK → Prop := fun vs H Q => ∃ (l : Addr) (rows : List Rw), vs = [V.ref l] ∧ SqT K H l (rows.map fun r => V.ref r.1) ∧ (∀ r ∈ rows, H r.1 = some (.tup (r.2.map kV)) ∧ fitK shape 0 r.2 = true ∧ r.2 ≠ []) ∧
  ∀ (p : Addr) (rows2 : List Rw), rows2.Perm rows → rows2.Pairwise (fun q r => leK q.2 r.2 = true) → H p = none → Q (.ref p) (upd H p (.lst (rows2.map fun r => V.ref r.1)))
theorem cr_srtT {X : Cx} {shape : Nat → Bool} : CallR X (.builtin "sorted") (rSrtT shape X.K) := fun pins s σ H vs us Q I r ⟨l, rows, e, hl, hr, q⟩ => by
  subst e
  rw [Vals.ref1 r]
  obtain ⟨its, rv, pl, hz⟩ := I.tuple hl
  have ei := refs_only rv
  subst ei
  have len : (rows.map fun r => V.ref r.1).length = rows.length := List.length_map _
  have each : ∀ r ∈ rows, IsTupleKey (mixKind X.prog X.w) s.heap r.2 r.1 ∧ fitK shape 0 r.2 = true ∧ r.2 ≠ [] := fun r hm => ⟨keyAt I (hr r hm).1, (hr r hm).2⟩
  obtain ⟨fs, ht⟩ := tupsOf_at each
  have keys : ∀ v ∈ rows.map (fun r => Value.ref r.1), ∃ k, G.tupKeyC s.heap shape v = some k := fun v hv => by
    obtain ⟨r, hm, rfl⟩ := List.mem_map.mp hv
    exact ⟨_, tupKey_at (each r hm).1 (each r hm).2.1⟩
  refine srt_tupT (shape := shape) (vs := rows.map fun r => Value.ref r.1) (let ⟨o, a, b, c⟩ := pl; ⟨o, a, b, c⟩) ht keys (by rw [List.length_map]; rw [len] at hz; exact hz) fun st' a1 a2 a3 => ?_
  have out := PySem.W.sort_out (rev := false) (G.tupKeys keys) a1 a2 a3
  simp only [Bool.false_eq_true, if_false] at out
  have srt := PySem.W.sortVals_each (κ := G.tupKindC s.heap shape) (rev := false) (R := fun v (r : Rw) => v = Value.ref r.1) (fun r => r.2.map tokK) (each_ref (l := rows) fun r _ => rfl) (each_ref (l := rows) fun r hm => tupKey_at (each r hm).1 (each r hm).2.1)
  have ord := PySem.W.sort_pairwise (PySem.W.sortLe_total (listOrd itemOrd) false fun r : Rw => r.2.map tokK) rows
  have pmL := List.mergeSort_perm rows (PySem.W.sortLe (listOrd itemOrd) false fun r : Rw => r.2.map tokK)
  generalize rows.mergeSort (PySem.W.sortLe (listOrd itemOrd) false fun r : Rw => r.2.map tokK) = L' at srt ord pmL
  have outL : ((arrOf st').map (·.2)).toList = L'.map fun r => Value.ref r.1 := by
    rw [out]
    generalize PySem.W.sortVals _ _ _ _ = ws at srt
    clear out ord pmL
    induction srt with
    | nil => rfl
    | cons e _ ih => rw [List.map_cons, e, ih]
  obtain ⟨ep, he⟩ := PyProof.Rows.sortedAll_at s.heap (rows.map fun r => Value.ref r.1) ((arrOf st').map (·.2))
  have vL := refs_vals L'
  rw [← outL] at vL
  exact ⟨.ref _, upd H (s.heap.objs.size + 1) (.lst (L'.map fun r => V.ref r.1)), I.laid (t' := s.toks) (fun _ _ => PyProof.Rows.sortedAll_old) (Nat.le_succ _) ⟨by rw [List.length_map, pmL.length_eq]; rw [len] at hz; exact hz, _, ep, vL, he⟩, rfl,
    q _ L' pmL ord (I.hok.fresh (Nat.le_succ _))⟩
end TK
namespace DL
open PySem PySem.Spec PyProof.Rows L2 TK
section
variable {K : PySem.W.Frag} {post : D → Prop}
/-- sorted(t), t a tuple of tuples -/
theorem dcl_srtT {shape : Nat → Bool} {kss : List (List Key)} (hf : ∀ ks ∈ kss, fitK shape 0 ks = true ∧ ks ≠ []) (h : ∀ kss2 : List (List Key), kss2.Perm kss → kss2.Pairwise (fun a b => leK a b = true) → post (.lst (kss2.map tkD))) :
    Dcl (rSrtT shape K) [.tup (kss.map tkD)] post := fun st M H vs hst hM trk iv Q q => by
  cases iv with
  | cons a r =>
    cases r
    obtain ⟨l, us, rfl, hl, hs⟩ := is_tup a
    obtain ⟨rows, rfl, e2, e3⟩ := rows_of hs
    refine ⟨l, rows, rfl, .of hl, fun r hr => ⟨e3 r hr, hf r.2 (by rw [← e2]; exact List.mem_map.mpr ⟨r, hr, rfl⟩)⟩, fun p rows2 pm pw hp => ?_⟩
    have fin := h (rows2.map Prod.snd) (by rw [← e2]; exact pm.map _) (List.pairwise_map.mpr pw)
    rw [List.map_map] at fin
    refine q _ _ _ fin (Fx.new hp) (.lst (fun z => ?_) upd_same ?_)
    · obtain ⟨o, ho⟩ := trk _ z
      rw [hp] at ho
      cases ho
    · have each : ∀ rs : List Rw, (∀ r ∈ rs, H r.1 = some (.tup (r.2.map kV))) → Iss st M (upd H p (.lst (rows2.map fun r => V.ref r.1))) (rs.map fun r => V.ref r.1) (rs.map (tkD ∘ Prod.snd)) := by
        intro rs
        induction rs with
        | nil => exact fun _ => .nil
        | cons r rs ih =>
          intro hr
          have a1 := hr r List.mem_cons_self
          exact .cons (.tup (by rw [upd_ne (fun z => by rw [z, hp] at a1; cases a1)]; exact a1) (iss_kd r.2)) (ih fun z hz => hr z (List.mem_cons_of_mem _ hz))
      exact each rows2 fun r hr => e3 r (pm.mem_iff.mp hr)
end
end DL

/-! the order of edges -/
namespace DL
open PySem PySem.Spec PyProof.Rows PyProof.Rows.G L2 TK
def ltE (e f : Ed) : Bool := PyProof.Rows.lexLt itemOrd ((edK e).map tokK) ((edK f).map tokK)
theorem lex_one {p q : Int ⊕ List Nat} {l m l' m' : List (Int ⊕ List Nat)} (h : p = q → PyProof.Rows.lexLt itemOrd l m = PyProof.Rows.lexLt itemOrd l' m') : PyProof.Rows.lexLt itemOrd (p :: l) (q :: m) = PyProof.Rows.lexLt itemOrd (p :: l') (q :: m') := by
  by_cases e : p = q
  · subst e
    rw [lex_self (O := itemOrd), lex_self (O := itemOrd)]
    exact h rfl
  · rw [PySem.W.lex_atom e l m, PySem.W.lex_atom e l' m']
theorem lt_ed (e f : Ed) : PySem.W.dataLt (pyD (edD e)) (pyD (edD f)) = ltE e f := by
  unfold PySem.W.dataLt ltE
  have k : ∀ g : Ed, PySem.W.keyToks (pyD (edD g)) = [.inl 1, .inl (g.1 : Int), .inl 1, .inr [g.2.1], .inl 1, .inl (g.2.2 : Int), .inl 0] := fun g => rfl
  have k2 : ∀ g : Ed, (edK g).map tokK = [.inl (g.1 : Int), .inr [g.2.1], .inl (g.2.2 : Int)] := fun g => rfl
  rw [k, k, k2, k2, lex_self (O := itemOrd)]
  refine lex_one fun _ => ?_
  rw [lex_self (O := itemOrd)]
  refine lex_one fun _ => ?_
  rw [lex_self (O := itemOrd)]
  refine lex_one fun _ => ?_
  rw [lex_self (O := itemOrd)]
theorem alike_ed (e f : Ed) : PySem.W.alike (pyD (edD e)) (pyD (edD f)) = true := rfl
theorem ltE_irr (e : Ed) : ltE e e = false := lex_irrefl (O := itemOrd) _
theorem ltE_trans {e f g : Ed} (h : ltE e f = true) (k : ltE f g = true) : ltE e g = true := PyProof.Rows.lex_trans (O := itemOrd) _ _ _ h k
theorem ltE_asym {e f : Ed} (h : ltE e f = true) : ltE f e = false := by
  cases k : ltE f e with
  | false => rfl
  | true =>
    have := ltE_trans h k
    rw [ltE_irr] at this
    cases this
theorem ltE_tot {e f : Ed} (h : ltE e f = false) (k : ltE f e = false) : e = f := tok_inj (lex_total (O := itemOrd) _ _ h k)
theorem leK_ed (e f : Ed) : leK (edK e) (edK f) = !ltE f e := rfl
/-- one behind the other, strictly -/
def AscE (es : List Ed) : Prop := es.Pairwise fun e f => ltE e f = true
theorem ascE_iff {es : List Ed} : AscE es ↔ srtE es = es ∧ es.Nodup := by
  constructor
  · intro h
    refine ⟨?_, h.imp fun {e f} hl z => by rw [z, ltE_irr] at hl; cases hl⟩
    have pw : (es.map edK).Pairwise fun a b => leK a b = true := List.pairwise_map.mpr (h.imp fun {e f} hl => by rw [leK_ed, ltE_asym hl]; rfl)
    have := srtE_only (List.Perm.refl _) pw
    have inj : ∀ {a b : List Ed}, a.map edK = b.map edK → a = b := by
      intro a
      induction a with
      | nil => intro b hb; cases b with
        | nil => rfl
        | cons x b => cases hb
      | cons x a ih => intro b hb; cases b with
        | nil => cases hb
        | cons y b =>
          rw [List.map_cons, List.map_cons] at hb
          injection hb with p q
          rw [edK_inj p, ih q]
    exact (inj this).symm
  · rintro ⟨h, nd⟩
    have pw3 := PySem.W.sort_pairwise (PySem.W.sortLe_total (listOrd itemOrd) false fun e : Ed => (edK e).map tokK) es
    have pw : es.Pairwise fun e f => leK (edK e) (edK f) = true := by
      have : (srtE es).Pairwise fun e f => leK (edK e) (edK f) = true := pw3
      rwa [h] at this
    refine (pw.and nd).imp fun {e f} ⟨a, b⟩ => ?_
    cases k : ltE e f with
    | true => rfl
    | false =>
      rw [leK_ed] at a
      have a : ltE f e = false := by simpa using a
      exact absurd (ltE_tot k a) b
theorem ascE_step {es : List Ed} (h : ∀ i e f, es[i]? = some e → es[i + 1]? = some f → ltE e f = true) : AscE es := by
  induction es with
  | nil => exact .nil
  | cons x es ih =>
    have hp := ih fun i e f he hf => h (i + 1) e f he hf
    refine List.pairwise_cons.mpr ⟨?_, hp⟩
    cases es with
    | nil => exact fun _ z => (nomatch z)
    | cons y es =>
      have xy := h 0 x y rfl rfl
      intro z hz
      rcases List.mem_cons.mp hz with rfl | hz
      · exact xy
      · exact ltE_trans xy ((List.pairwise_cons.mp hp).1 z hz)
theorem ascE_at {es : List Ed} (h : AscE es) {i : Nat} {e f : Ed} (he : es[i]? = some e) (hf : es[i + 1]? = some f) : ltE e f = true := by
  obtain ⟨il, he⟩ := List.getElem?_eq_some_iff.mp he
  obtain ⟨jl, hf⟩ := List.getElem?_eq_some_iff.mp hf
  have := List.pairwise_iff_getElem.mp h i (i + 1) il jl (by omega)
  rwa [he, hf] at this
end DL

theorem Law.lit_0 : (PySem.Str.ofString "rank").cps.toList = [114, 97, 110, 107] := by decide +kernel
theorem Law.lit_1 : (PySem.Str.ofString "").cps.toList = [] := by decide +kernel
theorem Law.lit_2 : (PySem.Str.ofString "abc").cps.toList = [97, 98, 99] := by decide +kernel
theorem Law.lit_3 : (PySem.Str.ofString "x").cps.toList = [120] := by decide +kernel
theorem Law.lit_4 : (PySem.Str.ofString "aAbBcC").cps.toList = [97, 65, 98, 66, 99, 67] := by decide +kernel
theorem Law.lit_5 : (PySem.Str.ofString "family").cps.toList = [102, 97, 109, 105, 108, 121] := by decide +kernel
theorem Law.lit_6 : (PySem.Str.ofString "a").cps.toList = [97] := by decide +kernel
theorem Law.lit_7 : (PySem.Str.ofString "b").cps.toList = [98] := by decide +kernel
theorem Law.lit_8 : (PySem.Str.ofString "c").cps.toList = [99] := by decide +kernel
theorem Law.lit_9 : (PySem.Str.ofString "1").cps.toList = [49] := by decide +kernel
local macro_rules | `(tactic| walk_at "str") => `(tactic| refine DL.de_str ?_)
local macro_rules | `(tactic| walk_at "str") => `(tactic| refine DL.de_strL Law.lit_9 ?_)
local macro_rules | `(tactic| walk_at "str") => `(tactic| refine DL.de_strL Law.lit_8 ?_)
local macro_rules | `(tactic| walk_at "str") => `(tactic| refine DL.de_strL Law.lit_7 ?_)
local macro_rules | `(tactic| walk_at "str") => `(tactic| refine DL.de_strL Law.lit_6 ?_)
local macro_rules | `(tactic| walk_at "str") => `(tactic| refine DL.de_strL Law.lit_5 ?_)
local macro_rules | `(tactic| walk_at "str") => `(tactic| refine DL.de_strL Law.lit_4 ?_)
local macro_rules | `(tactic| walk_at "str") => `(tactic| refine DL.de_strL Law.lit_3 ?_)
local macro_rules | `(tactic| walk_at "str") => `(tactic| refine DL.de_strL Law.lit_2 ?_)
local macro_rules | `(tactic| walk_at "str") => `(tactic| refine DL.de_strL Law.lit_1 ?_)
local macro_rules | `(tactic| walk_at "str") => `(tactic| refine DL.de_strL Law.lit_0 ?_)

local macro_rules | `(tactic| walk_at "cm") => `(tactic| first | exact Or.inl ⟨by omega, by omega⟩ | exact Or.inr ⟨by omega, by omega⟩)
local macro_rules | `(tactic| walk_at "sz") => `(tactic| first | omega | (simp only [List.length_cons, List.length_nil, List.length_append, List.length_map, List.length_take, List.length_drop, List.length_reverse]; omega) | (simp only [List.length_cons, List.length_nil, List.length_append, List.length_map, List.length_reverse] at *; omega))
local macro_rules | `(tactic| walk_at "de") => `(tactic| (dsimp only [List.set]))
local macro_rules | `(tactic| walk_at "de") => `(tactic| ((with_reducible show ∃ b, DL.D.int _ = DL.D.int b ∧ _); refine ⟨_, rfl, ?_⟩))
local macro_rules | `(tactic| walk_at "de") => `(tactic| ((with_reducible show ∃ b, DL.D.bl _ = DL.D.bl b ∧ _); refine ⟨_, rfl, ?_⟩))
local macro_rules | `(tactic| walk_at "de") => `(tactic| ((with_reducible show ite (_ = true) _ _); first | refine L2.iteT ?_ | refine L2.iteF ?_))
local macro_rules | `(tactic| walk_at "de") => `(tactic| ((with_reducible show List.length [] ≤ 1000000 ∧ _); refine ⟨by walk_at "sz", ?_⟩))
local macro_rules | `(tactic| walk_at "de") => `(tactic| ((with_reducible show List.length (_ :: _) ≤ 1000000 ∧ _); refine ⟨by walk_at "sz", ?_⟩))
local macro_rules | `(tactic| walk_at "de") => `(tactic| ((with_reducible show DL.Dop L2.rCat (.lst _) (.lst _) _); refine DL.dop_catl (by walk_at "sz") ?_))
local macro_rules | `(tactic| walk_at "de") => `(tactic| ((with_reducible show DL.Dop (L2.rRepT _) (.tup _) (.int _) _); refine DL.dop_rept (by omega) (by omega) (by walk_at "sz") (by simp) ?_))
local macro_rules | `(tactic| walk_at "de") => `(tactic| ((with_reducible show DL.Dop DL.rMulS (.str _) (.int _) _); refine DL.dop_muls (by omega) (by omega) (by walk_at "sz") ?_))
local macro_rules | `(tactic| walk_at "de") => `(tactic| ((with_reducible show DL.Dsl L2.rSlS (.str _) _ _ _); first | refine DL.dsl_str_to (by walk_at "sz") (by omega) ?_ | refine DL.dsl_str_from (by walk_at "sz") (by omega) ?_ | refine DL.dsl_str_mid (by walk_at "sz") (by omega) (by omega) ?_ | refine DL.dsl_str (by walk_at "sz") ?_))
local macro_rules | `(tactic| walk_at "de") => `(tactic| ((with_reducible show DL.Dsl (L2.rSlA _) (.tup _) _ _ _); first | refine DL.dsl_tup_to (by omega) ?_ | refine DL.dsl_tup_from (by omega) ?_ | refine DL.dsl_tup_mid (by omega) (by omega) ?_ | refine DL.dsl_tup ?_))
local macro_rules | `(tactic| walk_at "de") => `(tactic| ((with_reducible show DL.Dop (L2.rCatA _) (.tup _) (.tup _) _); refine DL.dop_catt (by walk_at "sz") ?_))
local macro_rules | `(tactic| walk_at "de") => `(tactic| ((with_reducible show DL.Dop DL.rAddS (.str _) (.str _) _); refine DL.dop_adds (by walk_at "sz") ?_))
local macro_rules | `(tactic| walk_at "de") => `(tactic| ((with_reducible show DL.Dcl (DL.rLen _) _ _); refine DL.dcl_len rfl (by walk_at "sz") ?_))
local macro_rules | `(tactic| walk_at "de") => `(tactic| ((with_reducible show DL.Dcl (DL.rTupOfF _) _ _); refine DL.dcl_tupofF ?_))
local macro_rules | `(tactic| walk_at "de") => `(tactic| ((with_reducible show DL.Dcl (DL.rTupOf _) _ _); first | refine DL.dcl_tupof (fun _ z => nomatch z) rfl ?_ | refine DL.dcl_tupof (by intro ds z; cases z) rfl ?_))
local macro_rules | `(tactic| walk_at "de") => `(tactic| ((with_reducible show DL.Dcl (DL.rListOf _) _ _); refine DL.dcl_listof rfl ?_))
local macro_rules | `(tactic| walk_at "de") => `(tactic| ((with_reducible show DL.Dcl (DL.rIsiD _) [_, .ty _] _); first | refine DL.dcl_isib true (by first | rfl | assumption) (by simp) rfl ?_ | refine DL.dcl_isib false (by first | rfl | assumption) (by simp) rfl ?_))
local macro_rules | `(tactic| walk_at "de") => `(tactic| ((with_reducible show DL.Dcl DL.rInt [.bl _] _); refine DL.dcl_intb ?_))
local macro_rules | `(tactic| walk_at "de") => `(tactic| ((with_reducible show DL.Dcl DL.rInt [.int _] _); refine DL.dcl_int ?_))
local macro_rules | `(tactic| walk_at "de") => `(tactic| ((with_reducible show DL.Dcl DL.rAbs _ _); refine DL.dcl_abs ?_))
local macro_rules | `(tactic| walk_at "de") => `(tactic| ((with_reducible show DL.Dun (L2.rU _) (.int _) _); refine DL.dun_i ?_))
local macro_rules | `(tactic| walk_at "de") => `(tactic| ((with_reducible show DL.Dop (L2.rI L2.CMul _) _ _ _); refine DL.dop_i (by walk_at "cm") ?_))
local macro_rules | `(tactic| walk_at "de") => `(tactic| ((with_reducible show DL.Dop DL.rNotN _ .non _); refine DL.dop_notN ?_))
local macro_rules | `(tactic| walk_at "de") => `(tactic| ((with_reducible show DL.Dop DL.rIsN _ .non _); refine DL.dop_isN ?_))
local macro_rules | `(tactic| walk_at "de") => `(tactic| ((with_reducible show DL.Dop L2.rNotB (.bl _) (.bl _) _); refine DL.dop_notB ?_))
local macro_rules | `(tactic| walk_at "de") => `(tactic| ((with_reducible show DL.Dop L2.rIsB (.bl _) (.bl _) _); refine DL.dop_isB ?_))
local macro_rules | `(tactic| walk_at "de") => `(tactic| ((with_reducible show DL.Dop L2.rNe (.str _) (.str _) _); refine DL.dop_nes ?_))
local macro_rules | `(tactic| walk_at "de") => `(tactic| ((with_reducible show DL.Dop L2.rNe (.int _) (.int _) _); refine DL.dop_nei ?_))
local macro_rules | `(tactic| walk_at "de") => `(tactic| ((with_reducible show DL.Dop L2.rEq (.bl _) (.bl _) _); refine DL.dop_eqb ?_))
local macro_rules | `(tactic| walk_at "de") => `(tactic| ((with_reducible show DL.Dop L2.rEq (.str _) (.str _) _); refine DL.dop_eqs ?_))
local macro_rules | `(tactic| walk_at "de") => `(tactic| ((with_reducible show DL.Dop L2.rEq (.int _) (.int _) _); refine DL.dop_eqi ?_))
local macro_rules | `(tactic| walk_at "de") => `(tactic| ((with_reducible show DL.Dop (L2.rI0 _) (.int _) (.int _) _); first | refine DL.dop_i0 ?_ | refine DL.dop_b0 ?_))
local macro_rules | `(tactic| walk_at "de") => `(tactic| ((with_reducible show DL.Dt (DL.tTruD _ _) _ _); refine DL.dt_tru ?_))
local macro_rules | `(tactic| walk_at "de") => `(tactic| ((with_reducible show DL.Dt L2.tYes _ _); refine DL.dt_yes ?_))
local macro_rules | `(tactic| walk_at "de") => `(tactic| ((with_reducible show DL.Dt (L2.tNot _) _ _); refine DL.dt_not ?_))
local macro_rules | `(tactic| walk_at "de") => `(tactic| ((with_reducible show DL.Dt (L2.tOr _ _) _ _); refine DL.dt_or ?_))
local macro_rules | `(tactic| walk_at "de") => `(tactic| ((with_reducible show DL.Dt (L2.tAnd _ _) _ _); refine DL.dt_and ?_))
local macro_rules | `(tactic| walk_at "de") => `(tactic| ((with_reducible show DL.Dt (L2.tB _) _ _); refine DL.dt_B ?_))
local macro_rules | `(tactic| walk_at "de") => `(tactic| ((with_reducible show DL.Dt (L2.tTest _) _ _); refine DL.dt_test ?_))
local macro_rules | `(tactic| walk_at "de") => `(tactic| ((with_reducible show DL.Do (L2.tPart _) _ _); refine DL.do_part ?_))
local macro_rules | `(tactic| walk_at "de") => `(tactic| ((with_reducible show DL.Do L2.tNoPart _ _); refine DL.do_none ?_))
local macro_rules | `(tactic| walk_at "de") => `(tactic| ((with_reducible show DL.Da (L2.tCons _ _) _ _); refine DL.da_cons ?_))
local macro_rules | `(tactic| walk_at "de") => `(tactic| ((with_reducible show DL.Da L2.tNil _ _); refine DL.da_nil ?_))
local macro_rules | `(tactic| walk_at "de") => `(tactic| ((with_reducible show DL.De (L2.tSl _ _ _ _) _ _); refine DL.de_sl ?_))
local macro_rules | `(tactic| walk_at "de") => `(tactic| ((with_reducible show DL.De (DL.tRevS _) _ _); refine DL.de_revS ?_))
local macro_rules | `(tactic| walk_at "de") => `(tactic| ((with_reducible show DL.De (L2.tBM0 _ _ _ _) _ _); refine DL.de_bm0 ?_))
local macro_rules | `(tactic| walk_at "de") => `(tactic| ((with_reducible show DL.De (L2.tBM _ _ _ _ _) _ _); refine DL.de_bm ?_))
local macro_rules | `(tactic| walk_at "de") => `(tactic| ((with_reducible show DL.De (L2.tIf _ _ _) _ _); refine DL.de_if ?_))
local macro_rules | `(tactic| walk_at "de") => `(tactic| ((with_reducible show DL.De (L2.tNotV _) _ _); refine DL.de_notV ?_))
local macro_rules | `(tactic| walk_at "de") => `(tactic| ((with_reducible show DL.De (L2.tOrV _ _) _ _); refine DL.de_orV ?_))
local macro_rules | `(tactic| walk_at "de") => `(tactic| ((with_reducible show DL.De (L2.tAndV _ _) _ _); refine DL.de_andV ?_))
local macro_rules | `(tactic| walk_at "de") => `(tactic| ((with_reducible show DL.De (L2.tChain _ _ _ _ _) _ _); refine DL.de_chain ?_))
local macro_rules | `(tactic| walk_at "de") => `(tactic| ((with_reducible show DL.De (L2.tCall (DL.PF _) _ _ _) _ _); refine DL.de_call ?_))
local macro_rules | `(tactic| walk_at "de") => `(tactic| ((with_reducible show DL.De (L2.tLst _) _ _); refine DL.de_lst ?_))
local macro_rules | `(tactic| walk_at "de") => `(tactic| ((with_reducible show DL.De (L2.tTup _) _ _); refine DL.de_tup ?_))
local macro_rules | `(tactic| walk_at "de") => `(tactic| ((with_reducible show DL.De (L2.tCB _ _) _ _); refine DL.de_cb ?_))
local macro_rules | `(tactic| walk_at "de") => `(tactic| ((with_reducible show DL.De (L2.tUn _ _) _ _); refine DL.de_un ?_))
local macro_rules | `(tactic| walk_at "de") => `(tactic| ((with_reducible show DL.De (L2.tOp _ _ _) _ _); refine DL.de_op ?_))
local macro_rules | `(tactic| walk_at "de") => `(tactic| ((with_reducible show DL.De (L2.tC (.ty _)) _ _); refine DL.de_ty ?_))
local macro_rules | `(tactic| walk_at "de") => `(tactic| ((with_reducible show DL.De (L2.tC .non) _ _); refine DL.de_non ?_))
local macro_rules | `(tactic| walk_at "de") => `(tactic| ((with_reducible show DL.De (L2.tC (.str _)) _ _); walk_at "str"))
local macro_rules | `(tactic| walk_at "de") => `(tactic| ((with_reducible show DL.De (L2.tC (.bl _)) _ _); refine DL.de_bl ?_))
local macro_rules | `(tactic| walk_at "de") => `(tactic| ((with_reducible show DL.De (L2.tC (.int _)) _ _); refine DL.de_int ?_))
local macro_rules | `(tactic| walk_at "de") => `(tactic| ((with_reducible show DL.De (L2.tVar _) _ _); refine DL.de_var rfl ?_))
local macro_rules | `(tactic| walk_at "dl") => `(tactic| walk_at "de")
local macro_rules | `(tactic| walk_at "dl") => `(tactic| ((with_reducible show DL.Ds L2.tRetN _ _ _ _ _); refine DL.ds_retN ?_))
local macro_rules | `(tactic| walk_at "dl") => `(tactic| ((with_reducible show DL.Ds (L2.tRet _) _ _ _ _ _); refine DL.ds_ret ?_))
local macro_rules | `(tactic| walk_at "dl") => `(tactic| ((with_reducible show DL.Ds (L2.tIfS _ _ _) _ _ _ _ _); refine DL.ds_if ?_))
local macro_rules | `(tactic| walk_at "dl") => `(tactic| ((with_reducible show DL.Ds L2.tCont _ _ _ _ _); refine DL.ds_cont ?_))
local macro_rules | `(tactic| walk_at "dl") => `(tactic| ((with_reducible show DL.Ds L2.tBreak _ _ _ _ _); refine DL.ds_brk ?_))
local macro_rules | `(tactic| walk_at "dl") => `(tactic| ((with_reducible show DL.Ds L2.tNext _ _ _ _ _); refine DL.ds_next ?_))
local macro_rules | `(tactic| walk_at "dl") => `(tactic| ((with_reducible show DL.Ds (L2.tDrop (L2.tCall _ _ _ _)) _ _ _ _ _); refine DL.ds_drop ?_))
local macro_rules | `(tactic| walk_at "dl") => `(tactic| ((with_reducible show DL.Ds (L2.tAug _ _ _) _ _ _ _ _); refine DL.ds_aug rfl ?_))
local macro_rules | `(tactic| walk_at "dl") => `(tactic| ((with_reducible show DL.Ds (L2.tAsg (L2.tOp DL.rAddS _ _) (L2.gName _)) _ _ _ _ _); refine DL.ds_set ?_))
local macro_rules | `(tactic| walk_at "dl") => `(tactic| ((with_reducible show DL.Ds (L2.tAsg (L2.tOp L2.rIxS _ _) (L2.gName _)) _ _ _ _ _); refine DL.ds_set ?_))
local macro_rules | `(tactic| walk_at "dl") => `(tactic| ((with_reducible show DL.Ds (L2.tAsg (L2.tOp (L2.rIxT _) _ _) (L2.gName _)) _ _ _ _ _); refine DL.ds_set ?_))
local macro_rules | `(tactic| walk_at "dl") => `(tactic| ((with_reducible show DL.Ds (L2.tAsg (L2.tOp (L2.rIxL _) _ _) (L2.gName _)) _ _ _ _ _); refine DL.ds_set ?_))
local macro_rules | `(tactic| walk_at "dl") => `(tactic| ((with_reducible show DL.Ds (L2.tAsg (L2.tOp (L2.rI _ _) _ _) (L2.gName _)) _ _ _ _ _); refine DL.ds_set ?_))
local macro_rules | `(tactic| walk_at "dl") => `(tactic| ((with_reducible show DL.Ds (L2.tAsg (L2.tOp (L2.rI0 _) _ _) (L2.gName _)) _ _ _ _ _); refine DL.ds_set ?_))
local macro_rules | `(tactic| walk_at "dl") => `(tactic| ((with_reducible show DL.Ds (L2.tAsg (L2.tTup _) (L2.gName _)) _ _ _ _ _); refine DL.ds_set ?_))
local macro_rules | `(tactic| walk_at "dl") => `(tactic| ((with_reducible show DL.Ds (L2.tAsg (L2.tUn _ _) (L2.gName _)) _ _ _ _ _); refine DL.ds_set ?_))
local macro_rules | `(tactic| walk_at "dl") => `(tactic| ((with_reducible show DL.Ds (L2.tAsg (L2.tIf _ _ _) (L2.gName _)) _ _ _ _ _); refine DL.ds_set ?_))
local macro_rules | `(tactic| walk_at "dl") => `(tactic| ((with_reducible show DL.Ds (L2.tAsg (L2.tC _) (L2.gName _)) _ _ _ _ _); refine DL.ds_set ?_))
local macro_rules | `(tactic| walk_at "dl") => `(tactic| ((with_reducible show DL.Ds (L2.tAsg (L2.tVar _) (L2.gName _)) _ _ _ _ _); refine DL.ds_set ?_))
local macro_rules | `(tactic| walk_at "dl") => `(tactic| ((with_reducible show DL.Ds (L2.tAsg (L2.tBM _ _ _ _ _) (L2.gName _)) _ _ _ _ _); refine DL.ds_set ?_))
local macro_rules | `(tactic| walk_at "dl") => `(tactic| ((with_reducible show DL.Ds (L2.tAsg (L2.tSl _ _ _ _) (L2.gName _)) _ _ _ _ _); refine DL.ds_set ?_))
local macro_rules | `(tactic| walk_at "dl") => `(tactic| ((with_reducible show DL.Ds (L2.tAsg (L2.tCall _ _ _ _) (L2.gName _)) _ _ _ _ _); refine DL.ds_set ?_))
local macro_rules | `(tactic| walk_at "dl") => `(tactic| ((with_reducible show DL.Ds (L2.tSeq _ _) _ _ _ _ _); refine DL.ds_seq ?_))

namespace Law
open PySem PySem.Spec PyProof.Rows L2 DL
def topS (i : Nat) : Stmt := PySem.Challenge.pw_foldedways_k21_neat_graphs.main.body.getD i (.Pass ⟨0, 0, 0, 0⟩)
abbrev s_is_tuple : Stmt := topS 13
abbrev n_is_tuple : List Str := ["value", "many"]
theorem sc_is_tuple : FnScope n_is_tuple ["value", "many"] (defScope s_is_tuple) := ⟨rfl, rfl, rfl, by decide +kernel, rfl, by decide +kernel, by decide +kernel⟩
abbrev s_is_integer : Stmt := topS 12
abbrev n_is_integer : List Str := ["value", "least", "most"]
theorem sc_is_integer : FnScope n_is_integer ["value", "least", "most"] (defScope s_is_integer) := ⟨rfl, rfl, rfl, by decide +kernel, rfl, by decide +kernel, by decide +kernel⟩
abbrev s_is_rank : Stmt := topS 14
abbrev n_is_rank : List Str := ["value"]
theorem sc_is_rank : FnScope n_is_rank ["value"] (defScope s_is_rank) := ⟨rfl, rfl, rfl, by decide +kernel, rfl, by decide +kernel, by decide +kernel⟩
abbrev s_letters_of : Stmt := topS 6
abbrev n_letters_of : List Str := ["rank"]
theorem sc_letters_of : FnScope n_letters_of ["rank"] (defScope s_letters_of) := ⟨rfl, rfl, rfl, by decide +kernel, rfl, by decide +kernel, by decide +kernel⟩
abbrev s_is_spelled : Stmt := topS 15
abbrev n_is_spelled : List Str := ["value", "rank", "most", "letters", "letter"]
theorem sc_is_spelled : FnScope n_is_spelled ["value", "rank", "most"] (defScope s_is_spelled) := ⟨rfl, rfl, rfl, by decide +kernel, rfl, by decide +kernel, by decide +kernel⟩
abbrev s_is_family : Stmt := topS 20
abbrev n_is_family : List Str := ["value", "rank", "given", "word"]
theorem sc_is_family : FnScope n_is_family ["value"] (defScope s_is_family) := ⟨rfl, rfl, rfl, by decide +kernel, rfl, by decide +kernel, by decide +kernel⟩
abbrev s_check_rank : Stmt := topS 16
abbrev n_check_rank : List Str := ["value"]
theorem sc_check_rank : FnScope n_check_rank ["value"] (defScope s_check_rank) := ⟨rfl, rfl, rfl, by decide +kernel, rfl, by decide +kernel, by decide +kernel⟩
abbrev s_opposite : Stmt := topS 8
abbrev n_opposite : List Str := ["letter"]
theorem sc_opposite : FnScope n_opposite ["letter"] (defScope s_opposite) := ⟨rfl, rfl, rfl, by decide +kernel, rfl, by decide +kernel, by decide +kernel⟩
abbrev s_moves_along : Stmt := topS 28
abbrev n_moves_along : List Str := ["edges", "moves", "start", "letter", "end"]
theorem sc_moves_along : FnScope n_moves_along ["edges"] (defScope s_moves_along) := ⟨rfl, rfl, rfl, by decide +kernel, rfl, by decide +kernel, by decide +kernel⟩
abbrev s_first_ways : Stmt := topS 29
abbrev n_first_ways : List Str := ["moves", "letters", "start", "ways", "waiting", "at", "place", "letter", "goal"]
theorem sc_first_ways : FnScope n_first_ways ["moves", "letters", "start"] (defScope s_first_ways) := ⟨rfl, rfl, rfl, by decide +kernel, rfl, by decide +kernel, by decide +kernel⟩
abbrev s_count_ends : Stmt := topS 34
abbrev n_count_ends : List Str := ["edges", "ends", "start", "_", "end"]
theorem sc_count_ends : FnScope n_count_ends ["edges"] (defScope s_count_ends) := ⟨rfl, rfl, rfl, by decide +kernel, rfl, by decide +kernel, by decide +kernel⟩
abbrev s_small_letters_of : Stmt := topS 7
abbrev n_small_letters_of : List Str := ["rank"]
theorem sc_small_letters_of : FnScope n_small_letters_of ["rank"] (defScope s_small_letters_of) := ⟨rfl, rfl, rfl, by decide +kernel, rfl, by decide +kernel, by decide +kernel⟩
abbrev s_is_edge : Stmt := topS 37
abbrev n_is_edge : List Str := ["rank", "vertices", "value", "start", "letter", "end"]
theorem sc_is_edge : FnScope n_is_edge ["rank", "vertices", "value"] (defScope s_is_edge) := ⟨rfl, rfl, rfl, by decide +kernel, rfl, by decide +kernel, by decide +kernel⟩
abbrev s_is_graph : Stmt := topS 36
abbrev n_is_graph : List Str := ["rank", "value", "vertices", "edges", "edge", "at"]
theorem sc_is_graph : FnScope n_is_graph ["rank", "value"] (defScope s_is_graph) := ⟨rfl, rfl, rfl, by decide +kernel, rfl, by decide +kernel, by decide +kernel⟩
abbrev s_is_neat : Stmt := topS 35
abbrev n_is_neat : List Str := ["rank", "value", "vertices", "edges", "moves", "ways", "ends", "vertex"]
theorem sc_is_neat : FnScope n_is_neat ["rank", "value"] (defScope s_is_neat) := ⟨rfl, rfl, rfl, by decide +kernel, rfl, by decide +kernel, by decide +kernel⟩
abbrev s_law_next : Stmt := topS 40
abbrev n_law_next : List Str := ["stream", "many", "k", "cell", "digit"]
theorem sc_law_next : FnScope n_law_next ["stream", "many"] (defScope s_law_next) := ⟨rfl, rfl, rfl, by decide +kernel, rfl, by decide +kernel, by decide +kernel⟩
abbrev s_law_changed : Stmt := topS 55
abbrev n_law_changed : List Str := ["stream", "rank", "graph", "many", "edges", "pick", "letter", "at", "one", "other", "names", "start", "label", "end", "odd"]
theorem sc_law_changed : FnScope n_law_changed ["stream", "rank", "graph"] (defScope s_law_changed) := ⟨rfl, rfl, rfl, by decide +kernel, rfl, by decide +kernel, by decide +kernel⟩
abbrev s_law_stream : Stmt := topS 39
abbrev n_law_stream : List Str := ["script"]
theorem sc_law_stream : FnScope n_law_stream ["script"] (defScope s_law_stream) := ⟨rfl, rfl, rfl, by decide +kernel, rfl, by decide +kernel, by decide +kernel⟩
abbrev s_law_word : Stmt := topS 46
abbrev n_law_word : List Str := ["stream", "rank", "most", "letters", "k"]
theorem sc_law_word : FnScope n_law_word ["stream", "rank", "most"] (defScope s_law_word) := ⟨rfl, rfl, rfl, by decide +kernel, rfl, by decide +kernel, by decide +kernel⟩
abbrev s_law_family : Stmt := topS 47
abbrev n_law_family : List Str := ["stream", "rank", "most", "k"]
theorem sc_law_family : FnScope n_law_family ["stream"] (defScope s_law_family) := ⟨rfl, rfl, rfl, by decide +kernel, rfl, by decide +kernel, by decide +kernel⟩
abbrev s_check_family : Stmt := topS 21
abbrev n_check_family : List Str := ["value"]
theorem sc_check_family : FnScope n_check_family ["value"] (defScope s_check_family) := ⟨rfl, rfl, rfl, by decide +kernel, rfl, by decide +kernel, by decide +kernel⟩
abbrev s_folded : Stmt := topS 9
abbrev n_folded : List Str := ["word", "kept", "letter", "other"]
theorem sc_folded : FnScope n_folded ["word"] (defScope s_folded) := ⟨rfl, rfl, rfl, by decide +kernel, rfl, by decide +kernel, by decide +kernel⟩
abbrev s_edge_behind : Stmt := topS 23
abbrev n_edge_behind : List Str := ["place", "letter", "point"]
theorem sc_edge_behind : FnScope n_edge_behind ["place", "letter", "point"] (defScope s_edge_behind) := ⟨rfl, rfl, rfl, by decide +kernel, rfl, by decide +kernel, by decide +kernel⟩
abbrev s_petals_of : Stmt := topS 22
abbrev n_petals_of : List Str := ["given", "edges", "ends", "points", "word", "place", "letter"]
theorem sc_petals_of : FnScope n_petals_of ["given"] (defScope s_petals_of) := ⟨rfl, rfl, rfl, by decide +kernel, rfl, by decide +kernel, by decide +kernel⟩
abbrev s_identify : Stmt := topS 26
abbrev n_identify : List Str := ["least", "one", "other", "low", "high", "point"]
theorem sc_identify : FnScope n_identify ["least", "one", "other"] (defScope s_identify) := ⟨rfl, rfl, rfl, by decide +kernel, rfl, by decide +kernel, by decide +kernel⟩
abbrev s_fold_once : Stmt := topS 25
abbrev n_fold_once : List Str := ["least", "edges", "leads", "start", "letter", "end", "place", "sign", "goal", "key"]
theorem sc_fold_once : FnScope n_fold_once ["least", "edges"] (defScope s_fold_once) := ⟨rfl, rfl, rfl, by decide +kernel, rfl, by decide +kernel, by decide +kernel⟩
abbrev s_least_points : Stmt := topS 24
abbrev n_least_points : List Str := ["edges", "ends", "least", "end", "before"]
theorem sc_least_points : FnScope n_least_points ["edges", "ends"] (defScope s_least_points) := ⟨rfl, rfl, rfl, by decide +kernel, rfl, by decide +kernel, by decide +kernel⟩
abbrev s_numbered : Stmt := topS 33
abbrev n_numbered : List Str := ["rank", "edges", "first", "ways", "numbers", "number", "place", "start", "letter", "end"]
theorem sc_numbered : FnScope n_numbered ["rank", "edges", "first"] (defScope s_numbered) := ⟨rfl, rfl, rfl, by decide +kernel, rfl, by decide +kernel, by decide +kernel⟩
abbrev s_folded_graph : Stmt := topS 32
abbrev n_folded_graph : List Str := ["family", "rank", "given", "edges", "ends", "least", "start", "letter", "end"]
theorem sc_folded_graph : FnScope n_folded_graph ["family"] (defScope s_folded_graph) := ⟨rfl, rfl, rfl, by decide +kernel, rfl, by decide +kernel, by decide +kernel⟩
abbrev s_graph_of : Stmt := topS 31
abbrev n_graph_of : List Str := ["family"]
theorem sc_graph_of : FnScope n_graph_of ["family"] (defScope s_graph_of) := ⟨rfl, rfl, rfl, by decide +kernel, rfl, by decide +kernel, by decide +kernel⟩
abbrev s_law_is_integer : Stmt := topS 41
abbrev n_law_is_integer : List Str := ["actual"]
theorem sc_law_is_integer : FnScope n_law_is_integer ["actual"] (defScope s_law_is_integer) := ⟨rfl, rfl, rfl, by decide +kernel, rfl, by decide +kernel, by decide +kernel⟩
abbrev s_law_equal : Stmt := topS 42
abbrev n_law_equal : List Str := ["actual", "due", "at"]
theorem sc_law_equal : FnScope n_law_equal ["actual", "due"] (defScope s_law_equal) := ⟨rfl, rfl, rfl, by decide +kernel, rfl, by decide +kernel, by decide +kernel⟩
abbrev s_law_due : Stmt := topS 54
abbrev n_law_due : List Str := ["rank", "value", "many", "edges", "edge", "k", "j", "row", "turn", "letter", "ends", "vertex", "start", "label", "end"]
theorem sc_law_due : FnScope n_law_due ["rank", "value"] (defScope s_law_due) := ⟨rfl, rfl, rfl, by decide +kernel, rfl, by decide +kernel, by decide +kernel⟩
abbrev s_law : Stmt := topS 56
abbrev n_law : List Str := ["script", "stream", "family", "graph", "value", "e"]
theorem sc_law : FnScope n_law ["script"] (defScope s_law) := ⟨rfl, rfl, rfl, by decide +kernel, rfl, by decide +kernel, by decide +kernel⟩
section
variable {P : Program} {w : World} {K : PySem.W.Frag} {mg : Str → Option Value} {base : Heap}
/-! letters, words -/
def LETS : List Nat := [97, 65, 98, 66, 99, 67]
def LS (r : Int) : List Nat := LETS.take (2 * r).toNat
theorem LS_len {r : Int} (h1 : 1 ≤ r) (h2 : r ≤ 3) : ((LS r).length : Int) = 2 * r := by
  unfold LS
  rw [List.length_take]
  show ((min (2 * r).toNat 6 : Nat) : Int) = 2 * r
  omega
theorem sgl (w : List Nat) : w.map (fun c => D.str [c]) = (w.map fun c => [c]).map D.str := by
  rw [List.map_map]
  rfl
theorem flat_sgl : ∀ w : List Nat, (w.map fun c => [c]).flatten = w
  | [] => rfl
  | c :: w => by
    rw [List.map_cons, List.flatten_cons, flat_sgl w]
    rfl
theorem map_bl_take {α : Type} {f : α → Bool} {l : List α} {i : Nat} {c : α} (h : l[i]? = some c) : ((l.take i).map f).map D.bl ++ [.bl (f c)] = ((l.take (i + 1)).map f).map D.bl := by
  rw [List.take_add_one, h]
  simp
def isInt (v : D) (l m : Int) : Bool := match v with
  | .int i => decide (l ≤ i) && decide (i ≤ m)
  | _ => false
def spelled (v : D) (r m : Int) : Bool := match v with
  | .str l => decide ((l.length : Int) ≤ m) && l.all fun c => decide (c ∈ LS r)
  | _ => false
def szD (v : D) : Prop := ∀ l, v = .str l → l.length ≤ 1000
theorem isInt_iff {r : D} (h : isInt r 1 3 = true) : ∃ i : Int, r = .int i ∧ 1 ≤ i ∧ i ≤ 3 := by
  cases r with
  | int i =>
    simp only [isInt, Bool.and_eq_true, decide_eq_true_eq] at h
    exact ⟨i, rfl, h.1, h.2⟩
  | _ => cases h
theorem rng3 {r : Int} (h1 : 1 ≤ r) (h2 : r ≤ 3) : r = 1 ∨ r = 2 ∨ r = 3 := by omega
def okW (r : Int) (m : Nat) (w : List Nat) : Prop := w.length ≤ m ∧ ∀ c ∈ w, c ∈ LS r
theorem cut_LS {r : Int} : ([97, 65, 98, 66, 99, 67] : List Nat).take (2 * r).toNat = LS r := rfl
theorem sign_at {w : List Nat} {i : Nat} {d : D} (h : (w.map sign)[i]? = some d) : ∃ c, w[i]? = some c ∧ d = sign c := by
  rw [List.getElem?_map] at h
  cases e : w[i]? with
  | none => rw [e] at h; cases h
  | some c =>
    rw [e] at h
    exact ⟨c, rfl, (Option.some.inj h).symm⟩
theorem stk_take {w : List Nat} {i : Nat} {c : Nat} (h : w[i]? = some c) : stk (w.take (i + 1)) = psh (stk (w.take i)) c := by
  rw [List.take_add_one, h, stk_app]
  rfl
theorem LS_LTR {r : Int} {c : Nat} (h : c ∈ LS r) : c ∈ LTR := List.mem_of_mem_take h
def okF (r : Int) (ws : List (List Nat)) : Prop := 1 ≤ r ∧ r ≤ 3 ∧ ws.length ≤ 4 ∧ ∀ w ∈ ws, okW r 8 w
theorem okF_lts {r : Int} {ws : List (List Nat)} (h : okF r ws) : ∀ w ∈ ws, Lts w ∧ w.length ≤ 8 := fun w hw => ⟨fun c hc => LS_LTR ((h.2.2.2 w hw).2 c hc), (h.2.2.2 w hw).1⟩
theorem LS_swap {r : Int} (h1 : 1 ≤ r) (h3 : r ≤ 3) : ∀ c ∈ LS r, sw c ∈ LS r := by
  rcases rng3 h1 h3 with rfl | rfl | rfl <;> decide
theorem LS_parts {r : Int} (h1 : 1 ≤ r) (h3 : r ≤ 3) : LTR = LS r ++ LTR.drop (LS r).length ∧ ∀ c ∈ LTR.drop (LS r).length, c ∉ LS r := by
  rcases rng3 h1 h3 with rfl | rfl | rfl <;> decide
/-! the graph of a family, whatever rank it is looked at in -/
abbrev SqF (ws : List (List Nat)) (l : List Nat) : Prop := Lsq (ptl ws).1 (ptl ws).2.1 (ptl ws).2.2 l
theorem fam_lts {r : Int} {ws : List (List Nat)} (h : okF r ws) : ∀ w ∈ ws, Lts w := fun w hw => (okF_lts h w hw).1
theorem fam_len {r : Int} {ws : List (List Nat)} (l ls : List Nat) (hF : okF r ws) : (famG ws l ls).2.length ≤ 32 := by
  obtain ⟨z1, _⟩ := ptl_lens fun w h => (okF_lts hF w h).2
  have h4 := hF.2.2.1
  have e : (famG ws l ls).2.length = (dd ((fE l (ptl ws).1).map (nmE (fw (mvs (fE l (ptl ws).1)) ls 0 (ptl ws).2.2).1))).length := (srtE_perm _).length_eq
  have := dd_len ((fE l (ptl ws).1).map (nmE (fw (mvs (fE l (ptl ws).1)) ls 0 (ptl ws).2.2).1))
  rw [List.length_map, fE_len] at this
  omega
def bel (g : Gr) (w : List Nat) : Bool := decide (wkO (mvs g.2) 0 (fold w) = some 0)
/-! errors -/
def xBad (n : List Nat) : Xn := ("BadValue", [("name", .str n)])
def q_family : List Nat := [102, 97, 109, 105, 108, 121]
def q_word : List Nat := [119, 111, 114, 100]
def q_rank : List Nat := [114, 97, 110, 107]
theorem fam_V' {ws : List (List Nat)} {l ls : List Nat} (hw : ∀ w ∈ ws, Lts w) (hl : SqF ws l) (G : GrOk ws l ls) : (famG ws l ls).1 ≤ (ptl ws).2.2 := by
  have := (ptl_ok hw).len
  exact (WI.range (ls := ls) (mvs_mv G.bd) (by omega) (ptl ws).2.2).1.len_le
theorem fam_all {r : Int} {ws : List (List Nat)} {l : List Nat} (hF : okF r ws) (hl : SqF ws l) : GrOk ws l (LS r) ∧ GnOk (famG ws l (LS r)) ∧ (famG ws l (LS r)).2.Nodup ∧ (famG ws l (LS r)).2.length ≤ 32 ∧ (famG ws l (LS r)).1 ≤ 33 := by
  obtain ⟨h1, h3, h4, hok⟩ := id hF
  have hL := fam_lts hF
  have G := GrOk.of hL hl (ptl_in (ls := LS r) (LS_swap h1 h3) (fun c => LS_LTR) fun w h => (hok w h).2)
  obtain ⟨z1, _⟩ := ptl_lens fun w h => (okF_lts hF w h).2
  have P1 := (ptl_ok hL).len
  have hV := fam_V' hL hl G
  exact ⟨G, G.num hL, famG_nd _ _ _, fam_len l (LS r) hF, by omega⟩
theorem fam_fw {r : Int} {ws : List (List Nat)} {l : List Nat} (hF : okF r ws) (hl : SqF ws l) : ∀ m, (famG ws l (LS r)).1 ≤ m → fw (mvs (famG ws l (LS r)).2) (LS r) 0 m = (List.range (famG ws l (LS r)).1, (fw (mvs (famG ws l (LS r)).2) (LS r) 0 (famG ws l (LS r)).1).2) := fun m hm => by
  obtain ⟨G, N, _, _, _⟩ := fam_all hF hl
  have M := mvs_mv N.bd
  have a := G.fw (fam_lts hF) (m := max m (ptl ws).2.2) (Nat.le_max_right _ _)
  rw [fw_any M N.pos (Nat.le_trans hm (Nat.le_max_left _ _))] at a
  rw [fw_any M N.pos hm, a]
/-- the paths to the vertices -/
def pthF (r : Int) (g : Gr) : List (List Nat) := (fw (mvs g.2) (LS r) 0 g.1).2
def smL (r : Int) : List Nat := SM.take r.toNat
theorem fam_let {ls ls' : List Nat} {ws : List (List Nat)} {l : List Nat} (hsw : ∀ c ∈ ls, sw c ∈ ls) (hlt : ∀ c ∈ ls, c ∈ LTR) (hw : ∀ w ∈ ws, ∀ c ∈ w, c ∈ ls) : ∀ e ∈ (famG ws l ls').2, e.2.1 ∈ ls := fun e he => by
  obtain ⟨f, hf, rfl⟩ := mem_numG.mp he
  obtain ⟨f', hf', rfl⟩ := List.mem_map.mp hf
  exact (ptl_in hsw hlt hw f' hf').1
theorem fam_smL {r : Int} {ws : List (List Nat)} {l ls : List Nat} (hF : okF r ws) : ∀ e ∈ (famG ws l ls).2, e.2.1 ∈ SM → e.2.1 ∈ SM.take r.toNat := fun e he hs => by
  obtain ⟨h1, h3, h4, hok⟩ := hF
  have h := fam_let (LS_swap h1 h3) (fun c => LS_LTR) (fun w h => (hok w h).2) e he
  have key : ∀ c ∈ SM, (c ∈ LS 1 → c ∈ SM.take 1) ∧ (c ∈ LS 2 → c ∈ SM.take 2) ∧ (c ∈ LS 3 → c ∈ SM.take 3) := by decide
  obtain ⟨a, b, c⟩ := key _ hs
  rcases rng3 h1 h3 with rfl | rfl | rfl
  · exact a h
  · exact b h
  · exact c h
theorem ascLS (r : Int) : Asc (LS r) := by
  have h : Asc [97, 65, 98, 66, 99, 67] := by unfold Asc; decide
  exact List.Pairwise.sublist (List.take_sublist _ _) h
def atD (x : Gr × Nat) : D := .tup [grD x.1, .int (x.2 : Int)]
def kpA (ws : List (List Nat)) (rows : List (List Nat)) : Bool := ws.all fun w => decide (wk (mvs (edgesOf rows)) 0 w = 0)
/-! derivations -/
def q_given : List Nat := [103, 105, 118, 101, 110]
def q_step : List Nat := [115, 116, 101, 112]
abbrev Fc := List Nat × Int × Int
abbrev Sp := List Nat × List Fc
def fcD (f : Fc) : D := .tup [.str f.1, .int f.2.1, .int f.2.2]
/-- a factor, and the pair that tells its number and sign alone -/
def prE : Bool → Fc → List D
  | true, f => [.str f.1, .int f.2.1]
  | false, f => [.int f.2.1]
def fcE (b : Bool) (f : Fc) : D := .tup (prE b f ++ [.int f.2.2])
def spD (s : Sp) : D := .tup [.str s.1, .tup (s.2.map fcD)]
/-! graphs put together in other ways -/
def g3D (r : Int) (g : Gr) : D := .tup [.int (g.1 : Int), .tup (g.2.map edD), .lst ((pthF r g).map D.str)]
/-! trees, and words along the other edges -/
def inTr (P : List (List Nat)) (e : Ed) : Bool := decide (P.getD e.2.2 [] = P.getD e.1 [] ++ [e.2.1]) || decide (P.getD e.1 [] = P.getD e.2.2 [] ++ [sw e.2.1])
def frE (P : List (List Nat)) (es : List Ed) : List Ed := es.filter fun e => !inTr P e
def lpW (ways : List (List Nat)) (e : Ed) : List Nat := ways.getD e.1 [] ++ [e.2.1] ++ inv (ways.getD e.2.2 [])
def bsW (r : Int) (g : Gr) : List (List Nat) := (frE (pthF r g) g.2).map (lpW (pthF r g))
def trE (P : List (List Nat)) (es : List Ed) (k : Nat) : Ed := edB ((stO (mvs es) k (sw ((P.getD k []).getLastD 0))).getD 0) ((P.getD k []).getLastD 0) k
/-! bases make the same -/
/-! derivations: factors, values, needed steps -/
def sgn (w : List Nat) (s : Int) : List Nat := if s = 1 then w else inv w
def valF (ws : List (List Nat)) (st : List Sp) (f : Fc) : List Nat := sgn ((if f.1 = q_given then ws else st.map (·.1)).getD f.2.1.toNat []) f.2.2
def valFs (ws : List (List Nat)) (st : List Sp) (fs : List Fc) : List Nat := fold ((fs.map (valF ws st)).flatten)
/-- a factor that can stand there -/
def fOk (n m : Nat) (f : Fc) : Prop := ((f.1 = q_given ∧ 0 ≤ f.2.1 ∧ f.2.1 < (n : Int)) ∨ (f.1 = q_step ∧ 0 ≤ f.2.1 ∧ f.2.1 < (m : Int))) ∧ (f.2.2 = 1 ∨ f.2.2 = -1)
theorem q_ne : q_given ≠ q_step := by decide
def renF (m : List (Nat × Nat)) (f : Fc) : Fc := if f.1 = q_given then f else (f.1, (((m.lookup f.2.1.toNat).getD 0 : Nat) : Int), f.2.2)
def renS (m : List (Nat × Nat)) (s : Sp) : Sp := (s.1, s.2.map (renF m))
/-- the steps that a step names -/
def nmd (s : Sp) : List Nat := (s.2.filter fun f => decide (f.1 = q_step)).map fun f => f.2.1.toNat
inductive Rch (st : List Sp) : Nat → Prop
  | last : Rch st (st.length - 1)
  | step {k j : Nat} {s : Sp} (h : Rch st k) (hs : st[k]? = some s) (hj : j ∈ nmd s) : Rch st j
/-- factors name earlier steps alone -/
def Erl (st : List Sp) : Prop := ∀ (k : Nat) (s : Sp), st[k]? = some s → ∀ f ∈ s.2, f.1 = q_given ∨ (f.1 = q_step ∧ 0 ≤ f.2.1 ∧ f.2.1 < (k : Int))
theorem Erl.nmd {st : List Sp} (E : Erl st) {k j : Nat} {s : Sp} (hs : st[k]? = some s) (hj : j ∈ nmd s) : j < k := by
  unfold Law.nmd at hj
  obtain ⟨f, hf, rfl⟩ := List.mem_map.mp hj
  obtain ⟨h1, h2⟩ := List.mem_filter.mp hf
  have h2 : f.1 = q_step := of_decide_eq_true h2
  rcases E k s hs f h1 with a | ⟨a, b, c⟩
  · rw [h2] at a
    exact absurd a.symm q_ne
  · omega
theorem Rch.lt {st : List Sp} (E : Erl st) (h0 : 0 < st.length) {k : Nat} (h : Rch st k) : k < st.length := by
  cases h with
  | last => omega
  | step h hs hj =>
    have := E.nmd hs hj
    have := (List.getElem?_eq_some_iff.mp hs).1
    omega
noncomputable def kpt (st : List Sp) : List Nat := (List.range st.length).filter fun k => @decide (Rch st k) (Classical.propDecidable _)
/-- the trimmed steps -/
noncomputable def trm (st : List Sp) : List Sp := ((kpt st).map fun k => st.getD k ([], [])).map (renS ((kpt st).mapIdx fun i p => (p, i)))
/-- the needed ones, as far as the steps from n - i on name them -/
def Nd (st : List Sp) (i : Nat) (ks : List Nat) : Prop := ks.Nodup ∧ (∀ j, j ∈ ks ↔ (j = st.length - 1 ∨ ∃ k s, st.length - i ≤ k ∧ Rch st k ∧ st[k]? = some s ∧ j ∈ nmd s)) ∧ ∀ j ∈ ks, j < st.length
theorem Nd.at {st : List Sp} (E : Erl st) {i : Nat} {ks : List Nat} (h : Nd st i ks) (hi : i < st.length) : st.length - 1 - i ∈ ks ↔ Rch st (st.length - 1 - i) := by
  rw [h.2.1]
  constructor
  · rintro (a | ⟨k, s, _, hk, hs, hj⟩)
    · rw [a]; exact .last
    · exact .step hk hs hj
  · intro hr
    obtain ⟨a, ha⟩ : ∃ a, a = st.length - 1 - i := ⟨_, rfl⟩
    rw [← ha] at hr ⊢
    cases hr with
    | last => exact .inl rfl
    | @step k _ s hk hs hj =>
      have := E.nmd hs hj
      exact .inr ⟨k, s, by omega, hk, hs, hj⟩
theorem Nd.all {st : List Sp} {ks : List Nat} (h : Nd st st.length ks) (j : Nat) : j ∈ ks ↔ Rch st j := by
  rw [h.2.1]
  constructor
  · rintro (a | ⟨k, s, _, hk, hs, hj⟩)
    · rw [a]; exact .last
    · exact .step hk hs hj
  · intro hr
    cases hr with
    | last => exact .inl rfl
    | step hk hs hj => exact .inr ⟨_, _, by omega, hk, hs, hj⟩
def Stps (r : Int) (ws : List (List Nat)) (st : List Sp) : Prop := ∀ i s, st[i]? = some s → okW r 100 s.1 ∧ s.2.length ≤ 2000 ∧ ∀ f ∈ s.2, fOk ws.length i f
/-- steps that hold -/
structure Der (r : Int) (ws : List (List Nat)) (st : List Sp) : Prop where
  len : 1 ≤ st.length ∧ st.length ≤ 100
  stp : Stps r ws st
  val : ∀ s ∈ st, s.1 = valFs ws st s.2
def labW (ws : List (List Nat)) : List (List Nat) := [[]] ++ ws.flatMap fun w => (List.range (fold w).length).map fun k => (fold w).take (k + 1)
/-- a step whose factors are a list -/
def stD (s : Sp) : D := .tup [.str s.1, .lst (s.2.map fcD)]
/-! derivations written out -/
def trnF (fs : List Fc) : List Fc := fs.reverse.map fun f => (f.1, f.2.1, -f.2.2)
/-- the pairs of a factor, each step's pairs being known -/
def pofM (ex : List (List Fc)) (f : Fc) : List Fc := if f.1 = q_given then [(q_given, f.2.1, 1)] else ex.getD f.2.1.toNat []
def pof (ex : List (List Fc)) (f : Fc) : List Fc := if f.2.2 = 1 then pofM ex f else trnF (pofM ex f)
def pofs (ex : List (List Fc)) (fs : List Fc) : List Fc := (fs.map (pof ex)).flatten
def prL (l : List Fc) : D := .lst (l.map (fcE false))
/-- the pairs of all steps, one after another -/
def exps (st : List Sp) : List (List Fc) := st.foldl (fun ex s => ex ++ [pofs ex s.2]) []
def sgOk (f : Fc) : Prop := f.2.2 = 1 ∨ f.2.2 = -1
end
structure Txt (mg : Str → Option Value) : Prop where
  n_abs : mg "abs" = none
  n_all : mg "all" = none
  n_bool : mg "bool" = none
  n_enumerate : mg "enumerate" = none
  n_int : mg "int" = none
  n_isinstance : mg "isinstance" = none
  n_len : mg "len" = none
  n_list : mg "list" = none
  n_max : mg "max" = none
  n_min : mg "min" = none
  n_range : mg "range" = none
  n_sorted : mg "sorted" = none
  n_str : mg "str" = none
  n_sum : mg "sum" = none
  n_tuple : mg "tuple" = none
  n_zip : mg "zip" = none
  g_HIGHEST_RANK : ∃ u, mg "HIGHEST_RANK" = some u ∧ RelV (.int 3) u
  g_LETTERS : ∃ u, mg "LETTERS" = some u ∧ RelV (.str "aAbBcC") u
  g_MOST_GIVEN : ∃ u, mg "MOST_GIVEN" = some u ∧ RelV (.int 4) u
  g_MOST_GIVEN_LETTERS : ∃ u, mg "MOST_GIVEN_LETTERS" = some u ∧ RelV (.int 8) u
  g_SMALL_LETTERS : ∃ u, mg "SMALL_LETTERS" = some u ∧ RelV (.str "abc") u
structure Txx (K : PySem.W.Frag) (mg : Str → Option Value) : Prop where
  k_BadValue : ∃ C, mg "BadValue" = some (.ref C)
  f_BadValue : ∀ C, mg "BadValue" = some (.ref C) → XcI K C ∧ PySem.W.findIn K (.ref C) "name" = some none
  e_BadValue_BadValue : ∀ C W, mg "BadValue" = some (.ref C) → mg "BadValue" = some (.ref W) → PySem.W.exmOne K (.ref C) (.ref W) = some true
theorem txx_mk {K : PySem.W.Frag} {h : Heap} {mg : Str → Option Value} (X : K.In h) (G : h.Ns mainGlobals mg) {C_BadValue : Addr} (a_BadValue : PySem.W.nsIn K mainGlobals "BadValue" = some (some (.ref C_BadValue))) (f0_BadValue : PySem.W.isClsIn K C_BadValue = true) (f1_BadValue : PySem.W.findIn K (.ref C_BadValue) "__getattribute__" = some (some (.builtin "BaseException.__getattribute__"))) (f2_BadValue : PySem.W.findIn K (.ref C_BadValue) "__getattr__" = some none) (f3_BadValue : PySem.W.subIn K (.ref C_BadValue) (.type "BaseException") = some true) (f4_BadValue : PySem.W.hasDictIn K C_BadValue = true) (f5_BadValue : PySem.W.findIn K (.ref C_BadValue) "__class__" = some (some (.builtin "object.__class__"))) (f6_BadValue : PySem.W.specialIn K (.builtin "object.__class__") "__get__" = some (some (.builtin "getset_descriptor.__get__"))) (f7_BadValue : PySem.W.takesIn K (.builtin "object.__class__") = some true) (f8_BadValue : PySem.W.mroIn K C_BadValue (.type "object") = some true) (f9_BadValue : PySem.W.findIn K (.ref C_BadValue) "name" = some none) (e_BadValue_BadValue1 : PySem.W.subIn K (.ref C_BadValue) (.type "BaseException") = some true) (e_BadValue_BadValue2 : PySem.W.isClsIn K C_BadValue = true) (e_BadValue_BadValue3 : PySem.W.typeIn K (.ref C_BadValue) = some (.type "type")) (e_BadValue_BadValue4 : PySem.W.subIn K (.ref C_BadValue) (.ref C_BadValue) = some true) : Txx K mg :=
  ⟨⟨_, PySem.W.mg_of X G a_BadValue⟩,
   (fun C e => by rw [ref_inj (PySem.W.mg_of X G a_BadValue) e]; exact ⟨xcI_of f0_BadValue f1_BadValue f2_BadValue f3_BadValue f4_BadValue f5_BadValue f6_BadValue f7_BadValue f8_BadValue, f9_BadValue⟩),
   (fun C W e e2 => by rw [ref_inj (PySem.W.mg_of X G a_BadValue) e, ref_inj (PySem.W.mg_of X G a_BadValue) e2]; exact exm_of e_BadValue_BadValue1 e_BadValue_BadValue2 e_BadValue_BadValue3 e_BadValue_BadValue4)⟩
abbrev s_BadValue_init : Stmt := L2.inClass (topS 2) 0
section
variable {P : Program} {w : World} {K : PySem.W.Frag} {mg : Str → Option Value} {base : Heap}
-- is_tuple
def tupN : D → Int → Bool
  | .tup ds, n => decide ((ds.length : Int) = n)
  | .ptp ds, n => decide ((ds.length : Int) = n)
  | _, _ => false
def fs_is_tuple : FS := ⟨D × Int, fun a => [a.1, .int a.2], fun a => okD a.1 = true ∧ ∀ k, lenD a.1 = some k → k ≤ 1000000, fun a d => d = .bl (tupN a.1 a.2)⟩
theorem ok_is_tuple (T : Txt mg) (d_is_tuple : Df K mg "is_tuple" s_is_tuple ["value", "many"]) : C8.Cal P w K mg base 1 "is_tuple" (PF fs_is_tuple) [] := by
  refine df_cal d_is_tuple sc_is_tuple (fun _ => rfl) fun f cdv A outer s H E hr => ⟨_, (pss_one (ps_ret (pe_and (pe_callB cd_isi (by rfl) T.n_isinstance (by decide +kernel) (pa_cons (pv 0) (pa_cons (pe_bltn (v := .ty "tuple") (by rfl) T.n_tuple (by decide +kernel) rfl) pa_nil))) (pe_one (pe_cmpR op_eq (pe_callB cd_len (by rfl) T.n_len (by decide +kernel) (pa_cons (pv 0) pa_nil)) (pv 1) (nomark _)))))), fun a hp => ?_⟩
  obtain ⟨v, n⟩ := a
  obtain ⟨hv, hz⟩ : okD v = true ∧ ∀ k, lenD v = some k → k ≤ 1000000 := hp
  show Ds _ [.dat v, .dat (.int n)] _ (fun d => d = .bl (tupN v n)) _ _
  cases v with
  | tup ds =>
    have := hz _ rfl
    repeat walk_at "dl"
    rfl
  | ptp ds =>
    have := hz _ rfl
    repeat walk_at "dl"
    rfl
  | _ => first | (cases hv; done) | ((repeat walk_at "dl"); rfl)
-- is_integer
def fs_is_integer : FS := ⟨D × Int × Int, fun a => [a.1, .int a.2.1, .int a.2.2], fun a => okD a.1 = true, fun a d => d = .bl (isInt a.1 a.2.1 a.2.2)⟩
theorem ok_is_integer (T : Txt mg) (d_is_integer : Df K mg "is_integer" s_is_integer ["value", "least", "most"]) : C8.Cal P w K mg base 1 "is_integer" (PF fs_is_integer) [] := by
  refine df_cal d_is_integer sc_is_integer (fun _ => rfl) fun f cdv A outer s H E hr => ⟨_, (pss_one (ps_ret (pe_and (pe_callB cd_isi (by rfl) T.n_isinstance (by decide +kernel) (pa_cons (pv 0) (pa_cons (pe_bltn (v := .ty "int") (by rfl) T.n_int (by decide +kernel) rfl) pa_nil))) (pe_and (pe_not (pe_callB cd_isi (by rfl) T.n_isinstance (by decide +kernel) (pa_cons (pv 0) (pa_cons (pe_bltn (v := .ty "bool") (by rfl) T.n_bool (by decide +kernel) rfl) pa_nil)))) (pe_one (pe_chain op_le op_le (pv 1) (pv 0) (pv 2))))))), fun a hp => ?_⟩
  obtain ⟨v, l, m⟩ := a
  have hv : okD v = true := hp
  show Ds _ [.dat v, .dat (.int l), .dat (.int m)] _ (fun d => d = .bl (isInt v l m)) _ _
  cases v with
  | int i =>
    repeat walk_at "dl"
    by_cases h : l ≤ i
    · rw [decide_eq_true h]
      repeat walk_at "dl"
      show D.bl (decide (i ≤ m)) = .bl (decide (l ≤ i) && decide (i ≤ m))
      rw [decide_eq_true h, Bool.true_and]
    · rw [decide_eq_false h]
      repeat walk_at "dl"
      show D.bl false = .bl (decide (l ≤ i) && decide (i ≤ m))
      rw [decide_eq_false h, Bool.false_and]
  | _ => first | (cases hv; done) | ((repeat walk_at "dl"); rfl)
-- is_rank
def fs_is_rank : FS := ⟨D, fun a => [a], fun a => okD a = true, fun a d => d = .bl (isInt a 1 3)⟩
theorem ok_is_rank (T : Txt mg) (d_is_rank : Df K mg "is_rank" s_is_rank ["value"]) (c_is_integer : C8.Cal P w K mg base 1 "is_integer" (PF fs_is_integer) []) : C8.Cal P w K mg base 2 "is_rank" (PF fs_is_rank) [] := by
  refine df_cal d_is_rank sc_is_rank (fun _ => rfl) fun f cdv A outer s H E hr => ⟨_, (pss_one (ps_ret (C8.pe_c c_is_integer hr (by first | decide | omega) (by rfl) (pa_cons (pv 0) (pa_cons pe_int (pa_cons (C8.pe_gc (by rfl) T.g_HIGHEST_RANK) pa_nil)))))), fun v hv => ?_⟩
  show Ds _ [.dat v] _ (fun d => d = .bl (isInt v 1 3)) _ _
  repeat walk_at "dl"
  exact ⟨(v, 1, 3), rfl, hv, fun d hd => hd⟩
-- letters_of
def fs_letters_of : FS := ⟨Int, fun r => [.int r], fun r => 1 ≤ r ∧ r ≤ 3, fun r d => d = .str (LS r)⟩
theorem ok_letters_of (T : Txt mg) (d_letters_of : Df K mg "letters_of" s_letters_of ["rank"]) : C8.Cal P w K mg base 1 "letters_of" (PF fs_letters_of) [] := by
  refine df_cal d_letters_of sc_letters_of (fun _ => rfl) fun f cdv A outer s H E hr => ⟨_, (pss_one (ps_ret (pe_slice sl_str (C8.pe_gc (by rfl) T.g_LETTERS) po_none (po_some (pe_op op_mul pe_int (pv 0)))))), fun (r : Int) hp => ?_⟩
  obtain ⟨h1, h2⟩ := hp
  show Ds _ [.dat (.int r)] _ (fun d => d = .str (LS r)) _ _
  repeat walk_at "dl"
  exact congrArg D.str cut_LS
-- is_spelled
def fs_is_spelled : FS := ⟨D × Int × Int, fun a => [a.1, .int a.2.1, .int a.2.2], fun a => okD a.1 = true ∧ szD a.1 ∧ 1 ≤ a.2.1 ∧ a.2.1 ≤ 3, fun a d => d = .bl (spelled a.1 a.2.1 a.2.2)⟩
theorem ok_is_spelled (T : Txt mg) (d_is_spelled : Df K mg "is_spelled" s_is_spelled ["value", "rank", "most"]) (c_letters_of : C8.Cal P w K mg base 1 "letters_of" (PF fs_letters_of) []) : C8.Cal P w K mg base 2 "is_spelled" (PF fs_is_spelled) [] := by
  refine df_cal d_is_spelled sc_is_spelled (fun _ => rfl) fun f cdv A outer s H E hr => ⟨_, (pss_cons (ps_if (PW.pt (pw_or (pt_not (pt_val (pe_callB cd_isi (by rfl) T.n_isinstance (by decide +kernel) (pa_cons (pv 0) (pa_cons (pe_bltn (v := .ty "str") (by rfl) T.n_str (by decide +kernel) rfl) pa_nil))))) (pw_or1 (pt_cmpR op_gt (pe_callB cd_len (by rfl) T.n_len (by decide +kernel) (pa_cons (pv 0) pa_nil)) (pv 2) (nomark _))))) (pss_one (ps_ret pe_bl)) pss_nil) (pss_cons (ps_set (i := 3) sc_is_spelled.nd rfl (by first | exact Or.inl rfl | exact Or.inr rfl) (C8.pe_c c_letters_of hr (by first | decide | omega) (by rfl) (pa_cons (pv 1) pa_nil))) (pss_one (ps_ret (pe_callB (cd_all rfl) (by rfl) T.n_all (by decide +kernel) (pa_cons (pe_lc (own := [("letter", 4)]) rfl sc_is_spelled.nd (pi_str (pv 0)) (blkOk_by (N := n_is_spelled) (sc := defScope s_is_spelled) (own := [("letter", 4)]) (by decide +kernel)) (fun _ _ _ _ _ => (pg_name (i := 4) sc_is_spelled.nd rfl (by first | exact Or.inl rfl | exact Or.inr rfl))) (fun _ _ _ _ _ => pts_nil) (fun _ _ _ _ _ => (pe_cmpR od_in_sg (pv 4) (pv 3) rfl))) pa_nil)))))), fun a hp => ?_⟩
  obtain ⟨v, r, m⟩ := a
  obtain ⟨hv, hz, h1, h2⟩ := hp
  have hv : okD v = true := hv
  have hz : szD v := hz
  show Ds _ [.dat v, .dat (.int r), .dat (.int m), .any, .any] _ (fun d => d = .bl (spelled v r m)) _ _
  cases v with
  | str l =>
    have hl := hz l rfl
    repeat walk_at "dl"
    by_cases hm : (l.length : Int) ≤ m
    · rw [decide_eq_false (by omega)]
      repeat walk_at "dl"
      refine ⟨r, rfl, ⟨h1, h2⟩, fun d hd => ?_⟩
      cases hd
      repeat walk_at "dl"
      refine de_ofN (den_lc (di_str (de_var rfl ⟨l, rfl, by simp; omega, fun i acc => acc = ((l.take i).map fun c => decide (c ∈ LS r)).map D.bl, by simp, fun i d acc hd _ ha => ?_, fun acc ha => ?_⟩)))
      · rw [List.getElem?_map] at hd
        cases e : l[i]? with
        | none => rw [e] at hd; cases hd
        | some c =>
          rw [e] at hd
          cases hd
          repeat walk_at "dl"
          refine dop_insg ?_
          rw [ha]
          exact map_bl_take e
      · rw [List.length_map] at ha
        rw [List.take_length] at ha
        subst ha
        walk_at "dl"
        refine dcl_all ?_
        show D.bl _ = D.bl (decide ((l.length : Int) ≤ m) && l.all fun c => decide (c ∈ LS r))
        rw [decide_eq_true hm, Bool.true_and, List.all_map]
        rfl
    · rw [decide_eq_true (by omega)]
      repeat walk_at "dl"
      show D.bl false = D.bl (decide ((l.length : Int) ≤ m) && l.all fun c => decide (c ∈ LS r))
      rw [decide_eq_false hm, Bool.false_and]
  | _ => first | (cases hv; done) | ((repeat walk_at "dl"); rfl)
-- is_family
def okT : D → Bool
  | .ptp _ => false
  | v => okD v
theorem okT_ok {v : D} (h : okT v = true) : okD v = true := by cases v <;> first | exact h | (cases h; done)
def gd0 (v : D) : Prop := okT v = true ∧ szD v ∧ (∀ ds, v = .tup ds → ds.length ≤ 2000) ∧ ∀ ds, v = .lst ds → ds.length ≤ 1000
def gd1 (v : D) : Prop := gd0 v ∧ ∀ ds, v = .tup ds → ∀ d ∈ ds, gd0 d
def gd2 (v : D) : Prop := gd0 v ∧ ∀ ds, v = .tup ds → ∀ d ∈ ds, gd1 d
def rk : D → Int
  | .int i => i
  | _ => 0
def givenOk (r : D) (g : D) : Bool := match g with
  | .tup ws => decide (ws.length ≤ 4) && ws.all fun w => spelled w (rk r) 8
  | _ => false
def isFam (v : D) : Bool := match v with
  | .tup [r, g] => isInt r 1 3 && givenOk r g
  | _ => false
def fs_is_family : FS := ⟨D, fun v => [v], fun v => gd2 v, fun v d => d = .bl (isFam v)⟩
def g0 (v : D) : Bool := match v with
  | .stm => false | .obn => false | .ty _ => false | .ptp _ => false | .exc .. => false | .cls _ => false
  | .str l => decide (l.length ≤ 1000)
  | .tup ds => decide (ds.length ≤ 2000)
  | .lst ds => decide (ds.length ≤ 1000)
  | _ => true
def g1 (v : D) : Bool := g0 v && match v with
  | .tup ds => ds.all g0
  | _ => true
def g2 (v : D) : Bool := g0 v && match v with
  | .tup ds => ds.all g1
  | _ => true
theorem gd0_of {v : D} (h : g0 v = true) : gd0 v := by
  refine ⟨?_, fun l e => ?_, fun l e => ?_, fun l e => ?_⟩
  · cases v <;> first | rfl | (cases h; done)
  · subst e; exact of_decide_eq_true h
  · subst e; exact of_decide_eq_true h
  · subst e; exact of_decide_eq_true h
theorem gd1_of {v : D} (h : g1 v = true) : gd1 v := by
  obtain ⟨h1, h2⟩ := Bool.and_eq_true _ _ |>.mp h
  refine ⟨gd0_of h1, fun l e d hd => ?_⟩
  subst e
  exact gd0_of (List.all_eq_true.mp h2 d hd)
theorem gd2_of {v : D} (h : g2 v = true) : gd2 v := by
  obtain ⟨h1, h2⟩ := Bool.and_eq_true _ _ |>.mp h
  refine ⟨gd0_of h1, fun l e d hd => ?_⟩
  subst e
  exact gd1_of (List.all_eq_true.mp h2 d hd)
theorem strs_g0 {r : Int} {ws : List (List Nat)} (h : ∀ w ∈ ws, okW r 8 w) : (ws.map D.str).all g0 = true := by
  rw [List.all_eq_true]
  intro d hd
  obtain ⟨w, hw, rfl⟩ := List.mem_map.mp hd
  have h8 := (h w hw).1
  exact decide_eq_true (show w.length ≤ 1000 by omega)
theorem fam_true {r : Int} {ws : List (List Nat)} (h : okF r ws) : isFam (famD r ws) = true := by
  obtain ⟨h1, h2, h3, h4⟩ := h
  show ((decide (1 ≤ r) && decide (r ≤ 3)) && (decide ((ws.map D.str).length ≤ 4) && (ws.map D.str).all fun w => spelled w r 8)) = true
  rw [decide_eq_true h1, decide_eq_true h2, List.length_map, decide_eq_true h3, Bool.true_and, Bool.true_and, Bool.true_and, List.all_eq_true]
  intro d hd
  obtain ⟨w, hw, rfl⟩ := List.mem_map.mp hd
  obtain ⟨a, b⟩ := h4 w hw
  show (decide ((w.length : Int) ≤ 8) && w.all fun c => decide (c ∈ LS r)) = true
  rw [decide_eq_true (by omega), Bool.true_and, List.all_eq_true]
  exact fun c hc => decide_eq_true (b c hc)
theorem fam_g2 {r : Int} {ws : List (List Nat)} (h : okF r ws) : g2 (famD r ws) = true := by
  have h0 := strs_g0 h.2.2.2
  have hl : (ws.map D.str).length ≤ 2000 := by rw [List.length_map]; have := h.2.2.1; omega
  show (decide (2 ≤ 2000) && ((g0 (.int r) && true) && (((decide ((ws.map D.str).length ≤ 2000)) && (ws.map D.str).all g0) && true))) = true
  rw [h0, decide_eq_true hl]
  rfl
theorem ok_is_family (T : Txt mg) (d_is_family : Df K mg "is_family" s_is_family ["value"]) (c_is_rank : C8.Cal P w K mg base 2 "is_rank" (PF fs_is_rank) []) (c_is_spelled : C8.Cal P w K mg base 2 "is_spelled" (PF fs_is_spelled) []) (c_is_tuple : C8.Cal P w K mg base 1 "is_tuple" (PF fs_is_tuple) []) : C8.Cal P w K mg base 3 "is_family" (PF fs_is_family) [] := by
  refine df_cal d_is_family sc_is_family (fun _ => rfl) fun f cdv A outer s H E hr => ⟨_, (pss_cons (ps_if (pt_not (pt_val (C8.pe_c c_is_tuple hr (by first | decide | omega) (by rfl) (pa_cons (pv 0) (pa_cons pe_int pa_nil))))) (pss_one (ps_ret pe_bl)) pss_nil) (pss_cons (ps_asg (pv 0) (pg_tup rfl (pgs_cons (pg_name (i := 1) sc_is_family.nd rfl (by first | exact Or.inl rfl | exact Or.inr rfl)) (pgs_cons (pg_name (i := 2) sc_is_family.nd rfl (by first | exact Or.inl rfl | exact Or.inr rfl)) pgs_nil)))) (pss_cons (ps_if (PW.pt (pw_or (pt_not (pt_val (C8.pe_c c_is_rank hr (by first | decide | omega) (by rfl) (pa_cons (pv 1) pa_nil)))) (pw_or (pt_not (pt_val (pe_callB cd_isi (by rfl) T.n_isinstance (by decide +kernel) (pa_cons (pv 2) (pa_cons (pe_bltn (v := .ty "tuple") (by rfl) T.n_tuple (by decide +kernel) rfl) pa_nil))))) (pw_or1 (pt_cmpR op_gt (pe_callB cd_len (by rfl) T.n_len (by decide +kernel) (pa_cons (pv 2) pa_nil)) (C8.pe_gc (by rfl) T.g_MOST_GIVEN) (nomark _)))))) (pss_one (ps_ret pe_bl)) pss_nil) (pss_one (ps_ret (pe_callB (cd_all rfl) (by rfl) T.n_all (by decide +kernel) (pa_cons (pe_lc (own := [("word", 3)]) rfl sc_is_family.nd (pi_tup (pv 2)) (blkOk_by (N := n_is_family) (sc := defScope s_is_family) (own := [("word", 3)]) (by decide +kernel)) (fun _ _ _ _ _ => (pg_name (i := 3) sc_is_family.nd rfl (by first | exact Or.inl rfl | exact Or.inr rfl))) (fun _ _ _ _ _ => pts_nil) (fun _ _ _ _ _ => (C8.pe_c c_is_spelled hr (by first | decide | omega) (by rfl) (pa_cons (pv 3) (pa_cons (pv 1) (pa_cons (C8.pe_gc (by rfl) T.g_MOST_GIVEN_LETTERS) pa_nil)))))) pa_nil))))))), fun (v : D) hp => ?_⟩
  have hv : gd2 v := hp
  show Ds _ [.dat v, .any, .any, .any] _ (fun d => d = .bl (isFam v)) _ _
  have hv0 := hv.1.1
  have hk : ∀ k, lenD v = some k → k ≤ 1000000 := fun k e => by
    cases v with
    | str l => have := hv.1.2.1 l rfl; cases e; omega
    | tup ds => have := hv.1.2.2.1 ds rfl; cases e; omega
    | lst ds => have := hv.1.2.2.2 ds rfl; cases e; omega
    | ptp ds => cases hv0
    | _ => cases e
  repeat walk_at "dl"
  refine ⟨(v, 2), rfl, ⟨okT_ok hv0, hk⟩, fun d hd => ?_⟩
  obtain rfl : d = .bl (tupN v 2) := hd
  repeat walk_at "dl"
  cases v with
  | tup ds =>
    have hl : ds.length ≤ 2000 := hv.1.2.2.1 ds rfl
    show if (!decide ((ds.length : Int) = 2)) = true then _ else _
    by_cases h2 : ds.length = 2
    · obtain ⟨r, g, rfl⟩ : ∃ r g, ds = [r, g] := by
        match ds, h2 with
        | [r, g], _ => exact ⟨r, g, rfl⟩
      have hr1 := (hv.2 _ rfl r (by simp))
      have hg1 := (hv.2 _ rfl g (by simp))
      rw [decide_eq_true (by rfl : (([r, g] : List D).length : Int) = 2)]
      repeat walk_at "dl"
      refine ds_asg ?_
      walk_at "dl"
      refine dg_tup rfl (dgs_cons (dg_name (dgs_cons (dg_name (dgs_nil ?_)))))
      repeat walk_at "dl"
      refine ⟨r, rfl, okT_ok hr1.1.1, fun d hd => ?_⟩
      cases hd
      walk_at "dl"
      by_cases hi : isInt r 1 3 = true
      · obtain ⟨i, rfl, i1, i2⟩ := isInt_iff hi
        rw [hi]
        have hg0 := hg1.1.1
        cases g with
        | tup ws =>
          have hw : ws.length ≤ 2000 := hg1.1.2.2.1 ws rfl
          repeat walk_at "dl"
          by_cases h4 : ws.length ≤ 4
          · rw [decide_eq_false (by omega)]
            repeat walk_at "dl"
            refine de_ofN (den_lc (di_tup (de_var rfl ⟨ws, rfl, by omega, fun i' acc => acc = ((ws.take i').map fun w => spelled w i 8).map D.bl, by simp, fun k d acc hd _ ha => ?_, fun acc ha => ?_⟩)))
            · repeat walk_at "dl"
              have hm := hg1.2 ws rfl d (List.mem_of_getElem? hd)
              refine ⟨(d, i, 8), rfl, ⟨okT_ok hm.1, hm.2.1, i1, i2⟩, fun d' hd' => ?_⟩
              cases hd'
              rw [ha]
              exact map_bl_take hd
            · dsimp only at ha
              rw [List.take_length] at ha
              subst ha
              walk_at "dl"
              refine dcl_all ?_
              show D.bl _ = D.bl (isInt (.int i) 1 3 && (decide (ws.length ≤ 4) && ws.all fun w => spelled w i 8))
              rw [hi, decide_eq_true h4, Bool.true_and, Bool.true_and, List.all_map]
              rfl
          · rw [decide_eq_true (by omega)]
            repeat walk_at "dl"
            show D.bl _ = D.bl (isInt (.int i) 1 3 && (decide (ws.length ≤ 4) && ws.all fun w => spelled w i 8))
            rw [decide_eq_false h4, Bool.false_and, Bool.and_false]
        | _ => first | (cases hg0; done) | ((repeat walk_at "dl"); show D.bl _ = D.bl (_ && false); rw [Bool.and_false])
      · have hi' : isInt r 1 3 = false := by simpa using hi
        rw [hi']
        repeat walk_at "dl"
        show D.bl _ = D.bl (isInt r 1 3 && _)
        rw [hi', Bool.false_and]
    · rw [decide_eq_false (by omega)]
      repeat walk_at "dl"
      show D.bl false = D.bl (isFam (.tup ds))
      match ds, h2 with
      | [], _ => rfl
      | [_], _ => rfl
      | _ :: _ :: _ :: _, _ => rfl
  | _ => first | (cases hv0; done) | ((repeat walk_at "dl"); rfl)
-- check_rank
def fs_check_rank : FS := ⟨Int, fun r => [.int r], fun r => 1 ≤ r ∧ r ≤ 3, fun _ d => d = .non⟩
theorem ok_check_rank (T : Txt mg) (d_check_rank : Df K mg "check_rank" s_check_rank ["value"]) (c_is_rank : C8.Cal P w K mg base 2 "is_rank" (PF fs_is_rank) []) : C8.Cal P w K mg base 3 "check_rank" (PF fs_check_rank) [] := by
  refine df_cal d_check_rank sc_check_rank (fun _ => rfl) fun f cdv A outer s H E hr => ⟨_, (pss_one (ps_if (pt_not (pt_val (C8.pe_c c_is_rank hr (by first | decide | omega) (by rfl) (pa_cons (pv 0) pa_nil)))) (pss_one ps_never) pss_nil)), fun (r : Int) hp => ?_⟩
  obtain ⟨h1, h2⟩ : 1 ≤ r ∧ r ≤ 3 := hp
  show Ds _ [.dat (.int r)] (fun _ => D.non = D.non) (fun d => d = .non) _ _
  repeat walk_at "dl"
  refine ⟨.int r, rfl, rfl, fun d hd => ?_⟩
  have e : isInt (.int r) 1 3 = true := by
    show (decide (1 ≤ r) && decide (r ≤ 3)) = true
    rw [decide_eq_true h1, decide_eq_true h2]
    rfl
  obtain rfl : d = .bl true := hd.trans (congrArg D.bl e)
  repeat walk_at "dl"
-- check_rank: it may raise
def fx_check_rank : FSX := ⟨⟨D, fun v => [v], fun v => okD v = true, fun v d => isInt v 1 3 = true ∧ d = .non⟩, fun v x => isInt v 1 3 = false ∧ x = xBad q_rank⟩
theorem okx_check_rank (T : Txt mg) (d_check_rank : Df K mg "check_rank" s_check_rank ["value"]) (m_BadValue : MakX K mg "BadValue" ["name"]) (c_is_rank : C8.Cal P w K mg base 2 "is_rank" (PF fs_is_rank) []) : CalX P w K mg base 3 "check_rank" (PFX mg fx_check_rank) := by
  refine df_calX d_check_rank sc_check_rank (fun _ => rfl) fun f cdv A outer s H E hr => ⟨_, (pss_one (ps_if (pt_not (pt_val (C8.pe_c c_is_rank hr (by first | decide | omega) (by rfl) (pa_cons (pv 0) pa_nil)))) (pss_one (ps_raiseX rfl m_BadValue hr (by first | decide | omega) (by rfl) (takes_of rfl rfl rfl rfl) (pa_cons pe_str pa_nil))) pss_nil)), fun (v : D) hp => ?_⟩
  have hv : okD v = true := hp
  show DsW mg _ _ [.dat v] _ _ _ _ _
  refine dw_if (dtw_of ?_)
  repeat walk_at "de"
  refine ⟨v, rfl, hv, fun d hd => ?_⟩
  obtain rfl : d = .bl (isInt v 1 3) := hd
  repeat walk_at "de"
  cases hb : isInt v 1 3 with
  | false =>
    refine iteT (dw_raise ?_)
    repeat walk_at "de"
    exact ⟨rfl, by show 1 ≤ 900; decide, hb, rfl⟩
  | true => exact iteF (dw_of (ds_next ⟨hb, rfl⟩))
-- opposite
def fs_opposite : FS := ⟨Nat, fun c => [.str [c]], fun c => c ∈ LTR, fun c d => d = .str [sw c]⟩
theorem ok_opposite (T : Txt mg) (d_opposite : Df K mg "opposite" s_opposite ["letter"]) : C8.Cal P w K mg base 1 "opposite" (PF fs_opposite) [] := by
  refine df_cal d_opposite sc_opposite (fun _ => rfl) fun f cdv A outer s H E hr => ⟨_, (pss_one (ps_ret (pe_bm0 PySem.F.plainAttrs_str PySem.F.slot_str_swapcase PySem.F.type_str_swapcase md_swap (pv 0)))), fun (c : Nat) hp => ?_⟩
  have hc : c ∈ LTR := hp
  show Ds _ [.dat (.str [c])] _ (fun d => d = .str [sw c]) _ _
  repeat walk_at "dl"
  refine ⟨rfl, dmt_swap (by simp) (fun x hx => by rw [List.mem_singleton.mp hx]; exact hc) ?_⟩
  rfl
-- moves_along
def fs_moves_along : FS := ⟨D × List Ed, fun a => [a.1], fun a => lsD a.1 (a.2.map edD) ∧ a.2.length ≤ 1000 ∧ ∀ e ∈ a.2, e.2.1 ∈ LTR, fun a d => d = .dT (mvs a.2)⟩
theorem ok_moves_along (T : Txt mg) (d_moves_along : Df K mg "moves_along" s_moves_along ["edges"]) (c_opposite : C8.Cal P w K mg base 1 "opposite" (PF fs_opposite) []) : C8.Cal P w K mg base 2 "moves_along" (PF fs_moves_along) [] := by
  refine df_cal d_moves_along sc_moves_along (fun _ => rfl) fun f cdv A outer s H E hr => ⟨_, (pss_cons (ps_set (i := 1) sc_moves_along.nd rfl (by first | exact Or.inl rfl | exact Or.inr rfl) pe_dnewT) (pss_cons (ps_for PassesOwn.never rfl (pi_sq (pv 0)) (pg_tup rfl (pgs_cons (pg_name (i := 2) sc_moves_along.nd rfl (by first | exact Or.inl rfl | exact Or.inr rfl)) (pgs_cons (pg_name (i := 3) sc_moves_along.nd rfl (by first | exact Or.inl rfl | exact Or.inr rfl)) (pgs_cons (pg_name (i := 4) sc_moves_along.nd rfl (by first | exact Or.inl rfl | exact Or.inr rfl)) pgs_nil)))) (pss_cons (ps_dput (hu_of hr) (pv 1) (pe_tup (pa_cons (pv 2) (pa_cons (pv 3) pa_nil))) (pv 4) rfl) (pss_one (ps_dput (hu_of hr) (pv 1) (pe_tup (pa_cons (pv 4) (pa_cons (C8.pe_c c_opposite hr (by first | decide | omega) (by rfl) (pa_cons (pv 3) pa_nil)) pa_nil))) (pv 2) rfl)))) (pss_one (ps_ret (pv 1))))), fun a hp => ?_⟩
  obtain ⟨xs, es⟩ := a
  obtain ⟨hx, hz, hl⟩ : lsD xs (es.map edD) ∧ es.length ≤ 1000 ∧ ∀ e ∈ es, e.2.1 ∈ LTR := hp
  show Ds _ [.dat xs, .any, .any, .any, .any] _ (fun d => d = .dT (mvs es)) _ _
  refine ds_seq (ds_setN (den_dnewT ?_))
  try dsimp only [List.set]
  refine ds_seq (ds_for (di_ls (de_var rfl ⟨es.map edD, hx, fun i e => ∃ x y z, e = [.dat xs, .own (.dT ((es.take i).foldl put2 [])), x, y, z], ⟨.any, .any, .any, rfl⟩, fun i d e hd he => ?_, fun e he => ?_⟩)))
  · obtain ⟨x, y, z, rfl⟩ := he
    rw [List.getElem?_map] at hd
    obtain ⟨ed, hed, rfl⟩ := Option.map_eq_some_iff.mp hd
    have hcl := hl ed (List.mem_of_getElem? hed)
    have hlen := mvs_len (es.take i)
    have ht : (es.take i).length ≤ 1000 := by rw [List.length_take]; omega
    unfold mvs at hlen
    obtain ⟨p, c, q⟩ := ed
    refine dg_tup rfl (dgs_cons (dg_name (dgs_cons (dg_name (dgs_cons (dg_name (dgs_nil ?_)))))))
    try dsimp only [List.set]
    refine ds_seq (ds_dputT rfl (by omega) ?_)
    repeat walk_at "de"
    refine ⟨_, kk p c, .int (q : Int), rfl, rfl, rfl, ?_⟩
    try dsimp only [List.set]
    refine ds_dputT rfl (Nat.lt_of_le_of_lt (put_len _ _ _) (by omega)) ?_
    repeat walk_at "de"
    refine ⟨c, rfl, hcl, fun d hd => ?_⟩
    obtain rfl : d = .str [sw c] := hd
    repeat walk_at "de"
    refine ⟨_, kk q (sw c), .int (p : Int), rfl, rfl, rfl, ?_⟩
    refine ⟨.dat (.int (p : Int)), .dat (sign c), .dat (.int (q : Int)), ?_⟩
    rw [List.take_add_one, hed, List.foldl_append]
    rfl
  · obtain ⟨x, y, z, rfl⟩ := he
    rw [List.length_map, List.take_length]
    refine ds_rel 1 rfl ?_
    try dsimp only [List.set, toD]
    repeat walk_at "dl"
    rfl
-- first_ways
def fs_first_ways : FS := ⟨List (List Key × V) × List Nat × Nat × Nat, fun a => [.dT a.1, .str a.2.1, .int (a.2.2.1 : Int)], fun a => Mv a.1 a.2.2.2 ∧ a.2.2.1 < a.2.2.2 ∧ a.2.2.2 ≤ 100000 ∧ a.2.1.length ≤ 6,
  fun a d => d = .dK (wd (fw a.1 a.2.1 a.2.2.1 a.2.2.2))⟩
theorem wi_upto {kvs : List (List Key × V)} {ls : List Nat} {p0 N : Nat} (M : Mv kvs N) (h0 : p0 < N) (t i : Nat) (ht : t < (fw kvs ls p0 t).1.length) : WI kvs ls p0 N ((ls.take i).foldl (fwL kvs t) (fw kvs ls p0 t)) ∧ t < ((ls.take i).foldl (fwL kvs t) (fw kvs ls p0 t)).1.length ∧ ((ls.take i).foldl (fwL kvs t) (fw kvs ls p0 t)).1.getD t 0 = (fw kvs ls p0 t).1.getD t 0 := by
  obtain ⟨a, b, _⟩ := (WI.range M h0 t).1.stepLs M (ls.take i) ht fun _ z => List.mem_of_mem_take z
  exact ⟨a, Nat.lt_of_lt_of_le ht b.length_le, pre_getD b ht⟩
theorem ok_first_ways (T : Txt mg) (d_first_ways : Df K mg "first_ways" s_first_ways ["moves", "letters", "start"]) : C8.Cal P w K mg base 1 "first_ways" (PF fs_first_ways) [] := by
  refine df_cal d_first_ways sc_first_ways (fun _ => rfl) fun f cdv A outer s H E hr => ⟨_, (pss_cons (ps_set (i := 3) sc_first_ways.nd rfl (by first | exact Or.inl rfl | exact Or.inr rfl) (pe_disp (pps_cons (pv 2) pe_str pps_nil) (by rfl) (by rfl) (fun z => by cases z) (by decide))) (pss_cons (ps_set (i := 4) sc_first_ways.nd rfl (by first | exact Or.inl rfl | exact Or.inr rfl) (pe_lst (pa_cons (pv 2) pa_nil))) (pss_cons (ps_set (i := 5) sc_first_ways.nd rfl (by first | exact Or.inl rfl | exact Or.inr rfl) pe_int) (pss_cons (ps_while PassesOwn.never (pt_cmpR op_lt (pv 5) (pe_callB cd_len (by rfl) T.n_len (by decide +kernel) (pa_cons (pv 4) pa_nil)) (nomark _)) (pss_cons (ps_set (i := 6) sc_first_ways.nd rfl (by first | exact Or.inl rfl | exact Or.inr rfl) (pe_ix ix_list (pv 4) (pv 5) (fun _ _ => rfl))) (pss_cons (ps_aug (i := 5) sc_first_ways.nd rfl (by first | exact Or.inl rfl | exact Or.inr rfl) pe_int ip_add) (pss_one (ps_for PassesOwn.never rfl (pi_str (pv 1)) (pg_name (i := 7) sc_first_ways.nd rfl (by first | exact Or.inl rfl | exact Or.inr rfl)) (pss_cons (ps_set (i := 8) sc_first_ways.nd rfl (by first | exact Or.inl rfl | exact Or.inr rfl) (pe_dget1 (hu_of hr) (pv 0) (pe_tup (pa_cons (pv 6) (pa_cons (pv 7) pa_nil))) ⟨rfl, rfl, rfl, rfl⟩)) (pss_one (ps_if (PW.pt (pw_and (pt_cmpR od_notN (pv 8) pe_non (nomark _)) (pw_and1 (pt_cmp (pc_dnotin (hu_of hr) (pv 8) (pv 3)))))) (pss_cons (ps_dput (hu_of hr) (pv 3) (pv 8) (pe_op od_add_str (pe_dget (hu_of hr) (pv 3) (pv 6) (fun _ _ => rfl)) (pv 7)) rfl) (pss_one (ps_expr (pe_bm PySem.F.plainAttrs_list PySem.F.slot_list_append PySem.F.type_list_append mt_append (pv 4) (pa_cons (pv 8) pa_nil))))) pss_nil)))))))) (pss_one (ps_ret (pv 3))))))), fun a hp => ?_⟩
  obtain ⟨kvs, ls, p0, N⟩ := a
  obtain ⟨hM, h0, hN, hl6⟩ : Mv kvs N ∧ p0 < N ∧ N ≤ 100000 ∧ ls.length ≤ 6 := hp
  show Ds _ [.dat (.dT kvs), .dat (.str ls), .dat (.int (p0 : Int)), .any, .any, .any, .any, .any, .any] _ (fun d => d = .dK (wd (fw kvs ls p0 N))) _ _
  refine ds_seq (ds_setN (den_disp1 (de_var rfl (de_str ⟨.inl (p0 : Int), _, rfl, rfl, ?_⟩))))
  refine ds_seq (ds_setN (den_lst (da_cons (de_var rfl (da_nil ⟨by simp, ?_⟩)))))
  refine ds_seq (ds_set (de_int ?_))
  try dsimp only [List.set]
  have hlI : ∀ l : List Nat, ((rowI l).map D.int).length = l.length := fun l => by unfold rowI; rw [List.length_map, List.length_map]
  refine ds_seq (ds_while (fun m e => ∃ t x y z, m = N - t ∧ t ≤ (fw kvs ls p0 t).1.length ∧ e = [.dat (.dT kvs), .dat (.str ls), .dat (.int (p0 : Int)), .own (.dK (wd (fw kvs ls p0 t))), .own (.lst ((rowI (fw kvs ls p0 t).1).map D.int)), .dat (.int (t : Int)), x, y, z]) (N - 0) ⟨0, .any, .any, .any, rfl, Nat.zero_le _, rfl⟩ ?_)
  rintro m e ⟨t, x, y, z, rfl, htl, rfl⟩
  have W0 := (WI.range (ls := ls) hM h0 t).1
  have L0 := W0.len_le
  refine dt_look 4 rfl (dt_test (de_op (de_var rfl (de_cb (da_cons (de_var rfl (da_nil (dcl_len (n := (fw kvs ls p0 t).1.length) (by show some _ = some _; rw [hlI]) (by omega) ?_))))))))
  repeat walk_at "de"
  by_cases hc : t < (fw kvs ls p0 t).1.length
  · rw [decide_eq_true (by omega)]
    refine iteT ?_
    obtain ⟨a1, a2, a3, a4⟩ := W0.at hc
    refine ds_seq (ds_set (de_look 4 rfl (de_op (de_var rfl (de_var rfl (dop_ixl (c := .int ((fw kvs ls p0 t).1.getD t 0 : Nat)) (atI_at (by omega) (by rw [show ((t : Int)).toNat = t by omega]; unfold rowI; rw [List.map_map, List.getElem?_map, a1]; rfl)) ⟨trivial, ?_⟩))))))
    try dsimp only [List.set]
    refine ds_seq (ds_aug rfl (de_int ⟨_, rfl, ?_⟩))
    try dsimp only [List.set]
    have hT : fw kvs ls p0 (t + 1) = ls.foldl (fwL kvs t) (fw kvs ls p0 t) := by rw [fw_succ]; exact if_pos hc
    refine ds_for (di_str (de_var rfl ⟨ls, rfl, fun i e => ∃ y z, e = [.dat (.dT kvs), .dat (.str ls), .dat (.int (p0 : Int)), .own (.dK (wd ((ls.take i).foldl (fwL kvs t) (fw kvs ls p0 t)))), .own (.lst ((rowI ((ls.take i).foldl (fwL kvs t) (fw kvs ls p0 t)).1).map D.int)), .dat (.int ((t : Int) + 1)), .dat (.int ((fw kvs ls p0 t).1.getD t 0 : Nat)), y, z], ⟨y, z, rfl⟩, fun i d e hd he => ?_, fun e he => ?_⟩))
    · obtain ⟨y, z, rfl⟩ := he
      obtain ⟨c, hci, rfl⟩ := sign_at hd
      obtain ⟨W1, hc1, hg⟩ := wi_upto (ls := ls) hM h0 t i hc
      have hstep : (ls.take (i + 1)).foldl (fwL kvs t) (fw kvs ls p0 t) = fwL kvs t ((ls.take i).foldl (fwL kvs t) (fw kvs ls p0 t)) c := by
        rw [List.take_add_one, hci, List.foldl_append]
        rfl
      dsimp only
      rw [hstep]
      generalize hq0 : (fw kvs ls p0 t).1.getD t 0 = q0 at hg a3
      generalize (ls.take i).foldl (fwL kvs t) (fw kvs ls p0 t) = s1 at W1 hc1 hg
      have L1 := W1.len_le
      have hlen := W1.len
      obtain ⟨b1, b2, b3, b4⟩ := W1.at hc1
      rw [hg] at b1 b3
      refine dg_name ?_
      try dsimp only [List.set]
      unfold fwL
      rw [hg]
      refine ds_seq (ds_set (de_dget1T (.inr rfl) ?_))
      repeat walk_at "de"
      cases e : stO kvs q0 c with
      | none =>
        refine ⟨_, kk q0 c, .non, rfl, rfl, by rw [stO_none hM e]; rfl, ?_⟩
        refine ds_if ?_
        repeat walk_at "dl"
        exact ⟨_, _, rfl⟩
      | some q =>
        obtain ⟨hqN, hqv⟩ := stO_lt hM e
        refine ⟨_, kk q0 c, .int (q : Int), rfl, rfl, by rw [hqv]; rfl, ?_⟩
        refine ds_if ?_
        refine dt_and (dt_test (de_op (de_var rfl (de_non (dop_notN ⟨_, rfl, iteT ?_⟩)))))
        refine dt_B (de_dnotinK (.inl rfl) (de_var rfl ⟨.inl (q : Int), rfl, ?_⟩))
        refine ⟨_, rfl, ?_⟩
        by_cases hm : q ∈ s1.1
        · obtain ⟨k, hk⟩ := List.mem_iff_getElem?.mp hm
          have hkl : k < s1.2.length := by rw [hlen]; exact (List.getElem?_eq_some_iff.mp hk).1
          rw [(wd_look (ps := s1.1) (ws := s1.2) (q := q) hlen).2 k _ W1.nd hk (List.getElem?_eq_getElem hkl)]
          refine iteF (ds_next ?_)
          dsimp only
          rw [if_pos hm]
          exact ⟨_, _, rfl⟩
        · rw [(wd_look (ps := s1.1) (ws := s1.2) (q := q) hlen).1 hm]
          refine iteT ?_
          dsimp only
          rw [if_neg hm]
          have hq0v := (wd_look (ps := s1.1) (ws := s1.2) (q := q0) hlen).2 t _ W1.nd b1 b2
          refine ds_seq (ds_dputK rfl (by rw [wd_len hlen]; omega) (de_op (de_dgetK (.inl rfl) (de_var rfl ⟨.inl (q0 : Int), _, .str (s1.2.getD t []), rfl, hq0v, rfl, ?_⟩))))
          refine de_var rfl (dop_adds (by simp only [List.length_cons, List.length_nil]; omega) (de_var rfl ⟨.inl (q : Int), _, rfl, rfl, ?_⟩))
          rw [wd_put hlen hm]
          try dsimp only [List.set]
          refine ds_append rfl (by rw [hlI]; omega) (de_var rfl ?_)
          try dsimp only [List.set]
          rw [show (rowI s1.1).map D.int ++ [.int (q : Int)] = (rowI (s1.1 ++ [q])).map D.int by unfold rowI; rw [List.map_append, List.map_append]; rfl]
          exact ⟨_, _, rfl⟩
    · obtain ⟨y, z, rfl⟩ := he
      rw [List.length_map, List.take_length, ← hT]
      refine ⟨N - (t + 1), by omega, t + 1, _, _, _, rfl, ?_, rfl⟩
      rw [hT]
      obtain ⟨_, b, _⟩ := W0.stepLs hM ls hc fun _ z => z
      exact Nat.lt_of_lt_of_le hc b.length_le
  · rw [decide_eq_false (by omega)]
    refine iteF ?_
    have hT := fw_end (ls := ls) hM h0 (t := t) (by omega) (by omega)
    rw [hT]
    refine ds_rel 3 rfl ?_
    try dsimp only [List.set, toD]
    repeat walk_at "dl"
-- count_ends
def fs_count_ends : FS := ⟨D × List Ed, fun a => [a.1], fun a => lsD a.1 (a.2.map edD) ∧ a.2.length ≤ 1000, fun a d => ∃ kvs, d = .dK kvs ∧ Cnt kvs (dgE a.2)⟩
theorem ok_count_ends (T : Txt mg) (d_count_ends : Df K mg "count_ends" s_count_ends ["edges"]) : C8.Cal P w K mg base 1 "count_ends" (PF fs_count_ends) [] := by
  refine df_cal d_count_ends sc_count_ends (fun _ => rfl) fun f cdv A outer s H E hr => ⟨_, (pss_cons (ps_set (i := 1) sc_count_ends.nd rfl (by first | exact Or.inl rfl | exact Or.inr rfl) pe_dnewK) (pss_cons (ps_for PassesOwn.never rfl (pi_sq (pv 0)) (pg_tup rfl (pgs_cons (pg_name (i := 2) sc_count_ends.nd rfl (by first | exact Or.inl rfl | exact Or.inr rfl)) (pgs_cons (pg_name (i := 3) sc_count_ends.nd rfl (by first | exact Or.inl rfl | exact Or.inr rfl)) (pgs_cons (pg_name (i := 4) sc_count_ends.nd rfl (by first | exact Or.inl rfl | exact Or.inr rfl)) pgs_nil)))) (pss_cons (ps_dput (hu_of hr) (pv 1) (pv 2) (pe_op op_add (pe_dget2 (hu_of hr) (pv 1) (pv 2) pe_int ⟨rfl, rfl, rfl, rfl⟩) pe_int) rfl) (pss_one (ps_dput (hu_of hr) (pv 1) (pv 4) (pe_op op_add (pe_dget2 (hu_of hr) (pv 1) (pv 4) pe_int ⟨rfl, rfl, rfl, rfl⟩) pe_int) rfl)))) (pss_one (ps_ret (pv 1))))), fun a hp => ?_⟩
  obtain ⟨xs, es⟩ := a
  obtain ⟨hx, hz⟩ : lsD xs (es.map edD) ∧ es.length ≤ 1000 := hp
  show Ds _ [.dat xs, .any, .any, .any, .any] _ (fun d => ∃ kvs, d = .dK kvs ∧ Cnt kvs (dgE es)) _ _
  refine ds_seq (ds_setN (den_dnewK ?_))
  try dsimp only [List.set]
  refine ds_seq (ds_for (di_ls (de_var rfl ⟨es.map edD, hx, fun i e => ∃ kvs x y z, e = [.dat xs, .own (.dK kvs), x, y, z] ∧ Cnt kvs (dgE (es.take i)) ∧ kvs.length ≤ 2 * i, ⟨[], .any, .any, .any, rfl, fun v => rfl, Nat.le_refl _⟩, fun i d e hd he => ?_, fun e he => ?_⟩)))
  · obtain ⟨kvs, x, y, z, rfl, hC, hl⟩ := he
    rw [List.getElem?_map] at hd
    obtain ⟨ed, hed, rfl⟩ := Option.map_eq_some_iff.mp hd
    have il := (List.getElem?_eq_some_iff.mp hed).1
    obtain ⟨p, c, q⟩ := ed
    have hstep : dgE (es.take (i + 1)) = fun v => (dgE (es.take i) v + if p = v then 1 else 0) + if q = v then 1 else 0 := by
      funext v
      rw [List.take_add_one, hed, Option.toList_some, dgE_snoc]
      dsimp only
      omega
    refine dg_tup rfl (dgs_cons (dg_name (dgs_cons (dg_name (dgs_cons (dg_name (dgs_nil ?_)))))))
    try dsimp only [List.set]
    refine ds_seq (ds_dputK rfl (by omega) (de_op (de_dget2Ki (.inl rfl) (de_var rfl (de_int ⟨.inl (p : Int), _, rfl, hC.get p, ?_⟩)))))
    repeat walk_at "de"
    refine ⟨.inl (p : Int), .int ((dgE (es.take i) p + 1 : Nat) : Int), rfl, rfl, ?_⟩
    have hC2 := hC.inc p
    try dsimp only [List.set]
    refine ds_dputK rfl (Nat.lt_of_le_of_lt (put_len _ _ _) (by omega)) (de_op (de_dget2Ki (.inl rfl) (de_var rfl (de_int ⟨.inl (q : Int), _, rfl, hC2.get q, ?_⟩))))
    repeat walk_at "de"
    refine ⟨.inl (q : Int), .int ((dgE (es.take i) q + (if p = q then 1 else 0) + 1 : Nat) : Int), rfl, rfl, ?_⟩
    have hC3 := hC2.inc q
    try dsimp only [List.set]
    refine ⟨_, _, _, _, rfl, ?_, ?_⟩
    · rw [hstep]
      exact hC3
    · have a := put_len kvs (.inl (p : Int)) (.int ((dgE (es.take i) p + 1 : Nat) : Int))
      have b := put_len (putK kvs (.inl (p : Int)) (.int ((dgE (es.take i) p + 1 : Nat) : Int))) (.inl (q : Int)) (.int ((dgE (es.take i) q + (if p = q then 1 else 0) + 1 : Nat) : Int))
      omega
  · obtain ⟨kvs, x, y, z, rfl, hC, hl⟩ := he
    rw [List.length_map, List.take_length] at hC
    refine ds_rel 1 rfl ?_
    try dsimp only [List.set, toD]
    refine ds_ret (de_var rfl ⟨kvs, rfl, hC⟩)
-- small_letters_of
def fs_small_letters_of : FS := ⟨Int, fun a => [.int a], fun a => 0 ≤ a, fun a d => d = .str (smL a)⟩
theorem ok_small_letters_of (T : Txt mg) (d_small_letters_of : Df K mg "small_letters_of" s_small_letters_of ["rank"]) : C8.Cal P w K mg base 1 "small_letters_of" (PF fs_small_letters_of) [] := by
  refine df_cal d_small_letters_of sc_small_letters_of (fun _ => rfl) fun f cdv A outer s H E hr => ⟨_, (pss_one (ps_ret (pe_slice sl_str (C8.pe_gc (by rfl) T.g_SMALL_LETTERS) po_none (po_some (pv 0))))), fun (r : Int) hp => ?_⟩
  have h0 : 0 ≤ r := hp
  show Ds _ [.dat (.int r)] _ (fun d => d = .str (smL r)) _ _
  repeat walk_at "dl"
  rfl
-- is_edge
/-- edges drawn in any way -/
def EdV (v : D) : Prop := v = .non ∨ (∃ ds : List D, v = .lst ds ∧ ds.length ≤ 1000) ∨ ∃ (s e : Int) (c : Nat), v = .tup [.int s, .str [c], .int e]
def edgB (r m : Int) (v : D) : Bool := match v with
  | .tup [.int s, .str [c], .int e] => (decide (0 ≤ s) && decide (s ≤ m - 1)) && ((decide (0 ≤ e) && decide (e ≤ m - 1)) && decide (c ∈ smL r))
  | _ => false
def fs_is_edge : FS := ⟨Int × Int × D, fun a => [.int a.1, .int a.2.1, a.2.2], fun a => 1 ≤ a.1 ∧ a.1 ≤ 3 ∧ EdV a.2.2, fun a d => d = .bl (edgB a.1 a.2.1 a.2.2)⟩
theorem ok_is_edge (T : Txt mg) (d_is_edge : Df K mg "is_edge" s_is_edge ["rank", "vertices", "value"]) (c_is_integer : C8.Cal P w K mg base 1 "is_integer" (PF fs_is_integer) []) (c_is_tuple : C8.Cal P w K mg base 1 "is_tuple" (PF fs_is_tuple) []) (c_small_letters_of : C8.Cal P w K mg base 1 "small_letters_of" (PF fs_small_letters_of) []) : C8.Cal P w K mg base 2 "is_edge" (PF fs_is_edge) [] := by
  refine df_cal d_is_edge sc_is_edge (fun _ => rfl) fun f cdv A outer s H E hr => ⟨_, (pss_cons (ps_if (pt_not (pt_val (C8.pe_c c_is_tuple hr (by first | decide | omega) (by rfl) (pa_cons (pv 2) (pa_cons pe_int pa_nil))))) (pss_one (ps_ret pe_bl)) pss_nil) (pss_cons (ps_asg (pv 2) (pg_tup rfl (pgs_cons (pg_name (i := 3) sc_is_edge.nd rfl (by first | exact Or.inl rfl | exact Or.inr rfl)) (pgs_cons (pg_name (i := 4) sc_is_edge.nd rfl (by first | exact Or.inl rfl | exact Or.inr rfl)) (pgs_cons (pg_name (i := 5) sc_is_edge.nd rfl (by first | exact Or.inl rfl | exact Or.inr rfl)) pgs_nil))))) (pss_cons (ps_if (PW.pt (pw_or (pt_not (pt_val (C8.pe_c c_is_integer hr (by first | decide | omega) (by rfl) (pa_cons (pv 3) (pa_cons pe_int (pa_cons (pe_op op_sub (pv 1) pe_int) pa_nil)))))) (pw_or1 (pt_not (pt_val (C8.pe_c c_is_integer hr (by first | decide | omega) (by rfl) (pa_cons (pv 5) (pa_cons pe_int (pa_cons (pe_op op_sub (pv 1) pe_int) pa_nil))))))))) (pss_one (ps_ret pe_bl)) pss_nil) (pss_one (ps_ret (pe_and (pe_callB cd_isi (by rfl) T.n_isinstance (by decide +kernel) (pa_cons (pv 4) (pa_cons (pe_bltn (v := .ty "str") (by rfl) T.n_str (by decide +kernel) rfl) pa_nil))) (pe_one (pe_cmpR op_in_seq (pv 4) (pe_callTy (cd_liststr rfl) (by rfl) T.n_list (by decide +kernel) (pa_cons (C8.pe_c c_small_letters_of hr (by first | decide | omega) (by rfl) (pa_cons (pv 0) pa_nil)) pa_nil)) rfl)))))))), fun a hp => ?_⟩
  obtain ⟨r, m, v⟩ := a
  obtain ⟨h1, h3, hv⟩ : 1 ≤ r ∧ r ≤ 3 ∧ EdV v := hp
  show Ds _ [.dat (.int r), .dat (.int m), .dat v, .any, .any, .any] _ (fun d => d = .bl (edgB r m v)) _ _
  rcases hv with rfl | ⟨ds, rfl, dz⟩ | ⟨a, b, c, rfl⟩
  · refine ds_seq (ds_if ?_)
    repeat walk_at "de"
    refine ⟨(.non, 3), rfl, ⟨rfl, fun k h => by cases h⟩, fun d hd => ?_⟩
    obtain rfl : d = .bl false := hd
    repeat walk_at "dl"
    rfl
  · refine ds_seq (ds_if ?_)
    repeat walk_at "de"
    refine ⟨(.lst ds, 3), rfl, ⟨rfl, fun k h => by cases h; omega⟩, fun d hd => ?_⟩
    obtain rfl : d = .bl false := hd
    repeat walk_at "dl"
    rfl
  · have es : edgB r m (.tup [.int a, .str [c], .int b]) = ((decide (0 ≤ a) && decide (a ≤ m - 1)) && ((decide (0 ≤ b) && decide (b ≤ m - 1)) && decide (c ∈ smL r))) := rfl
    rw [es]
    refine ds_seq (ds_if ?_)
    repeat walk_at "de"
    refine ⟨(.tup [.int a, .str [c], .int b], 3), rfl, ⟨rfl, fun k h => by cases h; show 3 ≤ 1000000; decide⟩, fun d hd => ?_⟩
    obtain rfl : d = .bl true := hd
    repeat walk_at "de"
    refine ds_next (ds_seq (ds_asg (de_var rfl (dg_tup rfl (dgs_cons (dg_name (dgs_cons (dg_name (dgs_cons (dg_name (dgs_nil ?_)))))))))))
    try dsimp only [List.set]
    refine ds_seq (ds_if (dt_or ?_))
    repeat walk_at "de"
    refine ⟨(.int a, 0, m - 1), rfl, rfl, fun d hd => ?_⟩
    obtain rfl : d = .bl (decide (0 ≤ a) && decide (a ≤ m - 1)) := hd
    cases ha : decide (0 ≤ a) && decide (a ≤ m - 1) with
    | false =>
      repeat walk_at "de"
      repeat walk_at "dl"
      try rfl
    | true =>
      repeat walk_at "de"
      refine ⟨(.int b, 0, m - 1), rfl, rfl, fun d hd => ?_⟩
      obtain rfl : d = .bl (decide (0 ≤ b) && decide (b ≤ m - 1)) := hd
      cases hb : decide (0 ≤ b) && decide (b ≤ m - 1) with
      | false =>
        repeat walk_at "de"
        repeat walk_at "dl"
        try rfl
      | true =>
        repeat walk_at "de"
        refine ds_next (ds_ret ?_)
        repeat walk_at "de"
        refine ⟨r, rfl, by show (0 : Int) ≤ r; omega, fun d hd => ?_⟩
        obtain rfl : d = .str (smL r) := hd
        have hsm : (smL r).length ≤ 3 := by unfold smL; rw [List.length_take]; exact Nat.min_le_right _ _
        refine da_nil (dcl_liststr (by omega) ?_)
        refine dop_inS (ns := (smL r).map fun c => [c]) (by show some _ = some _; rw [← sgl]) ?_
        have e : decide ([c] ∈ (smL r).map fun c => [c]) = decide (c ∈ smL r) := decide_eq_decide.mpr (by simp)
        rw [if_neg Bool.false_ne_true, e]
        rfl
-- is_graph
def decE (d : D) : Ed := match d with
  | .tup [.int s, .str [c], .int e] => (s.toNat, c, e.toNat)
  | _ => (0, 0, 0)
theorem dec_of {r m : Int} {d : D} (h : edgB r m d = true) : edD (decE d) = d ∧ ((decE d).1 : Int) < m ∧ ((decE d).2.2 : Int) < m ∧ (decE d).2.1 ∈ smL r := by
  unfold edgB at h
  split at h
  · rename_i s c e
    simp only [Bool.and_eq_true, decide_eq_true_eq] at h
    obtain ⟨⟨a, b⟩, ⟨p, q⟩, k⟩ := h
    refine ⟨?_, ?_, ?_, k⟩
    · show D.tup [.int ((s.toNat : Nat) : Int), .str [c], .int ((e.toNat : Nat) : Int)] = _
      rw [Int.toNat_of_nonneg a, Int.toNat_of_nonneg p]
    · show ((s.toNat : Nat) : Int) < m
      rw [Int.toNat_of_nonneg a]
      omega
    · show ((e.toNat : Nat) : Int) < m
      rw [Int.toNat_of_nonneg p]
      omega
  · cases h
theorem edgB_ed {r m : Int} {e : Ed} : edgB r m (edD e) = true ↔ (e.1 : Int) < m ∧ (e.2.2 : Int) < m ∧ e.2.1 ∈ smL r := by
  obtain ⟨p, c, q⟩ := e
  show ((decide (0 ≤ (p : Int)) && decide ((p : Int) ≤ m - 1)) && ((decide (0 ≤ (q : Int)) && decide ((q : Int) ≤ m - 1)) && decide (c ∈ smL r))) = true ↔ _
  simp only [Bool.and_eq_true, decide_eq_true_eq]
  constructor
  · rintro ⟨⟨_, a⟩, ⟨_, b⟩, k⟩
    exact ⟨by show (p : Int) < m; omega, by show (q : Int) < m; omega, k⟩
  · rintro ⟨a, b, k⟩
    have a : (p : Int) < m := a
    have b : (q : Int) < m := b
    exact ⟨⟨by omega, by omega⟩, ⟨by omega, by omega⟩, k⟩
theorem edD_inj {e f : Ed} (h : edD e = edD f) : e = f := by
  obtain ⟨a, b, c⟩ := e
  obtain ⟨a', b', c'⟩ := f
  injection h with h
  injection h with h1 h
  injection h with h2 h
  injection h with h3 _
  injection h1 with h1
  injection h3 with h3
  have h2 : D.str [b] = D.str [b'] := h2
  injection h2 with h2
  injection h2 with h2 _
  have h1 : (a : Int) = a' := h1
  have h3 : (c : Int) = c' := h3
  rw [show a = a' by omega, h2, show c = c' by omega]
/-- edges of a graph of m vertices, well formed -/
def GrF (r m : Int) (es : List Ed) : Prop := (∀ e ∈ es, ((e.1 : Int) < m ∧ (e.2.2 : Int) < m ∧ e.2.1 ∈ smL r)) ∧ AscE es
/-- a graph -/
def IsGr (r : Int) (v : D) (m : Nat) (es : List Ed) : Prop := v = .tup [.int (m : Int), .tup (es.map edD)] ∧ 1 ≤ m ∧ m ≤ es.length + 1 ∧ GrF r (m : Int) es
/-- values in a graph's place -/
def GrV (v : D) : Prop := v = .non ∨ (∃ ds : List D, v = .lst ds ∧ ds.length ≤ 1000) ∨ (∃ ds : List D, v = .tup ds ∧ ds.length ≠ 2 ∧ ds.length ≤ 1000) ∨
  ∃ m x, v = .tup [m, x] ∧ (m = .bl true ∨ ∃ i, m = .int i) ∧ ((∃ ds : List D, x = .lst ds ∧ ds.length ≤ 1000) ∨ ∃ ds : List D, x = .tup ds ∧ ds.length ≤ 200 ∧ ∀ d ∈ ds, EdV d)
def fs_is_graph : FS := ⟨Int × D, fun a => [.int a.1, a.2], fun a => 1 ≤ a.1 ∧ a.1 ≤ 3 ∧ GrV a.2, fun a d => ∃ b, d = .bl b ∧ (b = true ↔ ∃ m es, IsGr a.1 a.2 m es)⟩
theorem isGr_no {r : Int} {v : D} (h : ∀ m x, v ≠ .tup [.int m, .tup x]) : ¬ ∃ m es, IsGr r v m es := fun ⟨m, es, e, _⟩ => h _ _ e
theorem ok_is_graph (T : Txt mg) (d_is_graph : Df K mg "is_graph" s_is_graph ["rank", "value"]) (c_is_edge : C8.Cal P w K mg base 2 "is_edge" (PF fs_is_edge) []) (c_is_integer : C8.Cal P w K mg base 1 "is_integer" (PF fs_is_integer) []) (c_is_tuple : C8.Cal P w K mg base 1 "is_tuple" (PF fs_is_tuple) []) : C8.Cal P w K mg base 3 "is_graph" (PF fs_is_graph) [] := by
  refine df_cal d_is_graph sc_is_graph (fun _ => rfl) fun f cdv A outer s H E hr => ⟨_, (pss_cons (ps_if (pt_not (pt_val (C8.pe_c c_is_tuple hr (by first | decide | omega) (by rfl) (pa_cons (pv 1) (pa_cons pe_int pa_nil))))) (pss_one (ps_ret pe_bl)) pss_nil) (pss_cons (ps_asg (pv 1) (pg_tup rfl (pgs_cons (pg_name (i := 2) sc_is_graph.nd rfl (by first | exact Or.inl rfl | exact Or.inr rfl)) (pgs_cons (pg_name (i := 3) sc_is_graph.nd rfl (by first | exact Or.inl rfl | exact Or.inr rfl)) pgs_nil)))) (pss_cons (ps_if (PW.pt (pw_or (pt_not (pt_val (pe_callB cd_isi (by rfl) T.n_isinstance (by decide +kernel) (pa_cons (pv 3) (pa_cons (pe_bltn (v := .ty "tuple") (by rfl) T.n_tuple (by decide +kernel) rfl) pa_nil))))) (pw_or1 (pt_not (pt_val (C8.pe_c c_is_integer hr (by first | decide | omega) (by rfl) (pa_cons (pv 2) (pa_cons pe_int (pa_cons (pe_op op_add (pe_callB cd_len (by rfl) T.n_len (by decide +kernel) (pa_cons (pv 3) pa_nil)) pe_int) pa_nil))))))))) (pss_one (ps_ret pe_bl)) pss_nil) (pss_cons (ps_if (pt_not (pt_val (pe_callB (cd_all rfl) (by rfl) T.n_all (by decide +kernel) (pa_cons (pe_lc (own := [("edge", 4)]) rfl sc_is_graph.nd (pi_tup (pv 3)) (blkOk_by (N := n_is_graph) (sc := defScope s_is_graph) (own := [("edge", 4)]) (by decide +kernel)) (fun _ _ _ _ _ => (pg_name (i := 4) sc_is_graph.nd rfl (by first | exact Or.inl rfl | exact Or.inr rfl))) (fun _ _ _ _ _ => pts_nil) (fun _ _ _ _ _ => (C8.pe_c c_is_edge hr (by first | decide | omega) (by rfl) (pa_cons (pv 0) (pa_cons (pv 2) (pa_cons (pv 4) pa_nil)))))) pa_nil)))) (pss_one (ps_ret pe_bl)) pss_nil) (pss_one (ps_ret (pe_callB (cd_all rfl) (by rfl) T.n_all (by decide +kernel) (pa_cons (pe_lc (own := [("at", 5)]) rfl sc_is_graph.nd (pi_range2 (by rfl) T.n_range (pa_cons pe_int (pa_cons (pe_callB cd_len (by rfl) T.n_len (by decide +kernel) (pa_cons (pv 3) pa_nil)) pa_nil))) (blkOk_by (N := n_is_graph) (sc := defScope s_is_graph) (own := [("at", 5)]) (by decide +kernel)) (fun _ _ _ _ _ => (pg_name (i := 5) sc_is_graph.nd rfl (by first | exact Or.inl rfl | exact Or.inr rfl))) (fun _ _ _ _ _ => pts_nil) (fun _ _ _ _ _ => (pe_cmpR (show OpR _ (compareOp .Lt) (rLtG K false) by exact (od_ltG hr.units)) (pe_ix (show IxR _ (rIxT K) by exact ix_tup) (pv 3) (pe_op op_sub (pv 5) pe_int) (fun _ _ => rfl)) (pe_ix (show IxR _ (rIxT K) by exact ix_tup) (pv 3) (pv 5) (fun _ _ => rfl)) (nomark _)))) pa_nil)))))))), fun a hp => ?_⟩
  obtain ⟨r, v⟩ := a
  obtain ⟨h1, h3, hv⟩ : 1 ≤ r ∧ r ≤ 3 ∧ GrV v := hp
  have hno : ∀ {v : D}, (∀ m x, v ≠ .tup [.int m, .tup x]) → (false = true ↔ ∃ m es, IsGr r v m es) := fun h => ⟨fun z => (by cases z), fun z => absurd z (isGr_no h)⟩
  show Ds _ [.dat (.int r), .dat v, .any, .any, .any, .any] _ (fun d => ∃ b, d = .bl b ∧ (b = true ↔ ∃ m es, IsGr r v m es)) _ _
  refine ds_seq (ds_if ?_)
  repeat walk_at "de"
  rcases hv with rfl | ⟨ds, rfl, dz⟩ | ⟨ds, rfl, d2, dz⟩ | ⟨mv, x, rfl, hm, hx⟩
  · refine ⟨(.non, 2), rfl, ⟨rfl, fun k h => by cases h⟩, fun d hd => ?_⟩
    obtain rfl : d = .bl false := hd
    repeat walk_at "dl"
    exact hno fun _ _ z => nomatch z
  · refine ⟨(.lst ds, 2), rfl, ⟨rfl, fun k h => by cases h; omega⟩, fun d hd => ?_⟩
    obtain rfl : d = .bl false := hd
    repeat walk_at "dl"
    exact hno fun _ _ z => nomatch z
  · refine ⟨(.tup ds, 2), rfl, ⟨rfl, fun k h => by cases h; omega⟩, fun d hd => ?_⟩
    have e2 : tupN (.tup ds) 2 = false := decide_eq_false (by omega)
    have hd : d = .bl (tupN (.tup ds) 2) := hd
    rw [e2] at hd
    subst hd
    repeat walk_at "dl"
    exact hno fun _ _ z => d2 (by cases z; rfl)
  · refine ⟨(.tup [mv, x], 2), rfl, ⟨rfl, fun k h => by cases h; show 2 ≤ 1000000; decide⟩, fun d hd => ?_⟩
    obtain rfl : d = .bl true := hd
    repeat walk_at "de"
    refine ds_next (ds_seq (ds_asg (de_var rfl (dg_tup rfl (dgs_cons (dg_name (dgs_cons (dg_name (dgs_nil ?_)))))))))
    try dsimp only [List.set]
    refine ds_seq (ds_if (dt_or ?_))
    repeat walk_at "de"
    rcases hx with ⟨ds, rfl, dz⟩ | ⟨ds, rfl, dz, hds⟩
    · repeat walk_at "de"
      repeat walk_at "dl"
      exact hno fun _ _ z => by cases z
    · repeat walk_at "de"
      rcases hm with rfl | ⟨m, rfl⟩
      · refine ⟨(.bl true, 1, (ds.length : Int) + 1), rfl, rfl, fun d hd => ?_⟩
        obtain rfl : d = .bl false := hd
        repeat walk_at "de"
        repeat walk_at "dl"
        exact hno fun _ _ z => by cases z
      refine ⟨(.int m, 1, (ds.length : Int) + 1), rfl, rfl, fun d hd => ?_⟩
      obtain rfl : d = .bl (decide (1 ≤ m) && decide (m ≤ (ds.length : Int) + 1)) := hd
      cases hm : decide (1 ≤ m) && decide (m ≤ (ds.length : Int) + 1) with
      | false =>
        repeat walk_at "de"
        repeat walk_at "dl"
        refine ⟨fun z => (by cases z), fun ⟨m', es, e, a, b, _⟩ => ?_⟩
        cases e
        rw [List.length_map] at hm
        rw [decide_eq_true (by omega), decide_eq_true (by omega)] at hm
        cases hm
      | true =>
        rw [Bool.and_eq_true, decide_eq_true_eq, decide_eq_true_eq] at hm
        obtain ⟨m1, m2⟩ := hm
        repeat walk_at "de"
        refine ds_next ?_
        refine ds_seq (ds_if ?_)
        repeat walk_at "de"
        refine de_ofN (den_lc (di_tup (de_var rfl ⟨ds, rfl, by omega, fun i acc => acc = ((ds.take i).map (edgB r m)).map D.bl, rfl, fun i d acc hd _ ha => ?_, fun acc ha => ?_⟩)))
        · try dsimp only [List.set]
          refine dt_yes (iteT ?_)
          repeat walk_at "de"
          refine ⟨(r, m, d), rfl, ⟨h1, h3, hds d (List.mem_of_getElem? hd)⟩, fun d' hd' => ?_⟩
          obtain rfl : d' = .bl (edgB r m d) := hd'
          rw [ha]
          exact map_bl_take (f := edgB r m) hd
        dsimp only at ha
        rw [List.take_length] at ha
        subst ha
        refine da_nil (dcl_all ?_)
        cases hall : (ds.map (edgB r m)).all id with
        | false =>
          repeat walk_at "de"
          repeat walk_at "dl"
          refine ⟨fun z => (by cases z), fun ⟨m', es, e, _, _, g, _⟩ => ?_⟩
          cases e
          have : ((es.map edD).map (edgB r (m' : Int))).all id = true := by
            rw [List.all_map, List.all_map, List.all_eq_true]
            exact fun e he => edgB_ed.mpr (g e he)
          rw [this] at hall
          cases hall
        | true =>
          have hok : ∀ d ∈ ds, edgB r m d = true := fun d hd => by
            rw [List.all_map, List.all_eq_true] at hall
            exact hall d hd
          obtain ⟨es, rfl⟩ : ∃ es : List Ed, ds = es.map edD := ⟨ds.map decE, by
            rw [List.map_map]
            conv => lhs; rw [← List.map_id ds]
            exact List.map_congr_left fun d hd => (dec_of (hok d hd)).1.symm⟩
          rw [List.length_map] at m2 dz
          have hg : ∀ e ∈ es, (e.1 : Int) < m ∧ (e.2.2 : Int) < m ∧ e.2.1 ∈ smL r := fun e he => edgB_ed.mp (hok _ (List.mem_map.mpr ⟨e, he, rfl⟩))
          have hlt : ∀ e ∈ es, e.2.1 ∈ LTR := fun e he => SM_LTR (List.mem_of_mem_take (hg e he).2.2)
          repeat walk_at "de"
          refine ds_next (ds_ret ?_)
          repeat walk_at "de"
          refine de_ofN (den_lc (di_range2 ?_))
          repeat walk_at "de"
          rw [List.length_map]
          refine ⟨1, (es.length : Int), rfl, by omega, by omega, by omega, by omega, by rw [rgI_len]; omega, fun i acc => acc = ((List.range i).map fun j => ltE (es.getD j (0, 0, 0)) (es.getD (j + 1) (0, 0, 0))).map D.bl, rfl, fun i d acc hd _ ha => ?_, fun acc ha => ?_⟩
          · have ht : i < ((es.length : Int) - 1).toNat := by
              have := (List.getElem?_eq_some_iff.mp hd).1
              rwa [rgI_len] at this
            rw [rgI_get _ _ _ ht] at hd
            obtain rfl : d = .int (1 + (i : Int)) := (Option.some.inj hd).symm
            have e0 := List.getElem?_eq_getElem (show i < es.length by omega)
            have e1 := List.getElem?_eq_getElem (show i + 1 < es.length by omega)
            have g0 : es.getD i (0, 0, 0) = es[i] := by rw [List.getD_eq_getElem?_getD, e0]; rfl
            have g1 : es.getD (i + 1) (0, 0, 0) = es[i + 1] := by rw [List.getD_eq_getElem?_getD, e1]; rfl
            have h0 := hlt _ (List.getElem_mem (show i < es.length by omega))
            have h1' := hlt _ (List.getElem_mem (show i + 1 < es.length by omega))
            try dsimp only [List.set]
            refine dt_yes (iteT ?_)
            repeat walk_at "de"
            refine dop_ixt (c := edD es[i]) (atI_at (by omega) (by rw [show ((1 + (i : Int)) - 1).toNat = i by omega, List.getElem?_map, e0]; rfl)) ?_
            repeat walk_at "de"
            refine dop_ixt (c := edD es[i + 1]) (atI_at (by omega) (by rw [show (1 + (i : Int)).toNat = i + 1 by omega, List.getElem?_map, e1]; rfl)) ?_
            refine dop_ltG 1 (by decide) (plD_ed h0) (plD_ed h1') (alike_ed _ _) (fun z => nomatch z) ?_
            rw [if_neg Bool.false_ne_true, lt_ed]
            subst ha
            rw [List.range_succ, List.map_append, List.map_append, List.map_cons, List.map_nil, g0, g1]
            rfl
          · rw [rgI_len] at ha
            subst ha
            refine da_nil (dcl_all ?_)
            refine ⟨_, rfl, ?_⟩
            rw [List.all_map, List.all_eq_true]
            obtain ⟨mn, rfl⟩ : ∃ mn : Nat, m = (mn : Int) := ⟨m.toNat, by omega⟩
            constructor
            · intro h
              refine ⟨mn, es, rfl, by omega, by omega, hg, ascE_step fun i e f he hf => ?_⟩
              have il := (List.getElem?_eq_some_iff.mp hf).1
              have : ltE (es.getD i (0, 0, 0)) (es.getD (i + 1) (0, 0, 0)) = true := h i (List.mem_range.mpr (by omega))
              rw [List.getD_eq_getElem?_getD, List.getD_eq_getElem?_getD, he, hf] at this
              exact this
            · rintro ⟨m', es', e, _, _, _, hA⟩ j hj
              injection e with e
              injection e with _ e
              injection e with e _
              injection e with e
              have inj : es = es' := by
                have : ∀ {a b : List Ed}, a.map edD = b.map edD → a = b := by
                  intro a
                  induction a with
                  | nil => intro b hb; cases b with
                    | nil => rfl
                    | cons x b => cases hb
                  | cons x a ih => intro b hb; cases b with
                    | nil => cases hb
                    | cons y b =>
                      rw [List.map_cons, List.map_cons] at hb
                      injection hb with p q
                      rw [edD_inj p, ih q]
                exact this e
              subst inj
              have hj := List.mem_range.mp hj
              have e0 := List.getElem?_eq_getElem (show j < es.length by omega)
              have e1 := List.getElem?_eq_getElem (show j + 1 < es.length by omega)
              have := ascE_at hA e0 e1
              show ltE (es.getD j (0, 0, 0)) (es.getD (j + 1) (0, 0, 0)) = true
              rw [List.getD_eq_getElem?_getD, List.getD_eq_getElem?_getD, e0, e1]
              exact this
-- is_neat
/-- neat, told of a well formed graph -/
def NtP (r : Int) (m : Nat) (es : List Ed) : Prop := FdP es ∧ (fw (mvs es) (LS r) 0 m).1 = List.range m ∧ ∀ v, 1 ≤ v → v < m → 2 ≤ dgE es v
/-- from 0 each place that is found has an edge -/
theorem fw_dg {r : Int} {m : Nat} {es : List Ed} (hs : ∀ e ∈ es, e.2.1 ∈ SM) (hb : ∀ e ∈ es, e.1 < m ∧ e.2.2 < m) (m1 : 1 ≤ m) (h : (fw (mvs es) (LS r) 0 m).1 = List.range m) {v : Nat} (v1 : 1 ≤ v) (vm : v < m) : 1 ≤ dgE es v := by
  have M := mvs_mv hb
  obtain ⟨W, _⟩ := WI.range (ls := LS r) M m1 m
  have hv : (fw (mvs es) (LS r) 0 m).1[v]? = some v := by rw [h, List.getElem?_range vm]
  have hw : v < (fw (mvs es) (LS r) 0 m).2.length := by rw [W.len, h, List.length_range]; exact vm
  obtain ⟨a, b, _⟩ := W.way v _ (List.getElem?_eq_getElem hw)
  rw [hv] at a
  generalize (fw (mvs es) (LS r) 0 m).2[v] = w at a
  rcases List.eq_nil_or_concat w with rfl | ⟨u, c, rfl⟩
  · cases a
    omega
  · rw [List.concat_eq_append, wkO_snoc] at a
    obtain ⟨p, _, hq⟩ := Option.bind_eq_some_iff.mp a
    have key : ∃ e ∈ es, e.1 = v ∨ e.2.2 = v := by
      rcases stO_mem hs hq with ⟨_, z⟩ | ⟨_, _, z⟩
      · exact ⟨_, z, .inr rfl⟩
      · exact ⟨_, z, .inl rfl⟩
    obtain ⟨e, he, hor⟩ := key
    obtain ⟨i, hi⟩ := List.mem_iff_getElem?.mp he
    have e1 : es = es.take i ++ (e :: es.drop (i + 1)) := by
      obtain ⟨il, hi⟩ := List.getElem?_eq_some_iff.mp hi
      rw [← hi, List.getElem_cons_drop, List.take_append_drop]
    rw [e1]
    unfold dgE
    rw [List.map_append, List.sum_append, List.map_cons, List.sum_cons]
    rcases hor with z | z
    · rw [if_pos z]; omega
    · rw [if_pos z]; omega
def fs_is_neat : FS := ⟨Int × D, fun a => [.int a.1, a.2], fun a => 1 ≤ a.1 ∧ a.1 ≤ 3 ∧ GrV a.2, fun a d => ∃ b, d = .bl b ∧ (b = true ↔ ∃ m es, IsGr a.1 a.2 m es ∧ NtP a.1 m es)⟩
theorem ok_is_neat (T : Txt mg) (d_is_neat : Df K mg "is_neat" s_is_neat ["rank", "value"]) (c_check_rank : C8.Cal P w K mg base 3 "check_rank" (PF fs_check_rank) []) (c_count_ends : C8.Cal P w K mg base 1 "count_ends" (PF fs_count_ends) []) (c_first_ways : C8.Cal P w K mg base 1 "first_ways" (PF fs_first_ways) []) (c_is_graph : C8.Cal P w K mg base 3 "is_graph" (PF fs_is_graph) []) (c_letters_of : C8.Cal P w K mg base 1 "letters_of" (PF fs_letters_of) []) (c_moves_along : C8.Cal P w K mg base 2 "moves_along" (PF fs_moves_along) []) : C8.Cal P w K mg base 4 "is_neat" (PF fs_is_neat) [] := by
  refine df_cal d_is_neat sc_is_neat (fun _ => rfl) fun f cdv A outer s H E hr => ⟨_, (pss_cons (ps_expr (C8.pe_c c_check_rank hr (by first | decide | omega) (by rfl) (pa_cons (pv 0) pa_nil))) (pss_cons (ps_if (pt_not (pt_val (C8.pe_c c_is_graph hr (by first | decide | omega) (by rfl) (pa_cons (pv 0) (pa_cons (pv 1) pa_nil))))) (pss_one (ps_ret pe_bl)) pss_nil) (pss_cons (ps_asg (pv 1) (pg_tup rfl (pgs_cons (pg_name (i := 2) sc_is_neat.nd rfl (by first | exact Or.inl rfl | exact Or.inr rfl)) (pgs_cons (pg_name (i := 3) sc_is_neat.nd rfl (by first | exact Or.inl rfl | exact Or.inr rfl)) pgs_nil)))) (pss_cons (ps_set (i := 4) sc_is_neat.nd rfl (by first | exact Or.inl rfl | exact Or.inr rfl) (C8.pe_c c_moves_along hr (by first | decide | omega) (by rfl) (pa_cons (pv 3) pa_nil))) (pss_cons (ps_if (pt_cmpR op_ne (pe_callB L2.call_len_dT (by rfl) T.n_len (by decide +kernel) (pa_cons (pv 4) pa_nil)) (pe_op op_mul pe_int (pe_callB cd_len (by rfl) T.n_len (by decide +kernel) (pa_cons (pv 3) pa_nil))) (nomark _)) (pss_one (ps_ret pe_bl)) pss_nil) (pss_cons (ps_set (i := 5) sc_is_neat.nd rfl (by first | exact Or.inl rfl | exact Or.inr rfl) (C8.pe_c c_first_ways hr (by first | decide | omega) (by rfl) (pa_cons (pv 4) (pa_cons (C8.pe_c c_letters_of hr (by first | decide | omega) (by rfl) (pa_cons (pv 0) pa_nil)) (pa_cons pe_int pa_nil))))) (pss_cons (ps_if (PW.pt (pw_or (pt_cmpR op_ne (pe_callB cd_lenD (by rfl) T.n_len (by decide +kernel) (pa_cons (pv 5) pa_nil)) (pv 2) (nomark _)) (pw_or1 (pt_cmpR (op_neD hr.units) (pe_callTy (cd_lstD rfl) (by rfl) T.n_list (by decide +kernel) (pa_cons (pv 5) pa_nil)) (pe_listRg rfl (by rfl) T.n_list (prg_1 (by rfl) T.n_range (pv 2))) (nomark _))))) (pss_one (ps_ret pe_bl)) pss_nil) (pss_cons (ps_set (i := 6) sc_is_neat.nd rfl (by first | exact Or.inl rfl | exact Or.inr rfl) (C8.pe_c c_count_ends hr (by first | decide | omega) (by rfl) (pa_cons (pv 3) pa_nil))) (pss_one (ps_ret (pe_callB (cd_all rfl) (by rfl) T.n_all (by decide +kernel) (pa_cons (pe_lc (own := [("vertex", 7)]) rfl sc_is_neat.nd (pi_range2 (by rfl) T.n_range (pa_cons pe_int (pa_cons (pv 2) pa_nil))) (blkOk_by (N := n_is_neat) (sc := defScope s_is_neat) (own := [("vertex", 7)]) (by decide +kernel)) (fun _ _ _ _ _ => (pg_name (i := 7) sc_is_neat.nd rfl (by first | exact Or.inl rfl | exact Or.inr rfl))) (fun _ _ _ _ _ => pts_nil) (fun _ _ _ _ _ => (pe_cmpR op_gt (pe_dget (hu_of hr) (pv 6) (pv 7) (fun _ _ => rfl)) pe_int (nomark _)))) pa_nil)))))))))))), fun a hp => ?_⟩
  obtain ⟨r, v⟩ := a
  obtain ⟨h1, h3, hv⟩ : 1 ≤ r ∧ r ≤ 3 ∧ GrV v := hp
  show Ds _ [.dat (.int r), .dat v, .any, .any, .any, .any, .any, .any] _ (fun d => ∃ b, d = .bl b ∧ (b = true ↔ ∃ m es, IsGr r v m es ∧ NtP r m es)) _ _
  repeat walk_at "dl"
  refine ⟨r, rfl, ⟨h1, h3⟩, fun d hd => ?_⟩
  obtain rfl : d = .non := hd
  refine ds_seq (ds_if ?_)
  repeat walk_at "de"
  refine ⟨(r, v), rfl, ⟨h1, h3, hv⟩, fun d hd => ?_⟩
  obtain ⟨b, rfl, hb⟩ := hd
  cases b with
  | false =>
    repeat walk_at "de"
    repeat walk_at "dl"
    exact ⟨fun z => (by cases z), fun ⟨m, es, g, _⟩ => hb.mpr ⟨m, es, g⟩⟩
  | true =>
    obtain ⟨m, es, rfl, m1, m2, hg, hA⟩ := hb.mp rfl
    have dz : es.length ≤ 200 := by
      rcases hv with z | ⟨_, z, _⟩ | ⟨ds, z, d2, _⟩ | ⟨_, _, z, _, ⟨_, y, _⟩ | ⟨ds, y, l, _⟩⟩
      · cases z
      · cases z
      · cases z
        exact absurd rfl d2
      · cases z
        cases y
      · cases z
        cases y
        rwa [List.length_map] at l
    have hs : ∀ e ∈ es, e.2.1 ∈ SM := fun e he => List.mem_of_mem_take (hg e he).2.2
    have hbd : ∀ e ∈ es, e.1 < m ∧ e.2.2 < m := fun e he => by
      obtain ⟨a, b, _⟩ := hg e he
      exact ⟨by omega, by omega⟩
    have M := mvs_mv hbd
    have uni : ∀ m' es', IsGr r (.tup [.int (m : Int), .tup (es.map edD)]) m' es' → m' = m ∧ es' = es := fun m' es' ⟨e, _⟩ => by
      injection e with e
      injection e with e0 e
      injection e with e _
      injection e with e
      injection e0 with e0
      have e0 : (m : Int) = m' := e0
      refine ⟨by omega, ?_⟩
      have : ∀ {a b : List Ed}, a.map edD = b.map edD → b = a := by
        intro a
        induction a with
        | nil => intro b hb; cases b with
          | nil => rfl
          | cons x b => cases hb
        | cons x a ih => intro b hb; cases b with
          | nil => cases hb
          | cons y b =>
            rw [List.map_cons, List.map_cons] at hb
            injection hb with p q
            rw [edD_inj p, ih q]
      exact this e
    have hI : IsGr r (.tup [.int (m : Int), .tup (es.map edD)]) m es := ⟨rfl, m1, m2, hg, hA⟩
    have hiff : ∀ b : Bool, (b = true ↔ NtP r m es) → (b = true ↔ ∃ m' es', IsGr r (.tup [.int (m : Int), .tup (es.map edD)]) m' es' ∧ NtP r m' es') := fun b h => h.trans ⟨fun z => ⟨m, es, hI, z⟩, fun ⟨m', es', g, z⟩ => by
      obtain ⟨rfl, rfl⟩ := uni m' es' g
      exact z⟩
    have hlen : (es.map edD).length = es.length := List.length_map _
    repeat walk_at "de"
    refine ds_next (ds_seq (ds_asg (de_var rfl (dg_tup rfl (dgs_cons (dg_name (dgs_cons (dg_name (dgs_nil ?_)))))))))
    try dsimp only [List.set]
    refine ds_seq (ds_set ?_)
    repeat walk_at "de"
    refine ⟨(_, es), rfl, ⟨rfl, by show es.length ≤ 1000; omega, fun e he => SM_LTR (hs e he)⟩, fun d hd => ?_⟩
    obtain rfl : d = .dT (mvs es) := hd
    try dsimp only [List.set]
    refine ds_seq (ds_if ?_)
    repeat walk_at "de"
    refine dcl_lenT ?_
    repeat walk_at "de"
    rw [hlen]
    have two := mvs_two es hs
    by_cases hF : FdP es
    · rw [decide_eq_true (show (((mvs es).length : Nat) : Int) = 2 * (es.length : Int) by have := two.mpr hF; omega)]
      refine iteF (ds_next ?_)
      refine ds_seq (ds_set ?_)
      repeat walk_at "de"
      refine ⟨r, rfl, ⟨h1, h3⟩, fun d hd => ?_⟩
      obtain rfl : d = .str (LS r) := hd
      repeat walk_at "de"
      refine ⟨(mvs es, LS r, 0, m), rfl, ⟨M, m1, by show m ≤ 100000; omega, by have := LS_len h1 h3; show (LS r).length ≤ 6; omega⟩, fun d hd => ?_⟩
      obtain rfl : d = .dK (wd (fw (mvs es) (LS r) 0 m)) := hd
      have W := (WI.range (ls := LS r) M m1 m).1
      have wl := wd_len (s := fw (mvs es) (LS r) 0 m) W.len
      have wk := wd_keys (s := fw (mvs es) (LS r) 0 m) W.len
      try dsimp only [List.set]
      refine ds_seq (ds_if (dt_or ?_))
      repeat walk_at "de"
      refine dcl_lenD ?_
      repeat walk_at "de"
      rw [wl]
      by_cases hl : (fw (mvs es) (LS r) 0 m).1.length = m
      rotate_left
      · rw [decide_eq_false (show ¬ (((fw (mvs es) (LS r) 0 m).1.length : Nat) : Int) = (m : Int) by omega)]
        refine iteT (iteT ?_)
        repeat walk_at "dl"
        exact hiff false ⟨fun z => (by cases z), fun z => absurd (by rw [z.2.1, List.length_range]) hl⟩
      rw [decide_eq_true (show (((fw (mvs es) (LS r) 0 m).1.length : Nat) : Int) = (m : Int) by omega)]
      refine iteF ?_
      repeat walk_at "de"
      refine dcl_lstD ?_
      rw [wk]
      refine de_ofN (den_listRg (de_var rfl ⟨(m : Int), rfl, by omega, by omega, ?_⟩))
      have er : rgI 0 ((m : Int)).toNat = (rowI (List.range m)).map D.int := by
        unfold rgI rowI
        rw [List.map_map, show ((m : Int)).toNat = m by omega]
        exact List.map_congr_left fun i _ => by show D.int (0 + (i : Int)) = D.int (i : Int); rw [Int.zero_add]
      dsimp only [toD]
      rw [er]
      refine dop_neLI ?_
      have einj : rowI (fw (mvs es) (LS r) 0 m).1 = rowI (List.range m) ↔ (fw (mvs es) (LS r) 0 m).1 = List.range m := by
        constructor
        · intro h
          have : ∀ {a b : List Nat}, rowI a = rowI b → a = b := by
            intro a
            unfold rowI
            induction a with
            | nil => intro b hb; cases b with
              | nil => rfl
              | cons x b => cases hb
            | cons x a ih => intro b hb; cases b with
              | nil => cases hb
              | cons y b =>
                rw [List.map_cons, List.map_cons] at hb
                injection hb with p q
                rw [ih q, show x = y by omega]
          exact this h
        · intro h
          rw [h]
      by_cases hr : (fw (mvs es) (LS r) 0 m).1 = List.range m
      rotate_left
      · rw [decide_eq_false (fun z => hr (einj.mp z))]
        refine ⟨_, rfl, iteT ?_⟩
        repeat walk_at "dl"
        exact hiff false ⟨fun z => (by cases z), fun z => absurd z.2.1 hr⟩
      rw [decide_eq_true (einj.mpr hr)]
      refine ⟨_, rfl, iteF (ds_next ?_)⟩
      refine ds_seq (ds_set ?_)
      repeat walk_at "de"
      refine ⟨(_, es), rfl, ⟨rfl, by show es.length ≤ 1000; omega⟩, fun d hd => ?_⟩
      obtain ⟨kvs, rfl, hC⟩ := hd
      have hC : Cnt kvs (dgE es) := hC
      try dsimp only [List.set]
      refine ds_ret ?_
      repeat walk_at "de"
      refine de_ofN (den_lc (di_range2 ?_))
      repeat walk_at "de"
      refine ⟨1, (m : Int), rfl, by omega, by omega, by omega, by omega, by rw [rgI_len]; omega, fun i acc => acc = ((List.range i).map fun j => decide (1 < dgE es (j + 1))).map D.bl, rfl, fun i d acc hd _ ha => ?_, fun acc ha => ?_⟩
      · have ht : i < ((m : Int) - 1).toNat := by
          have := (List.getElem?_eq_some_iff.mp hd).1
          rwa [rgI_len] at this
        rw [rgI_get _ _ _ ht] at hd
        obtain rfl : d = .int ((i + 1 : Nat) : Int) := by rw [← Option.some.inj hd]; congr 1; omega
        have d1 := fw_dg hs hbd m1 hr (show 1 ≤ i + 1 by omega) (show i + 1 < m by omega)
        try dsimp only [List.set]
        refine dt_yes (iteT ?_)
        refine de_op (de_dgetK (.inr rfl) (de_var rfl ⟨.inl ((i + 1 : Nat) : Int), .int (dgE es (i + 1) : Nat), .int (dgE es (i + 1) : Nat), rfl, by rw [hC (i + 1), if_neg (by omega)], rfl, ?_⟩))
        repeat walk_at "de"
        subst ha
        rw [List.range_succ, List.map_append, List.map_append, List.map_cons, List.map_nil]
        have e : decide ((1 : Int) < (dgE es (i + 1) : Nat)) = decide (1 < dgE es (i + 1)) := decide_eq_decide.mpr (by omega)
        rw [e]
        rfl
      · rw [rgI_len] at ha
        subst ha
        refine da_nil (dcl_all ?_)
        refine ⟨_, rfl, hiff _ ?_⟩
        rw [List.all_map, List.all_eq_true]
        constructor
        · intro h
          refine ⟨hF, hr, fun v v1 vm => ?_⟩
          have : decide (1 < dgE es (v - 1 + 1)) = true := h (v - 1) (List.mem_range.mpr (by omega))
          rw [show v - 1 + 1 = v by omega] at this
          have := of_decide_eq_true this
          omega
        · rintro ⟨_, _, h⟩ j hj
          have hj := List.mem_range.mp hj
          have := h (j + 1) (by omega) (by omega)
          exact decide_eq_true (show 1 < dgE es (j + 1) by omega)
    · rw [decide_eq_false (show ¬ (((mvs es).length : Nat) : Int) = 2 * (es.length : Int) from fun z => hF (two.mp (by omega)))]
      refine iteT ?_
      repeat walk_at "dl"
      exact hiff false ⟨fun z => (by cases z), fun z => absurd z.1 hF⟩
-- is_neat: a wrong rank
def fx_is_neat : FSX := ⟨⟨D × D, fun a => [a.1, a.2], fun a => okD a.1 = true ∧ isInt a.1 1 3 = false, fun _ _ => False⟩, fun _ x => x = xBad q_rank⟩
theorem okx_is_neat (T : Txt mg) (d_is_neat : Df K mg "is_neat" s_is_neat ["rank", "value"]) (c_count_ends : C8.Cal P w K mg base 1 "count_ends" (PF fs_count_ends) []) (c_first_ways : C8.Cal P w K mg base 1 "first_ways" (PF fs_first_ways) []) (c_is_graph : C8.Cal P w K mg base 3 "is_graph" (PF fs_is_graph) []) (c_letters_of : C8.Cal P w K mg base 1 "letters_of" (PF fs_letters_of) []) (c_moves_along : C8.Cal P w K mg base 2 "moves_along" (PF fs_moves_along) []) (cx_check_rank : CalX P w K mg base 3 "check_rank" (PFX mg fx_check_rank)) : CalX P w K mg base 4 "is_neat" (PFX mg fx_is_neat) := by
  refine df_calX d_is_neat sc_is_neat (fun _ => rfl) fun f cdv A outer s H E hr => ⟨_, (pss_cons (ps_expr (pe_x cx_check_rank hr (by first | decide | omega) (by rfl) (takes_of rfl rfl rfl rfl) (pa_cons (pv 0) pa_nil))) (PSs.nox (pss_cons (ps_if (pt_not (pt_val (C8.pe_c c_is_graph hr (by first | decide | omega) (by rfl) (pa_cons (pv 0) (pa_cons (pv 1) pa_nil))))) (pss_one (ps_ret pe_bl)) pss_nil) (pss_cons (ps_asg (pv 1) (pg_tup rfl (pgs_cons (pg_name (i := 2) sc_is_neat.nd rfl (by first | exact Or.inl rfl | exact Or.inr rfl)) (pgs_cons (pg_name (i := 3) sc_is_neat.nd rfl (by first | exact Or.inl rfl | exact Or.inr rfl)) pgs_nil)))) (pss_cons (ps_set (i := 4) sc_is_neat.nd rfl (by first | exact Or.inl rfl | exact Or.inr rfl) (C8.pe_c c_moves_along hr (by first | decide | omega) (by rfl) (pa_cons (pv 3) pa_nil))) (pss_cons (ps_if (pt_cmpR op_ne (pe_callB L2.call_len_dT (by rfl) T.n_len (by decide +kernel) (pa_cons (pv 4) pa_nil)) (pe_op op_mul pe_int (pe_callB cd_len (by rfl) T.n_len (by decide +kernel) (pa_cons (pv 3) pa_nil))) (nomark _)) (pss_one (ps_ret pe_bl)) pss_nil) (pss_cons (ps_set (i := 5) sc_is_neat.nd rfl (by first | exact Or.inl rfl | exact Or.inr rfl) (C8.pe_c c_first_ways hr (by first | decide | omega) (by rfl) (pa_cons (pv 4) (pa_cons (C8.pe_c c_letters_of hr (by first | decide | omega) (by rfl) (pa_cons (pv 0) pa_nil)) (pa_cons pe_int pa_nil))))) (pss_cons (ps_if (PW.pt (pw_or (pt_cmpR op_ne (pe_callB cd_lenD (by rfl) T.n_len (by decide +kernel) (pa_cons (pv 5) pa_nil)) (pv 2) (nomark _)) (pw_or1 (pt_cmpR (op_neD hr.units) (pe_callTy (cd_lstD rfl) (by rfl) T.n_list (by decide +kernel) (pa_cons (pv 5) pa_nil)) (pe_listRg rfl (by rfl) T.n_list (prg_1 (by rfl) T.n_range (pv 2))) (nomark _))))) (pss_one (ps_ret pe_bl)) pss_nil) (pss_cons (ps_set (i := 6) sc_is_neat.nd rfl (by first | exact Or.inl rfl | exact Or.inr rfl) (C8.pe_c c_count_ends hr (by first | decide | omega) (by rfl) (pa_cons (pv 3) pa_nil))) (pss_one (ps_ret (pe_callB (cd_all rfl) (by rfl) T.n_all (by decide +kernel) (pa_cons (pe_lc (own := [("vertex", 7)]) rfl sc_is_neat.nd (pi_range2 (by rfl) T.n_range (pa_cons pe_int (pa_cons (pv 2) pa_nil))) (blkOk_by (N := n_is_neat) (sc := defScope s_is_neat) (own := [("vertex", 7)]) (by decide +kernel)) (fun _ _ _ _ _ => (pg_name (i := 7) sc_is_neat.nd rfl (by first | exact Or.inl rfl | exact Or.inr rfl))) (fun _ _ _ _ _ => pts_nil) (fun _ _ _ _ _ => (pe_cmpR op_gt (pe_dget (hu_of hr) (pv 6) (pv 7) (fun _ _ => rfl)) pe_int (nomark _)))) pa_nil))))))))))))), fun a hp => ?_⟩
  obtain ⟨v, g⟩ := a
  obtain ⟨hv, hb⟩ : okD v = true ∧ isInt v 1 3 = false := hp
  show DsW mg _ _ [.dat v, .dat g, .any, .any, .any, .any, .any, .any] _ (fun _ => False) _ _ _
  refine dw_seq (dw_drop (dew_call (da_cons (de_var rfl (da_nil ⟨v, rfl, hv, fun d hd => Bool.noConfusion (hb.symm.trans hd.1), fun x hx => hx.2⟩)))))
-- _law_next
def fs_law_next : FS := ⟨Int, fun m => [.stm, .int m], fun m => 0 < m ∧ m < 1000000, fun m d => ∃ i : Int, d = .int i ∧ 0 ≤ i ∧ i < m⟩
theorem fmod_rng (x : Int) {m : Int} (h : 0 < m) : 0 ≤ x.fmod m ∧ x.fmod m < m := by
  rw [Int.fmod_eq_emod_of_nonneg _ (Int.le_of_lt h)]
  exact ⟨Int.emod_nonneg _ (Int.ne_of_gt h), Int.emod_lt_of_pos _ h⟩
theorem fdiv_nn {x m : Int} (hx : 0 ≤ x) (h : 0 < m) : 0 ≤ x.fdiv m := by
  rw [Int.fdiv_eq_ediv_of_nonneg _ (Int.le_of_lt h)]
  exact Int.ediv_nonneg hx (Int.le_of_lt h)
def tN1 (K : PySem.W.Frag) : TS := tSeq (tAsg (tOp (rI (fun _ j => j ≠ 0) fun i j => .int (i.fmod j)) (tCB DL.rInt (tCons (tOp (rIxL K) (tVar 0) (tC (.int 1))) tNil)) (tVar 1)) (gName 4))
          (tSeq (tAsg (tOp (rI CDivN fun i j => .int (i.fdiv j)) (tOp (rIxL K) (tVar 0) (tC (.int 1))) (tVar 1)) (gSub (tVar 0) (tC (.int 1)) rSetL)) (tRet (tVar 4)))
def tN2 : TS := (tSeq (tAsg (tVar 3) (gSub (tVar 0) (tC (.int 1)) rSetL)) (tAsg (tOp (rI0 fun i j => .int (i + j)) (tVar 2) (tC (.int 1))) (gSub (tVar 0) (tC (.int 2)) rSetL)))
def tN3 : TS := tSeq (tIfS (tTest (tOp (rI0 fun i j => .bl (decide (i < j))) (tVar 3) (tOp (rI CPow fun i j => .int (i ^ j.toNat)) (tC (.int 10)) (tC (.int 18)))))
            (tSeq (tAsg (tOp (rI (fun _ j => j ≠ 0) fun i j => .int (i.fmod j)) (tCB DL.rInt (tCons (tOp (rI0 fun i j => .int (i + j)) (tOp (rI0 fun i j => .int (i + j)) (tOp (rI CMul fun i j => .int (i * j)) (tVar 3) (tC (.int 48271))) (tOp (rI CMul fun i j => .int (i * j)) (tVar 2) (tC (.int 69621)))) (tC (.int 11))) tNil)) (tC (.int 2147483647))) (gName 3))
              (tAsg (tOp (rI0 fun i j => .int (i + j)) (tOp (rI CMul fun i j => .int (i * j)) (tOp (rI (fun _ j => j ≠ 0) fun i j => .int (i.fmod j)) (tCB DL.rInt (tCons (tOp (rI0 fun i j => .int (i + j)) (tOp (rI CMul fun i j => .int (i * j)) (tVar 3) (tC (.int 16807))) (tC (.int 13))) tNil)) (tC (.int 2147483647))) (tC (.int 65537))) (tVar 3)) (gName 3))) tNext) tN2
/-- the stream at st, as the def sees it -/
def StAt (st a : Addr) (ns : List Int) (H0 H : Hp) : Prop := ∃ c k : Int, 0 ≤ c ∧ 0 ≤ k ∧ H = upd H0 st (.lst [.ref a, .int c, .int k])
theorem ok_law_next (T : Txt mg) (d_law_next : Df K mg "_law_next" s_law_next ["stream", "many"]) : C8.Cal P w K mg base 1 "_law_next" (PF fs_law_next) [] := by
  refine df_raw d_law_next sc_law_next (fun vs H Q E h => ?_) fun f cdv A outer s H E hr => ⟨_, (pss_cons (ps_if (pt_cmpR op_eq (pe_ix ix_list (pv 0) pe_int (fun _ _ => rfl)) pe_int (nomark _)) (pss_cons (ps_set (i := 2) sc_law_next.nd rfl (by first | exact Or.inl rfl | exact Or.inr rfl) (pe_ix ix_list (pv 0) pe_int (fun _ _ => rfl))) (pss_cons (ps_set (i := 3) sc_law_next.nd rfl (by first | exact Or.inl rfl | exact Or.inr rfl) (pe_op op_add pe_int (pv 2))) (pss_cons (ps_if (pt_cmpR op_lt (pv 2) (pe_callB cd_len (by rfl) T.n_len (by decide +kernel) (pa_cons (pe_ix ix_list (pv 0) pe_int (fun _ _ => rfl)) pa_nil)) (nomark _)) (pss_one (ps_set (i := 3) sc_law_next.nd rfl (by first | exact Or.inl rfl | exact Or.inr rfl) (pe_callB cd_abs (by rfl) T.n_abs (by decide +kernel) (pa_cons (pe_ix ix_list (pe_ix ix_list (pv 0) pe_int (fun _ _ => rfl)) (pv 2) (fun _ _ => rfl)) pa_nil)))) pss_nil) (pss_cons (ps_if (pt_cmpR op_lt (pv 3) (pe_op op_pow pe_int pe_int) (nomark _)) (pss_cons (ps_set (i := 3) sc_law_next.nd rfl (by first | exact Or.inl rfl | exact Or.inr rfl) (pe_op op_modN (pe_callTy cd_int (by rfl) T.n_int (by decide +kernel) (pa_cons (pe_op op_add (pe_op op_add (pe_op op_mul (pv 3) pe_int) (pe_op op_mul (pv 2) pe_int)) pe_int) pa_nil)) pe_int)) (pss_one (ps_set (i := 3) sc_law_next.nd rfl (by first | exact Or.inl rfl | exact Or.inr rfl) (pe_op op_add (pe_op op_mul (pe_op op_modN (pe_callTy cd_int (by rfl) T.n_int (by decide +kernel) (pa_cons (pe_op op_add (pe_op op_mul (pv 3) pe_int) pe_int) pa_nil)) pe_int) pe_int) (pv 3))))) pss_nil) (pss_cons (ps_asg (pv 3) (pg_sub (pv 0) pe_int set_list)) (pss_one (ps_asg (pe_op op_add (pv 2) pe_int) (pg_sub (pv 0) pe_int set_list)))))))) pss_nil) (pss_cons (ps_set (i := 4) sc_law_next.nd rfl (by first | exact Or.inl rfl | exact Or.inr rfl) (pe_op op_modN (pe_callTy cd_int (by rfl) T.n_int (by decide +kernel) (pa_cons (pe_ix ix_list (pv 0) pe_int (fun _ _ => rfl)) pa_nil)) (pv 1))) (pss_cons (ps_asg (pe_op op_fdivN (pe_ix ix_list (pv 0) pe_int (fun _ _ => rfl)) (pv 1)) (pg_sub (pv 0) pe_int set_list)) (pss_one (ps_ret (pv 4)))))), fun vs Q h => ?_⟩
  · obtain ⟨a, st', M, _, _, _, hs, _⟩ := h
    rw [hs.length]
    rfl
  · obtain ⟨m, st, M, hst, hM, trk, hs, ⟨m1, m2⟩, q⟩ := h
    obtain ⟨a, ns, c, k, ha, hne, h1, h2, h3, h4⟩ := hst
    obtain ⟨v, w, rfl, rfl, rfl⟩ : ∃ v w, vs = [v, w] ∧ v = .ref st ∧ w = .int m := by
      cases hs with
      | cons i r =>
        cases r with
        | cons j r =>
          cases r
          cases is_int j
          cases i
          exact ⟨_, _, rfl, rfl, rfl⟩
    have hS : Stm st M H := ⟨a, ns, c, k, ha, hne, h1, h2, h3, h4⟩
    have fin : ∀ (c2 k2 : Int), 0 ≤ c2 → 0 ≤ k2 → ∀ d : Int, 0 ≤ d → d < m → Q (.int d) (upd H st (.lst [.ref a, .int c2, .int k2])) := fun c2 k2 g1 g2 d d1 d2 =>
      q _ _ (.int d) ⟨d, rfl, d1, d2⟩ (stm_next hS g1 g2 h1) (.int d)
    -- what stands behind the if
    have behind : ∀ (c1 k1 : Int) (σ' : L2.St), 0 ≤ c1 → 0 ≤ k1 → σ'[0]? = some (some (V.ref st)) → σ'[1]? = some (some (V.int m)) → 4 < σ'.length →
        tN1 K { nx := fun _ H' => Q .non H', rt := Q } σ' (upd H st (.lst [.ref a, .int c1, .int k1])) := fun c1 k1 σ' g1 g2 e0 e1 e4 => by
      refine ⟨.ref st, e0, st, _, 1, .int c1, rfl, rfl, .of upd_same, rfl, .inl ⟨c1, rfl, .int m, e1, c1, m, rfl, rfl, by omega, ?_⟩⟩
      have f0 : (σ'.set 4 (some (.int (c1.fmod m))))[0]? = some (some (V.ref st)) := by rw [List.getElem?_set_ne (by decide)]; exact e0
      have f1 : (σ'.set 4 (some (.int (c1.fmod m))))[1]? = some (some (V.int m)) := by rw [List.getElem?_set_ne (by decide)]; exact e1
      have f4 : (σ'.set 4 (some (.int (c1.fmod m))))[4]? = some (some (V.int (c1.fmod m))) := by rw [List.getElem?_set_self e4]
      refine ⟨.ref st, f0, st, _, 1, .int c1, rfl, rfl, .of upd_same, rfl, .int m, f1, c1, m, rfl, rfl, ⟨by omega, by omega⟩, .ref st, f0, st, _, 1, 1, rfl, rfl, upd_same, rfl, ?_⟩
      refine ⟨.int (c1.fmod m), f4, ?_⟩
      rw [upd_upd]
      exact fin (c1.fdiv m) k1 (fdiv_nn g1 m1) g2 _ (fmod_rng c1 m1).1 (fmod_rng c1 m1).2
    have eH : H = upd H st (.lst [.ref a, .int c, .int k]) := by
      funext b
      by_cases z : b = st
      · rw [z, upd_same, h1]
      · rw [upd_ne z]
    refine ⟨.ref st, rfl, st, _, 1, .int c, rfl, rfl, .of h1, rfl, rfl, _, rfl, ite2 (fun _ => ?_) (fun _ => ?_)⟩
    · -- k = stream[2]; cell = 7 + k
      refine ⟨.ref st, rfl, st, _, 2, .int k, rfl, rfl, .of h1, rfl, .int k, rfl, 7, k, rfl, rfl, ?_⟩
      -- if k < len(stream[0]): cell = abs(stream[0][k])
      have tail : ∀ (cell : Int), 0 ≤ cell →
          tN3 { nx := fun σ' H' => tN1 K { nx := fun _ H' => Q .non H', rt := Q } σ' H', rt := Q } [some (.ref st), some (.int m), some (.int k), some (.int cell), none] H := fun cell hc => by
        have store : ∀ (cell2 : Int), 0 ≤ cell2 → tN2 { nx := fun σ' H' => tN1 K { nx := fun _ H' => Q .non H', rt := Q } σ' H', rt := Q } [some (.ref st), some (.int m), some (.int k), some (.int cell2), none] H := fun cell2 hc2 => by
          refine ⟨.int cell2, rfl, .ref st, rfl, st, _, 1, 1, rfl, rfl, h1, rfl, ?_⟩
          refine ⟨.int k, rfl, k, 1, rfl, rfl, .ref st, rfl, st, _, 2, 2, rfl, rfl, upd_same, rfl, ?_⟩
          rw [upd_upd]
          exact behind cell2 (k + 1) _ hc2 (by omega) rfl rfl (by show 4 < 5; decide)
        refine ⟨.int cell, rfl, 10, 18, rfl, rfl, ⟨by decide, by decide, by decide⟩, cell, 10 ^ 18, rfl, rfl, _, rfl, ite2 (fun hlt => ?_) (fun _ => ?_)⟩
        · have hlt' : cell < 10 ^ 18 := of_decide_eq_true hlt
          refine ⟨.int cell, rfl, cell, 48271, rfl, rfl, Or.inr ⟨by decide, by decide⟩, .int k, rfl, k, 69621, rfl, rfl, Or.inr ⟨by decide, by decide⟩, _, _, rfl, rfl, _, 11, rfl, rfl, .inl ⟨_, rfl, _, 2147483647, rfl, rfl, (show (2147483647 : Int) ≠ 0 by decide), ?_⟩⟩
          have hc2 := (fmod_rng (cell * 48271 + k * 69621 + 11) (m := 2147483647) (by decide)).1
          have hc3 := (fmod_rng ((cell * 48271 + k * 69621 + 11).fmod 2147483647 * 16807 + 13) (m := 2147483647) (by decide)).1
          refine ⟨.int ((cell * 48271 + k * 69621 + 11).fmod 2147483647), rfl, _, 16807, rfl, rfl, Or.inr ⟨by decide, by decide⟩, _, 13, rfl, rfl, .inl ⟨_, rfl, _, 2147483647, rfl, rfl, (show (2147483647 : Int) ≠ 0 by decide), _, 65537, rfl, rfl, Or.inr ⟨by decide, by decide⟩, .int ((cell * 48271 + k * 69621 + 11).fmod 2147483647), rfl, _, _, rfl, rfl, ?_⟩⟩
          exact store (((cell * 48271 + k * 69621 + 11).fmod 2147483647 * 16807 + 13).fmod 2147483647 * 65537 + (cell * 48271 + k * 69621 + 11).fmod 2147483647) (by omega)
        · exact store cell hc
      refine ⟨.int k, rfl, .ref st, rfl, st, _, 0, .ref a, rfl, rfl, .of h1, rfl, .ref a, ns.length, rfl, .inl ⟨_, .of h2, by rw [List.length_map]⟩, k, ns.length, rfl, rfl, _, rfl, ite2 (fun hlt => ?_) (fun _ => ?_)⟩
      · have hlt' : k < ns.length := of_decide_eq_true hlt
        have hk : k.toNat < ns.length := by omega
        refine ⟨.ref st, rfl, st, _, 0, .ref a, rfl, rfl, .of h1, rfl, .int k, rfl, a, _, k, .int ns[k.toNat], rfl, rfl, .of h2, atI_at h4 (by rw [List.getElem?_map, List.getElem?_eq_getElem hk]; rfl), _, rfl, ?_⟩
        exact tail _ (by split <;> omega)
      · exact tail (7 + k) (by omega)
    · have b := behind c k [some (.ref st), some (.int m), none, none, none] h3 h4 rfl rfl (by show 4 < 5; decide)
      rw [← eH] at b
      exact b
-- _law_changed, of a graph
theorem edv_ed (e : Ed) : EdV (edD e) := .inr (.inr ⟨_, _, _, rfl⟩)
theorem grv_ed (m : Int) {ds : List D} (hz : ds.length ≤ 200) (h : ∀ d ∈ ds, EdV d) : GrV (.tup [.int m, .tup ds]) := .inr (.inr (.inr ⟨_, _, rfl, .inr ⟨m, rfl⟩, .inr ⟨ds, rfl, hz, h⟩⟩))
theorem srt_ed {K : PySem.W.Frag} {post : D → Prop} {es : List Ed} (h : post (.lst ((srtE es).map edD))) : Dcl (TK.rSrtT (fun i => i == 1) K) [.tup (es.map edD)] post := by
  have e : es.map edD = (es.map edK).map tkD := by rw [List.map_map]; rfl
  rw [e]
  refine dcl_srtT (fun ks hk => ?_) fun kss2 pm pw => ?_
  · obtain ⟨e, _, rfl⟩ := List.mem_map.mp hk
    exact ⟨rfl, fun z => nomatch z⟩
  · rw [srtE_only pm pw, List.map_map]
    exact h
theorem srt_edL {K : PySem.W.Frag} {post : D → Prop} {es : List Ed} (h : post (.lst ((srtE es).map edD))) : Dcl (TK.rSrtL (fun i => i == 1) K) [.lst (es.map edD)] post := by
  have e : es.map edD = (es.map edK).map tkD := by rw [List.map_map]; rfl
  rw [e]
  refine dcl_srtL (fun ks hk => ?_) fun kss2 pm pw => ?_
  · obtain ⟨e, _, rfl⟩ := List.mem_map.mp hk
    exact ⟨rfl, fun z => nomatch z⟩
  · rw [srtE_only pm pw, List.map_map]
    exact h
def fs_law_changed : FS := ⟨Int × Gr, fun a => [.stm, .int a.1, grD a.2], fun a => 1 ≤ a.1 ∧ a.1 ≤ 3 ∧ (1 ≤ a.2.1 ∧ a.2.1 ≤ 100 ∧ a.2.2.length ≤ 100) ∧ ∀ e ∈ a.2.2, (e.1 < a.2.1 ∧ e.2.2 < a.2.1) ∧ e.2.1 ∈ SM, fun _ d => GrV d⟩
theorem ok_law_changed (T : Txt mg) (d_law_changed : Df K mg "_law_changed" s_law_changed ["stream", "rank", "graph"]) (c_law_next : C8.Cal P w K mg base 1 "_law_next" (PF fs_law_next) []) : C8.Cal P w K mg base 2 "_law_changed" (PF fs_law_changed) [] := by
  refine df_cal d_law_changed sc_law_changed (fun _ => rfl) fun f cdv A outer s H E hr => ⟨_, (pss_cons (ps_asg (pv 2) (pg_tup rfl (pgs_cons (pg_name (i := 3) sc_law_changed.nd rfl (by first | exact Or.inl rfl | exact Or.inr rfl)) (pgs_cons (pg_name (i := 4) sc_law_changed.nd rfl (by first | exact Or.inl rfl | exact Or.inr rfl)) pgs_nil)))) (pss_cons (ps_set (i := 5) sc_law_changed.nd rfl (by first | exact Or.inl rfl | exact Or.inr rfl) (C8.pe_c c_law_next hr (by first | decide | omega) (by rfl) (pa_cons (pv 0) (pa_cons pe_int pa_nil)))) (pss_cons (ps_set (i := 6) sc_law_changed.nd rfl (by first | exact Or.inl rfl | exact Or.inr rfl) (pe_ix ix_str pe_str (C8.pe_c c_law_next hr (by first | decide | omega) (by rfl) (pa_cons (pv 0) (pa_cons (pv 1) pa_nil))) (fun _ _ => rfl))) (pss_cons (ps_if (PW.pt (pw_and (pt_cmpR op_eq (pv 5) pe_int (nomark _)) (pw_and1 (ptd (pv 4) (by intro _; rfl))))) (pss_cons (ps_set (i := 7) sc_law_changed.nd rfl (by first | exact Or.inl rfl | exact Or.inr rfl) (C8.pe_c c_law_next hr (by first | decide | omega) (by rfl) (pa_cons (pv 0) (pa_cons (pe_callB cd_len (by rfl) T.n_len (by decide +kernel) (pa_cons (pv 4) pa_nil)) pa_nil)))) (pss_one (ps_ret (pe_tup (pa_cons (pv 3) (pa_cons (pe_op op_catA (pe_slice sl_tupA (pv 4) po_none (po_some (pv 7))) (pe_slice sl_tupA (pv 4) (po_some (pe_op op_add (pv 7) pe_int)) po_none)) pa_nil)))))) pss_nil) (pss_cons (ps_if (pt_cmpR op_eq (pv 5) pe_int (nomark _)) (pss_one (ps_ret (pe_tup (pa_cons (pv 3) (pa_cons (pe_callTy cd_tupof (by rfl) T.n_tuple (by decide +kernel) (pa_cons (pe_callB (TK.cr_srtT (shape := fun i => i == 1)) (by rfl) T.n_sorted (by decide +kernel) (pa_cons (pe_op op_catA (pv 4) (pe_tup (pa_cons (pe_tup (pa_cons (C8.pe_c c_law_next hr (by first | decide | omega) (by rfl) (pa_cons (pv 0) (pa_cons (pv 3) pa_nil))) (pa_cons (pv 6) (pa_cons (C8.pe_c c_law_next hr (by first | decide | omega) (by rfl) (pa_cons (pv 0) (pa_cons (pv 3) pa_nil))) pa_nil)))) pa_nil))) pa_nil)) pa_nil)) pa_nil))))) pss_nil) (pss_cons (ps_if (PW.pt (pw_and (pt_cmpR op_eq (pv 5) pe_int (nomark _)) (pw_and1 (pt_cmpR op_gt (pv 3) pe_int (nomark _))))) (pss_cons (ps_set (i := 8) sc_law_changed.nd rfl (by first | exact Or.inl rfl | exact Or.inr rfl) (C8.pe_c c_law_next hr (by first | decide | omega) (by rfl) (pa_cons (pv 0) (pa_cons (pv 3) pa_nil)))) (pss_cons (ps_set (i := 9) sc_law_changed.nd rfl (by first | exact Or.inl rfl | exact Or.inr rfl) (C8.pe_c c_law_next hr (by first | decide | omega) (by rfl) (pa_cons (pv 0) (pa_cons (pv 3) pa_nil)))) (pss_cons (ps_set (i := 10) sc_law_changed.nd rfl (by first | exact Or.inl rfl | exact Or.inr rfl) (pe_listRg rfl (by rfl) T.n_list (prg_1 (by rfl) T.n_range (pv 3)))) (pss_cons (ps_asg (pv 9) (pg_sub (pv 10) (pv 8) set_list)) (pss_cons (ps_asg (pv 8) (pg_sub (pv 10) (pv 9) set_list)) (pss_one (ps_ret (pe_tup (pa_cons (pv 3) (pa_cons (pe_callTy cd_tupof (by rfl) T.n_tuple (by decide +kernel) (pa_cons (pe_callB (TK.cr_srtL (shape := fun i => i == 1)) (by rfl) T.n_sorted (by decide +kernel) (pa_cons (pe_lc (own := [("start", 11), ("label", 12), ("end", 13)]) rfl sc_law_changed.nd (pi_tup (pv 4)) (blkOk_by (N := n_law_changed) (sc := defScope s_law_changed) (own := [("start", 11), ("label", 12), ("end", 13)]) (by decide +kernel)) (fun _ _ _ _ _ => (show PG _ _ (gTup K 3 (gCons (gName 11) (gCons (gName 12) (gCons (gName 13) gNil)))) by exact (pg_tup rfl (pgs_cons (pg_name (i := 11) sc_law_changed.nd rfl (by first | exact Or.inl rfl | exact Or.inr rfl)) (pgs_cons (pg_name (i := 12) sc_law_changed.nd rfl (by first | exact Or.inl rfl | exact Or.inr rfl)) (pgs_cons (pg_name (i := 13) sc_law_changed.nd rfl (by first | exact Or.inl rfl | exact Or.inr rfl)) pgs_nil)))))) (fun _ _ _ _ _ => pts_nil) (fun _ _ _ _ _ => (pe_tup (pa_cons (pe_ix (show IxR _ (rIxL K) by exact ix_list) (pv 10) (pv 11) (fun _ _ => rfl)) (pa_cons (pv 12) (pa_cons (pe_ix (show IxR _ (rIxL K) by exact ix_list) (pv 10) (pv 13) (fun _ _ => rfl)) pa_nil)))))) pa_nil)) pa_nil)) pa_nil)))))))))) pss_nil) (pss_cons (ps_if (pt_cmpR op_eq (pv 5) pe_int (nomark _)) (pss_one (ps_ret (pe_tup (pa_cons (pe_op op_add (pv 3) (pe_ix ix_list (pe_lst (pa_cons pe_int (pa_cons (pe_un un_neg pe_int) pa_nil))) (C8.pe_c c_law_next hr (by first | decide | omega) (by rfl) (pa_cons (pv 0) (pa_cons pe_int pa_nil))) (fun _ _ => rfl))) (pa_cons (pv 4) pa_nil))))) pss_nil) (pss_cons (ps_if (pt_cmpR op_eq (pv 5) pe_int (nomark _)) (pss_one (ps_ret (pe_tup (pa_cons (pv 3) (pa_cons (pe_revT (pv 4)) pa_nil))))) pss_nil) (pss_cons (ps_if (pt_cmpR op_eq (pv 5) pe_int (nomark _)) (pss_one (ps_ret (pe_ix ix_list (pe_lst (pa_cons pe_non (pa_cons (pe_callTy cd_listof (by rfl) T.n_list (by decide +kernel) (pa_cons (pv 2) pa_nil)) (pa_cons (pe_tup (pa_cons (pv 3) (pa_cons (pe_callTy cd_listof (by rfl) T.n_list (by decide +kernel) (pa_cons (pv 4) pa_nil)) pa_nil))) (pa_cons (pe_tup (pa_cons (pv 3) pa_nil)) (pa_cons (pe_tup (pa_cons pe_bl (pa_cons (pv 4) pa_nil))) (pa_cons (pe_tup (pa_cons (pv 3) (pa_cons (pe_op op_catA (pv 4) (pe_tup (pa_cons pe_non pa_nil))) pa_nil))) (pa_cons (pe_tup (pa_cons pe_int (pa_cons (pe_tup pa_nil) pa_nil))) (pa_cons (pe_op op_catA (pv 2) (pe_tup (pa_cons pe_int pa_nil))) pa_nil))))))))) (C8.pe_c c_law_next hr (by first | decide | omega) (by rfl) (pa_cons (pv 0) (pa_cons pe_int pa_nil))) (fun _ _ => rfl)))) pss_nil) (pss_cons (ps_if (PW.pt (pw_and (pt_cmpR op_eq (pv 5) pe_int (nomark _)) (pw_and1 (ptd (pv 4) (by intro _; rfl))))) (pss_cons (ps_set (i := 7) sc_law_changed.nd rfl (by first | exact Or.inl rfl | exact Or.inr rfl) (C8.pe_c c_law_next hr (by first | decide | omega) (by rfl) (pa_cons (pv 0) (pa_cons (pe_callB cd_len (by rfl) T.n_len (by decide +kernel) (pa_cons (pv 4) pa_nil)) pa_nil)))) (pss_cons (ps_asg (pe_ix ix_tup (pv 4) (pv 7) (fun _ _ => rfl)) (pg_tup rfl (pgs_cons (pg_name (i := 11) sc_law_changed.nd rfl (by first | exact Or.inl rfl | exact Or.inr rfl)) (pgs_cons (pg_name (i := 12) sc_law_changed.nd rfl (by first | exact Or.inl rfl | exact Or.inr rfl)) (pgs_cons (pg_name (i := 13) sc_law_changed.nd rfl (by first | exact Or.inl rfl | exact Or.inr rfl)) pgs_nil))))) (pss_cons (ps_set (i := 14) sc_law_changed.nd rfl (by first | exact Or.inl rfl | exact Or.inr rfl) (pe_lst (pa_cons (pe_tup (pa_cons (pv 13) (pa_cons (pv 12) (pa_cons (pv 11) pa_nil)))) (pa_cons (pe_tup (pa_cons (pv 11) (pa_cons (pe_bm0 PySem.F.plainAttrs_str PySem.F.slot_str_upper PySem.F.type_str_upper md_upper (pv 12)) (pa_cons (pv 13) pa_nil)))) (pa_cons (pe_tup (pa_cons (pv 11) (pa_cons pe_str (pa_cons (pv 13) pa_nil)))) (pa_cons (pe_tup (pa_cons (pv 11) (pa_cons (pv 12) (pa_cons (pv 3) pa_nil)))) (pa_cons (pe_tup (pa_cons (pe_un un_neg pe_int) (pa_cons (pv 12) (pa_cons (pv 13) pa_nil)))) (pa_cons (pe_lst (pa_cons (pv 11) (pa_cons (pv 12) (pa_cons (pv 13) pa_nil)))) pa_nil)))))))) (pss_one (ps_ret (pe_tup (pa_cons (pv 3) (pa_cons (pe_op op_catA (pe_op op_catA (pe_slice sl_tupA (pv 4) po_none (po_some (pv 7))) (pe_tup (pa_cons (pe_ix ix_list (pv 14) (C8.pe_c c_law_next hr (by first | decide | omega) (by rfl) (pa_cons (pv 0) (pa_cons pe_int pa_nil))) (fun _ _ => rfl)) pa_nil))) (pe_slice sl_tupA (pv 4) (po_some (pe_op op_add (pv 7) pe_int)) po_none)) pa_nil)))))))) pss_nil) (pss_one (ps_ret (pv 2))))))))))))), fun a hp => ?_⟩
  obtain ⟨r, m, es⟩ := a
  obtain ⟨h1, h3, ⟨m1, m100, dz⟩, hb⟩ := hp
  dsimp only at h1 h3 m1 m100 dz hb
  have hlen : (es.map edD).length = es.length := List.length_map _
  have hed : ∀ d ∈ es.map edD, EdV d := fun d hd => by
    obtain ⟨e, _, rfl⟩ := List.mem_map.mp hd
    exact edv_ed e
  show Ds _ [.dat .stm, .dat (.int r), .dat (grD (m, es)), .any, .any, .any, .any, .any, .any, .any, .any, .any, .any, .any, .any] _ (fun d => GrV d) _ _
  refine ds_seq (ds_asg (de_var rfl (dg_tup rfl (dgs_cons (dg_name (dgs_cons (dg_name (dgs_nil ?_))))))))
  try dsimp only [List.set]
  refine ds_seq (ds_set ?_)
  repeat walk_at "de"
  refine ⟨(8 : Int), rfl, ⟨by decide, by decide⟩, fun d hd => ?_⟩
  obtain ⟨p, rfl, p1, p2⟩ := hd
  try dsimp only [List.set]
  refine ds_seq (ds_set ?_)
  repeat walk_at "de"
  refine ⟨r, rfl, ⟨by omega, by omega⟩, fun d hd => ?_⟩
  obtain ⟨j, rfl, j1, j2⟩ := hd
  obtain ⟨c, hc, hcS⟩ : ∃ c, atI ([97, 98, 99] : List Nat) j = some c ∧ c ∈ SM := by
    have : j = 0 ∨ j = 1 ∨ j = 2 := by omega
    rcases this with rfl | rfl | rfl
    · exact ⟨97, rfl, by decide⟩
    · exact ⟨98, rfl, by decide⟩
    · exact ⟨99, rfl, by decide⟩
  refine dop_ixs (by decide) hc ?_
  try dsimp only [List.set]
  have nxt : ∀ (n : Int), 0 < n → n < 1000000 → True := fun _ _ _ => trivial
  -- 0
  refine ds_seq (ds_mid (fun x => ∃ x7, x = [.dat .stm, .dat (.int r), .dat (grD (m, es)), .dat (.int (m : Int)), .dat (.tup (es.map edD)), .dat (.int p), .dat (sign c), x7, .any, .any, .any, .any, .any, .any, .any]) ?_ fun x hx => ?_)
  · refine ds_if (dt_and ?_)
    repeat walk_at "de"
    by_cases e0 : p = 0
    · rw [decide_eq_true e0]
      refine iteT (dt_tru (de_var rfl ⟨_, rfl, ?_, fun l h => nomatch h⟩))
      cases es with
      | nil => exact iteF (ds_next ⟨_, rfl⟩)
      | cons e es =>
        refine iteT (ds_seq (ds_set ?_))
        repeat walk_at "de"
        refine ⟨(((e :: es).length : Nat) : Int), by rw [hlen]; rfl, ⟨by rw [List.length_cons]; omega, by omega⟩, fun d hd => ?_⟩
        obtain ⟨i, rfl, i1, i2⟩ := hd
        try dsimp only [List.set]
        refine ds_ret ?_
        repeat walk_at "de"
        refine dop_catt (by rw [List.length_take, List.length_drop, hlen]; omega) ?_
        repeat walk_at "de"
        refine grv_ed _ (by rw [List.length_append, List.length_take, List.length_drop, hlen]; omega) fun d hd => ?_
        exact (List.mem_append.mp hd).elim (fun z => hed d (List.mem_of_mem_take z)) fun z => hed d (List.mem_of_mem_drop z)
    · rw [decide_eq_false e0]
      exact iteF (iteF (ds_next ⟨_, rfl⟩))
  obtain ⟨x7, rfl⟩ := hx
  refine ds_seq (ds_if ?_)
  repeat walk_at "de"
  by_cases e1 : p = 1
  · rw [decide_eq_true e1]
    refine iteT (ds_ret ?_)
    repeat walk_at "de"
    refine ⟨(m : Int), rfl, ⟨by omega, by omega⟩, fun d hd => ?_⟩
    obtain ⟨a, rfl, a1, a2⟩ := hd
    repeat walk_at "de"
    refine ⟨(m : Int), rfl, ⟨by omega, by omega⟩, fun d hd => ?_⟩
    obtain ⟨b, rfl, b1, b2⟩ := hd
    repeat walk_at "de"
    obtain ⟨a, rfl⟩ : ∃ n : Nat, a = (n : Int) := ⟨a.toNat, by omega⟩
    obtain ⟨b, rfl⟩ : ∃ n : Nat, b = (n : Int) := ⟨b.toNat, by omega⟩
    have e1 : es.map edD ++ [D.tup [.int (a : Int), sign c, .int (b : Int)]] = (es ++ [((a, c, b) : Ed)]).map edD := by rw [List.map_append]; rfl
    rw [e1]
    refine srt_ed ?_
    refine da_nil (dcl_tupof (fun _ z => nomatch z) rfl ?_)
    repeat walk_at "de"
    refine grv_ed _ (by rw [List.length_map, (srtE_perm _).length_eq, List.length_append, List.length_singleton]; omega) fun d hd => ?_
    obtain ⟨e, _, rfl⟩ := List.mem_map.mp hd
    exact edv_ed e
  rw [decide_eq_false e1]
  refine iteF (ds_next ?_)
  have orest : ∀ m' : Int, GrV (.tup [.int m', .tup (es.map edD)]) := fun m' => grv_ed m' (by rw [hlen]; omega) hed
  -- 2
  refine ds_seq (ds_mid (fun x => ∃ x7 x8 x9 x10 x11 x12 x13, x = [.dat .stm, .dat (.int r), .dat (grD (m, es)), .dat (.int (m : Int)), .dat (.tup (es.map edD)), .dat (.int p), .dat (sign c), x7, x8, x9, x10, x11, x12, x13, .any]) ?_ fun x hx => ?_)
  · refine ds_if (dt_and ?_)
    repeat walk_at "de"
    by_cases e2 : p = 2
    · rw [decide_eq_true e2]
      refine iteT ?_
      repeat walk_at "de"
      by_cases hm : 1 < m
      · rw [decide_eq_true (show (1 : Int) < (m : Int) by omega)]
        refine iteT ?_
        refine ds_seq (ds_set ?_)
        repeat walk_at "de"
        refine ⟨(m : Int), rfl, ⟨by omega, by omega⟩, fun d hd => ?_⟩
        obtain ⟨a, rfl, a1, a2⟩ := hd
        try dsimp only [List.set]
        refine ds_seq (ds_set ?_)
        repeat walk_at "de"
        refine ⟨(m : Int), rfl, ⟨by omega, by omega⟩, fun d hd => ?_⟩
        obtain ⟨b, rfl, b1, b2⟩ := hd
        try dsimp only [List.set]
        refine ds_seq (ds_setN (den_listRg (de_var rfl ⟨(m : Int), rfl, by omega, by omega, ?_⟩)))
        try dsimp only [List.set]
        obtain ⟨a, rfl⟩ : ∃ n : Nat, a = (n : Int) := ⟨a.toNat, by omega⟩
        obtain ⟨b, rfl⟩ : ∃ n : Nat, b = (n : Int) := ⟨b.toNat, by omega⟩
        have er : rgI 0 ((m : Int)).toNat = (List.range m).map fun k : Nat => D.int (k : Int) := by
          unfold rgI
          rw [show ((m : Int)).toNat = m by omega]
          exact List.map_congr_left fun i _ => by rw [Int.zero_add]
        rw [er]
        refine ds_seq (ds_setItem rfl (de_var rfl (de_var rfl ⟨a, rfl, by rw [List.length_map, List.length_range]; omega, ?_⟩)))
        try dsimp only [List.set]
        refine ds_seq (ds_setItem rfl (de_var rfl (de_var rfl ⟨b, rfl, by rw [List.length_set, List.length_map, List.length_range]; omega, ?_⟩)))
        try dsimp only [List.set]
        obtain ⟨N, hN, hNl⟩ : ∃ N : List Nat, (((List.range m).map fun k : Nat => D.int (k : Int)).set a (.int (b : Int))).set b (.int (a : Int)) = N.map (fun k : Nat => D.int (k : Int)) ∧ N.length = m := ⟨((List.range m).set a b).set b a, by rw [List.map_set, List.map_set], by rw [List.length_set, List.length_set, List.length_range]⟩
        rw [hN]
        refine ds_rel 10 rfl ?_
        try dsimp only [List.set, toD]
        refine ds_ret ?_
        repeat walk_at "de"
        refine de_ofN (den_lcG (only_three (by simp) (by simp) (by simp)) (di_tup (de_var rfl ⟨_, rfl, by rw [hlen]; omega, fun i acc => acc = ((es.take i).map fun e : Ed => ((N.getD e.1 0, e.2.1, N.getD e.2.2 0) : Ed)).map edD, rfl, fun i d acc hd _ ha => ?_, fun acc ha => ?_⟩)))
        · rw [List.getElem?_map] at hd
          obtain ⟨g, hg, rfl⟩ := Option.map_eq_some_iff.mp hd
          have hbg := (hb g (List.mem_of_getElem? hg)).1
          obtain ⟨s, l, q⟩ := g
          have at_ : ∀ k, k < m → atI (N.map fun k : Nat => D.int (k : Int)) (k : Int) = some (.int (N.getD k 0 : Nat)) := fun k hk => atI_at (by omega) (by
            rw [show ((k : Int)).toNat = k by omega, List.getElem?_map, List.getD_eq_getElem?_getD, List.getElem?_eq_getElem (by omega)]
            rfl)
          refine dg_tup rfl (dgs_cons (dg_name (dgs_cons (dg_name (dgs_cons (dg_name (dgs_nil ?_)))))))
          try dsimp only [List.set, wipeE, List.map]
          refine dt_yes (iteT ?_)
          repeat walk_at "de"
          refine dop_ixl (at_ s hbg.1) ?_
          repeat walk_at "de"
          refine dop_ixl (at_ q hbg.2) ?_
          repeat walk_at "de"
          rw [ha, List.take_add_one, hg, List.map_append, List.map_append]
          rfl
        rw [hlen, List.take_length] at ha
        subst ha
        dsimp only [toD]
        refine da_nil (srt_edL ?_)
        refine da_nil (dcl_tupof (fun _ z => nomatch z) rfl ?_)
        repeat walk_at "de"
        refine grv_ed _ (by rw [List.length_map, (srtE_perm _).length_eq, List.length_map]; omega) fun d hd => ?_
        obtain ⟨e, _, rfl⟩ := List.mem_map.mp hd
        exact edv_ed e
      · rw [decide_eq_false (show ¬ (1 : Int) < (m : Int) by omega)]
        exact iteF (ds_next ⟨_, _, _, _, _, _, _, rfl⟩)
    · rw [decide_eq_false e2]
      exact iteF (iteF (ds_next ⟨_, _, _, _, _, _, _, rfl⟩))
  obtain ⟨x7, x8, x9, x10, x11, x12, x13, rfl⟩ := hx
  refine ds_seq (ds_if ?_)
  repeat walk_at "de"
  by_cases e3 : p = 3
  · rw [decide_eq_true e3]
    refine iteT (ds_ret ?_)
    repeat walk_at "de"
    refine ⟨(2 : Int), rfl, ⟨by decide, by decide⟩, fun d hd => ?_⟩
    obtain ⟨a, rfl, a1, a2⟩ := hd
    have ha : a = 0 ∨ a = 1 := by omega
    rcases ha with rfl | rfl
    · refine dop_ixl (c := .int 1) rfl ?_
      repeat walk_at "de"
      exact orest _
    · refine dop_ixl (c := .int (-1)) rfl ?_
      repeat walk_at "de"
      exact orest _
  rw [decide_eq_false e3]
  refine iteF (ds_next ?_)
  refine ds_seq (ds_if ?_)
  repeat walk_at "de"
  by_cases e4 : p = 4
  · rw [decide_eq_true e4]
    refine iteT (ds_ret ?_)
    repeat walk_at "de"
    refine de_revT (de_var rfl ⟨_, rfl, ?_⟩)
    repeat walk_at "de"
    refine grv_ed _ (by rw [List.length_reverse, hlen]; omega) fun d hd => hed d (List.mem_reverse.mp hd)
  rw [decide_eq_false e4]
  refine iteF (ds_next ?_)
  refine ds_seq (ds_if ?_)
  repeat walk_at "de"
  by_cases e5 : p = 5
  · rw [decide_eq_true e5]
    refine iteT (ds_ret ?_)
    repeat walk_at "de"
    refine dop_catt (a := [.int (m : Int), .tup (es.map edD)]) (by simp) ?_
    repeat walk_at "de"
    refine ⟨(8 : Int), rfl, ⟨by decide, by decide⟩, fun d hd => ?_⟩
    obtain ⟨i, rfl, i1, i2⟩ := hd
    refine dop_ixlm i1 (by simpa using i2) fun d hd => ?_
    simp only [List.mem_cons, List.not_mem_nil, or_false] at hd
    rcases hd with rfl | rfl | rfl | rfl | rfl | rfl | rfl | rfl
    · exact .inl rfl
    · exact .inr (.inl ⟨_, rfl, by simp⟩)
    · exact .inr (.inr (.inr ⟨_, _, rfl, .inr ⟨_, rfl⟩, .inl ⟨_, rfl, by rw [hlen]; omega⟩⟩))
    · exact .inr (.inr (.inl ⟨_, rfl, by simp, by simp⟩))
    · exact .inr (.inr (.inr ⟨_, _, rfl, .inl rfl, .inr ⟨_, rfl, by rw [hlen]; omega, hed⟩⟩))
    · refine grv_ed _ (by rw [List.length_append, hlen, List.length_singleton]; omega) fun d hd => ?_
      rcases List.mem_append.mp hd with z | z
      · exact hed d z
      · rw [List.mem_singleton.mp z]
        exact .inl rfl
    · exact grv_ed _ (by simp) fun d hd => absurd hd List.not_mem_nil
    · exact .inr (.inr (.inl ⟨_, rfl, by simp, by simp⟩))
  rw [decide_eq_false e5]
  refine iteF (ds_next ?_)
  refine ds_seq (ds_mid (fun x => ∃ x7 x8 x9 x10 x11 x12 x13 x14, x = [.dat .stm, .dat (.int r), .dat (grD (m, es)), .dat (.int (m : Int)), .dat (.tup (es.map edD)), .dat (.int p), .dat (sign c), x7, x8, x9, x10, x11, x12, x13, x14]) ?_ fun x hx => ?_)
  · refine ds_if (dt_and ?_)
    repeat walk_at "de"
    by_cases e6 : p = 6
    · rw [decide_eq_true e6]
      refine iteT (dt_tru (de_var rfl ⟨_, rfl, ?_, fun l h => nomatch h⟩))
      cases es with
      | nil => exact iteF (ds_next ⟨_, _, _, _, _, _, _, _, rfl⟩)
      | cons e es =>
        refine iteT (ds_seq (ds_set ?_))
        repeat walk_at "de"
        refine ⟨(((e :: es).length : Nat) : Int), by rw [hlen]; rfl, ⟨by rw [List.length_cons]; omega, by omega⟩, fun d hd => ?_⟩
        obtain ⟨i, rfl, i1, i2⟩ := hd
        obtain ⟨i, rfl⟩ : ∃ n : Nat, i = (n : Int) := ⟨i.toNat, by omega⟩
        have il : i < (e :: es).length := by omega
        have hat : atI ((e :: es).map edD) (i : Int) = some (edD (e :: es)[i]) := atI_at (by omega) (by rw [show ((i : Int)).toNat = i by omega, List.getElem?_map, List.getElem?_eq_getElem il]; rfl)
        have hcS := (hb _ (List.getElem_mem il)).2
        generalize (e :: es)[i] = g at hat hcS
        obtain ⟨s, l, q⟩ := g
        try dsimp only [List.set]
        refine ds_seq (ds_asg ?_)
        repeat walk_at "de"
        refine dop_ixt hat ?_
        refine dg_tup rfl (dgs_cons (dg_name (dgs_cons (dg_name (dgs_cons (dg_name (dgs_nil ?_)))))))
        try dsimp only [List.set]
        refine ds_seq (ds_set ?_)
        repeat walk_at "de"
        refine ⟨rfl, dmt_upperS hcS ?_⟩
        repeat walk_at "de"
        try dsimp only [List.set]
        refine ds_ret ?_
        repeat walk_at "de"
        refine ⟨(6 : Int), rfl, ⟨by decide, by decide⟩, fun d hd => ?_⟩
        obtain ⟨k, rfl, k1, k2⟩ := hd
        refine dop_ixlm k1 (by simpa using k2) fun x hx => ?_
        have hxv : EdV x := by
          simp only [List.mem_cons, List.not_mem_nil, or_false] at hx
          rcases hx with rfl | rfl | rfl | rfl | rfl | rfl
          · exact .inr (.inr ⟨_, _, _, rfl⟩)
          · exact .inr (.inr ⟨_, _, _, rfl⟩)
          · exact .inr (.inr ⟨_, _, _, rfl⟩)
          · exact .inr (.inr ⟨_, _, _, rfl⟩)
          · exact .inr (.inr ⟨_, _, _, rfl⟩)
          · exact .inr (.inl ⟨_, rfl, by simp⟩)
        repeat walk_at "de"
        refine dop_catt (by rw [List.length_append, List.length_take, List.length_drop, hlen, List.length_singleton]; omega) ?_
        repeat walk_at "de"
        refine grv_ed _ (by rw [List.length_append, List.length_append, List.length_take, List.length_drop, hlen, List.length_singleton]; omega) fun d hd => ?_
        rcases List.mem_append.mp hd with z | z
        · rcases List.mem_append.mp z with z | z
          · exact hed d (List.mem_of_mem_take z)
          · rw [List.mem_singleton.mp z]
            exact hxv
        · exact hed d (List.mem_of_mem_drop z)
    · rw [decide_eq_false e6]
      exact iteF (iteF (ds_next ⟨_, _, _, _, _, _, _, _, rfl⟩))
  obtain ⟨x7, x8, x9, x10, x11, x12, x13, x14, rfl⟩ := hx
  exact ds_ret (de_var rfl (orest _))
-- _law_stream
theorem ok_law_stream (T : Txt mg) (d_law_stream : Df K mg "_law_stream" s_law_stream ["script"]) : C8.Cal P w K mg base 1 "_law_stream" (spStream K) [] := by
  refine df_raw d_law_stream sc_law_stream (fun vs H Q E h => ?_) fun f cdv A outer s H E hr => ⟨_, (pss_one (ps_ret (pe_lst (pa_cons (pe_callTy cd_listof (by rfl) T.n_list (by decide +kernel) (pa_cons (pv 0) pa_nil)) (pa_cons pe_int (pa_cons pe_int pa_nil)))))), fun vs Q h => ?_⟩
  · obtain ⟨a, ns, rfl, _⟩ := h
    rfl
  · obtain ⟨a, ns, rfl, hS, q⟩ := h
    refine ⟨.ref a, rfl, a, _, rfl, .inl hS, fun b hb => ?_⟩
    refine ⟨Nat.le_trans (show 3 ≤ 1000 by decide) (by decide), fun st hst => ?_⟩
    have ne : b ≠ st := fun z => by
      rw [← z, upd_same] at hst
      cases hst
    exact q b st _ (fun z => ne z.symm) (by rw [upd_ne ne, upd_same]) upd_same
-- src: c416ebe0aeaf
def fs_law_word : FS := ⟨Int × Int, fun a => [.stm, .int a.1, .int a.2], fun a => 1 ≤ a.1 ∧ a.1 ≤ 3 ∧ 0 ≤ a.2 ∧ a.2 ≤ 100, fun a d => ∃ w : List Nat, d = .str w ∧ (w.length : Int) ≤ a.2 ∧ ∀ c ∈ w, c ∈ LS a.1⟩
theorem ok_law_word (T : Txt mg) (d_law_word : Df K mg "_law_word" s_law_word ["stream", "rank", "most"]) (c_law_next : C8.Cal P w K mg base 1 "_law_next" (PF fs_law_next) []) : C8.Cal P w K mg base 2 "_law_word" (PF fs_law_word) [] := by
  refine df_cal d_law_word sc_law_word (fun _ => rfl) fun f cdv A outer s H E hr => ⟨_, (pss_cons (ps_set (i := 3) sc_law_word.nd rfl (by first | exact Or.inl rfl | exact Or.inr rfl) (pe_slice sl_str pe_str po_none (po_some (pe_op op_mul pe_int (pv 1))))) (pss_one (ps_ret (pe_bm PySem.F.plainAttrs_str PySem.F.slot_str_join PySem.F.type_str_join md_join pe_str (pa_cons (pe_lc (own := [("k", 4)]) rfl sc_law_word.nd (pi_range1 (by rfl) T.n_range (pa_cons (C8.pe_c c_law_next hr (by first | decide | omega) (by rfl) (pa_cons (pv 0) (pa_cons (pe_op op_add (pv 2) pe_int) pa_nil))) pa_nil)) (blkOk_by (N := n_law_word) (sc := defScope s_law_word) (own := [("k", 4)]) (by decide +kernel)) (fun _ _ _ _ _ => (pg_name (i := 4) sc_law_word.nd rfl (by first | exact Or.inl rfl | exact Or.inr rfl))) (fun _ _ _ _ _ => pts_nil) (fun _ _ _ _ _ => (pe_ix ix_str (pv 3) (C8.pe_c c_law_next hr (by first | decide | omega) (by rfl) (pa_cons (pv 0) (pa_cons (pe_op op_mul pe_int (pv 1)) pa_nil))) (fun _ _ => rfl)))) pa_nil))))), fun a hp => ?_⟩
  obtain ⟨r, m⟩ := a
  obtain ⟨h1, h2, h3, h4⟩ := hp
  have h1 : 1 ≤ r := h1
  have h2 : r ≤ 3 := h2
  have h3 : 0 ≤ m := h3
  have h4 : m ≤ 100 := h4
  show Ds _ [.dat .stm, .dat (.int r), .dat (.int m), .any, .any] _ (fun d => ∃ w : List Nat, d = .str w ∧ (w.length : Int) ≤ m ∧ ∀ c ∈ w, c ∈ LS r) _ _
  repeat walk_at "dl"
  rw [cut_LS]
  repeat walk_at "dl"
  repeat walk_at "dl"
  refine ⟨rfl, ?_⟩
  walk_at "dl"
  refine de_ofN (den_lc (di_range1 ?_))
  repeat walk_at "dl"
  refine ⟨m + 1, rfl, ⟨by omega, by omega⟩, fun d hd => ?_⟩
  obtain ⟨n, rfl, n1, n2⟩ := hd
  walk_at "dl"
  refine ⟨n, rfl, by omega, by omega, by rw [rgI_len]; omega, fun i acc => ∃ w : List Nat, acc = w.map (fun c => D.str [c]) ∧ w.length = i ∧ ∀ c ∈ w, c ∈ LS r, ⟨[], rfl, rfl, fun c hc => nomatch hc⟩, fun i d acc hd _ ha => ?_, fun acc ha => ?_⟩
  · repeat walk_at "dl"
    refine ⟨2 * r, rfl, ⟨by omega, by omega⟩, fun d hd => ?_⟩
    obtain ⟨j, rfl, j1, j2⟩ := hd
    obtain ⟨c, hc, hm⟩ := atI_lt (LS r) j j1 (by rw [LS_len h1 h2]; exact j2)
    have hl := LS_len h1 h2
    refine dop_ixs (by omega) hc ?_
    obtain ⟨w, rfl, hw, hw2⟩ := ha
    refine ⟨w ++ [c], by simp, by simp [hw], fun x hx => ?_⟩
    rcases List.mem_append.mp hx with z | z
    · exact hw2 x z
    · rw [List.mem_singleton.mp z]
      exact hm
  · obtain ⟨w, rfl, hw, hw2⟩ := ha
    rw [rgI_len] at hw
    walk_at "dl"
    refine dmt_join0 (ls := w.map fun c => [c]) (by rw [← sgl]; rfl) (by rw [flat_sgl]; omega) ?_
    rw [flat_sgl]
    exact ⟨w, rfl, by omega, hw2⟩
-- _law_family
-- src: f6c8c4275397
def fs_law_family : FS := ⟨Unit, fun _ => [.stm], fun _ => True, fun _ d => ∃ r ws, d = famD r ws ∧ okF r ws⟩
theorem ok_law_family (T : Txt mg) (d_law_family : Df K mg "_law_family" s_law_family ["stream"]) (c_law_next : C8.Cal P w K mg base 1 "_law_next" (PF fs_law_next) []) (c_law_word : C8.Cal P w K mg base 2 "_law_word" (PF fs_law_word) []) : C8.Cal P w K mg base 3 "_law_family" (PF fs_law_family) [] := by
  refine df_cal d_law_family sc_law_family (fun _ => rfl) fun f cdv A outer s H E hr => ⟨_, (pss_cons (ps_set (i := 1) sc_law_family.nd rfl (by first | exact Or.inl rfl | exact Or.inr rfl) (pe_ix ix_list (pe_lst (pa_cons pe_int (pa_cons pe_int (pa_cons pe_int (pa_cons pe_int pa_nil))))) (C8.pe_c c_law_next hr (by first | decide | omega) (by rfl) (pa_cons (pv 0) (pa_cons pe_int pa_nil))) (fun _ _ => rfl))) (pss_cons (ps_set (i := 2) sc_law_family.nd rfl (by first | exact Or.inl rfl | exact Or.inr rfl) (pe_ix ix_list (pe_lst (pa_cons pe_int (pa_cons pe_int (pa_cons pe_int pa_nil)))) (C8.pe_c c_law_next hr (by first | decide | omega) (by rfl) (pa_cons (pv 0) (pa_cons pe_int pa_nil))) (fun _ _ => rfl))) (pss_one (ps_ret (pe_tup (pa_cons (pv 1) (pa_cons (pe_callTy cd_tupof (by rfl) T.n_tuple (by decide +kernel) (pa_cons (pe_lc (own := [("k", 3)]) rfl sc_law_family.nd (pi_range1 (by rfl) T.n_range (pa_cons (C8.pe_c c_law_next hr (by first | decide | omega) (by rfl) (pa_cons (pv 0) (pa_cons pe_int pa_nil))) pa_nil)) (blkOk_by (N := n_law_family) (sc := defScope s_law_family) (own := [("k", 3)]) (by decide +kernel)) (fun _ _ _ _ _ => (pg_name (i := 3) sc_law_family.nd rfl (by first | exact Or.inl rfl | exact Or.inr rfl))) (fun _ _ _ _ _ => pts_nil) (fun _ _ _ _ _ => (C8.pe_c c_law_word hr (by first | decide | omega) (by rfl) (pa_cons (pv 0) (pa_cons (pv 1) (pa_cons (pv 2) pa_nil)))))) pa_nil)) pa_nil))))))), fun a hp => ?_⟩
  show Ds _ [.dat .stm, .any, .any, .any] _ (fun d => ∃ r ws, d = famD r ws ∧ okF r ws) _ _
  repeat walk_at "dl"
  repeat walk_at "dl"
  refine ⟨(4 : Int), rfl, ⟨by omega, by omega⟩, fun d hd => ?_⟩
  obtain ⟨i, rfl, i1, i2⟩ := hd
  obtain ⟨x, hx, hm⟩ := atI_lt [D.int 1, D.int 2, D.int 2, D.int 3] i i1 i2
  refine dop_ixl hx ?_
  obtain ⟨r, rfl, r1, r2⟩ : ∃ r : Int, x = .int r ∧ 1 ≤ r ∧ r ≤ 3 := by
    simp only [List.mem_cons, List.not_mem_nil, or_false] at hm
    rcases hm with z | z | z | z <;> exact ⟨_, z, by omega, by omega⟩
  repeat walk_at "dl"
  repeat walk_at "dl"
  refine ⟨(3 : Int), rfl, ⟨by omega, by omega⟩, fun d hd => ?_⟩
  obtain ⟨j, rfl, j1, j2⟩ := hd
  obtain ⟨y, hy, hm⟩ := atI_lt [D.int 3, D.int 5, D.int 8] j j1 j2
  refine dop_ixl hy ?_
  obtain ⟨m, rfl, m1, m2⟩ : ∃ m : Int, y = .int m ∧ 0 ≤ m ∧ m ≤ 8 := by
    simp only [List.mem_cons, List.not_mem_nil, or_false] at hm
    rcases hm with z | z | z <;> exact ⟨_, z, by omega, by omega⟩
  repeat walk_at "dl"
  refine de_ofN (den_lc (di_range1 ?_))
  repeat walk_at "dl"
  refine ⟨(5 : Int), rfl, ⟨by omega, by omega⟩, fun d hd => ?_⟩
  obtain ⟨n, rfl, n1, n2⟩ := hd
  walk_at "dl"
  refine ⟨n, rfl, by omega, by omega, by rw [rgI_len]; omega, fun i acc => ∃ ws : List (List Nat), acc = ws.map D.str ∧ ws.length = i ∧ ∀ w ∈ ws, okW r 8 w, ⟨[], rfl, rfl, fun c hc => nomatch hc⟩, fun i d acc hd _ ha => ?_, fun acc ha => ?_⟩
  · repeat walk_at "dl"
    refine ⟨(r, m), rfl, ⟨r1, r2, m1, by omega⟩, fun d hd => ?_⟩
    obtain ⟨w, rfl, w1, w2⟩ := hd
    have w1 : (w.length : Int) ≤ m := w1
    obtain ⟨ws, rfl, e1, e2⟩ := ha
    refine ⟨ws ++ [w], by simp, by simp [e1], fun x hx => ?_⟩
    rcases List.mem_append.mp hx with z | z
    · exact e2 x z
    · rw [List.mem_singleton.mp z]
      exact ⟨by omega, w2⟩
  · obtain ⟨ws, rfl, e1, e2⟩ := ha
    rw [rgI_len] at e1
    repeat walk_at "dl"
    exact ⟨r, ws, rfl, r1, r2, by omega, e2⟩
-- check_family
def fs_check_family : FS := ⟨Int × List (List Nat), fun a => [famD a.1 a.2], fun a => okF a.1 a.2, fun _ d => d = .non⟩
theorem ok_check_family (T : Txt mg) (d_check_family : Df K mg "check_family" s_check_family ["value"]) (c_is_family : C8.Cal P w K mg base 3 "is_family" (PF fs_is_family) []) : C8.Cal P w K mg base 4 "check_family" (PF fs_check_family) [] := by
  refine df_cal d_check_family sc_check_family (fun _ => rfl) fun f cdv A outer s H E hr => ⟨_, (pss_one (ps_if (pt_not (pt_val (C8.pe_c c_is_family hr (by first | decide | omega) (by rfl) (pa_cons (pv 0) pa_nil)))) (pss_one ps_never) pss_nil)), fun a hp => ?_⟩
  obtain ⟨r, ws⟩ := a
  have hF : okF r ws := hp
  show Ds _ [.dat (famD r ws)] (fun _ => D.non = D.non) (fun d => d = .non) _ _
  repeat walk_at "dl"
  refine ⟨famD r ws, rfl, gd2_of (fam_g2 hF), fun d hd => ?_⟩
  obtain rfl : d = .bl (isFam (famD r ws)) := hd
  rw [fam_true hF]
  repeat walk_at "dl"
-- folded
def fs_folded : FS := ⟨List Nat, fun w => [.str w], fun w => Lts w ∧ w.length ≤ 300000, fun w d => d = .str (fold w)⟩
theorem ok_folded (T : Txt mg) (d_folded : Df K mg "folded" s_folded ["word"]) : C8.Cal P w K mg base 1 "folded" (PF fs_folded) [] := by
  refine df_cal d_folded sc_folded (fun _ => rfl) fun f cdv A outer s H E hr => ⟨_, (pss_cons (ps_set (i := 1) sc_folded.nd rfl (by first | exact Or.inl rfl | exact Or.inr rfl) (pe_lst pa_nil)) (pss_cons (ps_for PassesOwn.never rfl (pi_ss (by rfl) T.n_zip (pa_cons (pv 0) (pa_cons (pe_bm0 PySem.F.plainAttrs_str PySem.F.slot_str_swapcase PySem.F.type_str_swapcase md_swap (pv 0)) pa_nil))) (pg_tup rfl (pgs_cons (pg_name (i := 2) sc_folded.nd rfl (by first | exact Or.inl rfl | exact Or.inr rfl)) (pgs_cons (pg_name (i := 3) sc_folded.nd rfl (by first | exact Or.inl rfl | exact Or.inr rfl)) pgs_nil))) (pss_one (ps_if (PW.pt (pw_and (ptd (pv 1) (by intro _; rfl)) (pw_and1 (pt_cmpR op_eq (pe_ix ix_list (pv 1) (pe_un un_neg pe_int) (fun _ _ => rfl)) (pv 3) (nomark _))))) (pss_one (ps_expr (pe_bm0 PySem.F.plainAttrs_list PySem.F.slot_list_pop PySem.F.type_list_pop mt_pop (pv 1)))) (pss_one (ps_expr (pe_bm PySem.F.plainAttrs_list PySem.F.slot_list_append PySem.F.type_list_append mt_append (pv 1) (pa_cons (pv 2) pa_nil))))))) (pss_one (ps_ret (pe_bm PySem.F.plainAttrs_str PySem.F.slot_str_join PySem.F.type_str_join md_join pe_str (pa_cons (pv 1) pa_nil)))))), fun (w : List Nat) hp => ?_⟩
  obtain ⟨hw, hz⟩ : Lts w ∧ w.length ≤ 300000 := hp
  show Ds _ [.dat (.str w), .any, .any, .any] _ (fun d => d = .str (fold w)) _ _
  refine ds_seq (ds_setN (den_lst (da_nil ⟨by simp, ?_⟩)))
  refine ds_seq (ds_for (di_ss ?_))
  repeat walk_at "dl"
  refine ⟨rfl, dmt_swap (by omega) hw (da_nil ?_)⟩
  refine ⟨w, w.map sw, rfl, fun i e => ∃ x y, e = [.dat (.str w), .own (.lst ((stk (w.take i)).reverse.map sign)), x, y], ⟨.any, .any, rfl⟩, fun i d e hd he => ?_, fun e he => ?_⟩
  · obtain ⟨x, y, rfl⟩ := he
    obtain ⟨c, c', hc, hc', rfl⟩ := ssD_get hd
    rw [List.getElem?_map, hc] at hc'
    obtain rfl : sw c = c' := Option.some.inj hc'
    have hcl := hw c (List.mem_of_getElem? hc)
    refine dg_tup rfl (dgs_cons (dg_name (dgs_cons (dg_name (dgs_nil ?_)))))
    try dsimp only [List.set]
    refine ds_if (dt_look 1 rfl ?_)
    repeat walk_at "dl"
    rw [stk_take hc]
    have hl : (stk (w.take i)).length ≤ 300000 := by
      have h1 := fold_len (w.take i)
      have h2 : (w.take i).length ≤ w.length := by rw [List.length_take]; omega
      unfold fold at h1
      rw [List.length_reverse] at h1
      omega
    cases e : stk (w.take i) with
    | nil =>
      refine ⟨false, rfl, ?_, fun _ z => nomatch z⟩
      repeat walk_at "dl"
      refine ds_append rfl (by simp) ?_
      repeat walk_at "dl"
      exact ⟨_, _, rfl⟩
    | cons y k =>
      rw [e] at hl
      rw [List.reverse_cons, List.map_append]
      refine ⟨true, by simp [toD, dTru], ?_, fun _ z => nomatch z⟩
      repeat walk_at "dl"
      refine dop_ixl (atI_back _ (sign y)) ?_
      repeat walk_at "dl"
      rw [psh_cons]
      by_cases h : y = sw c
      · rw [if_pos h, h, decide_eq_true rfl]
        refine iteT (ds_pop (ds := k.reverse.map sign) (d := sign (sw c)) rfl ?_)
        exact ⟨_, _, rfl⟩
      · rw [if_neg h, decide_eq_false (fun z => h (by simpa using z))]
        refine iteF (ds_append rfl ?_ ?_)
        · simp only [List.length_append, List.length_map, List.length_reverse, List.length_cons, List.length_nil] at hl ⊢
          omega
        repeat walk_at "dl"
        refine ⟨.dat (sign c), .dat (sign (sw c)), ?_⟩
        show _ = [_, Sl.own (.lst ((c :: y :: k).reverse.map sign)), _, _]
        rw [List.reverse_cons, List.map_append, List.reverse_cons, List.map_append]
        rfl
  · obtain ⟨x, y, rfl⟩ := he
    rw [ssD_len, List.length_map, Nat.min_self, List.take_length]
    refine ds_ret (de_look 1 rfl ?_)
    repeat walk_at "dl"
    refine ⟨rfl, ?_⟩
    repeat walk_at "dl"
    have h1 := fold_len w
    unfold fold at h1
    refine dmt_join0 (ls := (stk w).reverse.map fun c => [c]) (by rw [← sgl]; rfl) (by rw [flat_sgl]; omega) ?_
    rw [flat_sgl]
    exact ⟨trivial, rfl⟩
-- edge_behind
def fs_edge_behind : FS := ⟨Nat × Nat × Nat, fun a => [.int (a.1 : Int), sign a.2.1, .int (a.2.2 : Int)], fun a => a.2.1 ∈ LTR, fun a d => d = edD (edB a.1 a.2.1 a.2.2)⟩
theorem ok_edge_behind (T : Txt mg) (d_edge_behind : Df K mg "edge_behind" s_edge_behind ["place", "letter", "point"]) (c_opposite : C8.Cal P w K mg base 1 "opposite" (PF fs_opposite) []) : C8.Cal P w K mg base 2 "edge_behind" (PF fs_edge_behind) [] := by
  refine df_cal d_edge_behind sc_edge_behind (fun _ => rfl) fun f cdv A outer s H E hr => ⟨_, (pss_cons (ps_if (pt_cmpR od_in_sg (pv 1) (C8.pe_gc (by rfl) T.g_SMALL_LETTERS) rfl) (pss_one (ps_ret (pe_tup (pa_cons (pv 0) (pa_cons (pv 1) (pa_cons (pv 2) pa_nil)))))) pss_nil) (pss_one (ps_ret (pe_tup (pa_cons (pv 2) (pa_cons (C8.pe_c c_opposite hr (by first | decide | omega) (by rfl) (pa_cons (pv 1) pa_nil)) (pa_cons (pv 0) pa_nil))))))), fun a hp => ?_⟩
  obtain ⟨p, c, q⟩ := a
  have hc : c ∈ LTR := hp
  show Ds _ [.dat (.int (p : Int)), .dat (.str [c]), .dat (.int (q : Int))] _ (fun d => d = edD (edB p c q)) _ _
  repeat walk_at "dl"
  refine dop_insg ?_
  unfold edB
  by_cases h : c ∈ SM
  · rw [if_pos h]
    refine ⟨_, rfl, ?_⟩
    rw [decide_eq_true (show c ∈ [97, 98, 99] from h)]
    repeat walk_at "dl"
    rfl
  · rw [if_neg h]
    refine ⟨_, rfl, ?_⟩
    rw [decide_eq_false (show ¬ c ∈ [97, 98, 99] from h)]
    repeat walk_at "dl"
    refine ⟨c, rfl, hc, fun d hd => ?_⟩
    obtain rfl : d = .str [sw c] := hd
    repeat walk_at "dl"
    rfl
-- petals_of
def fs_petals_of : FS := ⟨List (List Nat), fun ws => [.tup (ws.map D.str)], fun ws => ws.length ≤ 100 ∧ ∀ w ∈ ws, Lts w ∧ w.length ≤ 100, fun ws d => d = .tup [.lst ((ptl ws).1.map edD), .lst ((rowI (ptl ws).2.1).map D.int)]⟩
def ptE (s : List Ed × List Nat × Nat) : List Sl := [.own (.lst (s.1.map edD)), .own (.lst ((rowI s.2.1).map D.int)), .dat (.int (s.2.2 : Int))]
theorem ok_petals_of (T : Txt mg) (d_petals_of : Df K mg "petals_of" s_petals_of ["given"]) (c_edge_behind : C8.Cal P w K mg base 2 "edge_behind" (PF fs_edge_behind) []) (c_folded : C8.Cal P w K mg base 1 "folded" (PF fs_folded) []) : C8.Cal P w K mg base 3 "petals_of" (PF fs_petals_of) [] := by
  refine df_cal d_petals_of sc_petals_of (fun _ => rfl) fun f cdv A outer s H E hr => ⟨_, (pss_cons (ps_set (i := 1) sc_petals_of.nd rfl (by first | exact Or.inl rfl | exact Or.inr rfl) (pe_lst pa_nil)) (pss_cons (ps_set (i := 2) sc_petals_of.nd rfl (by first | exact Or.inl rfl | exact Or.inr rfl) (pe_lst pa_nil)) (pss_cons (ps_set (i := 3) sc_petals_of.nd rfl (by first | exact Or.inl rfl | exact Or.inr rfl) pe_int) (pss_cons (ps_for PassesOwn.never rfl (pi_tup (pv 0)) (pg_name (i := 4) sc_petals_of.nd rfl (by first | exact Or.inl rfl | exact Or.inr rfl)) (pss_cons (ps_set (i := 5) sc_petals_of.nd rfl (by first | exact Or.inl rfl | exact Or.inr rfl) pe_int) (pss_cons (ps_for PassesOwn.never rfl (pi_str (C8.pe_c c_folded hr (by first | decide | omega) (by rfl) (pa_cons (pv 4) pa_nil))) (pg_name (i := 6) sc_petals_of.nd rfl (by first | exact Or.inl rfl | exact Or.inr rfl)) (pss_cons (ps_expr (pe_bm PySem.F.plainAttrs_list PySem.F.slot_list_append PySem.F.type_list_append mt_append (pv 1) (pa_cons (C8.pe_c c_edge_behind hr (by first | decide | omega) (by rfl) (pa_cons (pv 5) (pa_cons (pv 6) (pa_cons (pv 3) pa_nil)))) pa_nil))) (pss_cons (ps_set (i := 5) sc_petals_of.nd rfl (by first | exact Or.inl rfl | exact Or.inr rfl) (pv 3)) (pss_one (ps_aug (i := 3) sc_petals_of.nd rfl (by first | exact Or.inl rfl | exact Or.inr rfl) pe_int ip_add))))) (pss_one (ps_expr (pe_bm PySem.F.plainAttrs_list PySem.F.slot_list_append PySem.F.type_list_append mt_append (pv 2) (pa_cons (pv 5) pa_nil))))))) (pss_one (ps_ret (pe_tup (pa_cons (pv 1) (pa_cons (pv 2) pa_nil))))))))), fun (ws : List (List Nat)) hp => ?_⟩
  obtain ⟨hz, hw⟩ : ws.length ≤ 100 ∧ ∀ w ∈ ws, Lts w ∧ w.length ≤ 100 := hp
  show Ds _ [.dat (.tup (ws.map D.str)), .any, .any, .any, .any, .any, .any] _ (fun d => d = .tup [.lst ((ptl ws).1.map edD), .lst ((rowI (ptl ws).2.1).map D.int)]) _ _
  refine ds_seq (ds_setN (den_lst (da_nil ⟨by simp, ?_⟩)))
  refine ds_seq (ds_setN (den_lst (da_nil ⟨by simp, ?_⟩)))
  refine ds_seq (ds_set (de_int ?_))
  try dsimp only [List.set]
  have lensF : ∀ i, (((ws.map fold).take i).foldl ptW ([], [], 1)).1.length ≤ 10000 ∧ (((ws.map fold).take i).foldl ptW ([], [], 1)).2.1.length ≤ 100 := fun i => by
    obtain ⟨a, b⟩ := ptW_lens ((ws.map fold).take i) ([], [], 1) 100 fun w q => by
      obtain ⟨v, hv, rfl⟩ := List.mem_map.mp (List.mem_of_mem_take q)
      exact Nat.le_trans (fold_len v) (hw v hv).2
    have l1 : ((ws.map fold).take i).length ≤ 100 := by rw [List.length_take, List.length_map]; omega
    have l2 : ((ws.map fold).take i).length * 100 ≤ 100 * 100 := Nat.mul_le_mul_right _ l1
    rw [b]
    exact ⟨Nat.le_trans a (by simpa using l2), by simpa using l1⟩
  refine ds_seq (ds_for (di_tup (de_var rfl ⟨ws.map D.str, rfl, fun i e => ∃ x y z, e = .dat (.tup (ws.map D.str)) :: ptE (((ws.map fold).take i).foldl ptW ([], [], 1)) ++ [x, y, z], ⟨.any, .any, .any, rfl⟩, fun i d e hd he => ?_, fun e he => ?_⟩)))
  · obtain ⟨x, y, z, rfl⟩ := he
    rw [List.getElem?_map] at hd
    obtain ⟨w, hwi, rfl⟩ := Option.map_eq_some_iff.mp hd
    obtain ⟨hw1, hw2⟩ := hw w (List.mem_of_getElem? hwi)
    obtain ⟨hl1, hl2⟩ := lensF i
    have hstep : ((ws.map fold).take (i + 1)).foldl ptW ([], [], 1) = ptW (((ws.map fold).take i).foldl ptW ([], [], 1)) (fold w) := by
      rw [List.take_add_one, List.getElem?_map, hwi, List.foldl_append]
      rfl
    dsimp only
    rw [hstep]
    generalize ((ws.map fold).take i).foldl ptW ([], [], 1) = s1 at hl1 hl2
    have hfl : ∀ c ∈ fold w, c ∈ LTR := fold_lts hw1
    have hfz : (fold w).length ≤ 100 := Nat.le_trans (fold_len w) hw2
    unfold ptE
    refine dg_name ?_
    refine ds_seq (ds_set (de_int ?_))
    try dsimp only [List.set]
    refine ds_seq (ds_for (di_str (de_call ?_)))
    repeat walk_at "de"
    refine ⟨w, rfl, ⟨hw1, by omega⟩, fun d hd => ?_⟩
    obtain rfl : d = .str (fold w) := hd
    refine ⟨fold w, rfl, fun j e => ∃ z, e = [.dat (.tup (ws.map D.str)), .own (.lst ((((fold w).take j).foldl ptS (s1.1, 0, s1.2.2)).1.map edD)), .own (.lst ((rowI s1.2.1).map D.int)), .dat (.int ((((fold w).take j).foldl ptS (s1.1, 0, s1.2.2)).2.2 : Int)), .dat (.str w), .dat (.int ((((fold w).take j).foldl ptS (s1.1, 0, s1.2.2)).2.1 : Int)), z], ⟨z, rfl⟩, fun j d e hd he => ?_, fun e he => ?_⟩
    · obtain ⟨z, rfl⟩ := he
      obtain ⟨c, hci, rfl⟩ := sign_at hd
      have hcl := hfl c (List.mem_of_getElem? hci)
      have hln := ptS_len ((fold w).take j) (s1.1, 0, s1.2.2)
      have htk : ((fold w).take j).length ≤ 100 := by rw [List.length_take]; omega
      have hstep2 : ((fold w).take (j + 1)).foldl ptS (s1.1, 0, s1.2.2) = ptS (((fold w).take j).foldl ptS (s1.1, 0, s1.2.2)) c := by
        rw [List.take_add_one, hci, List.foldl_append]
        rfl
      dsimp only at hln ⊢
      rw [hstep2]
      generalize ((fold w).take j).foldl ptS (s1.1, 0, s1.2.2) = s2 at hln
      refine dg_name ?_
      try dsimp only [List.set]
      refine ds_seq (ds_append rfl (by rw [List.length_map]; omega) (de_call ?_))
      repeat walk_at "de"
      refine ⟨(s2.2.1, c, s2.2.2), rfl, hcl, fun d hd => ?_⟩
      obtain rfl : d = edD (edB s2.2.1 c s2.2.2) := hd
      try dsimp only [List.set]
      repeat walk_at "dl"
      rw [map_snoc edD]
      refine ⟨.dat (sign c), ?_⟩
      rfl
    · obtain ⟨z, rfl⟩ := he
      rw [List.length_map, List.take_length]
      refine ds_append rfl (by rw [rowI_len]; omega) (de_var rfl ?_)
      rw [row_snoc]
      exact ⟨_, _, _, rfl⟩
  · obtain ⟨x, y, z, rfl⟩ := he
    rw [List.length_map, show ws.length = (ws.map fold).length by rw [List.length_map], List.take_length]
    refine ds_rel 1 rfl (ds_rel 2 rfl ?_)
    try dsimp only [List.set, toD]
    repeat walk_at "dl"
    rfl
-- identify
def fs_identify : FS := ⟨List Nat × Nat × Nat, fun a => [.lst ((rowI a.1).map D.int), .int (a.2.1 : Int), .int (a.2.2 : Int)], fun a => a.2.1 < a.1.length ∧ a.2.2 < a.1.length ∧ a.1.length ≤ 100000, fun a d => d = .lst ((rowI (idf a.1 a.2.1 a.2.2)).map D.int)⟩
theorem ok_identify (T : Txt mg) (d_identify : Df K mg "identify" s_identify ["least", "one", "other"]) : C8.Cal P w K mg base 1 "identify" (PF fs_identify) [] := by
  refine df_cal d_identify sc_identify (fun _ => rfl) fun f cdv A outer s H E hr => ⟨_, (pss_cons (ps_set (i := 3) sc_identify.nd rfl (by first | exact Or.inl rfl | exact Or.inr rfl) (pe_callB (cd_min2 rfl) (by rfl) T.n_min (by decide +kernel) (pa_cons (pe_ix ix_list (pv 0) (pv 1) (fun _ _ => rfl)) (pa_cons (pe_ix ix_list (pv 0) (pv 2) (fun _ _ => rfl)) pa_nil)))) (pss_cons (ps_set (i := 4) sc_identify.nd rfl (by first | exact Or.inl rfl | exact Or.inr rfl) (pe_callB (cd_max2 rfl) (by rfl) T.n_max (by decide +kernel) (pa_cons (pe_ix ix_list (pv 0) (pv 1) (fun _ _ => rfl)) (pa_cons (pe_ix ix_list (pv 0) (pv 2) (fun _ _ => rfl)) pa_nil)))) (pss_one (ps_ret (pe_lc (own := [("point", 5)]) rfl sc_identify.nd (pi_list (pv 0)) (blkOk_by (N := n_identify) (sc := defScope s_identify) (own := [("point", 5)]) (by decide +kernel)) (fun _ _ _ _ _ => (pg_name (i := 5) sc_identify.nd rfl (by first | exact Or.inl rfl | exact Or.inr rfl))) (fun _ _ _ _ _ => pts_nil) (fun _ _ _ _ _ => (pe_ifExp (pt_cmpR op_eq (pv 5) (pv 4) (nomark _)) (pv 3) (pv 5)))))))), fun a hp => ?_⟩
  obtain ⟨l, a, b⟩ := a
  obtain ⟨ha, hb, hz⟩ : a < l.length ∧ b < l.length ∧ l.length ≤ 100000 := hp
  show Ds _ [.dat (.lst ((rowI l).map D.int)), .dat (.int (a : Int)), .dat (.int (b : Int)), .any, .any, .any] _ (fun d => d = .lst ((rowI (idf l a b)).map D.int)) _ _
  refine ds_seq (ds_set (de_cb (da_cons (de_op (de_var rfl (de_var rfl (dop_ixl (rowI_at ha) (da_cons (de_op (de_var rfl (de_var rfl (dop_ixl (rowI_at hb) (da_nil (dcl_min2 ?_))))))))))))))
  rw [min_int]
  try dsimp only [List.set]
  refine ds_seq (ds_set (de_cb (da_cons (de_op (de_var rfl (de_var rfl (dop_ixl (rowI_at ha) (da_cons (de_op (de_var rfl (de_var rfl (dop_ixl (rowI_at hb) (da_nil (dcl_max2 ?_))))))))))))))
  rw [max_int]
  try dsimp only [List.set]
  refine ds_ret (de_ofN (den_lc (di_list (de_var rfl ⟨(rowI l).map D.int, rfl, by rw [rowI_len]; omega, fun i acc => acc = (rowI ((l.take i).map fun p => if p = max (l.getD a 0) (l.getD b 0) then min (l.getD a 0) (l.getD b 0) else p)).map D.int, rfl, fun i d acc hd _ ha => ?_, fun acc ha => ?_⟩))))
  · obtain ⟨x, hx, rfl⟩ := rowI_get hd
    subst ha
    repeat walk_at "dl"
    rw [← row_take_snoc hx]
    by_cases h : x = max (l.getD a 0) (l.getD b 0)
    · rw [decide_eq_true (show (x : Int) = ((max (l.getD a 0) (l.getD b 0) : Nat) : Int) by omega), if_pos h]
      refine iteT ?_
      repeat walk_at "dl"
    · rw [decide_eq_false (show ¬ (x : Int) = ((max (l.getD a 0) (l.getD b 0) : Nat) : Int) by omega), if_neg h]
      refine iteF ?_
      repeat walk_at "dl"
  · rw [rowI_len] at ha
    rw [List.take_length] at ha
    subst ha
    rfl
-- fold_once
def fs_fold_once : FS := ⟨Nat × List Nat × List Ed, fun a => [.lst ((rowI a.2.1).map D.int), .lst (a.2.2.map edD)], fun a => a.2.1.length = a.1 ∧ a.1 ≤ 100000 ∧ Ebd a.1 a.2.2 ∧ a.2.2.length ≤ 10000, fun a d => d = .lst ((rowI (fo a.2.1 a.2.2)).map D.int)⟩
def foE (es : List Ed) (s : Fs) : List Sl := [.dat (.lst ((rowI s.1).map D.int)), .dat (.lst (es.map edD)), .own (.dT s.2)]
theorem ok_fold_once (T : Txt mg) (d_fold_once : Df K mg "fold_once" s_fold_once ["least", "edges"]) (c_identify : C8.Cal P w K mg base 1 "identify" (PF fs_identify) []) (c_opposite : C8.Cal P w K mg base 1 "opposite" (PF fs_opposite) []) : C8.Cal P w K mg base 2 "fold_once" (PF fs_fold_once) [] := by
  refine df_cal d_fold_once sc_fold_once (fun _ => rfl) fun f cdv A outer s H E hr => ⟨_, (pss_cons (ps_set (i := 2) sc_fold_once.nd rfl (by first | exact Or.inl rfl | exact Or.inr rfl) pe_dnewT) (pss_cons (ps_for PassesOwn.never rfl (pi_list (pv 1)) (pg_tup rfl (pgs_cons (pg_name (i := 3) sc_fold_once.nd rfl (by first | exact Or.inl rfl | exact Or.inr rfl)) (pgs_cons (pg_name (i := 4) sc_fold_once.nd rfl (by first | exact Or.inl rfl | exact Or.inr rfl)) (pgs_cons (pg_name (i := 5) sc_fold_once.nd rfl (by first | exact Or.inl rfl | exact Or.inr rfl)) pgs_nil)))) (pss_one (ps_for PassesOwn.never rfl (pi_tup (pe_tup (pa_cons (pe_tup (pa_cons (pv 3) (pa_cons (pv 4) (pa_cons (pv 5) pa_nil)))) (pa_cons (pe_tup (pa_cons (pv 5) (pa_cons (C8.pe_c c_opposite hr (by first | decide | omega) (by rfl) (pa_cons (pv 4) pa_nil)) (pa_cons (pv 3) pa_nil)))) pa_nil)))) (pg_tup rfl (pgs_cons (pg_name (i := 6) sc_fold_once.nd rfl (by first | exact Or.inl rfl | exact Or.inr rfl)) (pgs_cons (pg_name (i := 7) sc_fold_once.nd rfl (by first | exact Or.inl rfl | exact Or.inr rfl)) (pgs_cons (pg_name (i := 8) sc_fold_once.nd rfl (by first | exact Or.inl rfl | exact Or.inr rfl)) pgs_nil)))) (pss_cons (ps_set (i := 9) sc_fold_once.nd rfl (by first | exact Or.inl rfl | exact Or.inr rfl) (pe_tup (pa_cons (pe_ix ix_list (pv 0) (pv 6) (fun _ _ => rfl)) (pa_cons (pv 7) pa_nil)))) (pss_one (ps_if (pt_cmp (pc_din (hu_of hr) (pv 9) (pv 2))) (pss_one (ps_set (i := 0) sc_fold_once.nd rfl (by first | exact Or.inl rfl | exact Or.inr rfl) (C8.pe_c c_identify hr (by first | decide | omega) (by rfl) (pa_cons (pv 0) (pa_cons (pe_dget (hu_of hr) (pv 2) (pv 9) (fun _ _ => rfl)) (pa_cons (pv 8) pa_nil)))))) (pss_one (ps_dput (hu_of hr) (pv 2) (pv 9) (pv 8) rfl)))))))) (pss_one (ps_ret (pv 0))))), fun a hp => ?_⟩
  obtain ⟨n, l, es⟩ := a
  obtain ⟨hl, hn, hE, hz⟩ : l.length = n ∧ n ≤ 100000 ∧ Ebd n es ∧ es.length ≤ 10000 := hp
  show Ds _ [.dat (.lst ((rowI l).map D.int)), .dat (.lst (es.map edD)), .any, .any, .any, .any, .any, .any, .any, .any] _ (fun d => d = .lst ((rowI (fo l es)).map D.int)) _ _
  refine ds_seq (ds_setN (den_dnewT ?_))
  try dsimp only [List.set]
  have facts : ∀ ms : List Ed, (∀ m ∈ ms, m ∈ mvl es) → (foldM (l, []) ms).1.length = n ∧ Mv (foldM (l, []) ms).2 n ∧ (foldM (l, []) ms).2.length ≤ ms.length := fun ms hm => by
    have h := foldM_dlen ms (l, [])
    exact ⟨(foldM_len ms (l, [])).trans hl, foldM_mv ms (mv_nil n) fun m q => (hE.mv (hm m q)).2.1, by simpa using h⟩
  refine ds_seq (ds_for (di_list (de_var rfl ⟨es.map edD, rfl, fun i e => ∃ x1 x2 x3 x4 x5 x6 x7, e = foE es (foldM (l, []) (mvl (es.take i))) ++ [x1, x2, x3, x4, x5, x6, x7], ⟨.any, .any, .any, .any, .any, .any, .any, rfl⟩, fun i d e hd he => ?_, fun e he => ?_⟩)))
  · obtain ⟨x1, x2, x3, x4, x5, x6, x7, rfl⟩ := he
    rw [List.getElem?_map] at hd
    obtain ⟨ed, hed, rfl⟩ := Option.map_eq_some_iff.mp hd
    obtain ⟨hb1, hb2, hsm⟩ := hE ed (List.mem_of_getElem? hed)
    have hcl := SM_LTR hsm
    have hm1 : ∀ m ∈ mvl (es.take (i + 1)), m ∈ mvl es := fun m hm => mvl_sub hm
    rw [mvl_take hed] at hm1
    have hlen2 : (mvl (es.take i)).length ≤ 20000 := by rw [mvl_len, List.length_take]; omega
    dsimp only
    rw [mvl_take hed]
    unfold foE
    obtain ⟨p, c, q⟩ := ed
    refine dg_tup rfl (dgs_cons (dg_name (dgs_cons (dg_name (dgs_cons (dg_name (dgs_nil ?_)))))))
    try dsimp only [List.set]
    refine ds_for (di_tup ?_)
    repeat walk_at "de"
    refine ⟨c, rfl, hcl, fun d hd => ?_⟩
    obtain rfl : d = .str [sw c] := hd
    repeat walk_at "de"
    refine ⟨[(p, c, q), rev2 (p, c, q)].map edD, rfl, fun j e => ∃ x4 x5 x6 x7, e = foE es (foldM (l, []) (mvl (es.take i) ++ [(p, c, q), rev2 (p, c, q)].take j)) ++ [.dat (.int (p : Int)), .dat (sign c), .dat (.int (q : Int)), x4, x5, x6, x7], ⟨x4, x5, x6, x7, by rw [List.take_zero, List.append_nil]; rfl⟩, fun j d e hd he => ?_, fun e he => ?_⟩
    · obtain ⟨x4, x5, x6, x7, rfl⟩ := he
      rw [List.getElem?_map] at hd
      obtain ⟨m, hmj, rfl⟩ := Option.map_eq_some_iff.mp hd
      have hmm : m ∈ mvl es := hm1 m (List.mem_append_right _ (List.mem_of_getElem? hmj))
      obtain ⟨g1, g2, g3⟩ := hE.mv hmm
      obtain ⟨f1, f2, f3⟩ := facts (mvl (es.take i) ++ [(p, c, q), rev2 (p, c, q)].take j) fun m' q' => by
        rcases List.mem_append.mp q' with z | z
        · exact hm1 m' (List.mem_append_left _ z)
        · exact hm1 m' (List.mem_append_right _ (List.mem_of_mem_take z))
      have f4 : (mvl (es.take i) ++ [(p, c, q), rev2 (p, c, q)].take j).length ≤ 20002 := by
        rw [List.length_append, List.length_take]
        simp only [List.length_cons, List.length_nil]
        omega
      have hstep : foldM (l, []) (mvl (es.take i) ++ [(p, c, q), rev2 (p, c, q)].take (j + 1)) = DL.stepF (foldM (l, []) (mvl (es.take i) ++ [(p, c, q), rev2 (p, c, q)].take j)) m := by
        rw [List.take_add_one, hmj, ← List.append_assoc, foldM_app _ (mvl (es.take i) ++ _)]
        rfl
      dsimp only
      rw [hstep]
      generalize foldM (l, []) (mvl (es.take i) ++ [(p, c, q), rev2 (p, c, q)].take j) = s1 at f1 f2 f3
      unfold foE
      obtain ⟨a, k, b⟩ := m
      refine dg_tup rfl (dgs_cons (dg_name (dgs_cons (dg_name (dgs_cons (dg_name (dgs_nil ?_)))))))
      try dsimp only [List.set]
      dsimp only at g1 g2 g3
      refine ds_seq (ds_set ?_)
      repeat walk_at "de"
      refine dop_ixl (rowI_at (by omega)) ?_
      repeat walk_at "de"
      try dsimp only [List.set]
      unfold DL.stepF
      dsimp only
      refine ds_if (dt_B (de_dinT (.inl rfl) (de_var rfl ⟨_, kk (s1.1.getD a 0) k, rfl, rfl, ?_⟩)))
      refine ⟨_, rfl, ?_⟩
      cases e : stO s1.2 (s1.1.getD a 0) k with
      | none =>
        rw [stO_none f2 e]
        refine iteF ?_
        refine ds_dputT rfl (by omega) (de_var rfl (de_var rfl ⟨_, kk (s1.1.getD a 0) k, .int (b : Int), rfl, rfl, rfl, ?_⟩))
        exact ⟨_, _, _, _, rfl⟩
      | some g =>
        obtain ⟨hg, hv⟩ := stO_lt f2 e
        rw [hv]
        refine iteT ?_
        refine ds_set (de_call ?_)
        repeat walk_at "de"
        refine de_dgetT (.inl rfl) (de_var rfl ⟨_, kk (s1.1.getD a 0) k, _, .int (g : Int), rfl, rfl, hv, rfl, ?_⟩)
        repeat walk_at "de"
        refine ⟨(s1.1, g, b), rfl, ⟨by show g < s1.1.length; omega, by show b < s1.1.length; omega, by show s1.1.length ≤ 100000; omega⟩, fun d hd => ?_⟩
        obtain rfl : d = .lst ((rowI (idf s1.1 g b)).map D.int) := hd
        exact ⟨_, _, _, _, rfl⟩
    · obtain ⟨x4, x5, x6, x7, rfl⟩ := he
      exact ⟨_, _, _, _, _, _, _, rfl⟩
  · obtain ⟨x1, x2, x3, x4, x5, x6, x7, rfl⟩ := he
    rw [List.length_map, List.take_length]
    repeat walk_at "dl"
    rfl
-- least_points
def fs_least_points : FS := ⟨List Ed × List Nat, fun a => [.lst (a.1.map edD), .lst ((rowI a.2).map D.int)], fun a => Ebd (a.1.length + 1) a.1 ∧ (∀ e ∈ a.2, e < a.1.length + 1) ∧ a.1.length ≤ 10000, fun a d => ∃ l, d = .lst ((rowI l).map D.int) ∧ Lsq a.1 a.2 (a.1.length + 1) l⟩
theorem ok_least_points (T : Txt mg) (d_least_points : Df K mg "least_points" s_least_points ["edges", "ends"]) (c_fold_once : C8.Cal P w K mg base 2 "fold_once" (PF fs_fold_once) []) (c_identify : C8.Cal P w K mg base 1 "identify" (PF fs_identify) []) : C8.Cal P w K mg base 3 "least_points" (PF fs_least_points) [] := by
  refine df_cal d_least_points sc_least_points (fun _ => rfl) fun f cdv A outer s H E hr => ⟨_, (pss_cons (ps_set (i := 2) sc_least_points.nd rfl (by first | exact Or.inl rfl | exact Or.inr rfl) (pe_listRg rfl (by rfl) T.n_list (prg_1 (by rfl) T.n_range (pe_op op_add (pe_callB cd_len (by rfl) T.n_len (by decide +kernel) (pa_cons (pv 0) pa_nil)) pe_int)))) (pss_cons (ps_for PassesOwn.never rfl (pi_list (pv 1)) (pg_name (i := 3) sc_least_points.nd rfl (by first | exact Or.inl rfl | exact Or.inr rfl)) (pss_one (ps_set (i := 2) sc_least_points.nd rfl (by first | exact Or.inl rfl | exact Or.inr rfl) (C8.pe_c c_identify hr (by first | decide | omega) (by rfl) (pa_cons (pv 2) (pa_cons pe_int (pa_cons (pv 3) pa_nil))))))) (pss_cons (ps_set (i := 4) sc_least_points.nd rfl (by first | exact Or.inl rfl | exact Or.inr rfl) (pe_lst pa_nil)) (pss_cons (ps_while PassesOwn.never (pt_cmpR (op_neD hr.units) (pv 4) (pv 2) (nomark _)) (pss_cons (ps_set (i := 4) sc_least_points.nd rfl (by first | exact Or.inl rfl | exact Or.inr rfl) (pv 2)) (pss_one (ps_set (i := 2) sc_least_points.nd rfl (by first | exact Or.inl rfl | exact Or.inr rfl) (C8.pe_c c_fold_once hr (by first | decide | omega) (by rfl) (pa_cons (pv 2) (pa_cons (pv 0) pa_nil))))))) (pss_one (ps_ret (pv 2))))))), fun a hp => ?_⟩
  obtain ⟨es, ends⟩ := a
  obtain ⟨hE, he, hz⟩ : Ebd (es.length + 1) es ∧ (∀ e ∈ ends, e < es.length + 1) ∧ es.length ≤ 10000 := hp
  show Ds _ [.dat (.lst (es.map edD)), .dat (.lst ((rowI ends).map D.int)), .any, .any, .any] _ (fun d => ∃ l, d = .lst ((rowI l).map D.int) ∧ Lsq es ends (es.length + 1) l) _ _
  generalize hn : es.length + 1 = n at hE he
  refine ds_seq (ds_setN (den_listRg ?_))
  repeat walk_at "de"
  have hml : (es.map edD).length = es.length := List.length_map ..
  refine ⟨by omega, by omega, ?_⟩
  rw [show (((es.map edD).length : Int) + 1).toNat = n by omega, rgI_row]
  try dsimp only [List.set]
  refine ds_rel 2 rfl ?_
  try dsimp only [List.set, toD]
  refine ds_seq (ds_for (di_list (de_var rfl ⟨(rowI ends).map D.int, rfl, fun i e => ∃ x y, e = [.dat (.lst (es.map edD)), .dat (.lst ((rowI ends).map D.int)), .dat (.lst ((rowI (endsF (List.range n) (ends.take i))).map D.int)), x, y], ⟨.any, .any, rfl⟩, fun i d e hd he' => ?_, fun e he' => ?_⟩)))
  · obtain ⟨x, y, rfl⟩ := he'
    obtain ⟨z, hx, rfl⟩ := rowI_get hd
    have hxn := he z (List.mem_of_getElem? hx)
    have hl : (endsF (List.range n) (ends.take i)).length = n := by rw [endsF_len, List.length_range]
    refine dg_name ?_
    repeat walk_at "dl"
    refine ⟨(endsF (List.range n) (ends.take i), 0, z), rfl, ⟨by show 0 < (endsF (List.range n) (ends.take i)).length; omega, by show z < (endsF (List.range n) (ends.take i)).length; omega, by show (endsF (List.range n) (ends.take i)).length ≤ 100000; omega⟩, fun d hd => ?_⟩
    obtain rfl : d = .lst ((rowI (idf (endsF (List.range n) (ends.take i)) 0 z)).map D.int) := hd
    rw [endsF_take hx]
    exact ⟨_, _, rfl⟩
  · obtain ⟨x, y, rfl⟩ := he'
    rw [rowI_len, List.take_length]
    have L0 := endsF_li (es := es) he (by omega : 0 < n)
    generalize endsF (List.range n) ends = l0 at L0
    refine ds_seq (ds_setN (den_lst (da_nil ⟨by simp, ?_⟩)))
    refine ds_rel 4 rfl ?_
    try dsimp only [List.set, toD]
    refine ds_seq (ds_while (fun m e => ∃ lb l x, e = [.dat (.lst (es.map edD)), .dat (.lst ((rowI ends).map D.int)), .dat (.lst ((rowI l).map D.int)), x, .dat (.lst ((rowI lb).map D.int))] ∧ Li es ends n l ∧ (lb = [] ∨ l = fo lb es) ∧ m = if lb = l then 0 else 1 + l.sum) (if [] = l0 then 0 else 1 + l0.sum) ⟨[], l0, x, rfl, L0, .inl rfl, rfl⟩ ?_)
    rintro m e ⟨lb, l, x, rfl, L, hlb, rfl⟩
    have hll := L.lp.len
    refine dt_test (de_op (de_var rfl (de_var rfl (dop_neG 1 (by omega) (plD_row lb) (plD_row l) ?_))))
    refine ⟨_, rfl, ?_⟩
    rw [eqv_row]
    by_cases hc : lb = l
    · rw [decide_eq_true hc]
      refine iteF ?_
      have hfix : fo l es = l := by
        rcases hlb with z | z
        · exfalso
          rw [← hc, z] at hll
          simp at hll
          omega
        · rw [hc] at z
          exact z.symm
      repeat walk_at "dl"
      exact ⟨l, rfl, L.done hE hfix⟩
    · rw [decide_eq_false hc, if_neg hc]
      refine iteT ?_
      repeat walk_at "dl"
      refine ⟨(n, l, es), rfl, ⟨hll, by show n ≤ 100000; omega, hE, hz⟩, fun d hd => ?_⟩
      obtain rfl : d = .lst ((rowI (fo l es)).map D.int) := hd
      refine ⟨_, ?_, l, fo l es, x, rfl, L.fo hE he (by omega), .inr rfl, rfl⟩
      by_cases h2 : l = fo l es
      · rw [if_pos h2]; omega
      · rw [if_neg h2]
        have := fo_lt hll hE fun z => h2 z.symm
        omega
-- numbered
def fs_numbered : FS := ⟨Int × List Ed × Nat × Nat, fun a => [.int a.1, .lst (a.2.1.map edD), .int (a.2.2.1 : Int)],
  fun a => (1 ≤ a.1 ∧ a.1 ≤ 3) ∧ (a.2.1.length < 63 ∧ ∀ e ∈ a.2.1, (e.1 < a.2.2.2 ∧ e.2.2 < a.2.2.2) ∧ e.2.1 ∈ LTR) ∧ (a.2.2.1 < a.2.2.2 ∧ a.2.2.2 ≤ 100000) ∧
    ∀ e ∈ a.2.1, e.1 ∈ (fw (mvs a.2.1) (LS a.1) a.2.2.1 a.2.2.2).1 ∧ e.2.2 ∈ (fw (mvs a.2.1) (LS a.1) a.2.2.1 a.2.2.2).1,
  fun a d => d = grD (numG a.2.1 (LS a.1) a.2.2.1 a.2.2.2)⟩
theorem ok_numbered (T : Txt mg) (d_numbered : Df K mg "numbered" s_numbered ["rank", "edges", "first"]) (c_first_ways : C8.Cal P w K mg base 1 "first_ways" (PF fs_first_ways) []) (c_letters_of : C8.Cal P w K mg base 1 "letters_of" (PF fs_letters_of) []) (c_moves_along : C8.Cal P w K mg base 2 "moves_along" (PF fs_moves_along) []) : C8.Cal P w K mg base 3 "numbered" (PF fs_numbered) [] := by
  refine df_cal d_numbered sc_numbered (fun _ => rfl) fun f cdv A outer s H E hr => ⟨_, (pss_cons (ps_set (i := 3) sc_numbered.nd rfl (by first | exact Or.inl rfl | exact Or.inr rfl) (C8.pe_c c_first_ways hr (by first | decide | omega) (by rfl) (pa_cons (C8.pe_c c_moves_along hr (by first | decide | omega) (by rfl) (pa_cons (pv 1) pa_nil)) (pa_cons (C8.pe_c c_letters_of hr (by first | decide | omega) (by rfl) (pa_cons (pv 0) pa_nil)) (pa_cons (pv 2) pa_nil))))) (pss_cons (ps_lock (ps_set (i := 4) sc_numbered.nd rfl (by first | exact Or.inl rfl | exact Or.inr rfl) (pe_dc (own := [("number", 5), ("place", 6)]) rfl sc_numbered.nd (pi_kn (by rfl) T.n_enumerate (pa_cons (pv 3) pa_nil)) (blkOk_by (N := n_numbered) (sc := defScope s_numbered) (own := [("number", 5), ("place", 6)]) (by decide +kernel)) (fun _ _ _ _ _ => (show PG _ _ (gTup K 2 (gCons (gName 5) (gCons (gName 6) gNil))) by exact (pg_tup rfl (pgs_cons (pg_name (i := 5) sc_numbered.nd rfl (by first | exact Or.inl rfl | exact Or.inr rfl)) (pgs_cons (pg_name (i := 6) sc_numbered.nd rfl (by first | exact Or.inl rfl | exact Or.inr rfl)) pgs_nil))))) (fun _ _ _ _ _ => pts_nil) (fun _ _ _ _ _ => (pv 6)) (fun _ _ _ _ _ => (pv 5))))) (pss_one (ps_ret (pe_tup (pa_cons (pe_callB cd_lenD (by rfl) T.n_len (by decide +kernel) (pa_cons (pv 3) pa_nil)) (pa_cons (pe_callTy cd_tupof (by rfl) T.n_tuple (by decide +kernel) (pa_cons (pe_callB (TK.cr_srtK (shape := fun i => i == 1) rfl) (by rfl) T.n_sorted (by decide +kernel) (pa_cons (TK.pe_ac (own := [("start", 7), ("letter", 8), ("end", 9)]) (TK.accK hr.units) rfl sc_numbered.nd (pi_list (pv 1)) (blkOk_by (N := n_numbered) (sc := defScope s_numbered) (own := [("start", 7), ("letter", 8), ("end", 9)]) (by decide +kernel)) (fun _ _ _ _ _ => (show PG _ _ (gTup K 3 (gCons (gName 7) (gCons (gName 8) (gCons (gName 9) gNil)))) by exact (pg_tup rfl (pgs_cons (pg_name (i := 7) sc_numbered.nd rfl (by first | exact Or.inl rfl | exact Or.inr rfl)) (pgs_cons (pg_name (i := 8) sc_numbered.nd rfl (by first | exact Or.inl rfl | exact Or.inr rfl)) (pgs_cons (pg_name (i := 9) sc_numbered.nd rfl (by first | exact Or.inl rfl | exact Or.inr rfl)) pgs_nil)))))) (fun _ _ _ _ _ => pts_nil) (fun _ _ _ _ _ => (pe_tup (pa_cons (pe_dget (hu_of hr) (pv 4) (pv 7) (fun _ _ => rfl)) (pa_cons (pv 8) (pa_cons (pe_dget (hu_of hr) (pv 4) (pv 9) (fun _ _ => rfl)) pa_nil)))))) pa_nil)) pa_nil)) pa_nil))))))), fun a hp => ?_⟩
  obtain ⟨r, es, p0, N⟩ := a
  obtain ⟨⟨hr1, hr3⟩, ⟨hz, hb⟩, ⟨h0, hN⟩, hall⟩ := hp
  dsimp only at hr1 hr3 hz hb h0 hN hall
  have M : Mv (mvs es) N := mvs_mv fun e he => (hb e he).1
  have W := (WI.range (ls := LS r) M h0 N).1
  have hlen := W.len_le
  show Ds _ [.dat (.int r), .dat (.lst (es.map edD)), .dat (.int (p0 : Int)), .any, .any, .any, .any, .any, .any, .any] _ (fun d => d = grD (numG es (LS r) p0 N)) _ _
  repeat walk_at "dl"
  refine ⟨(.lst (es.map edD), es), rfl, ⟨rfl, by show es.length ≤ 1000; omega, fun e he => (hb e he).2⟩, fun d hd => ?_⟩
  obtain rfl : d = .dT (mvs es) := hd
  repeat walk_at "de"
  refine ⟨r, rfl, ⟨hr1, hr3⟩, fun d hd => ?_⟩
  obtain rfl : d = .str (LS r) := hd
  repeat walk_at "de"
  have hls := LS_len hr1 hr3
  refine ⟨(mvs es, LS r, p0, N), rfl, ⟨M, h0, hN, by show (LS r).length ≤ 6; omega⟩, fun d hd => ?_⟩
  obtain rfl : d = .dK (wd (fw (mvs es) (LS r) p0 N)) := hd
  unfold numG
  generalize fw (mvs es) (LS r) p0 N = s1 at W hlen hall
  try dsimp only [List.set]
  refine ds_seq (ds_numK (ps := s1.1) (k := 3) rfl (by decide) (by simp) (by simp) (wd_fst W.len) W.nd (by omega) ?_)
  try dsimp only [List.set]
  refine ds_ret (de_tup (da_cons (de_cb (da_cons (de_var rfl (da_nil (dcl_lenD ?_)))))))
  rw [wd_len W.len]
  refine da_cons (de_cb (da_cons (de_srtAc (only_three (by simp) (by simp) (by simp)) (di_list (de_var rfl ⟨es.map edD, rfl, by rw [List.length_map]; exact hz, fun i kss => kss = (dd ((es.take i).map (nmE s1.1))).map edK, rfl, fun i d kss hd hk ha => ?_, fun kss ha kss2 pm pw => ?_⟩)))))
  · rw [List.getElem?_map] at hd
    obtain ⟨e, he, rfl⟩ := Option.map_eq_some_iff.mp hd
    obtain ⟨m1, m2⟩ := hall e (List.mem_of_getElem? he)
    dsimp only [List.map_cons, List.map_nil, wipeE, List.set]
    rw [dd_take (nmE s1.1) he, ← ddS_insK, ← ha]
    obtain ⟨p, c, q⟩ := e
    refine dg_tup rfl (dgs_cons (dg_name (dgs_cons (dg_name (dgs_cons (dg_name (dgs_nil ?_)))))))
    try dsimp only [List.set, wipeE]
    refine dt_yes (iteT (de_tup (da_cons (de_dgetK (.inl rfl) (de_var rfl ⟨.inl (p : Int), _, .int (s1.1.idxOf p : Nat), rfl, nbD_at W.nd m1, rfl, ?_⟩)))))
    refine da_cons (de_var rfl (da_cons (de_dgetK (.inl rfl) (de_var rfl ⟨.inl (q : Int), _, .int (s1.1.idxOf q : Nat), rfl, nbD_at W.nd m2, rfl, da_nil ⟨by simp, _, edK (nmE s1.1 (p, c, q)), rfl, rfl, fitE _, rfl⟩⟩))))
  · rw [List.length_map, List.take_length] at ha
    subst ha
    rw [srtE_only pm pw, List.map_map]
    refine da_nil (dcl_tupof (fun _ z => nomatch z) rfl (da_nil ⟨by simp, ?_⟩))
    show D.tup _ = grD _
    unfold grD
    rfl
-- folded_graph
def fs_folded_graph : FS := ⟨Int × List (List Nat), fun a => [famD a.1 a.2], fun a => okF a.1 a.2, fun a d => ∃ l, Lsq (ptl a.2).1 (ptl a.2).2.1 (ptl a.2).2.2 l ∧ d = grD (famG a.2 l (LS a.1))⟩
theorem ok_folded_graph (T : Txt mg) (d_folded_graph : Df K mg "folded_graph" s_folded_graph ["family"]) (c_least_points : C8.Cal P w K mg base 3 "least_points" (PF fs_least_points) []) (c_numbered : C8.Cal P w K mg base 3 "numbered" (PF fs_numbered) []) (c_petals_of : C8.Cal P w K mg base 3 "petals_of" (PF fs_petals_of) []) : C8.Cal P w K mg base 4 "folded_graph" (PF fs_folded_graph) [] := by
  refine df_cal d_folded_graph sc_folded_graph (fun _ => rfl) fun f cdv A outer s H E hr => ⟨_, (pss_cons (ps_asg (pv 0) (pg_tup rfl (pgs_cons (pg_name (i := 1) sc_folded_graph.nd rfl (by first | exact Or.inl rfl | exact Or.inr rfl)) (pgs_cons (pg_name (i := 2) sc_folded_graph.nd rfl (by first | exact Or.inl rfl | exact Or.inr rfl)) pgs_nil)))) (pss_cons (ps_asg (C8.pe_c c_petals_of hr (by first | decide | omega) (by rfl) (pa_cons (pv 2) pa_nil)) (pg_tup rfl (pgs_cons (pg_name (i := 3) sc_folded_graph.nd rfl (by first | exact Or.inl rfl | exact Or.inr rfl)) (pgs_cons (pg_name (i := 4) sc_folded_graph.nd rfl (by first | exact Or.inl rfl | exact Or.inr rfl)) pgs_nil)))) (pss_cons (ps_set (i := 5) sc_folded_graph.nd rfl (by first | exact Or.inl rfl | exact Or.inr rfl) (C8.pe_c c_least_points hr (by first | decide | omega) (by rfl) (pa_cons (pv 3) (pa_cons (pv 4) pa_nil)))) (pss_one (ps_ret (C8.pe_c c_numbered hr (by first | decide | omega) (by rfl) (pa_cons (pv 1) (pa_cons (pe_lc (own := [("start", 6), ("letter", 7), ("end", 8)]) rfl sc_folded_graph.nd (pi_list (pv 3)) (blkOk_by (N := n_folded_graph) (sc := defScope s_folded_graph) (own := [("start", 6), ("letter", 7), ("end", 8)]) (by decide +kernel)) (fun _ _ _ _ _ => (show PG _ _ (gTup K 3 (gCons (gName 6) (gCons (gName 7) (gCons (gName 8) gNil)))) by exact (pg_tup rfl (pgs_cons (pg_name (i := 6) sc_folded_graph.nd rfl (by first | exact Or.inl rfl | exact Or.inr rfl)) (pgs_cons (pg_name (i := 7) sc_folded_graph.nd rfl (by first | exact Or.inl rfl | exact Or.inr rfl)) (pgs_cons (pg_name (i := 8) sc_folded_graph.nd rfl (by first | exact Or.inl rfl | exact Or.inr rfl)) pgs_nil)))))) (fun _ _ _ _ _ => pts_nil) (fun _ _ _ _ _ => (pe_tup (pa_cons (pe_ix (show IxR _ (rIxL K) by exact ix_list) (pv 5) (pv 6) (fun _ _ => rfl)) (pa_cons (pv 7) (pa_cons (pe_ix (show IxR _ (rIxL K) by exact ix_list) (pv 5) (pv 8) (fun _ _ => rfl)) pa_nil)))))) (pa_cons pe_int pa_nil))))))))), fun a hp => ?_⟩
  obtain ⟨r, ws⟩ := a
  have hF : okF r ws := hp
  have hw := okF_lts hF
  obtain ⟨h1, h3, h4, hok⟩ := id hF
  have P := ptl_ok fun w h => (hw w h).1
  obtain ⟨z1, z2⟩ := ptl_lens fun w h => (hw w h).2
  have hP := P.len
  have hin := ptl_in (ls := LS r) (LS_swap h1 h3) (fun c => LS_LTR) fun w h => (hok w h).2
  show Ds _ [.dat (.tup [.int r, .tup (ws.map D.str)]), .any, .any, .any, .any, .any, .any, .any, .any] _ (fun d => ∃ l, Lsq (ptl ws).1 (ptl ws).2.1 (ptl ws).2.2 l ∧ d = grD (famG ws l (LS r))) _ _
  refine ds_seq (ds_asg (de_var rfl (dg_tup rfl (dgs_cons (dg_name (dgs_cons (dg_name (dgs_nil ?_))))))))
  try dsimp only [List.set]
  refine ds_seq (ds_asg (de_call (da_cons (de_var rfl (da_nil ⟨ws, rfl, ⟨by omega, fun w h => ⟨(hw w h).1, by have := (hw w h).2; omega⟩⟩, fun d hd => ?_⟩)))))
  obtain rfl : d = .tup [.lst ((ptl ws).1.map edD), .lst ((rowI (ptl ws).2.1).map D.int)] := hd
  refine dg_tup rfl (dgs_cons (dg_name (dgs_cons (dg_name (dgs_nil ?_)))))
  try dsimp only [List.set]
  repeat walk_at "dl"
  refine ⟨((ptl ws).1, (ptl ws).2.1), rfl, ⟨by rw [← hP]; exact P.eb, by show ∀ e ∈ (ptl ws).2.1, e < (ptl ws).1.length + 1; rw [← hP]; exact P.ends, by show (ptl ws).1.length ≤ 10000; omega⟩, fun d hd => ?_⟩
  obtain ⟨l, rfl, hl⟩ := hd
  have hl : Lsq (ptl ws).1 (ptl ws).2.1 (ptl ws).2.2 l := by rw [hP]; exact hl
  have hll := hl.lp.len
  have G := GrOk.of (fun w h => (hw w h).1) hl hin
  try dsimp only [List.set]
  refine ds_ret (de_call (da_cons (de_var rfl (da_cons (de_ofN (den_lcG (only_three (by simp) (by simp) (by simp)) (di_list (de_var rfl ⟨(ptl ws).1.map edD, rfl, by rw [List.length_map]; omega, fun i acc => acc = (fE l ((ptl ws).1.take i)).map edD, rfl, fun i d acc hd _ ha => ?_, fun acc ha => ?_⟩))))))))
  · rw [List.getElem?_map] at hd
    obtain ⟨e, he, rfl⟩ := Option.map_eq_some_iff.mp hd
    obtain ⟨b1, b2, b3⟩ := P.eb e (List.mem_of_getElem? he)
    dsimp only [List.map_cons, List.map_nil, wipeE, List.set]
    rw [← fE_at he, ← ha]
    obtain ⟨p, c, q⟩ := e
    dsimp only at b1 b2
    refine dg_tup rfl (dgs_cons (dg_name (dgs_cons (dg_name (dgs_cons (dg_name (dgs_nil ?_)))))))
    try dsimp only [List.set]
    refine dt_yes (iteT (de_tup (da_cons (de_op (de_var rfl (de_var rfl (dop_ixl (rowI_at (by omega)) ?_)))))))
    refine da_cons (de_var rfl (da_cons (de_op (de_var rfl (de_var rfl (dop_ixl (rowI_at (by omega)) (da_nil ⟨by simp, rfl⟩)))))))
  · rw [List.length_map, List.take_length] at ha
    subst ha
    refine da_cons (de_int (da_nil ⟨(r, fE l (ptl ws).1, 0, (ptl ws).2.2), rfl, ⟨⟨h1, h3⟩, ⟨by show (fE l (ptl ws).1).length < 63; rw [fE_len]; omega, fun e he => ⟨G.bd e he, SM_LTR (G.fld.sm e he)⟩⟩, ⟨by show 0 < (ptl ws).2.2; omega, by show (ptl ws).2.2 ≤ 100000; omega⟩, G.all⟩, fun d hd => ⟨l, hl, hd⟩⟩))
-- graph_of
def fs_graph_of : FS := ⟨Int × List (List Nat), fun a => [famD a.1 a.2], fun a => okF a.1 a.2, fun a d => ∃ l, Lsq (ptl a.2).1 (ptl a.2).2.1 (ptl a.2).2.2 l ∧ d = grD (famG a.2 l (LS a.1))⟩
theorem ok_graph_of (T : Txt mg) (d_graph_of : Df K mg "graph_of" s_graph_of ["family"]) (c_check_family : C8.Cal P w K mg base 4 "check_family" (PF fs_check_family) []) (c_folded_graph : C8.Cal P w K mg base 4 "folded_graph" (PF fs_folded_graph) []) : C8.Cal P w K mg base 5 "graph_of" (PF fs_graph_of) [] := by
  refine df_cal d_graph_of sc_graph_of (fun _ => rfl) fun f cdv A outer s H E hr => ⟨_, (pss_cons (ps_expr (C8.pe_c c_check_family hr (by first | decide | omega) (by rfl) (pa_cons (pv 0) pa_nil))) (pss_one (ps_ret (C8.pe_c c_folded_graph hr (by first | decide | omega) (by rfl) (pa_cons (pv 0) pa_nil))))), fun a hp => ?_⟩
  obtain ⟨r, ws⟩ := a
  have hF : okF r ws := hp
  show Ds _ [.dat (famD r ws)] _ (fun d => ∃ l, Lsq (ptl ws).1 (ptl ws).2.1 (ptl ws).2.2 l ∧ d = grD (famG ws l (LS r))) _ _
  repeat walk_at "dl"
  refine ⟨(r, ws), rfl, hF, fun d hd => ?_⟩
  obtain rfl : d = .non := hd
  repeat walk_at "dl"
  exact ⟨(r, ws), rfl, hF, fun d hd => hd⟩
-- _law_is_integer
def fs_law_is_integer : FS := ⟨D, fun v => [v], fun v => okD v = true, fun v d => d = .bl (match v with | .int _ => true | _ => false)⟩
theorem ok_law_is_integer (T : Txt mg) (d_law_is_integer : Df K mg "_law_is_integer" s_law_is_integer ["actual"]) : C8.Cal P w K mg base 1 "_law_is_integer" (PF fs_law_is_integer) [] := by
  refine df_cal d_law_is_integer sc_law_is_integer (fun _ => rfl) fun f cdv A outer s H E hr => ⟨_, (pss_one (ps_ret (pe_and (pe_callB cd_isi (by rfl) T.n_isinstance (by decide +kernel) (pa_cons (pv 0) (pa_cons (pe_bltn (v := .ty "int") (by rfl) T.n_int (by decide +kernel) rfl) pa_nil))) (pe_one (pe_not (pe_callB cd_isi (by rfl) T.n_isinstance (by decide +kernel) (pa_cons (pv 0) (pa_cons (pe_bltn (v := .ty "bool") (by rfl) T.n_bool (by decide +kernel) rfl) pa_nil)))))))), fun (v : D) hp => ?_⟩
  have hv : okD v = true := hp
  cases v with
  | stm => cases hv
  | ty n => cases hv
  | cls n => cases hv
  | exc a b c e => cases hv
  | _ => (show Ds _ [.dat _] _ _ _ _; (repeat walk_at "dl"); rfl)
-- _law_equal, of equal data alone
def dep : Nat → D → Prop
  | 0, _ => False
  | _ + 1, .stm => False
  | _ + 1, .obn => False
  | _ + 1, .exc .. => False
  | _ + 1, .cls _ => False
  | _ + 1, .ty _ => False
  | _ + 1, .dK _ => False
  | _ + 1, .dT _ => False
  | _ + 1, .dKx .. => False
  | _ + 1, .dTx .. => False
  | _ + 1, .str l => l.length ≤ 100000
  | n + 1, .tup ds => ds.length ≤ 100000 ∧ ∀ d ∈ ds, dep n d
  | n + 1, .ptp ds => ds.length ≤ 100000 ∧ ∀ d ∈ ds, dep n d
  | n + 1, .lst ds => ds.length ≤ 100000 ∧ ∀ d ∈ ds, dep n d
  | _ + 1, _ => True
def fsE (n : Nat) : FS := ⟨D, fun v => [v, v], fun v => dep n v, fun _ d => d = .bl true⟩
abbrev fs_law_equal : FS := fsE 4
theorem all_true (n : Nat) : (List.replicate n true).all id = true := by
  rw [List.all_eq_true]
  intro x hx
  rw [(List.mem_replicate.mp hx).2]
  rfl
theorem ok_law_equal (T : Txt mg) (d_law_equal : Df K mg "_law_equal" s_law_equal ["actual", "due"]) (c_law_is_integer : C8.Cal P w K mg base 1 "_law_is_integer" (PF fs_law_is_integer) []) : C8.Cal P w K mg base 6 "_law_equal" (PF fs_law_equal) [] := by
  have zero : C8.Cal P w K mg base 1 "_law_equal" (PF (fsE 0)) [] := df_raw d_law_equal sc_law_equal (fun vs H Q E h => by obtain ⟨a, _, _, _, _, _, _, h, _⟩ := h; exact h.elim) fun f cdv A outer s H E hr => ⟨_, pss_never, fun vs Q h => by obtain ⟨a, _, _, _, _, _, _, h, _⟩ := h; exact h.elim⟩
  have step : ∀ n, n ≤ 10 → C8.Cal P w K mg base (n + 2) "_law_equal" (PF (fsE n)) [] → C8.Cal P w K mg base (n + 3) "_law_equal" (PF (fsE (n + 1))) [] := fun n hn c_law_equal => by
    refine df_cal d_law_equal sc_law_equal (fun _ => rfl) fun f cdv A outer s H E hr => ⟨_, (pss_cons (ps_if (pt_cmpR od_isN (pv 1) pe_non (nomark _)) (pss_one (ps_ret (pe_cmpR od_isN (pv 0) pe_non (nomark _)))) pss_nil) (pss_cons (ps_if (pt_val (pe_callB cd_isi (by rfl) T.n_isinstance (by decide +kernel) (pa_cons (pv 1) (pa_cons (pe_bltn (v := .ty "bool") (by rfl) T.n_bool (by decide +kernel) rfl) pa_nil)))) (pss_one (ps_ret (pe_and (pe_callB cd_isi (by rfl) T.n_isinstance (by decide +kernel) (pa_cons (pv 0) (pa_cons (pe_bltn (v := .ty "bool") (by rfl) T.n_bool (by decide +kernel) rfl) pa_nil))) (pe_one (pe_cmpR op_eq (pv 0) (pv 1) (nomark _)))))) pss_nil) (pss_cons (ps_if (pt_val (pe_callB cd_isi (by rfl) T.n_isinstance (by decide +kernel) (pa_cons (pv 1) (pa_cons (pe_bltn (v := .ty "int") (by rfl) T.n_int (by decide +kernel) rfl) pa_nil)))) (pss_one (ps_ret (pe_and (C8.pe_c c_law_is_integer hr (by first | decide | omega) (by rfl) (pa_cons (pv 0) pa_nil)) (pe_one (pe_cmpR op_eq (pv 0) (pv 1) (nomark _)))))) pss_nil) (pss_cons (ps_if (pt_val (pe_callB cd_isi (by rfl) T.n_isinstance (by decide +kernel) (pa_cons (pv 1) (pa_cons (pe_bltn (v := .ty "str") (by rfl) T.n_str (by decide +kernel) rfl) pa_nil)))) (pss_one (ps_ret (pe_and (pe_callB cd_isi (by rfl) T.n_isinstance (by decide +kernel) (pa_cons (pv 0) (pa_cons (pe_bltn (v := .ty "str") (by rfl) T.n_str (by decide +kernel) rfl) pa_nil))) (pe_one (pe_cmpR op_eq (pv 0) (pv 1) (nomark _)))))) pss_nil) (pss_cons (ps_if (PW.pt (pw_and (pt_val (pe_callB cd_isi (by rfl) T.n_isinstance (by decide +kernel) (pa_cons (pv 1) (pa_cons (pe_bltn (v := .ty "tuple") (by rfl) T.n_tuple (by decide +kernel) rfl) pa_nil)))) (pw_and1 (pt_not (pt_val (pe_callB cd_isi (by rfl) T.n_isinstance (by decide +kernel) (pa_cons (pv 0) (pa_cons (pe_bltn (v := .ty "tuple") (by rfl) T.n_tuple (by decide +kernel) rfl) pa_nil)))))))) (pss_one (ps_ret pe_bl)) pss_nil) (pss_cons (ps_if (PW.pt (pw_and (pt_val (pe_callB cd_isi (by rfl) T.n_isinstance (by decide +kernel) (pa_cons (pv 1) (pa_cons (pe_bltn (v := .ty "list") (by rfl) T.n_list (by decide +kernel) rfl) pa_nil)))) (pw_and1 (pt_not (pt_val (pe_callB cd_isi (by rfl) T.n_isinstance (by decide +kernel) (pa_cons (pv 0) (pa_cons (pe_bltn (v := .ty "list") (by rfl) T.n_list (by decide +kernel) rfl) pa_nil)))))))) (pss_one (ps_ret pe_bl)) pss_nil) (pss_cons (ps_if (pt_cmpR op_ne (pe_callB cd_len (by rfl) T.n_len (by decide +kernel) (pa_cons (pv 0) pa_nil)) (pe_callB cd_len (by rfl) T.n_len (by decide +kernel) (pa_cons (pv 1) pa_nil)) (nomark _)) (pss_one (ps_ret pe_bl)) pss_nil) (pss_one (ps_ret (pe_callB (cd_all rfl) (by rfl) T.n_all (by decide +kernel) (pa_cons (pe_lc (own := [("at", 2)]) rfl sc_law_equal.nd (pi_range1 (by rfl) T.n_range (pa_cons (pe_callB cd_len (by rfl) T.n_len (by decide +kernel) (pa_cons (pv 1) pa_nil)) pa_nil)) (blkOk_by (N := n_law_equal) (sc := defScope s_law_equal) (own := [("at", 2)]) (by decide +kernel)) (fun _ _ _ _ _ => (pg_name (i := 2) sc_law_equal.nd rfl (by first | exact Or.inl rfl | exact Or.inr rfl))) (fun _ _ _ _ _ => pts_nil) (fun _ _ _ _ _ => (C8.pe_c c_law_equal hr (by first | decide | omega) (by rfl) (pa_cons (pe_ix (show IxR _ (rIx K) by exact ix_seq) (pv 0) (pv 2) (fun _ _ => rfl)) (pa_cons (pe_ix (show IxR _ (rIx K) by exact ix_seq) (pv 1) (pv 2) (fun _ _ => rfl)) pa_nil))))) pa_nil))))))))))), fun (v : D) hp => ?_⟩
    have hv : dep (n + 1) v := hp
    show Ds _ [.dat v, .dat v, .any] _ (fun d => d = .bl true) _ _
    have seqs : ∀ (ds : List D), ds.length ≤ 100000 → (∀ d ∈ ds, dep n d) → seqD v = some ds →
        De (tLc (iRng1 (tCons (tCB (DL.rLen K) (tCons (tVar 1) tNil)) tNil)) (gName 2) tYes (tCall (PF (fsE n)) [] C8.E0 (tCons (tOp (rIx K) (tVar 0) (tVar 2)) (tCons (tOp (rIx K) (tVar 1) (tVar 2)) tNil))) [2]) [.dat v, .dat v, .any] (fun x => Da tNil [.dat v, .dat v, .any] fun xs => Dcl (rAll K) (x :: xs) fun d => d = .bl true) := fun ds hz hd hv2 => by
      have hlen : lenD v = some ds.length := by cases v <;> first | (cases hv2; rfl) | (cases hv2; done)
      refine de_ofN (den_lc (di_range1 ?_))
      repeat walk_at "de"
      refine dcl_len hlen (by omega) ?_
      repeat walk_at "de"
      refine ⟨_, rfl, by omega, by omega, by rw [rgI_len]; omega, fun i acc => acc = (List.replicate i true).map D.bl, rfl, fun i d acc hd' _ ha => ?_, fun acc ha => ?_⟩
      · have hi : i < ds.length := by
          have := (List.getElem?_eq_some_iff.mp hd').1
          rw [rgI_len] at this
          omega
        rw [rgI_get _ _ _ (by omega)] at hd'
        cases hd'
        repeat walk_at "de"
        have e : atI ds (0 + (i : Int)) = some ds[i] := atI_at (by omega) (by rw [show (0 + (i : Int)).toNat = i by omega]; exact List.getElem?_eq_getElem hi)
        refine dop_ixg hv2 e ?_
        repeat walk_at "de"
        refine dop_ixg hv2 e ?_
        repeat walk_at "de"
        refine ⟨ds[i], rfl, hd _ (List.getElem_mem hi), fun d hd => ?_⟩
        cases hd
        rw [ha, List.replicate_succ', List.map_append]
        rfl
      · rw [rgI_len] at ha
        subst ha
        repeat walk_at "de"
        refine dcl_all ?_
        rw [all_true]
    cases v with
    | stm => cases hv
    | ty m => cases hv
    | cls m => cases hv
    | obn => cases hv
    | exc a b c e => cases hv
    | dK m => cases hv
    | ptp ds =>
      obtain ⟨hz, hd⟩ : ds.length ≤ 100000 ∧ ∀ d ∈ ds, dep n d := hv
      repeat walk_at "dl"
      rw [decide_eq_true rfl]
      repeat walk_at "dl"
      exact seqs ds hz hd rfl
    | dT m => cases hv
    | dKx a b => cases hv
    | dTx a b => cases hv
    | non => (repeat walk_at "dl"); rfl
    | bl b =>
      repeat walk_at "dl"
      rw [decide_eq_true rfl]
    | int b =>
      repeat walk_at "dl"
      refine ⟨.int b, rfl, rfl, fun d hd => ?_⟩
      cases hd
      repeat walk_at "dl"
      rw [decide_eq_true rfl]
    | str l =>
      repeat walk_at "dl"
      rw [decide_eq_true rfl]
    | tup ds =>
      obtain ⟨hz, hd⟩ : ds.length ≤ 100000 ∧ ∀ d ∈ ds, dep n d := hv
      repeat walk_at "dl"
      rw [decide_eq_true rfl]
      repeat walk_at "dl"
      exact seqs ds hz hd rfl
    | lst ds =>
      obtain ⟨hz, hd⟩ : ds.length ≤ 100000 ∧ ∀ d ∈ ds, dep n d := hv
      repeat walk_at "dl"
      rw [decide_eq_true rfl]
      repeat walk_at "dl"
      exact seqs ds hz hd rfl
  have zero2 : C8.Cal P w K mg base 2 "_law_equal" (PF (fsE 0)) [] := cal_mono zero (by decide)
  exact step 3 (by decide) (step 2 (by decide) (step 1 (by decide) (step 0 (by decide) zero2)))
-- _law_due, of a graph
theorem sm_in {r : Int} {c : Nat} : decide ([c] ∈ (([[97], [98], [99]] : List (List Nat)).take r.toNat)) = decide (c ∈ smL r) := by
  have e : (([[97], [98], [99]] : List (List Nat)).take r.toNat) = (smL r).map fun c => [c] := by
    unfold smL
    rw [List.map_take]
    rfl
  rw [e]
  exact decide_eq_decide.mpr (by simp)
theorem sm_ls {r : Int} (h1 : 1 ≤ r) (h3 : r ≤ 3) {c : Nat} (h : c ∈ smL r) : c ∈ LS r ∧ sw c ∈ LS r := by
  have key : ∀ c ∈ smL 1, c ∈ LS 1 ∧ sw c ∈ LS 1 := by decide
  have key2 : ∀ c ∈ smL 2, c ∈ LS 2 ∧ sw c ∈ LS 2 := by decide
  have key3 : ∀ c ∈ smL 3, c ∈ LS 3 ∧ sw c ∈ LS 3 := by decide
  rcases rng3 h1 h3 with rfl | rfl | rfl
  · exact key c h
  · exact key2 c h
  · exact key3 c h
theorem fw_all6 {r : Int} (h1 : 1 ≤ r) (h3 : r ≤ 3) {es : List Ed} (hs : ∀ e ∈ es, e.2.1 ∈ smL r) (m : Nat) : fw (mvs es) LTR 0 m = fw (mvs es) (LS r) 0 m := by
  obtain ⟨c1, c2⟩ := LS_parts h1 h3
  conv => lhs; rw [c1]
  refine fw_more (fun c hc p => ?_) m
  cases e : stO (mvs es) p c with
  | none => rfl
  | some q =>
    exfalso
    rcases stO_mem (fun e he => List.mem_of_mem_take (hs e he)) e with ⟨_, z⟩ | ⟨_, _, z⟩
    · exact c2 c hc (sm_ls h1 h3 (hs _ z)).1
    · have := (sm_ls h1 h3 (hs _ z)).2
      dsimp only at this
      have hcl : c ∈ LTR := List.mem_of_mem_drop hc
      rw [sw_sw hcl] at this
      exact c2 c hc this
theorem eqv_eds : ∀ a b : List Ed, PyData.eqv (pyD (.lst (a.map edD))) (pyD (.lst (b.map edD))) = decide (a = b) := by
  have key : ∀ a b : List Ed, PyData.eqvAll (pyDs (a.map edD)) (pyDs (b.map edD)) = decide (a = b) := by
    intro a
    induction a with
    | nil => intro b; cases b with
      | nil => rfl
      | cons y b => rfl
    | cons x a ih => intro b; cases b with
      | nil => rfl
      | cons y b =>
        show PyData.eqvAll (pyD (edD x) :: pyDs (a.map edD)) (pyD (edD y) :: pyDs (b.map edD)) = _
        rw [PyData.eqvAll, ih b, eqv_ed]
        by_cases h : x = y <;> by_cases k : a = b <;> simp [h, k]
  exact key
theorem pl_eds {es : List Ed} (h : ∀ e ∈ es, e.2.1 ∈ LTR) : plD 2 (.lst (es.map edD)) = true := by
  rw [plD, plDs_all, Bool.and_eq_true, List.all_eq_true]
  refine ⟨decide_eq_true (Nat.succ_pos _), fun d hd => ?_⟩
  obtain ⟨e, he, rfl⟩ := List.mem_map.mp hd
  exact plD_ed (h e he)
def fs_law_due : FS := ⟨Int × D, fun a => [.int a.1, a.2], fun a => 1 ≤ a.1 ∧ a.1 ≤ 3 ∧ GrV a.2, fun a d => ∃ b, d = .bl b ∧ (b = true ↔ ∃ m es, IsGr a.1 a.2 m es ∧ NtP a.1 m es)⟩
theorem ok_law_due (T : Txt mg) (d_law_due : Df K mg "_law_due" s_law_due ["rank", "value"]) (c_law_is_integer : C8.Cal P w K mg base 1 "_law_is_integer" (PF fs_law_is_integer) []) : C8.Cal P w K mg base 2 "_law_due" (PF fs_law_due) [] := by
  refine df_cal d_law_due sc_law_due (fun _ => rfl) fun f cdv A outer s H E hr => ⟨_, (pss_cons (ps_if (PW.pt (pw_or (pt_not (pt_val (pe_callB cd_isi (by rfl) T.n_isinstance (by decide +kernel) (pa_cons (pv 1) (pa_cons (pe_bltn (v := .ty "tuple") (by rfl) T.n_tuple (by decide +kernel) rfl) pa_nil))))) (pw_or (pt_cmpR op_ne (pe_callB cd_len (by rfl) T.n_len (by decide +kernel) (pa_cons (pv 1) pa_nil)) pe_int (nomark _)) (pw_or (pt_not (pt_val (C8.pe_c c_law_is_integer hr (by first | decide | omega) (by rfl) (pa_cons (pe_ix ix_tup (pv 1) pe_int (fun _ _ => rfl)) pa_nil)))) (pw_or1 (pt_not (pt_val (pe_callB cd_isi (by rfl) T.n_isinstance (by decide +kernel) (pa_cons (pe_ix ix_tup (pv 1) pe_int (fun _ _ => rfl)) (pa_cons (pe_bltn (v := .ty "tuple") (by rfl) T.n_tuple (by decide +kernel) rfl) pa_nil)))))))))) (pss_one (ps_ret pe_bl)) pss_nil) (pss_cons (ps_asg (pv 1) (pg_tup rfl (pgs_cons (pg_name (i := 2) sc_law_due.nd rfl (by first | exact Or.inl rfl | exact Or.inr rfl)) (pgs_cons (pg_name (i := 3) sc_law_due.nd rfl (by first | exact Or.inl rfl | exact Or.inr rfl)) pgs_nil)))) (pss_cons (ps_for PassesOwn.never rfl (pi_tup (pv 3)) (pg_name (i := 4) sc_law_due.nd rfl (by first | exact Or.inl rfl | exact Or.inr rfl)) (pss_cons (ps_if (PW.pt (pw_or (pt_not (pt_val (pe_callB cd_isi (by rfl) T.n_isinstance (by decide +kernel) (pa_cons (pv 4) (pa_cons (pe_bltn (v := .ty "tuple") (by rfl) T.n_tuple (by decide +kernel) rfl) pa_nil))))) (pw_or (pt_cmpR op_ne (pe_callB cd_len (by rfl) T.n_len (by decide +kernel) (pa_cons (pv 4) pa_nil)) pe_int (nomark _)) (pw_or1 (pt_cmpR op_notIn_seq (pe_ix ix_tup (pv 4) pe_int (fun _ _ => rfl)) (pe_slice sl_list (pe_lst (pa_cons pe_str (pa_cons pe_str (pa_cons pe_str pa_nil)))) po_none (po_some (pv 0))) rfl))))) (pss_one (ps_ret pe_bl)) pss_nil) (pss_one (ps_if (PW.pt (pw_or (pt_not (pt_val (C8.pe_c c_law_is_integer hr (by first | decide | omega) (by rfl) (pa_cons (pe_ix ix_tup (pv 4) pe_int (fun _ _ => rfl)) pa_nil)))) (pw_or (pt_not (pt_val (C8.pe_c c_law_is_integer hr (by first | decide | omega) (by rfl) (pa_cons (pe_ix ix_tup (pv 4) pe_int (fun _ _ => rfl)) pa_nil)))) (pw_or (pt_not (pt_chain op_le op_lt pe_int (pe_ix ix_tup (pv 4) pe_int (fun _ _ => rfl)) (pv 2))) (pw_or1 (pt_not (pt_chain op_le op_lt pe_int (pe_ix ix_tup (pv 4) pe_int (fun _ _ => rfl)) (pv 2)))))))) (pss_one (ps_ret pe_bl)) pss_nil)))) (pss_cons (ps_if (PW.pt (pw_or (pt_cmpR (op_neD hr.units) (pe_callTy cd_listof (by rfl) T.n_list (by decide +kernel) (pa_cons (pv 3) pa_nil)) (pe_callB (TK.cr_srtT (shape := fun i => i == 1)) (by rfl) T.n_sorted (by decide +kernel) (pa_cons (pv 3) pa_nil)) (nomark _)) (pw_or (pt_cmpR op_lt (pv 2) pe_int (nomark _)) (pw_or1 (pt_cmpR op_gt (pv 2) (pe_op op_add (pe_callB cd_len (by rfl) T.n_len (by decide +kernel) (pa_cons (pv 3) pa_nil)) pe_int) (nomark _)))))) (pss_one (ps_ret pe_bl)) pss_nil) (pss_cons (ps_for PassesOwn.never rfl (pi_range1 (by rfl) T.n_range (pa_cons (pe_callB cd_len (by rfl) T.n_len (by decide +kernel) (pa_cons (pv 3) pa_nil)) pa_nil)) (pg_name (i := 5) sc_law_due.nd rfl (by first | exact Or.inl rfl | exact Or.inr rfl)) (pss_one (ps_for PassesOwn.never rfl (pi_range1 (by rfl) T.n_range (pa_cons (pv 5) pa_nil)) (pg_name (i := 6) sc_law_due.nd rfl (by first | exact Or.inl rfl | exact Or.inr rfl)) (pss_one (ps_if (PW.pt (pw_and (pt_cmpR op_eq (pe_ix ix_tup (pe_ix ix_tup (pv 3) (pv 5) (fun _ _ => rfl)) pe_int (fun _ _ => rfl)) (pe_ix ix_tup (pe_ix ix_tup (pv 3) (pv 6) (fun _ _ => rfl)) pe_int (fun _ _ => rfl)) (nomark _)) (pw_and1 (PW.pt (pw_or (pt_cmpR op_eq (pe_ix ix_tup (pe_ix ix_tup (pv 3) (pv 5) (fun _ _ => rfl)) pe_int (fun _ _ => rfl)) (pe_ix ix_tup (pe_ix ix_tup (pv 3) (pv 6) (fun _ _ => rfl)) pe_int (fun _ _ => rfl)) (nomark _)) (pw_or1 (pt_cmpR op_eq (pe_ix ix_tup (pe_ix ix_tup (pv 3) (pv 5) (fun _ _ => rfl)) pe_int (fun _ _ => rfl)) (pe_ix ix_tup (pe_ix ix_tup (pv 3) (pv 6) (fun _ _ => rfl)) pe_int (fun _ _ => rfl)) (nomark _)))))))) (pss_one (ps_ret pe_bl)) pss_nil))))) (pss_cons (ps_set (i := 7) sc_law_due.nd rfl (by first | exact Or.inl rfl | exact Or.inr rfl) (pe_lst (pa_cons pe_int pa_nil))) (pss_cons (ps_for PassesOwn.never rfl (pi_range1 (by rfl) T.n_range (pa_cons (pv 2) pa_nil)) (pg_name (i := 8) sc_law_due.nd rfl (by first | exact Or.inl rfl | exact Or.inr rfl)) (pss_one (ps_if (pt_cmpR op_lt (pv 8) (pe_callB cd_len (by rfl) T.n_len (by decide +kernel) (pa_cons (pv 7) pa_nil)) (nomark _)) (pss_one (ps_for PassesOwn.never rfl (pi_str pe_str) (pg_name (i := 9) sc_law_due.nd rfl (by first | exact Or.inl rfl | exact Or.inr rfl)) (pss_cons (ps_setLc (i := 10) (own := [("start", 12), ("label", 13), ("end", 14)]) rfl sc_law_due.nd rfl rfl (sw_true rfl rfl rfl (by decide +kernel)) (pi_tup (pv 3)) (blkOk_by (N := n_law_due) (sc := defScope s_law_due) (own := [("start", 12), ("label", 13), ("end", 14)]) (by decide +kernel)) (fun _ _ _ _ _ => (show PG _ _ (gTup K 3 (gCons (gName 12) (gCons (gName 13) (gCons (gName 14) gNil)))) by exact (pg_tup rfl (pgs_cons (pg_name (i := 12) sc_law_due.nd rfl (by first | exact Or.inl rfl | exact Or.inr rfl)) (pgs_cons (pg_name (i := 13) sc_law_due.nd rfl (by first | exact Or.inl rfl | exact Or.inr rfl)) (pgs_cons (pg_name (i := 14) sc_law_due.nd rfl (by first | exact Or.inl rfl | exact Or.inr rfl)) pgs_nil)))))) (fun _ _ _ _ _ => (pts_one (PW.pt (pw_and (pt_cmpR op_eq (pv 12) (pe_ix (show IxR _ (rIxL K) by exact ix_list) (pv 7) (pv 8) (fun _ _ => rfl)) (nomark _)) (pw_and1 (pt_cmpR op_eq (pv 13) (pv 9) (nomark _))))))) (fun _ _ _ _ _ => (pv 14))) (pss_cons (ps_set (i := 10) sc_law_due.nd rfl (by first | exact Or.inl rfl | exact Or.inr rfl) (pe_op op_cat (pv 10) (pe_lc (own := [("start", 12), ("label", 13), ("end", 14)]) rfl sc_law_due.nd (pi_tup (pv 3)) (blkOk_by (N := n_law_due) (sc := defScope s_law_due) (own := [("start", 12), ("label", 13), ("end", 14)]) (by decide +kernel)) (fun _ _ _ _ _ => (show PG _ _ (gTup K 3 (gCons (gName 12) (gCons (gName 13) (gCons (gName 14) gNil)))) by exact (pg_tup rfl (pgs_cons (pg_name (i := 12) sc_law_due.nd rfl (by first | exact Or.inl rfl | exact Or.inr rfl)) (pgs_cons (pg_name (i := 13) sc_law_due.nd rfl (by first | exact Or.inl rfl | exact Or.inr rfl)) (pgs_cons (pg_name (i := 14) sc_law_due.nd rfl (by first | exact Or.inl rfl | exact Or.inr rfl)) pgs_nil)))))) (fun _ _ _ _ _ => (pts_one (PW.pt (pw_and (pt_cmpR op_eq (pv 14) (pe_ix (show IxR _ (rIxL K) by exact ix_list) (pv 7) (pv 8) (fun _ _ => rfl)) (nomark _)) (pw_and1 (pt_cmpR op_eq (pe_bmZ (K := K) rfl (pe_bm0 PySem.F.plainAttrs_str PySem.F.slot_str_upper PySem.F.type_str_upper md_upper (pv 13))) (pv 9) (nomark _))))))) (fun _ _ _ _ _ => (pv 12))))) (pss_one (ps_if (PW.pt (pw_and (ptd (pv 10) (by intro _; rfl)) (pw_and1 (pt_cmpR op_notIn_seq (pe_ix ix_list (pv 10) pe_int (fun _ _ => rfl)) (pv 7) rfl)))) (pss_one (ps_expr (pe_bm PySem.F.plainAttrs_list PySem.F.slot_list_append PySem.F.type_list_append mt_append (pv 7) (pa_cons (pe_ix ix_list (pv 10) pe_int (fun _ _ => rfl)) pa_nil)))) pss_nil)))))) pss_nil))) (pss_cons (ps_if (pt_cmpR (op_neD hr.units) (pv 7) (pe_listRg rfl (by rfl) T.n_list (prg_1 (by rfl) T.n_range (pv 2))) (nomark _)) (pss_one (ps_ret pe_bl)) pss_nil) (pss_cons (ps_for PassesOwn.never rfl (pi_range2 (by rfl) T.n_range (pa_cons pe_int (pa_cons (pv 2) pa_nil))) (pg_name (i := 11) sc_law_due.nd rfl (by first | exact Or.inl rfl | exact Or.inr rfl)) (pss_one (ps_if (pt_cmpR op_lt (pe_callB (cr_sum rfl) (by rfl) T.n_sum (by decide +kernel) (pa_cons (pe_lc (own := [("start", 12), ("label", 13), ("end", 14)]) rfl sc_law_due.nd (pi_tup (pv 3)) (blkOk_by (N := n_law_due) (sc := defScope s_law_due) (own := [("start", 12), ("label", 13), ("end", 14)]) (by decide +kernel)) (fun _ _ _ _ _ => (show PG _ _ (gTup K 3 (gCons (gName 12) (gCons (gName 13) (gCons (gName 14) gNil)))) by exact (pg_tup rfl (pgs_cons (pg_name (i := 12) sc_law_due.nd rfl (by first | exact Or.inl rfl | exact Or.inr rfl)) (pgs_cons (pg_name (i := 13) sc_law_due.nd rfl (by first | exact Or.inl rfl | exact Or.inr rfl)) (pgs_cons (pg_name (i := 14) sc_law_due.nd rfl (by first | exact Or.inl rfl | exact Or.inr rfl)) pgs_nil)))))) (fun _ _ _ _ _ => pts_nil) (fun _ _ _ _ _ => (pe_op op_add (pe_callTy cd_int (by rfl) T.n_int (by decide +kernel) (pa_cons (pe_cmpR op_eq (pv 12) (pv 11) (nomark _)) pa_nil)) (pe_callTy cd_int (by rfl) T.n_int (by decide +kernel) (pa_cons (pe_cmpR op_eq (pv 14) (pv 11) (nomark _)) pa_nil))))) pa_nil)) pe_int (nomark _)) (pss_one (ps_ret pe_bl)) pss_nil))) (pss_one (ps_ret pe_bl))))))))))), fun a hp => ?_⟩
  obtain ⟨r, v⟩ := a
  obtain ⟨h1, h3, hv⟩ : 1 ≤ r ∧ r ≤ 3 ∧ GrV v := hp
  have hno : ∀ {v : D}, (∀ m x, v ≠ .tup [.int m, .tup x]) → (false = true ↔ ∃ m es, IsGr r v m es ∧ NtP r m es) := fun h => ⟨fun z => (by cases z), fun ⟨m, es, g, _⟩ => absurd ⟨m, es, g⟩ (isGr_no h)⟩
  show Ds _ [.dat (.int r), .dat v, .any, .any, .any, .any, .any, .any, .any, .any, .any, .any, .any, .any, .any] _ (fun d => ∃ b, d = .bl b ∧ (b = true ↔ ∃ m es, IsGr r v m es ∧ NtP r m es)) _ _
  refine ds_seq (ds_if (dt_or ?_))
  repeat walk_at "de"
  rcases hv with rfl | ⟨ds, rfl, dz⟩ | ⟨ds, rfl, d2, dz⟩ | ⟨mv, x, rfl, hm, hx⟩
  · repeat walk_at "de"
    repeat walk_at "dl"
    exact hno fun _ _ z => nomatch z
  · repeat walk_at "de"
    repeat walk_at "dl"
    exact hno fun _ _ z => nomatch z
  · repeat walk_at "de"
    rw [decide_eq_false (show ¬ ((ds.length : Nat) : Int) = 2 by omega)]
    refine iteT (iteT ?_)
    repeat walk_at "dl"
    exact hno fun _ _ z => d2 (by cases z; rfl)
  · repeat walk_at "de"
    refine dop_ixt (c := mv) rfl ?_
    repeat walk_at "de"
    rcases hm with rfl | ⟨m, rfl⟩
    · refine ⟨.bl true, rfl, rfl, fun d hd => ?_⟩
      obtain rfl : d = .bl false := hd
      repeat walk_at "de"
      repeat walk_at "dl"
      exact hno fun _ _ z => by cases z
    refine ⟨.int m, rfl, rfl, fun d hd => ?_⟩
    obtain rfl : d = .bl true := hd
    repeat walk_at "de"
    refine dop_ixt (c := x) rfl ?_
    repeat walk_at "de"
    rcases hx with ⟨ds, rfl, dz⟩ | ⟨ds, rfl, dz, hds⟩
    · repeat walk_at "de"
      repeat walk_at "dl"
      exact hno fun _ _ z => by cases z
    repeat walk_at "de"
    have hnoE : ∀ d ∈ ds, edgB r m d = false → (false = true ↔ ∃ m' es, IsGr r (.tup [.int m, .tup ds]) m' es ∧ NtP r m' es) := fun d hd hf => ⟨fun z => (by cases z), fun ⟨m', es, ⟨e, _, _, g, _⟩, _⟩ => by
      cases e
      obtain ⟨e, he, rfl⟩ := List.mem_map.mp hd
      rw [edgB_ed.mpr (g e he)] at hf
      cases hf⟩
    refine ds_next (ds_seq (ds_asg (de_var rfl (dg_tup rfl (dgs_cons (dg_name (dgs_cons (dg_name (dgs_nil ?_)))))))))
    try dsimp only [List.set]
    refine ds_seq (ds_for (di_tup (de_var rfl ⟨ds, rfl, fun i e => ∃ x4, e = [.dat (.int r), .dat (.tup [.int m, .tup ds]), .dat (.int m), .dat (.tup ds), x4, .any, .any, .any, .any, .any, .any, .any, .any, .any, .any] ∧ ∀ d ∈ ds.take i, edgB r m d = true, ⟨_, rfl, fun d hd => by simp at hd⟩, fun i d e hd he => ?_, fun e he => ?_⟩)))
    · obtain ⟨x4, rfl, hI⟩ := he
      have hdm := List.mem_of_getElem? hd
      refine dg_name ?_
      try dsimp only [List.set]
      refine ds_seq (ds_if (dt_or ?_))
      repeat walk_at "de"
      rcases hds d hdm with rfl | ⟨l, rfl, _⟩ | ⟨a, b, c, rfl⟩
      · repeat walk_at "de"
        repeat walk_at "dl"
        exact hnoE _ hdm rfl
      · repeat walk_at "de"
        repeat walk_at "dl"
        exact hnoE _ hdm rfl
      repeat walk_at "de"
      refine dop_ixt (c := .str [c]) rfl ?_
      repeat walk_at "de"
      refine dsl_lst ?_
      rw [cutD_to _ _ (show 0 ≤ r by omega)]
      refine dop_inS (ns := ([[97], [98], [99]] : List (List Nat)).take r.toNat) (by show some _ = some _; rw [List.map_take]; rfl) ?_
      rw [if_pos rfl, sm_in]
      have eB : edgB r m (.tup [.int a, .str [c], .int b]) = ((decide (0 ≤ a) && decide (a ≤ m - 1)) && ((decide (0 ≤ b) && decide (b ≤ m - 1)) && decide (c ∈ smL r))) := rfl
      cases hc : decide (c ∈ smL r) with
      | false =>
        refine ⟨_, rfl, iteT ?_⟩
        repeat walk_at "dl"
        exact hnoE _ hdm (by rw [eB, hc, Bool.and_false, Bool.and_false])
      | true =>
        refine ⟨_, rfl, iteF (ds_next ?_)⟩
        refine ds_if (dt_or ?_)
        repeat walk_at "de"
        refine dop_ixt (c := .int a) rfl ?_
        repeat walk_at "de"
        refine ⟨.int a, rfl, rfl, fun d hd => ?_⟩
        obtain rfl : d = .bl true := hd
        repeat walk_at "de"
        refine dop_ixt (c := .int b) rfl ?_
        repeat walk_at "de"
        refine ⟨.int b, rfl, rfl, fun d hd => ?_⟩
        obtain rfl : d = .bl true := hd
        repeat walk_at "de"
        refine dop_ixt (c := .int a) rfl ?_
        repeat walk_at "de"
        by_cases a0 : 0 ≤ a
        rotate_left
        · rw [decide_eq_false a0]
          repeat walk_at "de"
          repeat walk_at "dl"
          exact hnoE _ hdm (by rw [eB, decide_eq_false a0]; rfl)
        rw [decide_eq_true a0]
        refine iteT ?_
        repeat walk_at "de"
        by_cases a1 : a < m
        rotate_left
        · rw [decide_eq_false a1]
          repeat walk_at "de"
          repeat walk_at "dl"
          exact hnoE _ hdm (by rw [eB, decide_eq_false (show ¬ a ≤ m - 1 by omega), Bool.and_false]; rfl)
        rw [decide_eq_true a1]
        refine iteF ?_
        repeat walk_at "de"
        refine dop_ixt (c := .int b) rfl ?_
        repeat walk_at "de"
        by_cases b0 : 0 ≤ b
        rotate_left
        · rw [decide_eq_false b0]
          repeat walk_at "de"
          repeat walk_at "dl"
          exact hnoE _ hdm (by rw [eB, decide_eq_false b0, Bool.false_and, Bool.false_and, Bool.and_false])
        rw [decide_eq_true b0]
        refine iteT ?_
        repeat walk_at "de"
        by_cases b1 : b < m
        rotate_left
        · rw [decide_eq_false b1]
          repeat walk_at "de"
          repeat walk_at "dl"
          exact hnoE _ hdm (by rw [eB, decide_eq_false (show ¬ b ≤ m - 1 by omega), Bool.and_false, Bool.false_and, Bool.and_false])
        rw [decide_eq_true b1]
        refine iteF (ds_next ⟨_, rfl, fun d hd' => ?_⟩)
        rw [List.take_add_one, hd] at hd'
        rcases List.mem_append.mp hd' with z | z
        · exact hI d z
        · rw [List.mem_singleton.mp z, eB, hc, decide_eq_true a0, decide_eq_true b0, decide_eq_true (show a ≤ m - 1 by omega), decide_eq_true (show b ≤ m - 1 by omega)]
          rfl
    obtain ⟨x4, rfl, hI⟩ := he
    rw [List.take_length] at hI
    obtain ⟨es, rfl⟩ : ∃ es : List Ed, ds = es.map edD := ⟨ds.map decE, by
      rw [List.map_map]
      conv => lhs; rw [← List.map_id ds]
      exact List.map_congr_left fun d hd => (dec_of (hI d hd)).1.symm⟩
    rw [List.length_map] at dz
    have hg : ∀ e ∈ es, (e.1 : Int) < m ∧ (e.2.2 : Int) < m ∧ e.2.1 ∈ smL r := fun e he => edgB_ed.mp (hI _ (List.mem_map.mpr ⟨e, he, rfl⟩))
    have hs : ∀ e ∈ es, e.2.1 ∈ SM := fun e he => List.mem_of_mem_take (hg e he).2.2
    have hlt : ∀ e ∈ es, e.2.1 ∈ LTR := fun e he => SM_LTR (hs e he)
    have hlen : (es.map edD).length = es.length := List.length_map _
    refine ds_seq (ds_if (dt_or ?_))
    repeat walk_at "de"
    refine srt_ed ?_
    have hlt2 : ∀ e ∈ srtE es, e.2.1 ∈ LTR := fun e he => hlt e ((srtE_perm es).mem_iff.mp he)
    refine dop_neG 2 (by decide) (pl_eds hlt) (pl_eds hlt2) ?_
    rw [eqv_eds]
    have nope : ∀ {P : Prop}, (¬ P) → ((∃ m' es', IsGr r (.tup [.int m, .tup (es.map edD)]) m' es' ∧ NtP r m' es') → P) → (false = true ↔ ∃ m' es', IsGr r (.tup [.int m, .tup (es.map edD)]) m' es' ∧ NtP r m' es') := fun hn h => ⟨fun z => (by cases z), fun z => absurd (h z) hn⟩
    have uni : ∀ m' es', IsGr r (.tup [.int m, .tup (es.map edD)]) m' es' → (m' : Int) = m ∧ es' = es := fun m' es' ⟨e, _⟩ => by
      injection e with e
      injection e with e0 e
      injection e with e _
      injection e with e
      injection e0 with e0
      refine ⟨e0.symm, ?_⟩
      have : ∀ {a b : List Ed}, a.map edD = b.map edD → b = a := by
        intro a
        induction a with
        | nil => intro b hb; cases b with
          | nil => rfl
          | cons x b => cases hb
        | cons x a ih => intro b hb; cases b with
          | nil => cases hb
          | cons y b =>
            rw [List.map_cons, List.map_cons] at hb
            injection hb with p q
            rw [edD_inj p, ih q]
      exact this e
    by_cases hsr : es = srtE es
    rotate_left
    · rw [decide_eq_false hsr]
      refine ⟨_, rfl, iteT (iteT ?_)⟩
      repeat walk_at "dl"
      exact nope hsr fun ⟨m', es', g, _⟩ => by
        obtain ⟨_, rfl⟩ := uni m' es' g
        exact (ascE_iff.mp g.2.2.2.2).1.symm
    rw [decide_eq_true hsr]
    refine ⟨_, rfl, iteF ?_⟩
    repeat walk_at "de"
    by_cases hm1 : m < 1
    · rw [decide_eq_true hm1]
      refine iteT (iteT ?_)
      repeat walk_at "dl"
      exact nope (P := 1 ≤ m) (by omega) fun ⟨m', es', g, _⟩ => by
        obtain ⟨e, rfl⟩ := uni m' es' g
        have := g.2.1
        omega
    rw [decide_eq_false hm1]
    refine iteF ?_
    repeat walk_at "de"
    rw [hlen]
    by_cases hm2 : (es.length : Int) + 1 < m
    · rw [decide_eq_true hm2]
      refine iteT ?_
      repeat walk_at "dl"
      exact nope (P := m ≤ (es.length : Int) + 1) (by omega) fun ⟨m', es', g, _⟩ => by
        obtain ⟨e, rfl⟩ := uni m' es' g
        have := g.2.2.1
        omega
    rw [decide_eq_false hm2]
    refine iteF (ds_next ?_)
    obtain ⟨m, rfl⟩ : ∃ n : Nat, m = (n : Int) := ⟨m.toNat, by omega⟩
    have hbd : ∀ e ∈ es, e.1 < m ∧ e.2.2 < m := fun e he => by
      obtain ⟨a, b, _⟩ := hg e he
      exact ⟨by omega, by omega⟩
    have M := mvs_mv hbd
    -- no clash
    let PK : Nat → Nat → Prop := fun k j => ∀ e f : Ed, es[k]? = some e → es[j]? = some f → e.2.1 = f.2.1 → e.1 ≠ f.1 ∧ e.2.2 ≠ f.2.2
    have fdp : (∀ k, k < es.length → ∀ j, j < k → PK k j) ↔ FdP es := by
      constructor
      · intro h
        refine List.pairwise_iff_getElem.mpr fun i j il jl z hl => ?_
        have := h j jl i z _ _ (List.getElem?_eq_getElem jl) (List.getElem?_eq_getElem il) hl.symm
        exact ⟨fun q => this.1 q.symm, fun q => this.2 q.symm⟩
      · intro h k hk j hj e f he hf hl
        obtain ⟨kl, he⟩ := List.getElem?_eq_some_iff.mp he
        obtain ⟨jl, hf⟩ := List.getElem?_eq_some_iff.mp hf
        have := List.pairwise_iff_getElem.mp h j k jl kl hj (by rw [he, hf]; exact hl.symm)
        rw [he, hf] at this
        exact ⟨fun q => this.1 q.symm, fun q => this.2 q.symm⟩
    have noF : ¬ FdP es → (false = true ↔ ∃ m' es', IsGr r (.tup [.int (m : Int), .tup (es.map edD)]) m' es' ∧ NtP r m' es') := fun hn => nope hn fun ⟨m', es', g, n⟩ => by
      obtain ⟨_, rfl⟩ := uni m' es' g
      exact n.1
    refine ds_seq (ds_for (di_range1 ?_))
    repeat walk_at "de"
    rw [hlen]
    refine ⟨(es.length : Int), rfl, by omega, by omega, fun k e => ∃ x5 x6, e = [.dat (.int r), .dat (.tup [.int (m : Int), .tup (es.map edD)]), .dat (.int (m : Int)), .dat (.tup (es.map edD)), x4, x5, x6, .any, .any, .any, .any, .any, .any, .any, .any] ∧ ∀ k', k' < k → ∀ j, j < k' → PK k' j, ⟨_, _, rfl, fun k' h => by omega⟩, fun k d e hd he => ?_, fun e he => ?_⟩
    · obtain ⟨x5, x6, rfl, hK⟩ := he
      have hk : k < es.length := by
        have := (List.getElem?_eq_some_iff.mp hd).1
        rw [rgI_len] at this
        omega
      rw [rgI_get _ _ _ (by omega)] at hd
      obtain rfl : d = .int (k : Int) := by rw [← Option.some.inj hd, Int.zero_add]
      have hek := List.getElem?_eq_getElem hk
      have atk : atI (es.map edD) (k : Int) = some (edD es[k]) := atI_at (by omega) (by rw [show ((k : Int)).toNat = k by omega, List.getElem?_map, hek]; rfl)
      generalize es[k] = ek at hek atk
      refine dg_name ?_
      try dsimp only [List.set]
      refine ds_for (di_range1 ?_)
      repeat walk_at "de"
      refine ⟨(k : Int), rfl, by omega, by omega, fun j e => ∃ x6, e = [.dat (.int r), .dat (.tup [.int (m : Int), .tup (es.map edD)]), .dat (.int (m : Int)), .dat (.tup (es.map edD)), x4, .dat (.int (k : Int)), x6, .any, .any, .any, .any, .any, .any, .any, .any] ∧ ∀ j', j' < j → PK k j', ⟨_, rfl, fun j' h => by omega⟩, fun j d e hd he => ?_, fun e he => ?_⟩
      · obtain ⟨x6, rfl, hJ⟩ := he
        have hj : j < k := by
          have := (List.getElem?_eq_some_iff.mp hd).1
          rw [rgI_len] at this
          omega
        rw [rgI_get _ _ _ (by omega)] at hd
        obtain rfl : d = .int (j : Int) := by rw [← Option.some.inj hd, Int.zero_add]
        have hej := List.getElem?_eq_getElem (show j < es.length by omega)
        have atj : atI (es.map edD) (j : Int) = some (edD es[j]) := atI_at (by omega) (by rw [show ((j : Int)).toNat = j by omega, List.getElem?_map, hej]; rfl)
        generalize es[j] = ej at hej atj
        have bad : ek.2.1 = ej.2.1 → (ek.1 = ej.1 ∨ ek.2.2 = ej.2.2) → ¬ FdP es := fun hl hor h => by
          have := fdp.mpr h k hk j hj _ _ hek hej hl
          exact hor.elim this.1 this.2
        have good : (ek.2.1 = ej.2.1 → ek.1 ≠ ej.1 ∧ ek.2.2 ≠ ej.2.2) → ∀ j', j' < j + 1 → PK k j' := fun h j' hj' => by
          by_cases q : j' = j
          · subst q
            intro e f he hf hl
            rw [hek] at he
            rw [hej] at hf
            cases he
            cases hf
            exact h hl
          · exact hJ j' (by omega)
        obtain ⟨p, c, q⟩ := ek
        obtain ⟨p', c', q'⟩ := ej
        dsimp only at bad good
        refine dg_name ?_
        try dsimp only [List.set]
        refine ds_if (dt_and ?_)
        repeat walk_at "de"
        refine dop_ixt atk ?_
        repeat walk_at "de"
        refine dop_ixt (c := sign c) rfl ?_
        repeat walk_at "de"
        refine dop_ixt atj ?_
        repeat walk_at "de"
        refine dop_ixt (c := sign c') rfl ?_
        repeat walk_at "de"
        by_cases hcc : c = c'
        rotate_left
        · rw [decide_eq_false (fun z => hcc (by simpa using z))]
          exact iteF (iteF (ds_next ⟨_, rfl, good fun z => absurd z hcc⟩))
        rw [decide_eq_true (show [c] = [c'] by rw [hcc])]
        refine iteT (dt_or ?_)
        repeat walk_at "de"
        refine dop_ixt atk ?_
        repeat walk_at "de"
        refine dop_ixt (c := .int (p : Int)) rfl ?_
        repeat walk_at "de"
        refine dop_ixt atj ?_
        repeat walk_at "de"
        refine dop_ixt (c := .int (p' : Int)) rfl ?_
        repeat walk_at "de"
        by_cases hp : p = p'
        · rw [decide_eq_true (show (p : Int) = (p' : Int) by rw [hp])]
          refine iteT (iteT ?_)
          repeat walk_at "dl"
          exact noF (bad hcc (.inl hp))
        rw [decide_eq_false (show ¬ (p : Int) = (p' : Int) by omega)]
        refine iteF ?_
        repeat walk_at "de"
        refine dop_ixt atk ?_
        repeat walk_at "de"
        refine dop_ixt (c := .int (q : Int)) rfl ?_
        repeat walk_at "de"
        refine dop_ixt atj ?_
        repeat walk_at "de"
        refine dop_ixt (c := .int (q' : Int)) rfl ?_
        repeat walk_at "de"
        by_cases hq : q = q'
        · rw [decide_eq_true (show (q : Int) = (q' : Int) by rw [hq])]
          refine iteT ?_
          repeat walk_at "dl"
          exact noF (bad hcc (.inr hq))
        rw [decide_eq_false (show ¬ (q : Int) = (q' : Int) by omega)]
        exact iteF (ds_next ⟨_, rfl, good fun _ => ⟨hp, hq⟩⟩)
      · obtain ⟨x6, rfl, hJ⟩ := he
        rw [rgI_len, show ((k : Int)).toNat = k by omega] at hJ
        refine ⟨_, _, rfl, fun k' hk' => ?_⟩
        by_cases q : k' = k
        · subst q
          exact hJ
        · exact hK k' (by omega)
    obtain ⟨x5, x6, rfl, hK⟩ := he
    rw [rgI_len, show ((es.length : Int)).toNat = es.length by omega] at hK
    have hF := fdp.mp hK
    have F := hF.fld hs
    refine ds_seq (ds_setN (den_lst (da_cons (de_int (da_nil ⟨by simp, ?_⟩)))))
    try dsimp only [List.set]
    refine ds_seq (ds_for (di_range1 ?_))
    repeat walk_at "de"
    refine ⟨(m : Int), rfl, by omega, by omega, fun t e => ∃ x8 x9 x10, e = [.dat (.int r), .dat (.tup [.int (m : Int), .tup (es.map edD)]), .dat (.int (m : Int)), .dat (.tup (es.map edD)), x4, x5, x6, .own (.lst ((rowI (fw (mvs es) LTR 0 t).1).map D.int)), x8, x9, x10, .any, .any, .any, .any], ⟨_, _, _, rfl⟩, fun t d e hd he => ?_, fun e he => ?_⟩
    · obtain ⟨x8, x9, x10, rfl⟩ := he
      have ht : t < ((m : Int)).toNat := by
        have := (List.getElem?_eq_some_iff.mp hd).1
        rwa [rgI_len] at this
      rw [rgI_get _ _ _ ht] at hd
      obtain rfl : d = .int (t : Int) := by rw [← Option.some.inj hd, Int.zero_add]
      have h0 : 0 < m := by omega
      have W0 := (WI.range (ls := LTR) M h0 t).1
      have L0 := W0.len_le
      refine dg_name ?_
      try dsimp only [List.set]
      refine ds_if (dt_look 7 rfl (dt_test (de_op (de_var rfl (de_cb (da_cons (de_var rfl (da_nil (dcl_len (n := (fw (mvs es) LTR 0 t).1.length) (by show some _ = some _; rw [rowI_len]) (by omega) ?_)))))))))
      repeat walk_at "de"
      have hsucc := fw_succ (mvs es) LTR 0 t
      by_cases hc : t < (fw (mvs es) LTR 0 t).1.length
      · rw [decide_eq_true (by omega)]
        refine iteT ?_
        have hT : fw (mvs es) LTR 0 (t + 1) = LTR.foldl (fwL (mvs es) t) (fw (mvs es) LTR 0 t) := by rw [hsucc]; exact if_pos hc
        refine ds_for (di_str ?_)
        repeat walk_at "de"
        refine ⟨LTR, rfl, fun i e => ∃ x9 x10, e = [.dat (.int r), .dat (.tup [.int (m : Int), .tup (es.map edD)]), .dat (.int (m : Int)), .dat (.tup (es.map edD)), x4, x5, x6, .own (.lst ((rowI ((LTR.take i).foldl (fwL (mvs es) t) (fw (mvs es) LTR 0 t)).1).map D.int)), .dat (.int (t : Int)), x9, x10, .any, .any, .any, .any], ⟨_, _, rfl⟩, fun i d e hd he => ?_, fun e he => ?_⟩
        · obtain ⟨x9, x10, rfl⟩ := he
          obtain ⟨c, hci, rfl⟩ := sign_at hd
          have hcl : c ∈ LTR := List.mem_of_getElem? hci
          obtain ⟨W1, hc1⟩ := wiUp (ls := LTR) M h0 t i hc
          have hstep : (LTR.take (i + 1)).foldl (fwL (mvs es) t) (fw (mvs es) LTR 0 t) = fwL (mvs es) t ((LTR.take i).foldl (fwL (mvs es) t) (fw (mvs es) LTR 0 t)) c := by
            rw [List.take_add_one, hci, List.foldl_append]
            rfl
          dsimp only
          rw [hstep]
          generalize (LTR.take i).foldl (fwL (mvs es) t) (fw (mvs es) LTR 0 t) = s1 at W1 hc1
          have L1 := W1.len_le
          have rat := rowI_at hc1
          unfold fwL
          generalize hq0 : s1.1.getD t 0 = p at rat
          refine dg_name ?_
          try dsimp only [List.set]
          refine ds_seq (ds_setN (den_lcG (only_three (by simp) (by simp) (by simp)) (di_tup (de_var rfl ⟨es.map edD, rfl, by rw [hlen]; omega, fun j acc => acc = ((es.take j).filter fun e => decide (e.1 = p) && decide (e.2.1 = c)).map (fun e : Ed => D.int (e.2.2 : Int)), rfl, fun j d acc hd _ ha => ?_, fun acc ha => ?_⟩))))
          · rw [List.getElem?_map] at hd
            obtain ⟨e, he, rfl⟩ := Option.map_eq_some_iff.mp hd
            dsimp only [List.map_cons, List.map_nil, wipeE, List.set]
            rw [filt_take he (fun e => decide (e.1 = p) && decide (e.2.1 = c)) (fun e : Ed => D.int (e.2.2 : Int)), ← ha]
            obtain ⟨a, b, q⟩ := e
            refine dg_tup rfl (dgs_cons (dg_name (dgs_cons (dg_name (dgs_cons (dg_name (dgs_nil ?_)))))))
            try dsimp only [List.set]
            refine dt_and (dt_look 7 rfl (dt_test (de_op (de_var rfl (de_op (de_var rfl (de_var rfl (dop_ixl rat (dop_eqi ⟨_, rfl, ?_⟩)))))))))
            by_cases h1' : a = p
            · subst h1'
              rw [decide_eq_true (show ((a : Nat) : Int) = ((a : Nat) : Int) from rfl)]
              refine iteT ?_
              repeat walk_at "de"
              by_cases h2' : b = c
              · subst h2'
                rw [decide_eq_true (show [b] = [b] from rfl)]
                refine iteT (de_var rfl ?_)
                simp
              · rw [decide_eq_false (fun z => h2' (by simpa using z))]
                refine iteF ?_
                simp [h2']
            · rw [decide_eq_false (show ¬ ((a : Nat) : Int) = ((p : Nat) : Int) by omega)]
              refine iteF (iteF ?_)
              simp [h1']
          · rw [hlen, List.take_length] at ha
            subst ha
            try dsimp only [List.set]
            refine ds_rel 10 rfl ?_
            try dsimp only [List.set, toD]
            refine ds_seq (ds_setN (den_catl (de_var rfl (de_ofN (den_lcG (only_three (by simp) (by simp) (by simp)) (di_tup (de_var rfl ⟨es.map edD, rfl, by rw [hlen]; omega, fun j acc => acc = ((es.take j).filter fun e => decide (e.2.2 = p) && decide (sw e.2.1 = c)).map (fun e : Ed => D.int (e.1 : Int)), rfl, fun j d acc hd _ ha => ?_, fun acc ha => ?_⟩)))))))
            · rw [List.getElem?_map] at hd
              obtain ⟨e, he, rfl⟩ := Option.map_eq_some_iff.mp hd
              have hsm := hs e (List.mem_of_getElem? he)
              dsimp only [List.map_cons, List.map_nil, wipeE, List.set]
              rw [filt_take he (fun e => decide (e.2.2 = p) && decide (sw e.2.1 = c)) (fun e : Ed => D.int (e.1 : Int)), ← ha]
              obtain ⟨a, b, q⟩ := e
              refine dg_tup rfl (dgs_cons (dg_name (dgs_cons (dg_name (dgs_cons (dg_name (dgs_nil ?_)))))))
              try dsimp only [List.set]
              refine dt_and (dt_look 7 rfl (dt_test (de_op (de_var rfl (de_op (de_var rfl (de_var rfl (dop_ixl rat (dop_eqi ⟨_, rfl, ?_⟩)))))))))
              by_cases h1' : q = p
              · subst h1'
                rw [decide_eq_true (show ((q : Nat) : Int) = ((q : Nat) : Int) from rfl)]
                refine iteT ?_
                repeat walk_at "de"
                refine ⟨rfl, dmt_upperS hsm ?_⟩
                repeat walk_at "de"
                by_cases h2' : sw b = c
                · subst h2'
                  rw [decide_eq_true (show [sw b] = [sw b] from rfl)]
                  refine iteT (de_var rfl ?_)
                  simp
                · rw [decide_eq_false (fun z => h2' (by simpa using z))]
                  refine iteF ?_
                  simp [h2']
              · rw [decide_eq_false (show ¬ ((q : Nat) : Int) = ((p : Nat) : Int) by omega)]
                refine iteF (iteF ?_)
                simp [h1']
            · rw [hlen, List.take_length] at ha
              subst ha
              have both : ((es.filter fun e => decide (e.1 = p) && decide (e.2.1 = c)).map fun e : Ed => D.int (e.2.2 : Int)) ++ ((es.filter fun e => decide (e.2.2 = p) && decide (sw e.2.1 = c)).map fun e : Ed => D.int (e.1 : Int)) = (lwE es p c).map fun x : Nat => D.int (x : Int) := by
                unfold lwE
                rw [List.map_append, List.map_map, List.map_map]
                rfl
              have l1 : ((es.filter fun e => decide (e.1 = p) && decide (e.2.1 = c)).map fun e : Ed => D.int (e.2.2 : Int)).length ≤ 1000 := by
                rw [List.length_map]
                exact Nat.le_trans (List.length_filter_le _ _) (by omega)
              have l2 : ((es.filter fun e => decide (e.2.2 = p) && decide (sw e.2.1 = c)).map fun e : Ed => D.int (e.1 : Int)).length ≤ 1000 := by
                rw [List.length_map]
                exact Nat.le_trans (List.length_filter_le _ _) (by omega)
              refine ⟨_, _, rfl, rfl, by omega, ?_⟩
              rw [both]
              have hd := lwE_head F (p := p) (c := c) hcl
              try dsimp only [List.set]
              refine ds_rel 10 rfl ?_
              try dsimp only [List.set, toD]
              refine ds_if (dt_and (dt_tru (de_var rfl ⟨_, rfl, ?_, fun l h => nomatch h⟩)))
              cases hL : lwE es p c with
              | nil =>
                rw [hL] at hd
                rw [← hd]
                exact iteF (iteF (ds_next ⟨_, _, rfl⟩))
              | cons x rr =>
                rw [hL] at hd
                rw [← hd]
                dsimp only [List.head?_cons]
                refine iteT (dt_look 7 rfl ?_)
                try dsimp only [List.set, toD]
                repeat walk_at "de"
                refine dop_ixl (c := .int (x : Int)) (atI_at (by decide) rfl) ?_
                repeat walk_at "de"
                refine dop_inI (ns := rowI s1.1) rfl ?_
                have em : decide ((x : Int) ∈ rowI s1.1) = decide (x ∈ s1.1) := decide_eq_decide.mpr (by
                  unfold rowI
                  rw [List.mem_map]
                  constructor
                  · rintro ⟨y, hy, e⟩
                    rwa [show x = y by omega]
                  · exact fun h => ⟨x, h, rfl⟩)
                rw [if_pos rfl, em]
                by_cases hm : x ∈ s1.1
                · rw [decide_eq_true hm, if_pos hm]
                  exact ⟨_, rfl, iteF (ds_next ⟨_, _, rfl⟩)⟩
                · rw [decide_eq_false hm, if_neg hm]
                  refine ⟨_, rfl, iteT ?_⟩
                  refine ds_append rfl (by rw [rowI_len]; omega) ?_
                  repeat walk_at "de"
                  refine dop_ixl (c := .int (x : Int)) (atI_at (by decide) rfl) ?_
                  rw [row_snoc]
                  try dsimp only [List.set]
                  exact ⟨_, _, rfl⟩
        · obtain ⟨x9, x10, rfl⟩ := he
          rw [show (LTR.map sign).length = LTR.length from rfl, List.take_length, ← hT]
          exact ⟨_, _, _, rfl⟩
      · rw [decide_eq_false (by omega)]
        refine iteF (ds_next ?_)
        have hT : fw (mvs es) LTR 0 (t + 1) = fw (mvs es) LTR 0 t := by rw [hsucc]; exact if_neg hc
        rw [hT]
        exact ⟨_, _, _, rfl⟩
    obtain ⟨x8, x9, x10, rfl⟩ := he
    rw [rgI_len, show ((m : Int)).toNat = m by omega, fw_all6 h1 h3 (fun e he => (hg e he).2.2)]
    refine ds_rel 7 rfl ?_
    try dsimp only [List.set, toD]
    refine ds_seq (ds_if ?_)
    repeat walk_at "de"
    refine de_ofN (den_listRg (de_var rfl ⟨(m : Int), rfl, by omega, by omega, ?_⟩))
    have er : rgI 0 ((m : Int)).toNat = (rowI (List.range m)).map D.int := by
      unfold rgI rowI
      rw [List.map_map, show ((m : Int)).toNat = m by omega]
      exact List.map_congr_left fun i _ => by show D.int (0 + (i : Int)) = D.int (i : Int); rw [Int.zero_add]
    dsimp only [toD]
    rw [er]
    refine dop_neLI ?_
    have einj : rowI (fw (mvs es) (LS r) 0 m).1 = rowI (List.range m) ↔ (fw (mvs es) (LS r) 0 m).1 = List.range m := by
      constructor
      · intro h
        have : ∀ {a b : List Nat}, rowI a = rowI b → a = b := by
          intro a
          unfold rowI
          induction a with
          | nil => intro b hb; cases b with
            | nil => rfl
            | cons x b => cases hb
          | cons x a ih => intro b hb; cases b with
            | nil => cases hb
            | cons y b =>
              rw [List.map_cons, List.map_cons] at hb
              injection hb with p q
              rw [ih q, show x = y by omega]
        exact this h
      · intro h
        rw [h]
    by_cases hr : (fw (mvs es) (LS r) 0 m).1 = List.range m
    rotate_left
    · rw [decide_eq_false (fun z => hr (einj.mp z))]
      refine ⟨_, rfl, iteT ?_⟩
      repeat walk_at "dl"
      exact nope hr fun ⟨m', es', g, n⟩ => by
        obtain ⟨e, rfl⟩ := uni m' es' g
        obtain rfl : m' = m := by omega
        exact n.2.1
    rw [decide_eq_true (einj.mpr hr)]
    refine ⟨_, rfl, iteF (ds_next ?_)⟩
    refine ds_seq (ds_for (di_range2 ?_))
    repeat walk_at "de"
    refine ⟨1, (m : Int), rfl, by omega, by omega, by omega, by omega, fun i e => ∃ x11, e = [.dat (.int r), .dat (.tup [.int (m : Int), .tup (es.map edD)]), .dat (.int (m : Int)), .dat (.tup (es.map edD)), x4, x5, x6, .dat (.lst ((rowI (fw (mvs es) (LS r) 0 m).1).map D.int)), x8, x9, x10, x11, .any, .any, .any] ∧ ∀ v, 1 ≤ v → v < i + 1 → 2 ≤ dgE es v, ⟨_, rfl, fun v a b => by omega⟩, fun i d e hd he => ?_, fun e he => ?_⟩
    · obtain ⟨x11, rfl, hD⟩ := he
      have ht : i < ((m : Int) - 1).toNat := by
        have := (List.getElem?_eq_some_iff.mp hd).1
        rwa [rgI_len] at this
      rw [rgI_get _ _ _ ht] at hd
      obtain rfl : d = .int ((i + 1 : Nat) : Int) := by rw [← Option.some.inj hd]; congr 1; omega
      refine dg_name ?_
      try dsimp only [List.set]
      refine ds_if ?_
      repeat walk_at "de"
      refine de_ofN (den_lcG (only_three (by simp) (by simp) (by simp)) (di_tup (de_var rfl ⟨es.map edD, rfl, by rw [hlen]; omega, fun j acc => acc = ((es.take j).map fun e : Ed => (((if e.1 = i + 1 then 1 else 0) + (if e.2.2 = i + 1 then 1 else 0) : Nat) : Int)).map D.int, rfl, fun j d acc hd _ ha => ?_, fun acc ha => ?_⟩)))
      · rw [List.getElem?_map] at hd
        obtain ⟨e, he, rfl⟩ := Option.map_eq_some_iff.mp hd
        obtain ⟨a, b, q⟩ := e
        refine dg_tup rfl (dgs_cons (dg_name (dgs_cons (dg_name (dgs_cons (dg_name (dgs_nil ?_)))))))
        try dsimp only [List.set, wipeE, List.map]
        refine dt_yes (iteT ?_)
        repeat walk_at "de"
        subst ha
        rw [List.take_add_one, he, List.map_append, List.map_append]
        show _ = _ ++ [D.int (((if a = i + 1 then 1 else 0) + (if q = i + 1 then 1 else 0) : Nat) : Int)]
        congr 3
        by_cases z1 : a = i + 1 <;> by_cases z2 : q = i + 1
        · rw [decide_eq_true (show (a : Int) = ((i + 1 : Nat) : Int) by omega), decide_eq_true (show (q : Int) = ((i + 1 : Nat) : Int) by omega), if_pos z1, if_pos z2]; rfl
        · rw [decide_eq_true (show (a : Int) = ((i + 1 : Nat) : Int) by omega), decide_eq_false (show ¬ (q : Int) = ((i + 1 : Nat) : Int) by omega), if_pos z1, if_neg z2]; rfl
        · rw [decide_eq_false (show ¬ (a : Int) = ((i + 1 : Nat) : Int) by omega), decide_eq_true (show (q : Int) = ((i + 1 : Nat) : Int) by omega), if_neg z1, if_pos z2]; rfl
        · rw [decide_eq_false (show ¬ (a : Int) = ((i + 1 : Nat) : Int) by omega), decide_eq_false (show ¬ (q : Int) = ((i + 1 : Nat) : Int) by omega), if_neg z1, if_neg z2]; rfl
      · rw [hlen, List.take_length] at ha
        subst ha
        dsimp only [toD]
        refine da_nil (dcl_sum ?_)
        have esum : ((es.map fun e : Ed => (((if e.1 = i + 1 then 1 else 0) + (if e.2.2 = i + 1 then 1 else 0) : Nat) : Int)).sum) = ((dgE es (i + 1) : Nat) : Int) := by
          unfold dgE
          generalize es = l
          induction l with
          | nil => rfl
          | cons e l ih =>
            rw [List.map_cons, List.sum_cons, List.map_cons, List.sum_cons, ih]
            omega
        rw [esum]
        repeat walk_at "de"
        by_cases h2' : dgE es (i + 1) < 2
        · rw [decide_eq_true (show ((dgE es (i + 1) : Nat) : Int) < 2 by omega)]
          refine iteT ?_
          repeat walk_at "dl"
          exact nope (P := 2 ≤ dgE es (i + 1)) (by omega) fun ⟨m', es', g, n⟩ => by
            obtain ⟨e, rfl⟩ := uni m' es' g
            obtain rfl : m' = m := by omega
            exact n.2.2 (i + 1) (by omega) (by omega)
        · rw [decide_eq_false (show ¬ ((dgE es (i + 1) : Nat) : Int) < 2 by omega)]
          refine iteF (ds_next ⟨_, rfl, fun v a b => ?_⟩)
          by_cases q : v = i + 1
          · rw [q]; omega
          · exact hD v a (by omega)
    · obtain ⟨x11, rfl, hD⟩ := he
      rw [rgI_len] at hD
      refine ds_ret (de_bl ?_)
      exact ⟨true, rfl, ⟨fun _ => ⟨m, es, ⟨rfl, by omega, by omega, hg, ascE_iff.mpr ⟨hsr.symm, hF.nd⟩⟩, hF, hr, fun v a b => hD v a (by omega)⟩, fun _ => rfl⟩⟩
-- law k21
theorem two_le {α : Type} {l : List α} {a b : α} (ha : a ∈ l) (hb : b ∈ l) (ne : a ≠ b) : 2 ≤ l.length := by
  match l, ha, hb with
  | [], ha, _ => cases ha
  | [x], ha, hb => exact absurd ((List.mem_singleton.mp ha).trans (List.mem_singleton.mp hb).symm) ne
  | _ :: _ :: _, _, _ => simp
theorem one_le {α : Type} {l : List α} {a : α} (ha : a ∈ l) : 1 ≤ l.length := by
  cases l with
  | nil => cases ha
  | cons _ _ => simp
theorem dg_ab (k : Nat) : ∀ es : List Ed, dgE es k = (es.filter fun e => decide (e.1 = k)).length + (es.filter fun e => decide (e.2.2 = k)).length
  | [] => rfl
  | e :: es => by
    have ih := dg_ab k es
    unfold dgE at ih ⊢
    rw [List.map_cons, List.sum_cons, ih, List.filter_cons, List.filter_cons]
    by_cases a : e.1 = k <;> by_cases b : e.2.2 = k <;> simp [a, b] <;> omega
theorem dg_two {es : List Ed} {k q q' x y : Nat} (h : Stp es q x k) (h' : Stp es k y q') (ne : x ≠ sw y) : 2 ≤ dgE es k := by
  rw [dg_ab]
  have fa : ∀ e ∈ es, e.1 = k → e ∈ es.filter fun e => decide (e.1 = k) := fun e he z => List.mem_filter.mpr ⟨he, decide_eq_true z⟩
  have fb : ∀ e ∈ es, e.2.2 = k → e ∈ es.filter fun e => decide (e.2.2 = k) := fun e he z => List.mem_filter.mpr ⟨he, decide_eq_true z⟩
  rcases h with ⟨_, h⟩ | ⟨_, hx, h⟩
  · rcases h' with ⟨_, h'⟩ | ⟨_, _, h'⟩
    · have := one_le (fb _ h rfl)
      have := one_le (fa _ h' rfl)
      omega
    · have := two_le (fb _ h rfl) (fb _ h' rfl) (fun z => ne (congrArg (fun e : Ed => e.2.1) z))
      omega
  · rcases h' with ⟨_, h'⟩ | ⟨_, _, h'⟩
    · have := two_le (fa _ h rfl) (fa _ h' rfl) (fun z => ne (by
        have : sw x = y := congrArg (fun e : Ed => e.2.1) z
        rw [← this, sw_sw hx]))
      omega
    · have := one_le (fa _ h rfl)
      have := one_le (fb _ h' rfl)
      omega
/-- each vertex but 0 is gone through -/
theorem two_at {r : Nat} {ws : List (List Nat)} {l ls : List Nat} (hw : ∀ w ∈ ws, Lts w) (hz : ∀ w ∈ ws, w.length ≤ r) (hl : ∀ w ∈ ws, ∀ c ∈ w, c ∈ ls) (hA : Asc ls) (L : Lsq (ptl ws).1 (ptl ws).2.1 (ptl ws).2.2 l) (G : GrOk ws l ls) {k : Nat} (z : 1 ≤ k) (hk : k < (famG ws l ls).1) : ∃ q x y q', Stp (famG ws l ls).2 q x k ∧ Stp (famG ws l ls).2 k y q' ∧ x ≠ sw y := by
  have P1 := (ptl_ok hw).len
  have M := mvs_mv G.bd
  obtain ⟨t, c, ht, hs⟩ := fw_tree M hA (by omega) z hk
  have W := (WI.range (ls := ls) M (show 0 < (ptl ws).2.2 by omega) (ptl ws).2.2).1
  have ix : ∀ i, i < (famG ws l ls).1 → (DL.fw (mvs (fE l (ptl ws).1)) ls 0 (ptl ws).2.2).1.idxOf ((DL.fw (mvs (fE l (ptl ws).1)) ls 0 (ptl ws).2.2).1.getD i 0) = i := fun i hi => by
    have hi : i < (DL.fw (mvs (fE l (ptl ws).1)) ls 0 (ptl ws).2.2).1.length := hi
    rw [List.getD_eq_getElem?_getD, List.getElem?_eq_getElem hi, Option.getD_some]
    exact List.Nodup.idxOf_getElem W.nd i hi
  have st := ((stO_mem G.fld.sm hs).map fun p => (DL.fw (mvs (fE l (ptl ws).1)) ls 0 (ptl ws).2.2).1.idxOf p).sub (fs := (famG ws l ls).2) fun e he => by
    obtain ⟨f, hf, rfl⟩ := List.mem_map.mp he
    exact mem_numG.mpr ⟨f, hf, rfl⟩
  rw [ix t (by omega), ix k hk] at st
  obtain ⟨w, hw', a, b, h⟩ := trv_stp (P := fun w => ∃ v ∈ ws, w = DL.fold v) (fun e he => by
    obtain ⟨w, hw', t⟩ := G.trv hw L e he
    exact ⟨_, ⟨w, hw', rfl⟩, t⟩) st
  obtain ⟨v, hv, rfl⟩ := hw'
  have hr := fold_red (hw v hv)
  have hfl := fold_lts (hw v hv)
  rcases h with ⟨e, h1, h2⟩ | ⟨e, h1, h2⟩
  · cases b with
    | nil =>
      have : k = 0 := h2
      omega
    | cons d b =>
      obtain ⟨q', s2, _⟩ := h2
      refine ⟨t, c, d, q', st, s2, ?_⟩
      rw [e] at hr
      have : red (a ++ [c] ++ [d] ++ b) := by simpa using hr
      have hp : ∀ {u v : List Nat}, red (u ++ v) → red u := by
        intro u
        induction u with
        | nil => intro v _; simp [red]
        | cons x u ih =>
          intro v hv
          cases u with
          | nil => simp [red]
          | cons y u => exact ⟨hv.1, ih (v := v) hv.2⟩
      exact red_snoc (hp this)
  · rcases List.eq_nil_or_concat a with rfl | ⟨a', d, rfl⟩
    · have : 0 = k := h1
      omega
    · rw [List.concat_eq_append] at h1 e
      obtain ⟨q, _, hq⟩ := h1.split
      obtain ⟨k', s1, hk'⟩ := hq
      obtain rfl : k' = k := hk'
      refine ⟨q, d, sw c, t, s1, st.back, ?_⟩
      rw [e] at hr
      have : red (a' ++ [d] ++ [sw c] ++ b) := by simpa using hr
      have hp : ∀ {u v : List Nat}, red (u ++ v) → red u := by
        intro u
        induction u with
        | nil => intro v _; simp [red]
        | cons x u ih =>
          intro v hv
          cases u with
          | nil => simp [red]
          | cons y u => exact ⟨hv.1, ih (v := v) hv.2⟩
      exact red_snoc (hp this)
theorem ok_law {f : Addr} {fd : FuncData} (T : Txt mg) (F : Fun K "law" "law" s_law f fd) (TX : Txx K mg) (c_law_changed : C8.Cal P w K mg base 2 "_law_changed" (PF fs_law_changed) []) (c_law_due : C8.Cal P w K mg base 2 "_law_due" (PF fs_law_due) []) (c_law_equal : C8.Cal P w K mg base 6 "_law_equal" (PF fs_law_equal) []) (c_law_family : C8.Cal P w K mg base 3 "_law_family" (PF fs_law_family) []) (c_law_next : C8.Cal P w K mg base 1 "_law_next" (PF fs_law_next) []) (c_law_stream : C8.Cal P w K mg base 1 "_law_stream" (spStream K) []) (c_graph_of : C8.Cal P w K mg base 5 "graph_of" (PF fs_graph_of) []) (c_is_neat : C8.Cal P w K mg base 4 "is_neat" (PF fs_is_neat) []) (cx_is_neat : CalX P w K mg base 4 "is_neat" (PFX mg fx_is_neat)) : FnOk P w K mg base CX0 7 f fd ["script"] (spLaw K) := by
  obtain ⟨C_BadValue, G_BadValue⟩ := TX.k_BadValue
  refine F.ok sc_law (fun vs H Q E h => ?_) (fun cdv A outer s H vs Q E hr h => ⟨_, (pss_cons (ps_set (i := 1) sc_law.nd rfl (by first | exact Or.inl rfl | exact Or.inr rfl) (C8.pe_c c_law_stream hr (by first | decide | omega) (by rfl) (pa_cons (pv 0) pa_nil))) (pss_cons (ps_set (i := 2) sc_law.nd rfl (by first | exact Or.inl rfl | exact Or.inr rfl) (C8.pe_c c_law_family hr (by first | decide | omega) (by rfl) (pa_cons (pv 1) pa_nil))) (pss_cons (ps_set (i := 3) sc_law.nd rfl (by first | exact Or.inl rfl | exact Or.inr rfl) (C8.pe_c c_graph_of hr (by first | decide | omega) (by rfl) (pa_cons (pv 2) pa_nil))) (pss_cons (ps_set (i := 4) sc_law.nd rfl (by first | exact Or.inl rfl | exact Or.inr rfl) (C8.pe_c c_law_changed hr (by first | decide | omega) (by rfl) (pa_cons (pv 1) (pa_cons (pe_ix ix_tup (pv 2) pe_int (fun _ _ => rfl)) (pa_cons (pv 3) pa_nil))))) (pss_cons (ps_if (PW.pt (pw_or (pt_cmpR op_notBl (C8.pe_c c_is_neat hr (by first | decide | omega) (by rfl) (pa_cons (pe_ix ix_tup (pv 2) pe_int (fun _ _ => rfl)) (pa_cons (pv 3) pa_nil))) pe_bl (nomark _)) (pw_or1 (pt_not (pt_val (C8.pe_c c_law_equal hr (by first | decide | omega) (by rfl) (pa_cons (C8.pe_c c_is_neat hr (by first | decide | omega) (by rfl) (pa_cons (pe_ix ix_tup (pv 2) pe_int (fun _ _ => rfl)) (pa_cons (pv 4) pa_nil))) (pa_cons (C8.pe_c c_law_due hr (by first | decide | omega) (by rfl) (pa_cons (pe_ix ix_tup (pv 2) pe_int (fun _ _ => rfl)) (pa_cons (pv 4) pa_nil))) pa_nil)))))))) (pss_one (ps_ret pe_bl)) pss_nil) (pss_cons (ps_tryA (i := 5) rfl rfl sc_law.nd rfl rfl ⟨rfl, by decide, .inl G_BadValue⟩ takes0 (fun W pn xe tk pw => (pss_one (ps_expr (pe_xj c_is_neat cx_is_neat hr (by first | decide | omega) (by rfl) tk (pa_cons (pe_ix (show IxR _ (rIxL K) by exact ix_list) (pe_lst (pa_cons pe_int (pa_cons pe_int (pa_cons pe_non (pa_cons pe_bl (pa_cons pe_str pa_nil)))))) (C8.pe_c c_law_next hr (by first | decide | omega) (by rfl) (pa_cons (pv 1) (pa_cons pe_int pa_nil))) (fun _ _ => rfl)) (pa_cons (pv 3) pa_nil)))))) (fun a oe cls d pn hz hf => (pss_one (ps_ret (pe_cmpR op_eq (pe_xe hz hf (pv 5)) pe_str (nomark _)))))) (pss_one (ps_ret pe_bl)))))))), law_read rfl ?_ vs H Q E h⟩)
  · obtain ⟨a, ns, rfl, _⟩ := h
    rfl
  show Ds _ [.any, .dat .stm, .any, .any, .any, .any] _ _ _ _
  repeat walk_at "dl"
  refine ⟨(), rfl, trivial, fun d hd => ?_⟩
  obtain ⟨r, ws, rfl, hF⟩ := hd
  obtain ⟨h1, h3, h4, hok⟩ := id hF
  have hL := fam_lts hF
  repeat walk_at "dl"
  refine ⟨(r, ws), rfl, hF, fun d hd => ?_⟩
  obtain ⟨l, hl, rfl⟩ := hd
  have hl : SqF ws l := hl
  obtain ⟨G, N, nd, e32, v33⟩ := fam_all hF hl
  have M := mvs_mv N.bd
  have hsm : ∀ e ∈ (famG ws l (LS r)).2, e.2.1 ∈ smL r := fun e he => fam_smL hF e he (N.fld.sm e he)
  have hbd : ∀ e ∈ (famG ws l (LS r)).2, e.1 < (famG ws l (LS r)).1 ∧ e.2.2 < (famG ws l (LS r)).1 := N.bd
  have hnt : IsGr r (grD (famG ws l (LS r))) (famG ws l (LS r)).1 (famG ws l (LS r)).2 ∧ NtP r (famG ws l (LS r)).1 (famG ws l (LS r)).2 := by
    refine ⟨⟨rfl, N.pos, (G.bounds hL (ascLS r) hl).2.2.1, fun e he => ⟨by have := (hbd e he).1; omega, by have := (hbd e he).2; omega, hsm e he⟩, ascE_iff.mpr ⟨?_, nd⟩⟩, FdP.of N.fld nd, ?_, fun v a b => ?_⟩
    · have pw3 := PySem.W.sort_pairwise (PySem.W.sortLe_total (PyProof.Rows.listOrd PyProof.Rows.itemOrd) false fun e : Ed => (edK e).map TK.tokK) (dd ((fE l (ptl ws).1).map (nmE (fw (mvs (fE l (ptl ws).1)) (LS r) 0 (ptl ws).2.2).1)))
      have pw : ((famG ws l (LS r)).2.map edK).Pairwise fun a b => TK.leK a b = true := List.pairwise_map.mpr pw3
      have := srtE_only (List.Perm.refl _) pw
      have inj : ∀ {a b : List Ed}, a.map edK = b.map edK → b = a := by
        intro a
        induction a with
        | nil => intro b hb; cases b with
          | nil => rfl
          | cons x b => cases hb
        | cons x a ih => intro b hb; cases b with
          | nil => cases hb
          | cons y b =>
            rw [List.map_cons, List.map_cons] at hb
            injection hb with p q
            rw [edK_inj p, ih q]
      exact inj this
    · rw [fam_fw hF hl _ (Nat.le_refl _)]
    · obtain ⟨q, x, y, q', s1, s2, ne⟩ := two_at hL (fun w hw => (okF_lts hF w hw).2) (fun w hw => (hok w hw).2) (ascLS r) hl G a b
      exact dg_two s1 s2 ne
  have hgv : GrV (grD (famG ws l (LS r))) := grv_ed _ (by rw [List.length_map]; omega) fun d hd => by
    obtain ⟨e, _, rfl⟩ := List.mem_map.mp hd
    exact edv_ed e
  have hpre : 1 ≤ (famG ws l (LS r)).1 ∧ (famG ws l (LS r)).1 ≤ 100 ∧ (famG ws l (LS r)).2.length ≤ 100 := ⟨N.pos, by omega, by omega⟩
  have hpe : ∀ e ∈ (famG ws l (LS r)).2, (e.1 < (famG ws l (LS r)).1 ∧ e.2.2 < (famG ws l (LS r)).1) ∧ e.2.1 ∈ SM := fun e he => ⟨hbd e he, N.fld.sm e he⟩
  clear G N nd e32 v33 M hsm hbd
  generalize famG ws l (LS r) = g at *
  refine ds_seq (ds_set ?_)
  repeat walk_at "de"
  refine dop_ixt (c := .int r) rfl ?_
  repeat walk_at "de"
  refine ⟨(r, g), rfl, ⟨h1, h3, hpre, hpe⟩, fun v hv => ?_⟩
  have hv : GrV v := hv
  try dsimp only [List.set]
  refine ds_seq (ds_if (dt_or ?_))
  repeat walk_at "de"
  refine dop_ixt (c := .int r) rfl ?_
  repeat walk_at "de"
  refine ⟨(r, grD g), rfl, ⟨h1, h3, hgv⟩, fun d hd => ?_⟩
  obtain ⟨b, rfl, hb⟩ := hd
  obtain rfl : b = true := hb.mpr ⟨_, _, hnt.1, hnt.2⟩
  repeat walk_at "de"
  refine dop_ixt (c := .int r) rfl ?_
  repeat walk_at "de"
  refine ⟨(r, v), rfl, ⟨h1, h3, hv⟩, fun d hd => ?_⟩
  obtain ⟨b1, rfl, hb1⟩ := hd
  repeat walk_at "de"
  refine dop_ixt (c := .int r) rfl ?_
  repeat walk_at "de"
  refine ⟨(r, v), rfl, ⟨h1, h3, hv⟩, fun d hd => ?_⟩
  obtain ⟨b2, rfl, hb2⟩ := hd
  obtain rfl : b1 = b2 := by
    have := hb1.trans hb2.symm
    cases b1 <;> cases b2 <;> simp at this <;> rfl
  refine da_nil ⟨.bl b1, rfl, trivial, fun d hd => ?_⟩
  obtain rfl : d = .bl true := hd
  repeat walk_at "de"
  refine ds_next ?_
  refine ds_seq (ds_try (mg := mg) (fun e x => e = [.any, .dat .stm, .dat (famD r ws), .dat (grD g), .dat v, .any] ∧ x = xBad q_rank) (fun W => ?_) fun e x hx C hC => ?_)
  · refine dw_drop (dew_callJ ?_)
    repeat walk_at "de"
    refine ⟨(5 : Int), rfl, ⟨by decide, by decide⟩, fun d hd => ?_⟩
    obtain ⟨i, rfl, i1, i2⟩ := hd
    refine dop_ixlm i1 (by simpa using i2) fun x hx => ?_
    have hx : okD x = true ∧ isInt x 1 3 = false := by
      simp only [List.mem_cons, List.not_mem_nil, or_false] at hx
      rcases hx with rfl | rfl | rfl | rfl | rfl <;> exact ⟨by decide, by decide⟩
    repeat walk_at "de"
    exact .inr ⟨(x, grD g), rfl, hx, fun d hd => hd.elim, fun x hx => ⟨rfl, hx⟩⟩
  · obtain ⟨rfl, rfl⟩ := hx
    obtain ⟨g1, g2⟩ := TX.f_BadValue C hC
    refine ⟨TX.e_BadValue_BadValue C C_BadValue hC G_BadValue, fun a dd => ds_ret ?_⟩
    repeat walk_at "de"
    refine de_xe rfl rfl g1.xf g2 (de_var rfl ⟨_, _, _, rfl, rfl, ?_⟩)
    repeat walk_at "de"
    rfl
end
end Law
namespace Law
open PySem PySem.Spec PyProof.Rows L2 DL
theorem all_mk {l : PySem.W.OpenLaw} {w : World} {K : PySem.W.Frag} {h : Heap} {mg : Str → Option Value} {fa f : Addr} (X : K.In h) (G : h.Ns mainGlobals mg) (hfa : mg "law" = some (.ref fa)) (T : Txt mg)
    (d_is_tuple : Df K mg "is_tuple" s_is_tuple ["value", "many"])
    (d_is_integer : Df K mg "is_integer" s_is_integer ["value", "least", "most"])
    (d_is_rank : Df K mg "is_rank" s_is_rank ["value"])
    (d_letters_of : Df K mg "letters_of" s_letters_of ["rank"])
    (d_is_spelled : Df K mg "is_spelled" s_is_spelled ["value", "rank", "most"])
    (d_is_family : Df K mg "is_family" s_is_family ["value"])
    (d_check_rank : Df K mg "check_rank" s_check_rank ["value"])
    (d_opposite : Df K mg "opposite" s_opposite ["letter"])
    (d_moves_along : Df K mg "moves_along" s_moves_along ["edges"])
    (d_first_ways : Df K mg "first_ways" s_first_ways ["moves", "letters", "start"])
    (d_count_ends : Df K mg "count_ends" s_count_ends ["edges"])
    (d_small_letters_of : Df K mg "small_letters_of" s_small_letters_of ["rank"])
    (d_is_edge : Df K mg "is_edge" s_is_edge ["rank", "vertices", "value"])
    (d_is_graph : Df K mg "is_graph" s_is_graph ["rank", "value"])
    (d_is_neat : Df K mg "is_neat" s_is_neat ["rank", "value"])
    (d_law_next : Df K mg "_law_next" s_law_next ["stream", "many"])
    (d_law_changed : Df K mg "_law_changed" s_law_changed ["stream", "rank", "graph"])
    (d_law_stream : Df K mg "_law_stream" s_law_stream ["script"])
    (d_law_word : Df K mg "_law_word" s_law_word ["stream", "rank", "most"])
    (d_law_family : Df K mg "_law_family" s_law_family ["stream"])
    (d_check_family : Df K mg "check_family" s_check_family ["value"])
    (d_folded : Df K mg "folded" s_folded ["word"])
    (d_edge_behind : Df K mg "edge_behind" s_edge_behind ["place", "letter", "point"])
    (d_petals_of : Df K mg "petals_of" s_petals_of ["given"])
    (d_identify : Df K mg "identify" s_identify ["least", "one", "other"])
    (d_fold_once : Df K mg "fold_once" s_fold_once ["least", "edges"])
    (d_least_points : Df K mg "least_points" s_least_points ["edges", "ends"])
    (d_numbered : Df K mg "numbered" s_numbered ["rank", "edges", "first"])
    (d_folded_graph : Df K mg "folded_graph" s_folded_graph ["family"])
    (d_graph_of : Df K mg "graph_of" s_graph_of ["family"])
    (d_law_is_integer : Df K mg "_law_is_integer" s_law_is_integer ["actual"])
    (d_law_equal : Df K mg "_law_equal" s_law_equal ["actual", "due"])
    (d_law_due : Df K mg "_law_due" s_law_due ["rank", "value"])
     (m_BadValue : MakX K mg "BadValue" ["name"]) (TX : Txx K mg)
    {oc kV dc pm cd ct : Value} {od an : Option Addr} {sl : Array (Option Value)} (a : PySem.W.nsIn K mainGlobals "law" = some (some (.ref f))) (lk : K.lookup f = some ⟨oc, od, .func (PySem.W.fnOf "law" "law" (defArgs s_law) (defBody s_law) (defScope s_law) .none kV dc pm an cd ct), sl⟩) (c : PySem.W.codeIn K cd "law" = true) (k : PySem.W.keepIn K (.ref f) = true) :
    ∃ fd : FuncData, (∀ (s : Shared) (v : Value), BindsTo s fd ⟨[v], []⟩ [("script", v)]) ∧ ∀ base : Heap, K.In base → base.Ns mainGlobals mg → FnOk l.prog w K mg base CX0 7 fa fd ["script"] (spLaw K) := by
  have e := hfa.symm.trans (PySem.W.mg_of X G a)
  cases e
  refine ⟨PySem.W.fnOf "law" "law" (defArgs s_law) (defBody s_law) (defScope s_law) .none kV dc pm an cd ct, fun s v => .of_eq rfl, fun base _ _ => ?_⟩
  have c_is_tuple : C8.Cal l.prog w K mg base 1 "is_tuple" (PF fs_is_tuple) [] := ok_is_tuple T d_is_tuple
  have c_is_integer : C8.Cal l.prog w K mg base 1 "is_integer" (PF fs_is_integer) [] := ok_is_integer T d_is_integer
  have c_is_rank : C8.Cal l.prog w K mg base 2 "is_rank" (PF fs_is_rank) [] := ok_is_rank T d_is_rank c_is_integer
  have c_letters_of : C8.Cal l.prog w K mg base 1 "letters_of" (PF fs_letters_of) [] := ok_letters_of T d_letters_of
  have c_is_spelled : C8.Cal l.prog w K mg base 2 "is_spelled" (PF fs_is_spelled) [] := ok_is_spelled T d_is_spelled c_letters_of
  have c_is_family : C8.Cal l.prog w K mg base 3 "is_family" (PF fs_is_family) [] := ok_is_family T d_is_family c_is_rank c_is_spelled c_is_tuple
  have c_check_rank : C8.Cal l.prog w K mg base 3 "check_rank" (PF fs_check_rank) [] := ok_check_rank T d_check_rank c_is_rank
  have cx_check_rank : CalX l.prog w K mg base 3 "check_rank" (PFX mg fx_check_rank) := okx_check_rank T d_check_rank m_BadValue c_is_rank
  have c_opposite : C8.Cal l.prog w K mg base 1 "opposite" (PF fs_opposite) [] := ok_opposite T d_opposite
  have c_moves_along : C8.Cal l.prog w K mg base 2 "moves_along" (PF fs_moves_along) [] := ok_moves_along T d_moves_along c_opposite
  have c_first_ways : C8.Cal l.prog w K mg base 1 "first_ways" (PF fs_first_ways) [] := ok_first_ways T d_first_ways
  have c_count_ends : C8.Cal l.prog w K mg base 1 "count_ends" (PF fs_count_ends) [] := ok_count_ends T d_count_ends
  have c_small_letters_of : C8.Cal l.prog w K mg base 1 "small_letters_of" (PF fs_small_letters_of) [] := ok_small_letters_of T d_small_letters_of
  have c_is_edge : C8.Cal l.prog w K mg base 2 "is_edge" (PF fs_is_edge) [] := ok_is_edge T d_is_edge c_is_integer c_is_tuple c_small_letters_of
  have c_is_graph : C8.Cal l.prog w K mg base 3 "is_graph" (PF fs_is_graph) [] := ok_is_graph T d_is_graph c_is_edge c_is_integer c_is_tuple
  have c_is_neat : C8.Cal l.prog w K mg base 4 "is_neat" (PF fs_is_neat) [] := ok_is_neat T d_is_neat c_check_rank c_count_ends c_first_ways c_is_graph c_letters_of c_moves_along
  have cx_is_neat : CalX l.prog w K mg base 4 "is_neat" (PFX mg fx_is_neat) := okx_is_neat T d_is_neat c_count_ends c_first_ways c_is_graph c_letters_of c_moves_along cx_check_rank
  have c_law_next : C8.Cal l.prog w K mg base 1 "_law_next" (PF fs_law_next) [] := ok_law_next T d_law_next
  have c_law_changed : C8.Cal l.prog w K mg base 2 "_law_changed" (PF fs_law_changed) [] := ok_law_changed T d_law_changed c_law_next
  have c_law_stream : C8.Cal l.prog w K mg base 1 "_law_stream" (spStream K) [] := ok_law_stream T d_law_stream
  have c_law_word : C8.Cal l.prog w K mg base 2 "_law_word" (PF fs_law_word) [] := ok_law_word T d_law_word c_law_next
  have c_law_family : C8.Cal l.prog w K mg base 3 "_law_family" (PF fs_law_family) [] := ok_law_family T d_law_family c_law_next c_law_word
  have c_check_family : C8.Cal l.prog w K mg base 4 "check_family" (PF fs_check_family) [] := ok_check_family T d_check_family c_is_family
  have c_folded : C8.Cal l.prog w K mg base 1 "folded" (PF fs_folded) [] := ok_folded T d_folded
  have c_edge_behind : C8.Cal l.prog w K mg base 2 "edge_behind" (PF fs_edge_behind) [] := ok_edge_behind T d_edge_behind c_opposite
  have c_petals_of : C8.Cal l.prog w K mg base 3 "petals_of" (PF fs_petals_of) [] := ok_petals_of T d_petals_of c_edge_behind c_folded
  have c_identify : C8.Cal l.prog w K mg base 1 "identify" (PF fs_identify) [] := ok_identify T d_identify
  have c_fold_once : C8.Cal l.prog w K mg base 2 "fold_once" (PF fs_fold_once) [] := ok_fold_once T d_fold_once c_identify c_opposite
  have c_least_points : C8.Cal l.prog w K mg base 3 "least_points" (PF fs_least_points) [] := ok_least_points T d_least_points c_fold_once c_identify
  have c_numbered : C8.Cal l.prog w K mg base 3 "numbered" (PF fs_numbered) [] := ok_numbered T d_numbered c_first_ways c_letters_of c_moves_along
  have c_folded_graph : C8.Cal l.prog w K mg base 4 "folded_graph" (PF fs_folded_graph) [] := ok_folded_graph T d_folded_graph c_least_points c_numbered c_petals_of
  have c_graph_of : C8.Cal l.prog w K mg base 5 "graph_of" (PF fs_graph_of) [] := ok_graph_of T d_graph_of c_check_family c_folded_graph
  have c_law_is_integer : C8.Cal l.prog w K mg base 1 "_law_is_integer" (PF fs_law_is_integer) [] := ok_law_is_integer T d_law_is_integer
  have c_law_equal : C8.Cal l.prog w K mg base 6 "_law_equal" (PF fs_law_equal) [] := ok_law_equal T d_law_equal c_law_is_integer
  have c_law_due : C8.Cal l.prog w K mg base 2 "_law_due" (PF fs_law_due) [] := ok_law_due T d_law_due c_law_is_integer
  exact ok_law T (fun_mk (st := s_law) lk c k) TX c_law_changed c_law_due c_law_equal c_law_family c_law_next c_law_stream c_graph_of c_is_neat cx_is_neat
end Law
open PySem PySem.W PyProof.Rows L2 DL
set_option maxRecDepth 100000 in
set_option maxHeartbeats 0 in
theorem PySem.Challenge.cw_foldedways_k21_neat_graphs_holds : PySem.Challenge.rw_foldedways_k21_neat_graphs.Holds := by
  w_on; o_law; k_head; (case hw => w_witness2)
  k_fill
  refine L2.walk_of (l := PySem.Challenge.rw_foldedways_k21_neat_graphs) (n := 63) (k := 7) (x := "script") (CX := fun _ => L2.CX0) (sp := fun w => DL.spLaw _) rfl (by decide) rfl ⟨rfl, by decide, by decide⟩ (fun w h Y => PySem.W.kIn_of Y) ?F (fun _ _ a ns hl _ hS => ⟨a, ns, rfl, hS, hl, fun _ => rfl⟩) (fun _ _ _ _ _ h => h)
  case F =>
    intro w mg fa h KX G hmg
    have T : Law.Txt mg := by
      have c_HIGHEST_RANK : ∃ u, mg "HIGHEST_RANK" = some u ∧ RelV (.int 3) u := by
        refine' mg_intK KX G ?zzq
        (case zzq => k_is)
      have c_LETTERS : ∃ u, mg "LETTERS" = some u ∧ RelV (.str "aAbBcC") u := by
        refine' mg_strK KX G ?zzq
        (case zzq => k_is)
      have c_MOST_GIVEN : ∃ u, mg "MOST_GIVEN" = some u ∧ RelV (.int 4) u := by
        refine' mg_intK KX G ?zzq
        (case zzq => k_is)
      have c_MOST_GIVEN_LETTERS : ∃ u, mg "MOST_GIVEN_LETTERS" = some u ∧ RelV (.int 8) u := by
        refine' mg_intK KX G ?zzq
        (case zzq => k_is)
      have c_SMALL_LETTERS : ∃ u, mg "SMALL_LETTERS" = some u ∧ RelV (.str "abc") u := by
        refine' mg_strK KX G ?zzq
        (case zzq => k_is)
      refine ⟨?b_abs, ?b_all, ?b_bool, ?b_enumerate, ?b_int, ?b_isinstance, ?b_len, ?b_list, ?b_max, ?b_min, ?b_range, ?b_sorted, ?b_str, ?b_sum, ?b_tuple, ?b_zip, c_HIGHEST_RANK, c_LETTERS, c_MOST_GIVEN, c_MOST_GIVEN_LETTERS, c_SMALL_LETTERS⟩
      (case b_abs => (refine' PySem.W.mg_none_of KX G ?zzq; (case zzq => k_is)))
      (case b_all => (refine' PySem.W.mg_none_of KX G ?zzq; (case zzq => k_is)))
      (case b_bool => (refine' PySem.W.mg_none_of KX G ?zzq; (case zzq => k_is)))
      (case b_enumerate => (refine' PySem.W.mg_none_of KX G ?zzq; (case zzq => k_is)))
      (case b_int => (refine' PySem.W.mg_none_of KX G ?zzq; (case zzq => k_is)))
      (case b_isinstance => (refine' PySem.W.mg_none_of KX G ?zzq; (case zzq => k_is)))
      (case b_len => (refine' PySem.W.mg_none_of KX G ?zzq; (case zzq => k_is)))
      (case b_list => (refine' PySem.W.mg_none_of KX G ?zzq; (case zzq => k_is)))
      (case b_max => (refine' PySem.W.mg_none_of KX G ?zzq; (case zzq => k_is)))
      (case b_min => (refine' PySem.W.mg_none_of KX G ?zzq; (case zzq => k_is)))
      (case b_range => (refine' PySem.W.mg_none_of KX G ?zzq; (case zzq => k_is)))
      (case b_sorted => (refine' PySem.W.mg_none_of KX G ?zzq; (case zzq => k_is)))
      (case b_str => (refine' PySem.W.mg_none_of KX G ?zzq; (case zzq => k_is)))
      (case b_sum => (refine' PySem.W.mg_none_of KX G ?zzq; (case zzq => k_is)))
      (case b_tuple => (refine' PySem.W.mg_none_of KX G ?zzq; (case zzq => k_is)))
      (case b_zip => (refine' PySem.W.mg_none_of KX G ?zzq; (case zzq => k_is)))
    have m_BadValue := DL.makX1 (x := "BadValue") (f := "name") (qual := "BadValue.__init__") (st := Law.s_BadValue_init) KX G (by k_is) (DL.oexC_of (by k_is) (by decide +kernel) (by k_is) (by k_is) (by k_is) (by k_is)) (by k_is) (by k_is) (by k_is) (by k_is) (by k_is) (by k_is) ⟨rfl, rfl, rfl, by decide +kernel, rfl, by decide +kernel, by decide +kernel⟩ rfl (by first | exact Or.inl rfl | exact Or.inr (Or.inl rfl) | exact Or.inr (Or.inr rfl)) (by first | exact Or.inl rfl | exact Or.inr (Or.inl rfl) | exact Or.inr (Or.inr rfl)) (by decide) (by decide) (fun _ _ _ _ _ _ us hl => match us, hl with | [_, _], _ => rfl)
    have TX := Law.txx_mk KX G (by k_is) (by k_is) (by k_is) (by k_is) (by k_is) (by k_is) (by k_is) (by k_is) (by k_is) (by k_is) (by k_is) (by k_is) (by k_is) (by k_is) (by k_is)
    have d_is_tuple := DL.df_mk (x := "is_tuple") (st := Law.s_is_tuple) (ps := ["value", "many"]) KX G (by k_is) (by k_is) (by k_is) (by k_is) (fun _ _ _ _ _ _ us hl => match us, hl with | [_, _], _ => rfl)
    have d_is_integer := DL.df_mk (x := "is_integer") (st := Law.s_is_integer) (ps := ["value", "least", "most"]) KX G (by k_is) (by k_is) (by k_is) (by k_is) (fun _ _ _ _ _ _ us hl => match us, hl with | [_, _, _], _ => rfl)
    have d_is_rank := DL.df_mk (x := "is_rank") (st := Law.s_is_rank) (ps := ["value"]) KX G (by k_is) (by k_is) (by k_is) (by k_is) (fun _ _ _ _ _ _ us hl => match us, hl with | [_], _ => rfl)
    have d_letters_of := DL.df_mk (x := "letters_of") (st := Law.s_letters_of) (ps := ["rank"]) KX G (by k_is) (by k_is) (by k_is) (by k_is) (fun _ _ _ _ _ _ us hl => match us, hl with | [_], _ => rfl)
    have d_is_spelled := DL.df_mk (x := "is_spelled") (st := Law.s_is_spelled) (ps := ["value", "rank", "most"]) KX G (by k_is) (by k_is) (by k_is) (by k_is) (fun _ _ _ _ _ _ us hl => match us, hl with | [_, _, _], _ => rfl)
    have d_is_family := DL.df_mk (x := "is_family") (st := Law.s_is_family) (ps := ["value"]) KX G (by k_is) (by k_is) (by k_is) (by k_is) (fun _ _ _ _ _ _ us hl => match us, hl with | [_], _ => rfl)
    have d_check_rank := DL.df_mk (x := "check_rank") (st := Law.s_check_rank) (ps := ["value"]) KX G (by k_is) (by k_is) (by k_is) (by k_is) (fun _ _ _ _ _ _ us hl => match us, hl with | [_], _ => rfl)
    have d_opposite := DL.df_mk (x := "opposite") (st := Law.s_opposite) (ps := ["letter"]) KX G (by k_is) (by k_is) (by k_is) (by k_is) (fun _ _ _ _ _ _ us hl => match us, hl with | [_], _ => rfl)
    have d_moves_along := DL.df_mk (x := "moves_along") (st := Law.s_moves_along) (ps := ["edges"]) KX G (by k_is) (by k_is) (by k_is) (by k_is) (fun _ _ _ _ _ _ us hl => match us, hl with | [_], _ => rfl)
    have d_first_ways := DL.df_mk (x := "first_ways") (st := Law.s_first_ways) (ps := ["moves", "letters", "start"]) KX G (by k_is) (by k_is) (by k_is) (by k_is) (fun _ _ _ _ _ _ us hl => match us, hl with | [_, _, _], _ => rfl)
    have d_count_ends := DL.df_mk (x := "count_ends") (st := Law.s_count_ends) (ps := ["edges"]) KX G (by k_is) (by k_is) (by k_is) (by k_is) (fun _ _ _ _ _ _ us hl => match us, hl with | [_], _ => rfl)
    have d_small_letters_of := DL.df_mk (x := "small_letters_of") (st := Law.s_small_letters_of) (ps := ["rank"]) KX G (by k_is) (by k_is) (by k_is) (by k_is) (fun _ _ _ _ _ _ us hl => match us, hl with | [_], _ => rfl)
    have d_is_edge := DL.df_mk (x := "is_edge") (st := Law.s_is_edge) (ps := ["rank", "vertices", "value"]) KX G (by k_is) (by k_is) (by k_is) (by k_is) (fun _ _ _ _ _ _ us hl => match us, hl with | [_, _, _], _ => rfl)
    have d_is_graph := DL.df_mk (x := "is_graph") (st := Law.s_is_graph) (ps := ["rank", "value"]) KX G (by k_is) (by k_is) (by k_is) (by k_is) (fun _ _ _ _ _ _ us hl => match us, hl with | [_, _], _ => rfl)
    have d_is_neat := DL.df_mk (x := "is_neat") (st := Law.s_is_neat) (ps := ["rank", "value"]) KX G (by k_is) (by k_is) (by k_is) (by k_is) (fun _ _ _ _ _ _ us hl => match us, hl with | [_, _], _ => rfl)
    have d_law_next := DL.df_mk (x := "_law_next") (st := Law.s_law_next) (ps := ["stream", "many"]) KX G (by k_is) (by k_is) (by k_is) (by k_is) (fun _ _ _ _ _ _ us hl => match us, hl with | [_, _], _ => rfl)
    have d_law_changed := DL.df_mk (x := "_law_changed") (st := Law.s_law_changed) (ps := ["stream", "rank", "graph"]) KX G (by k_is) (by k_is) (by k_is) (by k_is) (fun _ _ _ _ _ _ us hl => match us, hl with | [_, _, _], _ => rfl)
    have d_law_stream := DL.df_mk (x := "_law_stream") (st := Law.s_law_stream) (ps := ["script"]) KX G (by k_is) (by k_is) (by k_is) (by k_is) (fun _ _ _ _ _ _ us hl => match us, hl with | [_], _ => rfl)
    have d_law_word := DL.df_mk (x := "_law_word") (st := Law.s_law_word) (ps := ["stream", "rank", "most"]) KX G (by k_is) (by k_is) (by k_is) (by k_is) (fun _ _ _ _ _ _ us hl => match us, hl with | [_, _, _], _ => rfl)
    have d_law_family := DL.df_mk (x := "_law_family") (st := Law.s_law_family) (ps := ["stream"]) KX G (by k_is) (by k_is) (by k_is) (by k_is) (fun _ _ _ _ _ _ us hl => match us, hl with | [_], _ => rfl)
    have d_check_family := DL.df_mk (x := "check_family") (st := Law.s_check_family) (ps := ["value"]) KX G (by k_is) (by k_is) (by k_is) (by k_is) (fun _ _ _ _ _ _ us hl => match us, hl with | [_], _ => rfl)
    have d_folded := DL.df_mk (x := "folded") (st := Law.s_folded) (ps := ["word"]) KX G (by k_is) (by k_is) (by k_is) (by k_is) (fun _ _ _ _ _ _ us hl => match us, hl with | [_], _ => rfl)
    have d_edge_behind := DL.df_mk (x := "edge_behind") (st := Law.s_edge_behind) (ps := ["place", "letter", "point"]) KX G (by k_is) (by k_is) (by k_is) (by k_is) (fun _ _ _ _ _ _ us hl => match us, hl with | [_, _, _], _ => rfl)
    have d_petals_of := DL.df_mk (x := "petals_of") (st := Law.s_petals_of) (ps := ["given"]) KX G (by k_is) (by k_is) (by k_is) (by k_is) (fun _ _ _ _ _ _ us hl => match us, hl with | [_], _ => rfl)
    have d_identify := DL.df_mk (x := "identify") (st := Law.s_identify) (ps := ["least", "one", "other"]) KX G (by k_is) (by k_is) (by k_is) (by k_is) (fun _ _ _ _ _ _ us hl => match us, hl with | [_, _, _], _ => rfl)
    have d_fold_once := DL.df_mk (x := "fold_once") (st := Law.s_fold_once) (ps := ["least", "edges"]) KX G (by k_is) (by k_is) (by k_is) (by k_is) (fun _ _ _ _ _ _ us hl => match us, hl with | [_, _], _ => rfl)
    have d_least_points := DL.df_mk (x := "least_points") (st := Law.s_least_points) (ps := ["edges", "ends"]) KX G (by k_is) (by k_is) (by k_is) (by k_is) (fun _ _ _ _ _ _ us hl => match us, hl with | [_, _], _ => rfl)
    have d_numbered := DL.df_mk (x := "numbered") (st := Law.s_numbered) (ps := ["rank", "edges", "first"]) KX G (by k_is) (by k_is) (by k_is) (by k_is) (fun _ _ _ _ _ _ us hl => match us, hl with | [_, _, _], _ => rfl)
    have d_folded_graph := DL.df_mk (x := "folded_graph") (st := Law.s_folded_graph) (ps := ["family"]) KX G (by k_is) (by k_is) (by k_is) (by k_is) (fun _ _ _ _ _ _ us hl => match us, hl with | [_], _ => rfl)
    have d_graph_of := DL.df_mk (x := "graph_of") (st := Law.s_graph_of) (ps := ["family"]) KX G (by k_is) (by k_is) (by k_is) (by k_is) (fun _ _ _ _ _ _ us hl => match us, hl with | [_], _ => rfl)
    have d_law_is_integer := DL.df_mk (x := "_law_is_integer") (st := Law.s_law_is_integer) (ps := ["actual"]) KX G (by k_is) (by k_is) (by k_is) (by k_is) (fun _ _ _ _ _ _ us hl => match us, hl with | [_], _ => rfl)
    have d_law_equal := DL.df_mk (x := "_law_equal") (st := Law.s_law_equal) (ps := ["actual", "due"]) KX G (by k_is) (by k_is) (by k_is) (by k_is) (fun _ _ _ _ _ _ us hl => match us, hl with | [_, _], _ => rfl)
    have d_law_due := DL.df_mk (x := "_law_due") (st := Law.s_law_due) (ps := ["rank", "value"]) KX G (by k_is) (by k_is) (by k_is) (by k_is) (fun _ _ _ _ _ _ us hl => match us, hl with | [_, _], _ => rfl)
    refine' Law.all_mk KX G hmg T d_is_tuple d_is_integer d_is_rank d_letters_of d_is_spelled d_is_family d_check_rank d_opposite d_moves_along d_first_ways d_count_ends d_small_letters_of d_is_edge d_is_graph d_is_neat d_law_next d_law_changed d_law_stream d_law_word d_law_family d_check_family d_folded d_edge_behind d_petals_of d_identify d_fold_once d_least_points d_numbered d_folded_graph d_graph_of d_law_is_integer d_law_equal d_law_due m_BadValue TX ?zza ?zzl ?zzc ?zzk
    (case zza => k_is); (case zzl => k_is); (case zzc => k_is); (case zzk => k_is)
