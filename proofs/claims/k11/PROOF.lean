import PyProof.Rows.All
import Wide.All
import OpenK.AllK
import Wide.FinOn
import HandS.ForMost
import HandS.Style
import HandS.TupAny
import HandS.IsInst
import HandS.Flow
import HandS.Conv
import HandS.TryOnly
import HandS.ExcOwn
import HandS.ExcIs
import HandS.WordsExc
import PyProof.ListStr
import HandS.Codes
import HandS.Text
import HandS.Deep
import HandS.Steps
import HandS.Strs
import HandS.SetKeys
import HandS.WrittenGet
import HandS.Set
import HandS.SetTxt0
import HandS.SetFor
import HandS.ExcField
import KE.KExcIs
import KE.SortKeyed
import KE.SortUse
import HandS.DictTup
import HandS.ExcInit
import PySem.Challenge.RW_hewstream_k11_words
set_option Elab.async false
set_option linter.all false
set_option maxRecDepth 100000
/-! Rf: values by trees and places, and what each construct reckons over them. -/
namespace Rg
open PySem PySem.Spec PyProof.Rows L2

inductive D where
  | non | bl (b : Bool) | int (i : Int) | str (x : Str) | tup (ds : List D) | loc (n : Nat) | cl (ds : List D) | opq (a : Addr) | exo (a dd : Addr) (ks : List Str) (ds : List D)
inductive O where
  | lst (ds : List D) | dct (kvs : List (Key × D)) | ins (C : Addr) (fs : List (Str × D)) | dtt (kvs : List (List Key × D))
abbrev Stt := List O

/-- a list that nobody changes: the script, a list of the module -/
def CL (K : PySem.W.Frag) (H : Hp) (a : Addr) (xs : List V) : Prop := (∃ o, H a = some (.frz o (.lst xs))) ∨
  ∃ (o : Obj) (its : Array Value) (n : Nat), K.lookup a = some o ∧ o.cls = .type "list" ∧ o.dict = none ∧ o.data = .seq its n ∧ its.size ≤ sizeLine ∧ Vals xs its.toList
theorem CL.sq {K : PySem.W.Frag} {H : Hp} {a : Addr} {xs : List V} (h : CL K H a xs) : SqL K H a xs := h.imp (fun h => .inr h) id
mutual
inductive Rl (K : PySem.W.Frag) (H : Hp) (μ : List Addr) : D → V → Prop
  | non : Rl K H μ .non .non
  | bl (b : Bool) : Rl K H μ (.bl b) (.bl b)
  | int (i : Int) : Rl K H μ (.int i) (.int i)
  | str (x : Str) : Rl K H μ (.str x) (.str x)
  | tup {ds : List D} {a : Addr} {vs : List V} : SqT K H a vs → Rls K H μ ds vs → Rl K H μ (.tup ds) (.ref a)
  | loc {n : Nat} {a : Addr} : μ[n]? = some a → Rl K H μ (.loc n) (.ref a)
  | cl {ds : List D} {a : Addr} {vs : List V} : CL K H a vs → Rls K H μ ds vs → Rl K H μ (.cl ds) (.ref a)
  | opq (a : Addr) : Rl K H μ (.opq a) (.ref a)
  | exo {a dd : Addr} {ks : List Str} {ds : List D} {vs : List V} : H dd = some (.xd (ks.zip vs)) → Rls K H μ ds vs → Rl K H μ (.exo a dd ks ds) (.ref a)
inductive Rls (K : PySem.W.Frag) (H : Hp) (μ : List Addr) : List D → List V → Prop
  | nil : Rls K H μ [] []
  | cons {d : D} {v : V} {ds : List D} {vs : List V} : Rl K H μ d v → Rls K H μ ds vs → Rls K H μ (d :: ds) (v :: vs)
end

structure Ext (K : PySem.W.Frag) (H : Hp) (μ : List Addr) (H' : Hp) (μ' : List Addr) : Prop where
  tups : ∀ a vs, SqT K H a vs → SqT K H' a vs
  cls : ∀ a vs, CL K H a vs → CL K H' a vs
  xds : ∀ a vs, H a = some (.xd vs) → H' a = some (.xd vs)
  more : ∃ l, μ' = μ ++ l
variable {K : PySem.W.Frag}
theorem Ext.refl (H : Hp) (μ : List Addr) : Ext K H μ H μ := ⟨fun _ _ h => h, fun _ _ h => h, fun _ _ h => h, [], by simp⟩
theorem Ext.trans {H H1 H2 : Hp} {μ μ1 μ2 : List Addr} (a : Ext K H μ H1 μ1) (b : Ext K H1 μ1 H2 μ2) : Ext K H μ H2 μ2 := by
  obtain ⟨l, e⟩ := a.more
  obtain ⟨m, f⟩ := b.more
  exact ⟨fun c vs h => b.tups c vs (a.tups c vs h), fun c vs h => b.cls c vs (a.cls c vs h), fun c vs h => b.xds c vs (a.xds c vs h), l ++ m, by rw [f, e, List.append_assoc]⟩
theorem Ext.get {H H' : Hp} {μ μ' : List Addr} (e : Ext K H μ H' μ') {n : Nat} {a : Addr} (h : μ[n]? = some a) : μ'[n]? = some a := by
  obtain ⟨l, rfl⟩ := e.more
  have : n < μ.length := (List.getElem?_eq_some_iff.mp h).1
  rw [List.getElem?_append_left this]
  exact h
mutual
theorem Rl.ext {H H' : Hp} {μ μ' : List Addr} (e : Ext K H μ H' μ') : ∀ {d : D} {v : V}, Rl K H μ d v → Rl K H' μ' d v
  | _, _, .non => .non
  | _, _, .bl b => .bl b
  | _, _, .int i => .int i
  | _, _, .str x => .str x
  | _, _, .tup h r => .tup (e.tups _ _ h) (Rls.ext e r)
  | _, _, .loc h => .loc (e.get h)
  | _, _, .cl h r => .cl (e.cls _ _ h) (Rls.ext e r)
  | _, _, .opq v => .opq v
  | _, _, .exo h r => .exo (e.xds _ _ h) (Rls.ext e r)
theorem Rls.ext {H H' : Hp} {μ μ' : List Addr} (e : Ext K H μ H' μ') : ∀ {ds : List D} {vs : List V}, Rls K H μ ds vs → Rls K H' μ' ds vs
  | _, _, .nil => .nil
  | _, _, .cons r t => .cons (Rl.ext e r) (Rls.ext e t)
end
section
variable {H : Hp} {μ : List Addr}
theorem Rls.length : ∀ {ds : List D} {vs : List V}, Rls K H μ ds vs → ds.length = vs.length
  | _, _, .nil => rfl
  | _, _, .cons _ t => by simp [Rls.length t]
theorem Rls.append : ∀ {ds es : List D} {vs us : List V}, Rls K H μ ds vs → Rls K H μ es us → Rls K H μ (ds ++ es) (vs ++ us)
  | _, _, _, _, .nil, s => s
  | _, _, _, _, .cons r t, s => .cons r (Rls.append t s)
theorem Rls.get : ∀ {ds : List D} {vs : List V} {i : Nat} {d : D}, Rls K H μ ds vs → ds[i]? = some d → ∃ v, vs[i]? = some v ∧ Rl K H μ d v
  | _, _, _, _, .nil, e => by simp at e
  | _, _, 0, _, .cons r _, e => by simp at e; subst e; exact ⟨_, rfl, r⟩
  | _, _, i + 1, d, .cons _ t, e => by
    obtain ⟨v, h1, h2⟩ := Rls.get (i := i) (d := d) t (by simpa using e)
    exact ⟨v, by simpa using h1, h2⟩
theorem Rls.getV : ∀ {ds : List D} {vs : List V} {i : Nat} {v : V}, Rls K H μ ds vs → vs[i]? = some v → ∃ d, ds[i]? = some d ∧ Rl K H μ d v
  | _, _, _, _, .nil, e => by simp at e
  | _, _, 0, _, .cons r _, e => by simp at e; subst e; exact ⟨_, rfl, r⟩
  | _, _, i + 1, v, .cons _ t, e => by
    obtain ⟨d, h1, h2⟩ := Rls.getV (i := i) (v := v) t (by simpa using e)
    exact ⟨d, by simpa using h1, h2⟩
theorem Rls.take : ∀ {ds : List D} {vs : List V} (n : Nat), Rls K H μ ds vs → Rls K H μ (ds.take n) (vs.take n)
  | _, _, 0, _ => .nil
  | _, _, _ + 1, .nil => .nil
  | _, _, n + 1, .cons r t => .cons r (Rls.take n t)
theorem Rls.drop : ∀ {ds : List D} {vs : List V} (n : Nat), Rls K H μ ds vs → Rls K H μ (ds.drop n) (vs.drop n)
  | _, _, 0, r => r
  | _, _, _ + 1, .nil => .nil
  | _, _, n + 1, .cons _ t => Rls.drop n t
theorem Rls.set {d : D} {v : V} (r : Rl K H μ d v) : ∀ {ds : List D} {vs : List V} (i : Nat), Rls K H μ ds vs → Rls K H μ (ds.set i d) (vs.set i v)
  | _, _, _, .nil => .nil
  | _, _, 0, .cons _ t => .cons r t
  | _, _, i + 1, .cons q t => .cons q (Rls.set r i t)
theorem Rls.reverse : ∀ {ds : List D} {vs : List V}, Rls K H μ ds vs → Rls K H μ ds.reverse vs.reverse
  | _, _, .nil => .nil
  | _, _, .cons r t => by
    rw [List.reverse_cons, List.reverse_cons]
    exact Rls.append (Rls.reverse t) (.cons r .nil)
theorem Rls.dropLast {ds : List D} {vs : List V} (r : Rls K H μ ds vs) : Rls K H μ ds.dropLast vs.dropLast := by
  rw [List.dropLast_eq_take, List.dropLast_eq_take, ← r.length]
  exact r.take _
theorem Rls.ints : ∀ ns : List Int, Rls K H μ (ns.map D.int) (ns.map V.int)
  | [] => .nil
  | n :: ns => .cons (.int n) (Rls.ints ns)
theorem Rls.nil_inv {vs : List V} (r : Rls K H μ [] vs) : vs = [] := by cases r; rfl
theorem Rls.cons_inv {d : D} {ds : List D} {vs : List V} (r : Rls K H μ (d :: ds) vs) : ∃ v us, vs = v :: us ∧ Rl K H μ d v ∧ Rls K H μ ds us := by
  cases r with
  | cons a b => exact ⟨_, _, rfl, a, b⟩
end

/-- a dict's pairs -/
abbrev KR (K : PySem.W.Frag) (H : Hp) (μ : List Addr) : List (Key × D) → List (Key × V) → Prop := Paired fun p q => p.1 = q.1 ∧ Rl K H μ p.2 q.2
theorem KR.ext {H H' : Hp} {μ μ' : List Addr} (e : Ext K H μ H' μ') {kd : List (Key × D)} {kv : List (Key × V)} (r : KR K H μ kd kv) : KR K H' μ' kd kv :=
  Paired.mapP r fun _ _ q => ⟨q.1, q.2.ext e⟩

/-- a dict's pairs, the keys tuples -/
abbrev TR (K : PySem.W.Frag) (H : Hp) (μ : List Addr) : List (List Key × D) → List (List Key × V) → Prop := Paired fun p q => p.1 = q.1 ∧ Rl K H μ p.2 q.2
theorem TR.ext {H H' : Hp} {μ μ' : List Addr} (e : Ext K H μ H' μ') {kd : List (List Key × D)} {kv : List (List Key × V)} (r : TR K H μ kd kv) : TR K H' μ' kd kv :=
  Paired.mapP r fun _ _ q => ⟨q.1, q.2.ext e⟩
/-- an instance's attributes -/
abbrev FR (K : PySem.W.Frag) (H : Hp) (μ : List Addr) : List (Str × D) → List (Str × V) → Prop := Paired fun p q => p.1 = q.1 ∧ Rl K H μ p.2 q.2
theorem FR.ext {H H' : Hp} {μ μ' : List Addr} (e : Ext K H μ H' μ') {kd : List (Str × D)} {kv : List (Str × V)} (r : FR K H μ kd kv) : FR K H' μ' kd kv :=
  Paired.mapP r fun _ _ q => ⟨q.1, q.2.ext e⟩
def OR (K : PySem.W.Frag) (H : Hp) (μ : List Addr) : O → Addr → Prop
  | .lst ds, a => ∃ vs, H a = some (.lst vs) ∧ Rls K H μ ds vs
  | .dct kvs, a => ∃ vs, H a = some (.dK vs) ∧ KR K H μ kvs vs
  | .ins C fs, a => ∃ dx vs, H a = some (.ins C dx vs) ∧ FR K H μ fs vs
  | .dtt kvs, a => ∃ vs, H a = some (.dT vs) ∧ TR K H μ kvs vs

structure SR (K : PySem.W.Frag) (H : Hp) (μ : List Addr) (st : Stt) : Prop where
  len : μ.length = st.length
  nd : μ.Nodup
  obj : ∀ (n : Nat) (o : O), st[n]? = some o → ∃ a, μ[n]? = some a ∧ OR K H μ o a

/-- no tuple stands here -/
def NoT (u : HO) : Prop := (∀ vs, u ≠ .tup vs) ∧ (∀ o v, u ≠ .frz o v) ∧ ∀ vs, u ≠ .xd vs
theorem OR.has {H : Hp} {μ : List Addr} {o : O} {a : Addr} (h : OR K H μ o a) : ∃ u, H a = some u ∧ NoT u := by
  cases o with
  | lst ds => obtain ⟨vs, e, _⟩ := h; exact ⟨_, e, ⟨fun _ z => HO.noConfusion z, fun _ _ z => (by cases z), fun _ z => (by cases z)⟩⟩
  | dct ds => obtain ⟨vs, e, _⟩ := h; exact ⟨_, e, ⟨fun _ z => HO.noConfusion z, fun _ _ z => (by cases z), fun _ z => (by cases z)⟩⟩
  | ins C fs => obtain ⟨_, vs, e, _⟩ := h; exact ⟨_, e, ⟨fun _ z => HO.noConfusion z, fun _ _ z => (by cases z), fun _ z => (by cases z)⟩⟩
  | dtt ds => obtain ⟨vs, e, _⟩ := h; exact ⟨_, e, ⟨fun _ z => HO.noConfusion z, fun _ _ z => (by cases z), fun _ z => (by cases z)⟩⟩
/-- a store where no tuple stands keeps the tuples -/
theorem sqT_upd {H : Hp} {p : Addr} {u : HO} (h : ∀ w, H p = some w → NoT w) {a : Addr} {vs : List V} (t : SqT K H a vs) : SqT K (upd H p u) a vs := by
  rcases t with t | t
  · refine .inl ?_
    rcases t with t | ⟨o, t⟩
    · have : a ≠ p := fun e => (h _ (by rw [← e]; exact t)).1 vs rfl
      exact .inl (by rw [upd_ne this]; exact t)
    · have : a ≠ p := fun e => (h _ (by rw [← e]; exact t)).2.1 o _ rfl
      exact .inr ⟨o, by rw [upd_ne this]; exact t⟩
  · exact .inr t
theorem xd_upd {H : Hp} {p : Addr} {u : HO} (h : ∀ w, H p = some w → NoT w) {a : Addr} {vs : List (Str × V)} (t : H a = some (.xd vs)) : upd H p u a = some (.xd vs) := by
  have : a ≠ p := fun e => (h _ (by rw [← e]; exact t)).2.2 vs rfl
  rw [upd_ne this]; exact t
/-- an object as it was -/
theorem OR.keep {H H' : Hp} {μ μ' : List Addr} (e : Ext K H μ H' μ') {o : O} {a : Addr} (k : H' a = H a) (h : OR K H μ o a) : OR K H' μ' o a := by
  cases o with
  | lst ds => obtain ⟨vs, q, r⟩ := h; exact ⟨vs, k.trans q, r.ext e⟩
  | dct ds => obtain ⟨vs, q, r⟩ := h; exact ⟨vs, k.trans q, r.ext e⟩
  | ins C fs => obtain ⟨u, vs, q, r⟩ := h; exact ⟨u, vs, k.trans q, r.ext e⟩
  | dtt ds => obtain ⟨vs, q, r⟩ := h; exact ⟨vs, k.trans q, r.ext e⟩
theorem cl_upd {H : Hp} {p : Addr} {u : HO} (h : ∀ w, H p = some w → NoT w) {a : Addr} {vs : List V} (t : CL K H a vs) : CL K (upd H p u) a vs := by
  rcases t with ⟨o, t⟩ | t
  · have : a ≠ p := fun e => (h _ (by rw [← e]; exact t)).2.1 o _ rfl
    exact .inl ⟨o, by rw [upd_ne this]; exact t⟩
  · exact .inr t
section
variable {H : Hp} {μ : List Addr} {st : Stt}
theorem SR.fresh (S : SR K H μ st) {p : Addr} (hp : H p = none) : p ∉ μ := fun hm => by
  obtain ⟨n, hn⟩ := List.getElem?_of_mem hm
  have hlt : n < st.length := by rw [← S.len]; exact (List.getElem?_eq_some_iff.mp hn).1
  obtain ⟨a, ha, ho⟩ := S.obj n st[n] (List.getElem?_eq_getElem hlt)
  rw [hn] at ha
  cases ha
  obtain ⟨u, hu, _⟩ := ho.has
  rw [hp] at hu
  cases hu
/-- a new tuple -/
theorem ext_tup {p : Addr} (hp : H p = none) (vs : List V) : Ext K H μ (upd H p (.tup vs)) μ := ⟨fun a us h => sqT_upd (fun w e => by rw [hp] at e; cases e) h, fun a us h => cl_upd (fun w e => by rw [hp] at e; cases e) h, fun a us h => xd_upd (fun w e => by rw [hp] at e; cases e) h, [], by simp⟩
theorem SR.tup (S : SR K H μ st) {p : Addr} (hp : H p = none) (vs : List V) : SR K (upd H p (.tup vs)) μ st := ⟨S.len, S.nd, fun n o h => by
  obtain ⟨a, ha, ho⟩ := S.obj n o h
  obtain ⟨u, hu, _⟩ := ho.has
  exact ⟨a, ha, ho.keep (ext_tup hp vs) (upd_ne (ne_of_none hu hp))⟩⟩
/-- a new object -/
theorem ext_new {p : Addr} (hp : H p = none) (u : HO) : Ext K H μ (upd H p u) (μ ++ [p]) := ⟨fun a us h => sqT_upd (fun w e => by rw [hp] at e; cases e) h, fun a us h => cl_upd (fun w e => by rw [hp] at e; cases e) h, fun a us h => xd_upd (fun w e => by rw [hp] at e; cases e) h, [p], rfl⟩
/-- a cell beside -/
theorem ext_side {p : Addr} (hp : H p = none) (u : HO) : Ext K H μ (upd H p u) μ := ⟨fun a us h => sqT_upd (fun w e => by rw [hp] at e; cases e) h, fun a us h => cl_upd (fun w e => by rw [hp] at e; cases e) h, fun a us h => xd_upd (fun w e => by rw [hp] at e; cases e) h, [], by simp⟩
theorem SR.side (S : SR K H μ st) {p : Addr} (hp : H p = none) (u : HO) : SR K (upd H p u) μ st := ⟨S.len, S.nd, fun n o h => by
  obtain ⟨a, ha, ho⟩ := S.obj n o h
  obtain ⟨w, hw, _⟩ := ho.has
  exact ⟨a, ha, ho.keep (ext_side hp u) (upd_ne (ne_of_none hw hp))⟩⟩
theorem SR.new (S : SR K H μ st) {p : Addr} (hp : H p = none) {u : HO} {o : O} (ho : OR K (upd H p u) (μ ++ [p]) o p) : SR K (upd H p u) (μ ++ [p]) (st ++ [o]) := by
  refine ⟨by simp [S.len], ?_, fun n o' h => ?_⟩
  · rw [List.nodup_append]
    refine ⟨S.nd, by simp, fun a ha b hb e => ?_⟩
    simp only [List.mem_singleton] at hb
    subst hb
    subst e
    exact S.fresh hp ha
  · by_cases hn : n < st.length
    · rw [List.getElem?_append_left hn] at h
      obtain ⟨a, ha, hq⟩ := S.obj n o' h
      obtain ⟨w, hw, _⟩ := hq.has
      exact ⟨a, (ext_new (K := K) hp u).get ha, hq.keep (ext_new hp u) (upd_ne (ne_of_none hw hp))⟩
    · rw [List.getElem?_append_right (by omega)] at h
      have e : n - st.length = 0 := by
        have := (List.getElem?_eq_some_iff.mp h).1
        simp at this
        omega
      rw [e] at h
      have e2 : o = o' := by simpa using h
      subst e2
      refine ⟨p, ?_, ho⟩
      have e3 : n = μ.length := by
        rw [S.len]
        omega
      rw [e3]
      simp
theorem SR.at_loc (S : SR K H μ st) (hp : H = H) : μ[st.length]? = none := by
  rw [List.getElem?_eq_none]
  rw [S.len]
  exact Nat.le_refl _
/-- an object changed -/
theorem ext_set {n : Nat} {a : Addr} {o : O} (S : SR K H μ st) (hn : st[n]? = some o) (ha : μ[n]? = some a) (u : HO) : Ext K H μ (upd H a u) μ := by
  have k : ∀ w, H a = some w → NoT w := fun w e => by
    obtain ⟨a', ha', ho⟩ := S.obj n o hn
    rw [ha] at ha'
    cases ha'
    obtain ⟨w', hw, nt⟩ := ho.has
    rw [e] at hw
    cases hw
    exact nt
  exact ⟨fun b vs h => sqT_upd k h, fun b vs h => cl_upd k h, fun b vs h => xd_upd k h, [], by simp⟩
theorem SR.put (S : SR K H μ st) {n : Nat} {a : Addr} {o o' : O} (hn : st[n]? = some o) (ha : μ[n]? = some a) {u : HO} (ho : OR K (upd H a u) μ o' a) : SR K (upd H a u) μ (st.set n o') := by
  refine ⟨by simp [S.len], S.nd, fun m q h => ?_⟩
  by_cases e : m = n
  · subst e
    have hl : m < st.length := (List.getElem?_eq_some_iff.mp hn).1
    rw [List.getElem?_set_self hl] at h
    cases h
    exact ⟨a, ha, ho⟩
  · rw [List.getElem?_set_ne (Ne.symm e)] at h
    obtain ⟨b, hb, hq⟩ := S.obj m q h
    have nb : b ≠ a := fun z => by
      subst z
      exact e ((List.getElem?_inj (List.getElem?_eq_some_iff.mp hb).1 S.nd).mp (hb.trans ha.symm))
    exact ⟨b, hb, hq.keep (ext_set S hn ha u) (upd_ne nb)⟩
theorem SR.lst (S : SR K H μ st) {n : Nat} {ds : List D} (h : st[n]? = some (.lst ds)) {v : V} (r : Rl K H μ (.loc n) v) : ∃ a vs, v = .ref a ∧ μ[n]? = some a ∧ H a = some (.lst vs) ∧ Rls K H μ ds vs := by
  cases r with
  | loc ha =>
    obtain ⟨a, hb, vs, e, q⟩ := S.obj n _ h
    rw [ha] at hb
    cases hb
    exact ⟨_, vs, rfl, ha, e, q⟩
theorem SR.dct (S : SR K H μ st) {n : Nat} {ds : List (Key × D)} (h : st[n]? = some (.dct ds)) {v : V} (r : Rl K H μ (.loc n) v) : ∃ a vs, v = .ref a ∧ μ[n]? = some a ∧ H a = some (.dK vs) ∧ KR K H μ ds vs := by
  cases r with
  | loc ha =>
    obtain ⟨a, hb, vs, e, q⟩ := S.obj n _ h
    rw [ha] at hb
    cases hb
    exact ⟨_, vs, rfl, ha, e, q⟩
theorem SR.ins (S : SR K H μ st) {n : Nat} {C : Addr} {fs : List (Str × D)} (h : st[n]? = some (.ins C fs)) {v : V} (r : Rl K H μ (.loc n) v) : ∃ a dx vs, v = .ref a ∧ μ[n]? = some a ∧ H a = some (.ins C dx vs) ∧ FR K H μ fs vs := by
  cases r with
  | loc ha =>
    obtain ⟨a, hb, dx, vs, e, q⟩ := S.obj n _ h
    rw [ha] at hb
    cases hb
    exact ⟨_, dx, vs, rfl, ha, e, q⟩
theorem SR.dtt (S : SR K H μ st) {n : Nat} {ds : List (List Key × D)} (h : st[n]? = some (.dtt ds)) {v : V} (r : Rl K H μ (.loc n) v) : ∃ a vs, v = .ref a ∧ μ[n]? = some a ∧ H a = some (.dT vs) ∧ TR K H μ ds vs := by
  cases r with
  | loc ha =>
    obtain ⟨a, hb, vs, e, q⟩ := S.obj n _ h
    rw [ha] at hb
    cases hb
    exact ⟨_, vs, rfl, ha, e, q⟩
/-- the items of a list, tuple; where it may be read -/
def items (st : Stt) : D → Option (List D)
  | .tup ds => some ds
  | .cl ds => some ds
  | .loc n => match st[n]? with
    | some (.lst ds) => some ds
    | _ => none
  | _ => none
def isL : D → Bool
  | .loc _ => true
  | _ => false
theorem SR.seqL (S : SR K H μ st) {n : Nat} {ds : List D} (h : items st (.loc n) = some ds) {v : V} (r : Rl K H μ (.loc n) v) : ∃ a vs, v = .ref a ∧ SqL K H a vs ∧ Rls K H μ ds vs := by
  have h : (match st[n]? with
    | some (.lst ds) => some ds
    | _ => none) = some ds := h
  cases e : st[n]? with
  | none => rw [e] at h; cases h
  | some o =>
    rw [e] at h
    cases o with
    | lst es =>
      cases h
      obtain ⟨a, vs, rfl, _, e2, q⟩ := S.lst e r
      exact ⟨a, vs, rfl, .inl (.inl e2), q⟩
    | dct es => cases h
    | ins C es => cases h
    | dtt _ => cases h
theorem seqC {ds : List D} {v : V} (r : Rl K H μ (.cl ds) v) : ∃ a vs, v = .ref a ∧ SqL K H a vs ∧ Rls K H μ ds vs := by
  cases r with
  | cl h q => exact ⟨_, _, rfl, h.sq, q⟩
theorem seqT {ds : List D} {v : V} (r : Rl K H μ (.tup ds) v) : ∃ a vs, v = .ref a ∧ SqT K H a vs ∧ Rls K H μ ds vs := by
  cases r with
  | tup h q => exact ⟨_, _, rfl, h, q⟩
end

/-! ### slots -/
abbrev En := List (Option D)
structure ER (K : PySem.W.Frag) (H : Hp) (μ : List Addr) (ρ : En) (σ : L2.St) : Prop where
  len : ρ.length = σ.length
  val : ∀ (i : Nat) (d : D), ρ[i]? = some (some d) → ∃ v, σ[i]? = some (some v) ∧ Rl K H μ d v
theorem ER.ext {H H' : Hp} {μ μ' : List Addr} {ρ : En} {σ : L2.St} (e : Ext K H μ H' μ') (r : ER K H μ ρ σ) : ER K H' μ' ρ σ := ⟨r.len, fun i d h => by
  obtain ⟨v, h1, h2⟩ := r.val i d h
  exact ⟨v, h1, h2.ext e⟩⟩
theorem ER.set {H : Hp} {μ : List Addr} {ρ : En} {σ : L2.St} (r : ER K H μ ρ σ) {d : D} {v : V} (q : Rl K H μ d v) (i : Nat) : ER K H μ (ρ.set i (some d)) (σ.set i (some v)) := ⟨by simp [r.len], fun j e h => by
  by_cases hj : i = j
  · subst hj
    by_cases hl : i < ρ.length
    · rw [List.getElem?_set_self hl] at h
      cases h
      exact ⟨v, List.getElem?_set_self (by rw [← r.len]; exact hl), q⟩
    · rw [List.getElem?_eq_none (by simpa using hl)] at h
      cases h
  · rw [List.getElem?_set_ne hj] at h
    obtain ⟨w, h1, h2⟩ := r.val j e h
    exact ⟨w, by rw [List.getElem?_set_ne hj]; exact h1, h2⟩⟩


end Rg

set_option Elab.async false
set_option linter.all false
set_option maxRecDepth 100000
namespace Rg
open PySem PySem.Spec PyProof.Rows L2

/-! ### what is reckoned -/
/-- an exception: its class, the fields of its own dict (none: it has no dict) -/
structure Exn where
  cls : Addr
  fs : Option (List (Str × D))
inductive R (α : Type) where
  | no | ok (a : α) (st : Stt) | ex (e : Exn) (st : Stt)
def R.bind {α β : Type} : R α → (α → Stt → R β) → R β
  | .no, _ => .no
  | .ok a st, f => f a st
  | .ex e st, _ => .ex e st
@[simp] theorem R.bind_no {α β : Type} (f : α → Stt → R β) : (R.no : R α).bind f = .no := (rfl)
@[simp] theorem R.bind_ok {α β : Type} (a : α) (st : Stt) (f : α → Stt → R β) : (R.ok a st).bind f = f a st := (rfl)
@[simp] theorem R.bind_ex {α β : Type} (e : Exn) (st : Stt) (f : α → Stt → R β) : (R.ex e st : R α).bind f = .ex e st := (rfl)
def R.of {α : Type} : Option (α × Stt) → R α
  | none => .no
  | some (a, st) => .ok a st
@[simp] theorem R.of_none {α : Type} : (R.of none : R α) = .no := (rfl)
@[simp] theorem R.of_some {α : Type} (a : α) (st : Stt) : R.of (some (a, st)) = .ok a st := (rfl)
abbrev XE := En → Stt → R D
abbrev XT := En → Stt → R Bool
abbrev XA := En → Stt → R (List D)
inductive Out where
  | no | nx (ρ : En) (st : Stt) | rt (d : D) (st : Stt) | bk (ρ : En) (st : Stt) | ct (ρ : En) (st : Stt) | xx (ρ : En) (e : Exn) (st : Stt)
abbrev XS := En → Stt → Out
def R.out {α : Type} (ρ : En) (k : α → Stt → Out) : R α → Out
  | .no => .no
  | .ok a st => k a st
  | .ex e st => .xx ρ e st
@[simp] theorem R.out_no {α : Type} (ρ : En) (k : α → Stt → Out) : (R.no : R α).out ρ k = .no := (rfl)
@[simp] theorem R.out_ok {α : Type} (ρ : En) (k : α → Stt → Out) (a : α) (st : Stt) : (R.ok a st).out ρ k = k a st := (rfl)
@[simp] theorem R.out_ex {α : Type} (ρ : En) (k : α → Stt → Out) (e : Exn) (st : Stt) : (R.ex e st : R α).out ρ k = .xx ρ e st := (rfl)
def Out.seq (g : XS) : Out → Out
  | .nx ρ st => g ρ st
  | o => o
@[simp] theorem Out.seq_no (g : XS) : Out.no.seq g = .no := (rfl)
@[simp] theorem Out.seq_nx (g : XS) (ρ : En) (st : Stt) : (Out.nx ρ st).seq g = g ρ st := (rfl)
@[simp] theorem Out.seq_rt (g : XS) (d : D) (st : Stt) : (Out.rt d st).seq g = .rt d st := (rfl)
@[simp] theorem Out.seq_bk (g : XS) (ρ : En) (st : Stt) : (Out.bk ρ st).seq g = .bk ρ st := (rfl)
@[simp] theorem Out.seq_ct (g : XS) (ρ : En) (st : Stt) : (Out.ct ρ st).seq g = .ct ρ st := (rfl)
@[simp] theorem Out.seq_xx (g : XS) (ρ : En) (e : Exn) (st : Stt) : (Out.xx ρ e st).seq g = .xx ρ e st := (rfl)

section
variable {K : PySem.W.Frag}
/-- the exception as it lies -/
def XR (K : PySem.W.Frag) (H : Hp) (μ : List Addr) (e : Exn) (d : Option Addr) : Prop := match e.fs with
  | none => d = none
  | some fs => ∃ dd vs, d = some dd ∧ H dd = some (.xd vs) ∧ FR K H μ fs vs
def wx (K : PySem.W.Frag) (W : WX) (σ : L2.St) : Exn → Hp → List Addr → Prop := fun e H μ => ∀ d, XR K H μ e d → W (.ref e.cls) d σ H
def RO (K : PySem.W.Frag) {α : Type} (W : Exn → Hp → List Addr → Prop) (H : Hp) (μ : List Addr) (Q : α → Stt → Hp → List Addr → Prop) : R α → Prop
  | .no => False
  | .ok a st => ∀ H' μ', Ext K H μ H' μ' → SR K H' μ' st → Q a st H' μ'
  | .ex e st => ∀ H' μ', Ext K H μ H' μ' → SR K H' μ' st → W e H' μ'
theorem RO.at {α : Type} {W : Exn → Hp → List Addr → Prop} {H H' : Hp} {μ μ' : List Addr} {Q : α → Stt → Hp → List Addr → Prop} (x : Ext K H μ H' μ') : ∀ {r : R α}, RO K W H μ Q r → RO K W H' μ' Q r
  | .no, h => h
  | .ok _ _, h => fun H2 μ2 e => h H2 μ2 (x.trans e)
  | .ex _ _, h => fun H2 μ2 e => h H2 μ2 (x.trans e)
theorem RO.mono {α : Type} {W : Exn → Hp → List Addr → Prop} {H : Hp} {μ : List Addr} {Q Q' : α → Stt → Hp → List Addr → Prop} (k : ∀ a st H' μ', Ext K H μ H' μ' → SR K H' μ' st → Q a st H' μ' → Q' a st H' μ') : ∀ {r : R α}, RO K W H μ Q r → RO K W H μ Q' r
  | .no, h => h
  | .ok _ _, h => fun H2 μ2 e S => k _ _ _ _ e S (h H2 μ2 e S)
  | .ex _ _, h => h
theorem RO.bind {α β : Type} {W : Exn → Hp → List Addr → Prop} {H : Hp} {μ : List Addr} {Q : β → Stt → Hp → List Addr → Prop} {f : α → Stt → R β} : ∀ {r : R α}, RO K W H μ Q (r.bind f) → RO K W H μ (fun a st H' μ' => RO K W H' μ' Q (f a st)) r
  | .no, h => h
  | .ok _ _, h => fun H2 μ2 e _ => RO.at e h
  | .ex _ _, h => h
theorem RO.ok {α : Type} {W : Exn → Hp → List Addr → Prop} {H : Hp} {μ : List Addr} {Q : α → Stt → Hp → List Addr → Prop} {a : α} {st : Stt} (S : SR K H μ st) (h : RO K W H μ Q (.ok a st)) : Q a st H μ := h H μ (Ext.refl _ _) S
/-- of an option -/
theorem RO.of {α : Type} {W : Exn → Hp → List Addr → Prop} {H : Hp} {μ : List Addr} {Q : α → Stt → Hp → List Addr → Prop} {o : Option (α × Stt)} (h : RO K W H μ Q (R.of o)) : ∃ a st, o = some (a, st) ∧ ∀ H' μ', Ext K H μ H' μ' → SR K H' μ' st → Q a st H' μ' := by
  cases o with
  | none => exact h.elim
  | some p => obtain ⟨a, st⟩ := p; exact ⟨a, st, rfl, h⟩
/-- of a value -/
abbrev QD (K : PySem.W.Frag) (Q : VK) : D → Stt → Hp → List Addr → Prop := fun d _ H' μ' => ∀ v, Rl K H' μ' d v → Q v H'
abbrev QL (K : PySem.W.Frag) (Q : List V → Hp → Prop) : List D → Stt → Hp → List Addr → Prop := fun d _ H' μ' => ∀ v, Rls K H' μ' d v → Q v H'
def tX (K : PySem.W.Frag) (W : WX) (f : XE) : TE := fun σ H Q => ∃ ρ st μ, ER K H μ ρ σ ∧ SR K H μ st ∧ RO K (wx K W σ) H μ (QD K Q) (f ρ st)
def tXT (K : PySem.W.Frag) (W : WX) (f : XT) : TT := fun σ H Q => ∃ ρ st μ, ER K H μ ρ σ ∧ SR K H μ st ∧ RO K (wx K W σ) H μ (fun b _ H' _ => Q b H') (f ρ st)
def tXA (K : PySem.W.Frag) (W : WX) (f : XA) : TA := fun σ H Q => ∃ ρ st μ, ER K H μ ρ σ ∧ SR K H μ st ∧ RO K (wx K W σ) H μ (QL K Q) (f ρ st)
def outOk (K : PySem.W.Frag) (W : WX) (D' : Ends) (H : Hp) (μ : List Addr) : Out → Prop
  | .no => False
  | .nx ρ st => ∀ σ H' μ', Ext K H μ H' μ' → ER K H' μ' ρ σ → SR K H' μ' st → D'.nx σ H'
  | .rt d st => ∀ v H' μ', Ext K H μ H' μ' → SR K H' μ' st → Rl K H' μ' d v → D'.rt v H'
  | .bk ρ st => ∀ σ H' μ', Ext K H μ H' μ' → ER K H' μ' ρ σ → SR K H' μ' st → D'.bk σ H'
  | .ct ρ st => ∀ σ H' μ', Ext K H μ H' μ' → ER K H' μ' ρ σ → SR K H' μ' st → D'.ct σ H'
  | .xx ρ e st => ∀ σ H' μ', Ext K H μ H' μ' → ER K H' μ' ρ σ → SR K H' μ' st → wx K W σ e H' μ'
def tXS (K : PySem.W.Frag) (W : WX) (f : XS) : TS := fun D' σ H => ∃ ρ st μ, ER K H μ ρ σ ∧ SR K H μ st ∧ outOk K W D' H μ (f ρ st)
theorem outOk.at {W : WX} {D' : Ends} {H H1 : Hp} {μ μ1 : List Addr} (e : Ext K H μ H1 μ1) : ∀ {o : Out}, outOk K W D' H μ o → outOk K W D' H1 μ1 o
  | .no, h => h
  | .nx _ _, h => fun σ H' μ' e' => h σ H' μ' (e.trans e')
  | .rt _ _, h => fun v H' μ' e' => h v H' μ' (e.trans e')
  | .bk _ _, h => fun σ H' μ' e' => h σ H' μ' (e.trans e')
  | .ct _ _, h => fun σ H' μ' e' => h σ H' μ' (e.trans e')
  | .xx _ _ _, h => fun σ H' μ' e' => h σ H' μ' (e.trans e')
theorem outOk.out {α : Type} {W : WX} {D' : Ends} {H : Hp} {μ : List Addr} {ρ : En} {σ : L2.St} (E : ER K H μ ρ σ) {k : α → Stt → Out} : ∀ {r : R α}, outOk K W D' H μ (r.out ρ k) → RO K (wx K W σ) H μ (fun a st H' μ' => outOk K W D' H' μ' (k a st)) r
  | .no, h => h
  | .ok _ _, h => fun H2 μ2 e _ => outOk.at e h
  | .ex _ _, h => fun H2 μ2 e S => h σ H2 μ2 e (E.ext e) S
theorem tX_of {W : WX} {f : XE} {σ : L2.St} {H : Hp} {μ : List Addr} {ρ : En} {st : Stt} {P : D → Stt → Hp → List Addr → Prop} {Q : VK} (E : ER K H μ ρ σ) (S : SR K H μ st) (h : RO K (wx K W σ) H μ P (f ρ st))
    (k : ∀ d st' H' μ' v, Ext K H μ H' μ' → ER K H' μ' ρ σ → SR K H' μ' st' → Rl K H' μ' d v → P d st' H' μ' → Q v H') : tX K W f σ H Q :=
  ⟨ρ, st, μ, E, S, h.mono fun a s H' μ' e S' p v r => k a s H' μ' v e (E.ext e) S' r p⟩
theorem tXT_of {W : WX} {f : XT} {σ : L2.St} {H : Hp} {μ : List Addr} {ρ : En} {st : Stt} {P : Bool → Stt → Hp → List Addr → Prop} {Q : Bool → Hp → Prop} (E : ER K H μ ρ σ) (S : SR K H μ st) (h : RO K (wx K W σ) H μ P (f ρ st))
    (k : ∀ d st' H' μ', Ext K H μ H' μ' → ER K H' μ' ρ σ → SR K H' μ' st' → P d st' H' μ' → Q d H') : tXT K W f σ H Q :=
  ⟨ρ, st, μ, E, S, h.mono fun a s H' μ' e S' p => k a s H' μ' e (E.ext e) S' p⟩
theorem tXA_of {W : WX} {f : XA} {σ : L2.St} {H : Hp} {μ : List Addr} {ρ : En} {st : Stt} {P : List D → Stt → Hp → List Addr → Prop} {Q : List V → Hp → Prop} (E : ER K H μ ρ σ) (S : SR K H μ st) (h : RO K (wx K W σ) H μ P (f ρ st))
    (k : ∀ d st' H' μ' v, Ext K H μ H' μ' → ER K H' μ' ρ σ → SR K H' μ' st' → Rls K H' μ' d v → P d st' H' μ' → Q v H') : tXA K W f σ H Q :=
  ⟨ρ, st, μ, E, S, h.mono fun a s H' μ' e S' p v r => k a s H' μ' v e (E.ext e) S' r p⟩
end

section
variable {X : Cx} {a b c e : Expr} {es : List Expr} {fa fb fc : XE} {pos : Pos} {W : WX}
theorem pe_imp {t t' : TE} (h : PE X e t) (i : ∀ σ H Q, t' σ H Q → t σ H Q) : PE X e t' := ⟨fun pins s σ H Q I q => h.run pins s σ H Q I (i σ H Q q)⟩
theorem pt_imp {t t' : TT} (h : PT X e t) (i : ∀ σ H Q, t' σ H Q → t σ H Q) : PT X e t' := ⟨fun pins s σ H Q I q => h.run pins s σ H Q I (i σ H Q q)⟩
theorem pw_imp {t t' : TT} (h : PW X e t) (i : ∀ σ H Q, t' σ H Q → t σ H Q) : PW X e t' := ⟨fun w pins s σ H Q I q => h.run w pins s σ H Q I (i σ H Q q)⟩
theorem pa_imp {t t' : TA} (h : PA X es t) (i : ∀ σ H Q, t' σ H Q → t σ H Q) : PA X es t' := ⟨fun p pins s σ H Q I q => h.run p pins s σ H Q I (i σ H Q q)⟩
theorem ps_imp {st : Stmt} {t t' : TS} (h : PS X st t) (i : ∀ D σ H, t' D σ H → t D σ H) : PS X st t' := ⟨fun pins s σ H D I q => h.run pins s σ H D I (i D σ H q)⟩
theorem pss_imp {st : List Stmt} {t t' : TS} (h : PSs X st t) (i : ∀ D σ H, t' D σ H → t D σ H) : PSs X st t' := ⟨fun pins s σ H D I q => h.run pins s σ H D I (i D σ H q)⟩

/-! names, constants -/
def xV (i : Nat) : XE := fun ρ st => match ρ[i]? with
  | some (some d) => .ok d st
  | _ => .no
def xC (d : D) : XE := fun _ st => .ok d st
@[simp] theorem xC_run (d : D) (ρ : En) (st : Stt) : xC d ρ st = .ok d st := (rfl)
theorem e_v (i : Nat) {x : Str} (hN : X.N[i]? = some x := by rfl) (hv : Vis X.env.scope x := by first | exact Or.inl rfl | exact Or.inr (Or.inl rfl) | exact Or.inr (Or.inr rfl)) (hd : (x == ("__debug__" : Str)) = false := by decide)
    (hcd : (x == ("__classdict__" : Str)) = false := by decide) : PE X (.Name x pos) (tX X.K W (xV i)) :=
  pe_imp (pe_var hN hv hd hcd) fun σ H Q ⟨ρ, st, μ, E, S, h⟩ => by
    unfold xV at h
    split at h
    · rename_i d' hd
      obtain ⟨v, h1, h2⟩ := E.val i _ hd
      exact ⟨v, h1, h.ok S v h2⟩
    · exact h.elim
theorem e_c {d : D} {v : V} (h : PE X e (tC v)) (r : ∀ H μ, Rl X.K H μ d v) : PE X e (tX X.K W (xC d)) :=
  pe_imp h fun σ H Q ⟨ρ, st, μ, E, S, h⟩ => h.ok S v (r H μ)
theorem e_int {i : Int} {j} : PE X (.Constant (.int i) j pos) (tX X.K W (xC (.int i))) := e_c pe_int fun _ _ => .int i
theorem e_bl {i : Bool} {j} : PE X (.Constant (.bool i) j pos) (tX X.K W (xC (.bl i))) := e_c pe_bl fun _ _ => .bl i
theorem e_non {j} : PE X (.Constant .none j pos) (tX X.K W (xC .non)) := e_c pe_non fun _ _ => .non
theorem e_str {x : Str} {j} : PE X (.Constant (.str x) j pos) (tX X.K W (xC (.str x))) := e_c pe_str fun _ _ => .str x
theorem e_gint {x : Str} {i : Int} {t : Tok} (hm : X.mg x = some (.int i t)) (hg : Gl X x := by rfl) (hd : (x == ("__debug__" : Str)) = false := by decide) : PE X (.Name x pos) (tX X.K W (xC (.int i))) := e_c (v := .int i) (pe_glob hg hm ⟨t, rfl⟩ hd) fun _ _ => .int i
theorem e_gstr {x : Str} {i : Str} {t : Tok} (hm : X.mg x = some (.str i t)) (hg : Gl X x := by rfl) (hd : (x == ("__debug__" : Str)) = false := by decide) : PE X (.Name x pos) (tX X.K W (xC (.str i))) := e_c (v := .str i) (pe_glob hg hm ⟨t, rfl⟩ hd) fun _ _ => .str i
/-- a tuple of the module's, by its tree -/
inductive WT (K : PySem.W.Frag) : D → Value → Prop
  | non : WT K .non .none
  | bl (b : Bool) : WT K (.bl b) (.bool b)
  | int (i : Int) (t : Tok) : WT K (.int i) (.int i t)
  | str (x : Str) (t : Tok) : WT K (.str x) (.str x t)
  | tup {ds : List D} {a : Addr} {o : Obj} {its : Array Value} {n : Nat} : K.lookup a = some o → o.cls = .type "tuple" → o.data = .seq its n → its.size ≤ sizeLine → Paired (WT K) ds its.toList → WT K (.tup ds) (.ref a)

/-! two operands -/
abbrev Op2 := D → D → Stt → Option (D × Stt)
def x2 (f : Op2) (fa fb : XE) : XE := fun ρ st => (fa ρ st).bind fun x s1 => (fb ρ s1).bind fun y s2 => R.of (f x y s2)
/-- r does on values what f does on trees -/
def Does (K : PySem.W.Frag) (r : R2) (f : Op2) : Prop := ∀ x y st d st' xv yv H μ (Q : VK), Rl K H μ x xv → Rl K H μ y yv → SR K H μ st → f x y st = some (d, st') → (∀ v H' μ', Ext K H μ H' μ' → SR K H' μ' st' → Rl K H' μ' d v → Q v H') → r xv yv H Q
theorem tOp_x2 {K : PySem.W.Frag} {r : R2} {f : Op2} (hd : Does K r f) {σ : L2.St} {H : Hp} {Q : VK} (h : tX K W (x2 f fa fb) σ H Q) : tOp r (tX K W fa) (tX K W fb) σ H Q := by
  obtain ⟨ρ, st, μ, E, S, h⟩ := h
  refine tX_of E S h.bind fun x s1 H1 μ1 xv e1 E1 S1 r1 h1 => ?_
  refine tX_of E1 S1 h1.bind fun y s2 H2 μ2 yv e2 E2 S2 r2 h2 => ?_
  obtain ⟨d, s3, h3, k⟩ := h2.of
  exact hd x y s2 d s3 xv yv H2 μ2 Q (r1.ext e2) r2 S2 h3 fun v H' μ' e S' r => k H' μ' e S' v r
theorem e_op {op : Operator} {r : R2} {f : Op2} (ho : OpR X (binaryOp op) r) (hd : Does X.K r f) (ha : PE X a (tX X.K W fa)) (hb : PE X b (tX X.K W fb)) : PE X (.BinOp a op b pos) (tX X.K W (x2 f fa fb)) :=
  pe_imp (pe_op ho ha hb) fun _ _ _ h => tOp_x2 hd h
theorem e_cmp {op : CmpOp} {r : R2} {f : Op2} (ho : OpR X (compareOp op) r) (hd : Does X.K r f) (ha : PE X a (tX X.K W fa)) (hb : PE X b (tX X.K W fb)) (hm : behindInMarks op b = false) : PE X (.Compare a [op] [b] pos) (tX X.K W (x2 f fa fb)) :=
  pe_imp (pe_cmpR ho ha hb hm) fun _ _ _ h => tOp_x2 hd h
/-- one operand -/
abbrev Op1 := D → Stt → Option (D × Stt)
def x1 (f : Op1) (fa : XE) : XE := fun ρ st => (fa ρ st).bind fun x s1 => R.of (f x s1)
def Does1 (K : PySem.W.Frag) (r : V → Hp → VK → Prop) (f : Op1) : Prop := ∀ x st d st' xv H μ (Q : VK), Rl K H μ x xv → SR K H μ st → f x st = some (d, st') → (∀ v H' μ', Ext K H μ H' μ' → SR K H' μ' st' → Rl K H' μ' d v → Q v H') → r xv H Q
theorem e_un {op : UnaryOp} {r : V → Hp → VK → Prop} {f : Op1} (ho : UnR X (unaryOp op) r) (hd : Does1 X.K r f) (ha : PE X a (tX X.K W fa)) (h : ∀ t, PE X a t → PE X (.UnaryOp op a pos) (tUn r t) := by exact fun _ h => pe_un ho h) : PE X (.UnaryOp op a pos) (tX X.K W (x1 f fa)) :=
  pe_imp (h _ ha) fun σ H Q ⟨ρ, st, μ, E, S, h⟩ => by
    refine tX_of E S h.bind fun x s1 H1 μ1 xv e1 E1 S1 r1 h1 => ?_
    obtain ⟨d, s3, h3, k⟩ := h1.of
    exact hd x s1 d s3 xv H1 μ1 Q r1 S1 h3 fun v H' μ' e S' r => k H' μ' e S' v r
/-- a value that is a bool, as a test -/
def isB (d : D) (st : Stt) : R Bool := match d with
  | .bl b => .ok b st
  | _ => .no
def xB (f : XE) : XT := fun ρ st => (f ρ st).bind isB
@[simp] theorem isB_bl (b : Bool) (st : Stt) : isB (.bl b) st = .ok b st := (rfl)
theorem RO.isB {K : PySem.W.Frag} {Wd : Exn → Hp → List Addr → Prop} {H : Hp} {μ : List Addr} {Q : Bool → Stt → Hp → List Addr → Prop} {d : D} {st : Stt} {v : V} (S : SR K H μ st) (r : Rl K H μ d v) (h : RO K Wd H μ Q (isB d st)) : ∃ k, v = .bl k ∧ Q k st H μ := by
  cases d with
  | bl b => cases r; exact ⟨b, rfl, h.ok S⟩
  | non => exact h.elim
  | int _ => exact h.elim
  | str _ => exact h.elim
  | tup _ => exact h.elim
  | loc _ => exact h.elim
  | cl _ => exact h.elim
  | opq _ => exact h.elim
  | exo _ _ _ _ => exact h.elim
theorem tX_bl {K : PySem.W.Frag} {f : XE} {σ : L2.St} {H : Hp} {Q : Bool → Hp → Prop} (h : tXT K W (xB f) σ H Q) : tX K W f σ H fun x H' => ∃ k, x = .bl k ∧ Q k H' := by
  obtain ⟨ρ, st, μ, E, S, h⟩ := h
  exact tX_of E S h.bind fun x s1 H1 μ1 xv e1 E1 S1 r1 h1 => h1.isB S1 r1
theorem t_cmp {op : CmpOp} {r : R2} {f : Op2} (ho : OpR X (compareOp op) r) (hd : Does X.K r f) (ha : PE X a (tX X.K W fa)) (hb : PE X b (tX X.K W fb)) (hm : behindInMarks op b = false) : PT X (.Compare a [op] [b] pos) (tXT X.K W (xB (x2 f fa fb))) :=
  pt_imp (pt_cmpR ho ha hb hm) fun σ H Q h => by
    show tOp r (tX X.K W fa) (tX X.K W fb) σ H _
    exact tOp_x2 hd (tX_bl h)
/-- any other expression whose value is a bool -/
theorem t_val (ha : PE X a (tX X.K W fa)) (he : ∀ whole, isTrue a X.env whole = (do let v ← whole; standAt a.pos; holding [v] (truthy v)) := by intro _; rfl) : PT X a (tXT X.K W (xB fa)) :=
  pt_imp (pt_val ha he) fun σ H Q h => tX_bl h
/-- a chain a op b op' c -/
def xCh (f f' : Op2) (fa fb fc : XE) : XE := fun ρ st => (fa ρ st).bind fun x s1 => (fb ρ s1).bind fun y s2 => (R.of (f x y s2)).bind fun z s3 => (isB z s3).bind fun k s4 => if k = true then (fc ρ s4).bind fun w s5 => R.of (f' y w s5) else .ok (.bl false) s4
theorem tCh_x {K : PySem.W.Frag} {r r' : R2} {f f' : Op2} (hd : Does K r f) (hd' : Does K r' f') {σ : L2.St} {H : Hp} {Q : VK} (h : tX K W (xCh f f' fa fb fc) σ H Q) : tChain r r' (tX K W fa) (tX K W fb) (tX K W fc) σ H Q := by
  obtain ⟨ρ, st, μ, E, S, h⟩ := h
  refine tX_of E S h.bind fun x s1 H1 μ1 xv e1 E1 S1 r1 h1 => ?_
  refine tX_of E1 S1 h1.bind fun y s2 H2 μ2 yv e2 E2 S2 r2 h2 => ?_
  obtain ⟨z, s3, h3, k⟩ := h2.bind.of
  refine hd x y s2 z s3 xv yv H2 μ2 _ (r1.ext e2) r2 S2 h3 fun v H3 μ3 e3 S3 r3 => ?_
  obtain ⟨b, rfl, q⟩ := (k H3 μ3 e3 S3).bind.isB S3 r3
  refine ⟨b, rfl, ?_⟩
  cases b with
  | true =>
    rw [if_pos rfl] at q ⊢
    refine tX_of (E2.ext e3) S3 q.bind fun w s5 H5 μ5 wv e5 E5 S5 r5 h5 => ?_
    obtain ⟨d, s6, h6, k6⟩ := h5.of
    exact hd' y w s5 d s6 yv wv H5 μ5 Q (r2.ext (e3.trans e5)) r5 S5 h6 fun v H' μ' e S' r => k6 H' μ' e S' v r
  | false =>
    rw [if_neg Bool.false_ne_true] at q ⊢
    exact q.ok S3 _ (.bl false)
theorem e_chain {op op' : CmpOp} {r r' : R2} {f f' : Op2} (ho : OpR X (compareOp op) r) (hd : Does X.K r f) (ho' : OpR X (compareOp op') r') (hd' : Does X.K r' f') (ha : PE X a (tX X.K W fa)) (hb : PE X b (tX X.K W fb)) (hc : PE X c (tX X.K W fc))
    (hm : lastMarks [op, op'] [b, c] = false := by with_unfolding_all rfl) : PE X (.Compare a [op, op'] [b, c] pos) (tX X.K W (xCh f f' fa fb fc)) :=
  pe_imp (pe_chain ho ho' ha hb hc hm) fun _ _ _ h => tCh_x hd hd' h
theorem t_chain {op op' : CmpOp} {r r' : R2} {f f' : Op2} (ho : OpR X (compareOp op) r) (hd : Does X.K r f) (ho' : OpR X (compareOp op') r') (hd' : Does X.K r' f') (ha : PE X a (tX X.K W fa)) (hb : PE X b (tX X.K W fb)) (hc : PE X c (tX X.K W fc))
    (hm : lastMarks [op, op'] [b, c] = false := by with_unfolding_all rfl) : PT X (.Compare a [op, op'] [b, c] pos) (tXT X.K W (xB (xCh f f' fa fb fc))) :=
  pt_imp (pt_chain ho ho' ha hb hc hm) fun σ H Q h => by
    show tChain r r' (tX X.K W fa) (tX X.K W fb) (tX X.K W fc) σ H _
    exact tCh_x hd hd' (tX_bl h)

/-! truth -/
def truth (st : Stt) : D → Option Bool
  | .non => some false
  | .bl b => some b
  | .int i => some (i != 0)
  | .str x => if x.length ≤ sizeLine then some ((x.length : Int) != 0) else none
  | .tup ds => some (!ds.isEmpty)
  | .cl ds => some (!ds.isEmpty)
  | .opq _ => none
  | .exo _ _ _ _ => none
  | .loc n => match st[n]? with
    | some (.lst ds) => some (!ds.isEmpty)
    | some (.dct ds) => some (!ds.isEmpty)
    | _ => none
theorem Rls.empty {K : PySem.W.Frag} {H : Hp} {μ : List Addr} {ds : List D} {vs : List V} (r : Rls K H μ ds vs) : vs.isEmpty = ds.isEmpty := by cases r <;> rfl
theorem truV {K : PySem.W.Frag} {H : Hp} {μ : List Addr} {st : Stt} {d : D} {v : V} {k : Bool} (S : SR K H μ st) (r : Rl K H μ d v) (h : truth st d = some k) : TruV K v H k := by
  cases d with
  | non => cases r; cases h; rfl
  | bl b => cases r; cases h; rfl
  | int i => cases r; cases h; rfl
  | str x =>
    cases r
    have h : (if x.length ≤ sizeLine then some ((x.length : Int) != 0) else none) = some k := h
    by_cases hx : x.length ≤ sizeLine
    · rw [if_pos hx] at h
      cases h
      exact ⟨hx, rfl⟩
    · rw [if_neg hx] at h
      cases h
  | tup ds =>
    obtain ⟨a, vs, rfl, hq, q⟩ := seqT r
    cases h
    exact .inr (.inl ⟨vs, hq, by rw [q.empty]⟩)
  | opq _ => cases h
  | exo _ _ _ _ => cases h
  | cl ds =>
    obtain ⟨a, vs, rfl, hq, q⟩ := seqC r
    cases h
    exact .inl ⟨vs, hq, by rw [q.empty]⟩
  | loc n =>
    have h : (match st[n]? with
      | some (.lst ds) => some (!ds.isEmpty)
        | some (.dct ds) => some (!ds.isEmpty)
      | _ => none) = some k := h
    cases e : st[n]? with
    | none => rw [e] at h; cases h
    | some o =>
      rw [e] at h
      cases o with
      | lst ds =>
        cases h
        obtain ⟨a, vs, rfl, _, e2, q⟩ := S.lst e r
        exact .inl ⟨vs, .inl (.inl e2), by rw [q.empty]⟩
      | dct ds =>
        cases h
        obtain ⟨a, vs, rfl, _, e2, q⟩ := S.dct e r
        refine .inr (.inr ⟨vs, e2, ?_⟩)
        cases q <;> rfl
      | ins C fs => cases h
      | dtt _ => cases h
def isT (d : D) (st : Stt) : R Bool := match truth st d with
  | some b => .ok b st
  | none => .no
theorem RO.isT {K : PySem.W.Frag} {Wd : Exn → Hp → List Addr → Prop} {H : Hp} {μ : List Addr} {Q : Bool → Stt → Hp → List Addr → Prop} {d : D} {st : Stt} {v : V} (S : SR K H μ st) (r : Rl K H μ d v) (h : RO K Wd H μ Q (isT d st)) : ∃ k, TruV K v H k ∧ truth st d = some k ∧ Q k st H μ := by
  unfold Rg.isT at h
  cases e : truth st d with
  | none => rw [e] at h; exact h.elim
  | some b => rw [e] at h; exact ⟨b, truV S r e, rfl, h.ok S⟩
def xTr (f : XE) : XT := fun ρ st => (f ρ st).bind isT
theorem t_tr (ha : PE X a (tX X.K W fa)) (he : ∀ whole, isTrue a X.env whole = (do let v ← whole; standAt a.pos; holding [v] (truthy v)) := by intro _; rfl) : PT X a (tXT X.K W (xTr fa)) :=
  pt_imp (pt_truth ha he) fun σ H Q ⟨ρ, st, μ, E, S, h⟩ =>
    tX_of E S h.bind fun x s1 H1 μ1 xv e1 E1 S1 r1 h1 => by
      obtain ⟨k, t, _, q⟩ := h1.isT S1 r1
      exact ⟨k, t, q⟩
def xNot (f : XT) : XT := fun ρ st => (f ρ st).bind fun b s => .ok (!b) s
theorem t_not {f : XT} (ha : PT X a (tXT X.K W f)) : PT X (.UnaryOp .Not a pos) (tXT X.K W (xNot f)) :=
  pt_imp (pt_not ha) fun σ H Q ⟨ρ, st, μ, E, S, h⟩ =>
    tXT_of E S h.bind fun k s1 H1 μ1 e1 E1 S1 h1 => h1.ok S1
/-- not a, as a value -/
def xNotV (f : XE) : XE := fun ρ st => (f ρ st).bind fun d s => (isT d s).bind fun b s => .ok (.bl !b) s
theorem e_not (ha : PE X a (tX X.K W fa)) : PE X (.UnaryOp .Not a pos) (tX X.K W (xNotV fa)) :=
  pe_imp (pe_notT ha) fun σ H Q ⟨ρ, st, μ, E, S, h⟩ =>
    tX_of E S h.bind fun x s1 H1 μ1 xv e1 E1 S1 r1 h1 => by
      obtain ⟨k, t, _, q⟩ := h1.bind.isT S1 r1
      exact ⟨k, t, q.ok S1 _ (.bl _)⟩
def xAnd (f g : XT) : XT := fun ρ st => (f ρ st).bind fun b s => if b = true then g ρ s else .ok false s
def xOr (f g : XT) : XT := fun ρ st => (f ρ st).bind fun b s => if b = true then .ok true s else g ρ s
theorem w_1 {op : BoolOp} {f : XT} (ha : PT X a (tXT X.K W f)) : PW X (.BoolOp op [a] pos) (tXT X.K W f) := by
  cases op
  · exact pw_and1 ha
  · exact pw_or1 ha
theorem w_and {rest : List Expr} {f g : XT} (ha : PT X a (tXT X.K W f)) (hb : PW X (.BoolOp .And (b :: rest) pos) (tXT X.K W g)) : PW X (.BoolOp .And (a :: b :: rest) pos) (tXT X.K W (xAnd f g)) :=
  pw_imp (pw_and ha hb) fun σ H Q ⟨ρ, st, μ, E, S, h⟩ =>
    tXT_of E S h.bind fun k s1 H1 μ1 e1 E1 S1 h1 => by
      cases k with
      | true => exact ⟨ρ, s1, μ1, E1, S1, h1⟩
      | false => exact h1.ok S1
theorem w_or {rest : List Expr} {f g : XT} (ha : PT X a (tXT X.K W f)) (hb : PW X (.BoolOp .Or (b :: rest) pos) (tXT X.K W g)) : PW X (.BoolOp .Or (a :: b :: rest) pos) (tXT X.K W (xOr f g)) :=
  pw_imp (pw_or ha hb) fun σ H Q ⟨ρ, st, μ, E, S, h⟩ =>
    tXT_of E S h.bind fun k s1 H1 μ1 e1 E1 S1 h1 => by
      cases k with
      | false => exact ⟨ρ, s1, μ1, E1, S1, h1⟩
      | true => exact h1.ok S1
/-- a and b, a or b, as values -/
def xAndV (f g : XE) : XE := fun ρ st => (f ρ st).bind fun d s => (isT d s).bind fun b s => if b = true then g ρ s else .ok d s
def xOrV (f g : XE) : XE := fun ρ st => (f ρ st).bind fun d s => (isT d s).bind fun b s => if b = true then .ok d s else g ρ s
theorem e_1 {op : BoolOp} (ha : PE X a (tX X.K W fa)) : PE X (.BoolOp op [a] pos) (tX X.K W fa) := pe_one ha
def xIte (t : XT) (f g : XE) : XE := fun ρ st => (t ρ st).bind fun b s => if b = true then f ρ s else g ρ s
theorem e_ite {t : XT} (hc : PT X c (tXT X.K W t)) (ha : PE X a (tX X.K W fa)) (hb : PE X b (tX X.K W fb)) : PE X (.IfExp c a b pos) (tX X.K W (xIte t fa fb)) :=
  pe_imp (pe_ifExp hc ha hb) fun σ H Q ⟨ρ, st, μ, E, S, h⟩ =>
    tXT_of E S h.bind fun k s1 H1 μ1 e1 E1 S1 h1 => by
      cases k with
      | true => exact ⟨ρ, s1, μ1, E1, S1, h1⟩
      | false => exact ⟨ρ, s1, μ1, E1, S1, h1⟩

/-! arguments, displays -/
def xNil : XA := fun _ st => .ok [] st
def xCons (f : XE) (g : XA) : XA := fun ρ st => (f ρ st).bind fun d s => (g ρ s).bind fun ds s => .ok (d :: ds) s
theorem a_nil : PA X [] (tXA X.K W xNil) := pa_imp pa_nil fun σ H Q ⟨ρ, st, μ, E, S, h⟩ => h.ok S [] .nil
theorem a_cons {g : XA} (ha : PE X e (tX X.K W fa)) (hr : PA X es (tXA X.K W g)) (hs : starEach (e :: es) X.env = (false, eval e X.env) :: starEach es X.env := by rfl) : PA X (e :: es) (tXA X.K W (xCons fa g)) :=
  pa_imp (pa_cons ha hr hs) fun σ H Q ⟨ρ, st, μ, E, S, h⟩ =>
    tX_of E S h.bind fun x s1 H1 μ1 xv e1 E1 S1 r1 h1 =>
      tXA_of E1 S1 h1.bind fun ys s2 H2 μ2 vs e2 E2 S2 r2 h2 => h2.ok S2 (xv :: vs) (.cons (r1.ext e2) r2)
def mkTup (ds : List D) (st : Stt) : R D := if ds.length ≤ sizeLine then .ok (.tup ds) st else .no
def mkLst (ds : List D) (st : Stt) : R D := if ds.length ≤ sizeLine then .ok (.loc st.length) (st ++ [.lst ds]) else .no
def xTup (g : XA) : XE := fun ρ st => (g ρ st).bind mkTup
def xLst (g : XA) : XE := fun ρ st => (g ρ st).bind mkLst
theorem e_tup {g : XA} {k : Nat} (h : PA X es (tXA X.K W g)) : PE X (.Tuple es k pos) (tX X.K W (xTup g)) :=
  pe_imp (pe_tup h) fun σ H Q ⟨ρ, st, μ, E, S, h⟩ =>
    tXA_of E S h.bind fun ds s1 H1 μ1 vs e1 E1 S1 r1 h1 => by
      unfold mkTup at h1
      split at h1
      · rename_i hz
        refine ⟨by rw [← r1.length]; exact hz, fun p hp => ?_⟩
        exact h1 _ μ1 (ext_tup hp vs) (S1.tup hp vs) _ (.tup (.inl (.inl upd_same)) (r1.ext (ext_tup hp vs)))
      · exact h1.elim
theorem loc_new {K : PySem.W.Frag} {H : Hp} {μ : List Addr} {st : Stt} {p : Addr} {u : HO} (S : SR K H μ st) : Rl K (upd H p u) (μ ++ [p]) (.loc st.length) (.ref p) := .loc (by rw [← S.len]; simp)
theorem SR.newL {K : PySem.W.Frag} {H : Hp} {μ : List Addr} {st : Stt} {p : Addr} {ds : List D} {vs : List V} (S : SR K H μ st) (hp : H p = none) (r : Rls K H μ ds vs) : SR K (upd H p (.lst vs)) (μ ++ [p]) (st ++ [.lst ds]) :=
  S.new (o := .lst ds) hp ⟨vs, upd_same, r.ext (ext_new hp _)⟩
theorem e_lst {g : XA} (h : PA X es (tXA X.K W g)) : PE X (.List es pos) (tX X.K W (xLst g)) :=
  pe_imp (pe_lst h) fun σ H Q ⟨ρ, st, μ, E, S, h⟩ =>
    tXA_of E S h.bind fun ds s1 H1 μ1 vs e1 E1 S1 r1 h1 => by
      unfold mkLst at h1
      split at h1
      · rename_i hz
        refine ⟨by rw [← r1.length]; exact hz, fun p hp => ?_⟩
        exact h1 _ (μ1 ++ [p]) (ext_new hp _) (S1.newL hp r1) _ (loc_new S1)
      · exact h1.elim
def xDict0 : XE := fun _ st => .ok (.loc st.length) (st ++ [.dct []])
theorem e_dict0 : PE X (.Dict [] [] pos) (tX X.K W xDict0) :=
  pe_imp pe_dnewK fun σ H Q ⟨ρ, st, μ, E, S, h⟩ => by
    intro p hp
    exact h _ (μ ++ [p]) (ext_new hp _) (S.new (o := .dct []) hp ⟨[], upd_same, .nil⟩) _ (loc_new S)
end
end Rg

set_option Elab.async false
set_option linter.all false
set_option maxRecDepth 100000
namespace Rg
open PySem PySem.Spec PyProof.Rows L2
variable {K : PySem.W.Frag}

/-! ### trees as data, == -/
def toD (st : Stt) : Nat → D → Option PyData
  | 0, _ => none
  | n + 1, d => match d with
    | .non => some .none
    | .bl b => some (.bool b)
    | .int i => some (.int i)
    | .str x => if PyData.strOk x = true then some (.str x) else none
    | .tup ds => (ds.mapM (toD st n)).map .tuple
    | .cl ds => (ds.mapM (toD st n)).map .list
    | .opq _ => none
    | .exo _ _ _ _ => none
    | .loc k => match st[k]? with
      | some (.lst ds) => (ds.mapM (toD st n)).map .list
      | _ => none
theorem mapM_dp {H : Hp} {μ : List Addr} {f : D → Option PyData} {n : Nat} (hf : ∀ d p v, f d = some p → Rl K H μ d v → Dp K H v p ∧ p.depth ≤ n ∧ p.canLay0 = true) : ∀ (ds : List D) (ps : List PyData) (vs : List V), ds.mapM f = some ps → Rls K H μ ds vs →
    DpAll K H vs ps ∧ PyData.depthAll ps ≤ n ∧ PyData.canLayAll0 ps = true
  | [], ps, vs, h, r => by
    rw [List.mapM_nil] at h
    cases h
    cases r
    exact ⟨.nil, by simp [PyData.depthAll], by simp [PyData.canLayAll0]⟩
  | d :: ds, ps, vs, h, r => by
    rw [List.mapM_cons] at h
    obtain ⟨p, h1, h⟩ := Option.bind_eq_some_iff.mp h
    obtain ⟨qs, h2, h⟩ := Option.bind_eq_some_iff.mp h
    cases h
    cases r with
    | cons r1 r2 =>
      obtain ⟨a1, a2, a3⟩ := hf d p _ h1 r1
      obtain ⟨b1, b2, b3⟩ := mapM_dp hf ds qs _ h2 r2
      refine ⟨.cons a1 b1, ?_, ?_⟩
      · simp only [PyData.depthAll]
        omega
      · simp only [PyData.canLayAll0, a3, b3, Bool.and_self]
theorem toD_dp {H : Hp} {μ : List Addr} {st : Stt} (S : SR K H μ st) : ∀ (n : Nat) (d : D) (p : PyData) (v : V), toD st n d = some p → Rl K H μ d v → Dp K H v p ∧ p.depth ≤ n ∧ p.canLay0 = true
  | 0, _, _, _, h, _ => by cases h
  | n + 1, d, p, v, h, r => by
    cases d with
    | non => cases h; cases r; exact ⟨.non, by simp [PyData.depth], by simp [PyData.canLay0]⟩
    | bl b => cases h; cases r; exact ⟨.bl b, by simp [PyData.depth], by simp [PyData.canLay0]⟩
    | int i => cases h; cases r; exact ⟨.int i, by simp [PyData.depth], by simp [PyData.canLay0]⟩
    | str x =>
      have h : (if PyData.strOk x = true then some (PyData.str x) else none) = some p := h
      by_cases hx : PyData.strOk x = true
      · rw [if_pos hx] at h
        cases h
        cases r
        exact ⟨.str x, by simp [PyData.depth], by simpa [PyData.canLay0] using hx⟩
      · rw [if_neg hx] at h
        cases h
    | tup ds =>
      obtain ⟨qs, h1, h2⟩ := Option.map_eq_some_iff.mp (show (ds.mapM (toD st n)).map PyData.tuple = some p from h)
      subst h2
      obtain ⟨a, vs, rfl, hq, q⟩ := seqT (K := K) r
      obtain ⟨b1, b2, b3⟩ := mapM_dp (toD_dp S n) ds qs vs h1 q
      exact ⟨.tup hq b1, by simp only [PyData.depth]; omega, by simpa [PyData.canLay0] using b3⟩
    | opq _ => cases h
    | exo _ _ _ _ => cases h
    | cl ds =>
      obtain ⟨qs, h1, h2⟩ := Option.map_eq_some_iff.mp (show (ds.mapM (toD st n)).map PyData.list = some p from h)
      subst h2
      obtain ⟨a, vs, rfl, hq, q⟩ := seqC (K := K) r
      obtain ⟨b1, b2, b3⟩ := mapM_dp (toD_dp S n) ds qs vs h1 q
      exact ⟨.lst hq b1, by simp only [PyData.depth]; omega, by simpa [PyData.canLay0] using b3⟩
    | loc k =>
      have h : (match st[k]? with
        | some (.lst ds) => (ds.mapM (toD st n)).map PyData.list
        | _ => none) = some p := h
      have go : ∀ ds, items st (.loc k) = some ds → (ds.mapM (toD st n)).map PyData.list = some p → Dp K H v p ∧ p.depth ≤ n + 1 ∧ p.canLay0 = true := fun ds hi h => by
        obtain ⟨qs, h1, h2⟩ := Option.map_eq_some_iff.mp h
        subst h2
        obtain ⟨a, vs, rfl, hq, q⟩ := S.seqL (K := K) hi r
        obtain ⟨b1, b2, b3⟩ := mapM_dp (toD_dp S n) ds qs vs h1 q
        exact ⟨.lst hq b1, by simp only [PyData.depth]; omega, by simpa [PyData.canLay0] using b3⟩
      cases e : st[k]? with
      | none => rw [e] at h; cases h
      | some o =>
        rw [e] at h
        cases o with
        | lst ds => exact go ds (by show (match st[k]? with | some (.lst ds) => some ds | _ => none) = _; rw [e]) h
        | dct ds => cases h
        | ins _ _ => cases h
        | dtt _ => cases h
def deq (st : Stt) (x y : D) : Option Bool := (toD st 60 x).bind fun a => (toD st 60 y).map fun b => PyData.eqv a b
def oEq : Op2 := fun x y st => (deq st x y).map fun b => (.bl b, st)
def oNe : Op2 := fun x y st => (deq st x y).map fun b => (.bl !b, st)
theorem deq_some {st : Stt} {x y : D} {b : Bool} (h : deq st x y = some b) : ∃ p q, toD st 60 x = some p ∧ toD st 60 y = some q ∧ b = PyData.eqv p q := by
  unfold deq at h
  obtain ⟨p, h1, h⟩ := Option.bind_eq_some_iff.mp h
  obtain ⟨q, h2, h⟩ := Option.map_eq_some_iff.mp h
  exact ⟨p, q, h1, h2, h.symm⟩
theorem shaped_of {p : PyData} (h : p.depth ≤ 60) (c : p.canLay0 = true) : SeqAt.shaped p = true := by
  show (p.canLay0 && decide (p.depth ≤ 64)) = true
  rw [c, decide_eq_true (by omega)]
  rfl
theorem does_eq : Does K (rEqD K) oEq := fun x y st d st' xv yv H μ Q rx ry S h q => by
  unfold oEq at h
  obtain ⟨b, h1, h⟩ := Option.map_eq_some_iff.mp h
  cases h
  obtain ⟨p, r, h2, h3, rfl⟩ := deq_some h1
  obtain ⟨a1, a2, a3⟩ := toD_dp (K := K) S 60 x p xv h2 rx
  obtain ⟨b1, b2, b3⟩ := toD_dp (K := K) S 60 y r yv h3 ry
  exact ⟨p, r, a1, b1, shaped_of a2 a3, shaped_of b2 b3, q _ H μ (Ext.refl _ _) S (.bl _)⟩
theorem does_ne : Does K (rNeD K) oNe := fun x y st d st' xv yv H μ Q rx ry S h q => by
  unfold oNe at h
  obtain ⟨b, h1, h⟩ := Option.map_eq_some_iff.mp h
  cases h
  obtain ⟨p, r, h2, h3, rfl⟩ := deq_some h1
  obtain ⟨a1, a2, a3⟩ := toD_dp (K := K) S 60 x p xv h2 rx
  obtain ⟨b1, b2, b3⟩ := toD_dp (K := K) S 60 y r yv h3 ry
  exact ⟨p, r, a1, b1, shaped_of a2 a3, shaped_of b2 b3, q _ H μ (Ext.refl _ _) S (.bl _)⟩

/-! ### ints -/
def oI (C : Int → Int → Prop) [∀ i j, Decidable (C i j)] (g : Int → Int → D) : Op2 := fun x y st => match x, y with
  | .int i, .int j => if C i j then some (g i j, st) else none
  | _, _ => none
instance : ∀ i j, Decidable (CMul i j) := fun i j => inferInstanceAs (Decidable ((-(2 ^ 64) < i ∧ i < 2 ^ 64) ∨ (-(2 ^ 64) < j ∧ j < 2 ^ 64)))
instance : ∀ i j, Decidable (CDiv i j) := fun i j => inferInstanceAs (Decidable (0 < j ∧ j < 1073741824))
instance : ∀ i j, Decidable (CPow i j) := fun i j => inferInstanceAs (Decidable (0 ≤ j ∧ j ≤ 1000000 ∧ i.natAbs < 2 ^ 64))
def CAny (_ _ : Int) : Prop := True
instance : ∀ i j, Decidable (CAny i j) := fun _ _ => inferInstanceAs (Decidable True)
def CPos (_ j : Int) : Prop := 0 < j
instance : ∀ i j, Decidable (CPos i j) := fun _ j => inferInstanceAs (Decidable (0 < j))
theorem oI_some {C : Int → Int → Prop} [∀ i j, Decidable (C i j)] {g : Int → Int → D} {x y d : D} {st st' : Stt} (h : oI C g x y st = some (d, st')) : ∃ i j, x = .int i ∧ y = .int j ∧ C i j ∧ d = g i j ∧ st' = st := by
  unfold oI at h
  split at h
  · split at h
    · rename_i hc
      cases h
      exact ⟨_, _, rfl, rfl, hc, rfl, rfl⟩
    · cases h
  · cases h
theorem does_I {C : Int → Int → Prop} [∀ i j, Decidable (C i j)] {g : Int → Int → Int} : Does K (rI C fun i j => .int (g i j)) (oI C fun i j => .int (g i j)) := fun x y st d st' xv yv H μ Q rx ry S h q => by
  obtain ⟨i, j, rfl, rfl, hc, rfl, rfl⟩ := oI_some h
  cases rx
  cases ry
  exact ⟨i, j, rfl, rfl, hc, q _ H μ (Ext.refl _ _) S (.int _)⟩
theorem does_I0 {g : Int → Int → Int} : Does K (rI0 fun i j => .int (g i j)) (oI CAny fun i j => .int (g i j)) := fun x y st d st' xv yv H μ Q rx ry S h q => by
  obtain ⟨i, j, rfl, rfl, hc, rfl, rfl⟩ := oI_some h
  cases rx
  cases ry
  exact ⟨i, j, rfl, rfl, q _ H μ (Ext.refl _ _) S (.int _)⟩
theorem does_B0 {g : Int → Int → Bool} : Does K (rI0 fun i j => .bl (g i j)) (oI CAny fun i j => .bl (g i j)) := fun x y st d st' xv yv H μ Q rx ry S h q => by
  obtain ⟨i, j, rfl, rfl, hc, rfl, rfl⟩ := oI_some h
  cases rx
  cases ry
  exact ⟨i, j, rfl, rfl, q _ H μ (Ext.refl _ _) S (.bl _)⟩
abbrev oSub : Op2 := oI CAny fun i j => .int (i - j)
abbrev oMul : Op2 := oI CMul fun i j => .int (i * j)
abbrev oMod : Op2 := oI CPos fun i j => .int (i % j)
abbrev oDiv : Op2 := oI CDiv fun i j => .int (i / j)
abbrev oPow : Op2 := oI CPow fun i j => .int (i ^ j.toNat)
abbrev oLtI : Op2 := oI CAny fun i j => .bl (decide (i < j))
abbrev oLe : Op2 := oI CAny fun i j => .bl (decide (i ≤ j))
abbrev oGt : Op2 := oI CAny fun i j => .bl (decide (j < i))
abbrev oGe : Op2 := oI CAny fun i j => .bl (decide (j ≤ i))
theorem does_mod : Does K (rI (fun _ j => 0 < j) fun i j => .int (i % j)) oMod := does_I (C := CPos)

/-! ### two rules for one operation -/
theorem does_or {r r' : R2} {f f' : Op2} (h : Does K r f) (h' : Does K r' f') : Does K (fun x y H Q => r x y H Q ∨ r' x y H Q) (fun x y st => (f x y st).orElse fun _ => f' x y st) := fun x y st d st' xv yv H μ Q rx ry S e q => by
  cases e1 : f x y st with
  | some p =>
    have e : ((f x y st).orElse fun _ => f' x y st) = some (d, st') := e
    rw [e1] at e
    have e : some p = some (d, st') := e
    exact .inl (h x y st d st' xv yv H μ Q rx ry S (e1.trans e) q)
  | none =>
    have e : ((f x y st).orElse fun _ => f' x y st) = some (d, st') := e
    rw [e1] at e
    have e : f' x y st = some (d, st') := e
    exact .inr (h' x y st d st' xv yv H μ Q rx ry S e q)
/-- by the shapes of the operands -/
theorem does_imp {r r' : R2} {f : Op2} (h : Does K r f) (i : ∀ x y H Q, r x y H Q → r' x y H Q) : Does K r' f := fun x y st d st' xv yv H μ Q rx ry S e q => i _ _ _ _ (h x y st d st' xv yv H μ Q rx ry S e q)
def oAdd : Op2 := fun x y st => match x, y with
  | .int i, .int j => some (.int (i + j), st)
  | .str i, .str j => if i.length + j.length ≤ sizeLine then some (.str (i ++ j), st) else none
  | .tup a, .tup b => if a.length + b.length ≤ sizeLine then some (.tup (a ++ b), st) else none
  | .loc m, .loc n => match st[m]?, st[n]? with
    | some (.lst a), some (.lst b) => if a.length + b.length ≤ sizeLine then some (.loc st.length, st ++ [.lst (a ++ b)]) else none
    | _, _ => none
  | _, _ => none
def rAddD (K : PySem.W.Frag) : R2 := fun x y H Q => (∃ i j, x = .int i ∧ y = .int j ∧ Q (.int (i + j)) H) ∨ ((∃ i j, x = .str i ∧ y = .str j ∧ i.length + j.length ≤ sizeLine ∧ Q (.str (i ++ j)) H) ∨ (rCatA K x y H Q ∨ rCat x y H Q))
theorem op_addD {X : Cx} : OpR X (binaryOp .Add) (rAddD X.K) := op_add.or (op_add_str.or (op_catA.or op_cat))
theorem does_addD : Does K (rAddD K) oAdd := fun x y st d st' xv yv H μ Q rx ry S h q => by
  unfold oAdd at h
  split at h
  · cases h
    cases rx
    cases ry
    exact .inl ⟨_, _, rfl, rfl, q _ H μ (Ext.refl _ _) S (.int _)⟩
  · split at h
    · rename_i hz
      cases h
      cases rx
      cases ry
      exact .inr (.inl ⟨_, _, rfl, rfl, hz, q _ H μ (Ext.refl _ _) S (.str _)⟩)
    · cases h
  · rename_i a b
    split at h
    · rename_i hz
      cases h
      obtain ⟨p, vs, rfl, h1, q1⟩ := seqT (K := K) rx
      obtain ⟨p2, us, rfl, h2, q2⟩ := seqT (K := K) ry
      refine .inr (.inr (.inl ⟨p, p2, vs, us, rfl, rfl, h1, h2, by rw [← q1.length, ← q2.length]; exact hz, fun e => ?_, fun e e2 => ?_, fun _ _ n hn => ?_⟩))
      · subst e
        cases q1
        exact q _ H μ (Ext.refl _ _) S (.tup h2 q2)
      · subst e2
        cases q2
        rw [List.append_nil] at q
        exact q _ H μ (Ext.refl _ _) S (.tup h1 q1)
      · exact q _ _ μ (ext_tup hn _) (S.tup hn _) (.tup (.inl (.inl upd_same)) ((q1.append q2).ext (ext_tup hn _)))
    · cases h
  · rename_i m n
    cases e1 : st[m]? with
    | none => rw [e1] at h; cases h
    | some o =>
      cases e2 : st[n]? with
      | none => rw [e1, e2] at h; cases o <;> cases h
      | some o2 =>
        rw [e1, e2] at h
        cases o with
        | lst a =>
          cases o2 with
          | lst b =>
            have h : (if a.length + b.length ≤ sizeLine then some (D.loc st.length, st ++ [O.lst (a ++ b)]) else none) = some (d, st') := h
            by_cases hz : a.length + b.length ≤ sizeLine
            · rw [if_pos hz] at h
              cases h
              obtain ⟨p, vs, rfl, _, t1, q1⟩ := S.lst e1 rx
              obtain ⟨p2, us, rfl, _, t2, q2⟩ := S.lst e2 ry
              refine .inr (.inr (.inr ⟨p, p2, vs, us, rfl, rfl, t1, t2, by rw [← q1.length, ← q2.length]; exact hz, fun n hn => ?_⟩))
              exact q _ _ _ (ext_new hn _) (S.newL hn (q1.append q2)) (loc_new S)
            · rw [if_neg hz] at h
              cases h
          | dct _ => cases h
          | ins _ _ => cases h
          | dtt _ => cases h
        | dct _ => cases h
        | ins _ _ => cases h
        | dtt _ => cases h
  · cases h
section
variable {X : Cx}
theorem does_sub : Does K (rI0 fun i j => .int (i - j)) oSub := does_I0
theorem does_mul : Does K (rI CMul fun i j => .int (i * j)) oMul := does_I
theorem does_div : Does K (rI CDiv fun i j => .int (i / j)) oDiv := does_I
theorem does_pow : Does K (rI CPow fun i j => .int (i ^ j.toNat)) oPow := does_I
theorem does_le : Does K (rI0 fun i j => .bl (decide (i ≤ j))) oLe := does_B0
theorem does_gt : Does K (rI0 fun i j => .bl (decide (j < i))) oGt := does_B0
theorem does_ge : Does K (rI0 fun i j => .bl (decide (j ≤ i))) oGe := does_B0
end
/-- < of ints and of texts -/
def oLt : Op2 := fun x y st => match x, y with
  | .int i, .int j => some (.bl (decide (i < j)), st)
  | .str i, .str j => some (.bl (decide (i.cps.toList < j.cps.toList)), st)
  | _, _ => none
def rLtD : R2 := fun x y H Q => (∃ i j, x = .int i ∧ y = .int j ∧ Q (.bl (decide (i < j))) H) ∨ ∃ i j, x = .str i ∧ y = .str j ∧ Q (.bl (decide (i.cps.toList < j.cps.toList))) H
theorem op_ltD {X : Cx} : OpR X (compareOp .Lt) rLtD := op_lt.or op_lt_str
theorem does_ltD : Does K rLtD oLt := fun x y st d st' xv yv H μ Q rx ry S h q => by
  unfold oLt at h
  split at h
  · cases h
    cases rx
    cases ry
    exact .inl ⟨_, _, rfl, rfl, q _ H μ (Ext.refl _ _) S (.bl _)⟩
  · cases h
    cases rx
    cases ry
    exact .inr ⟨_, _, rfl, rfl, q _ H μ (Ext.refl _ _) S (.bl _)⟩
  · cases h

/-! ### is, is not; in -/
def oIsB : Op2 := fun x y st => match x, y with
  | .bl a, .bl b => some (.bl (decide (a = b)), st)
  | _, _ => none
def oNotB : Op2 := fun x y st => match x, y with
  | .bl a, .bl b => some (.bl (!decide (a = b)), st)
  | _, _ => none
theorem does_isB : Does K rIsB oIsB := fun x y st d st' xv yv H μ Q rx ry S h q => by
  unfold oIsB at h
  split at h
  · cases h
    cases rx
    cases ry
    exact ⟨_, _, rfl, rfl, q _ H μ (Ext.refl _ _) S (.bl _)⟩
  · cases h
theorem does_notB : Does K rNotB oNotB := fun x y st d st' xv yv H μ Q rx ry S h q => by
  unfold oNotB at h
  split at h
  · cases h
    cases rx
    cases ry
    exact ⟨_, _, rfl, rfl, q _ H μ (Ext.refl _ _) S (.bl _)⟩
  · cases h
def inS (i j : Str) : Bool := !(Builtin.Str.occurrences j i 0 j.length 1).isEmpty
def oInS : Op2 := fun x y st => match x, y with
  | .str i, .str j => some (.bl (inS i j), st)
  | _, _ => none
theorem does_inS : Does K (fun x y H Q => ∃ i j, x = .str i ∧ y = .str j ∧ Q (.bl (!(Builtin.Str.occurrences j i 0 j.length 1).isEmpty)) H) oInS := fun x y st d st' xv yv H μ Q rx ry S h q => by
  unfold oInS at h
  split at h
  · cases h
    cases rx
    cases ry
    exact ⟨_, _, rfl, rfl, q _ H μ (Ext.refl _ _) S (.bl _)⟩
  · cases h

/-! ### items, slices -/
def oIx : Op2 := fun x y st => match y with
  | .int i => match x with
    | .str z => if z.length ≤ sizeLine then (atI z.cps.toList i).map fun c => (.str ⟨#[c]⟩, st) else none
    | x => (items st x).bind fun ds => (atI ds i).map fun d => (d, st)
  | _ => none
theorem atI_rls {H : Hp} {μ : List Addr} {ds : List D} {vs : List V} {i : Int} {d : D} (r : Rls K H μ ds vs) (h : atI ds i = some d) : ∃ v, atI vs i = some v ∧ Rl K H μ d v := by
  unfold atI at h ⊢
  obtain ⟨j, h1, h2⟩ := Option.bind_eq_some_iff.mp h
  obtain ⟨v, h3, h4⟩ := r.get h2
  rw [r.length] at h1
  exact ⟨v, by rw [h1]; exact h3, h4⟩
theorem does_ix : Does K (rIx K) oIx := fun x y st d st' xv yv H μ Q rx ry S h q => by
  unfold oIx at h
  split at h
  · rename_i i
    cases ry
    split at h
    · rename_i z
      split at h
      · rename_i hz
        obtain ⟨c, h1, h⟩ := Option.map_eq_some_iff.mp h
        cases h
        cases rx
        exact .inr (.inr ⟨z, i, c, rfl, rfl, hz, h1, q _ H μ (Ext.refl _ _) S (.str _)⟩)
      · cases h
    · obtain ⟨ds, h1, h⟩ := Option.bind_eq_some_iff.mp h
      obtain ⟨e, h2, h⟩ := Option.map_eq_some_iff.mp h
      cases h
      cases x with
      | opq _ => cases h1
      | exo _ _ _ _ => cases h1
      | tup es =>
        cases h1
        obtain ⟨a, vs, rfl, hq, q1⟩ := seqT (K := K) rx
        obtain ⟨v, h3, h4⟩ := atI_rls q1 h2
        exact .inr (.inl ⟨a, vs, i, v, rfl, rfl, hq, h3, q v H μ (Ext.refl _ _) S h4⟩)
      | loc n =>
        obtain ⟨a, vs, rfl, hq, q1⟩ := S.seqL (K := K) h1 rx
        obtain ⟨v, h3, h4⟩ := atI_rls q1 h2
        exact .inl ⟨a, vs, i, v, rfl, rfl, hq, h3, q v H μ (Ext.refl _ _) S h4⟩
      | cl es =>
        cases h1
        obtain ⟨a, vs, rfl, hq, q1⟩ := seqC (K := K) rx
        obtain ⟨v, h3, h4⟩ := atI_rls q1 h2
        exact .inl ⟨a, vs, i, v, rfl, rfl, hq, h3, q v H μ (Ext.refl _ _) S h4⟩
      | non => cases h1
      | bl _ => cases h1
      | int _ => cases h1
      | str _ => cases h1
  · cases h
section
variable {X : Cx} {a b e : Expr} {fa fb : XE} {pos : Pos} {W : WX}
theorem e_ix (ha : PE X a (tX X.K W fa)) (hb : PE X b (tX X.K W fb)) (hs : PlainIx b := by exact fun _ _ => rfl) : PE X (.Subscript a b pos) (tX X.K W (x2 oIx fa fb)) :=
  pe_imp (pe_ix ix_seq ha hb hs) fun _ _ _ h => tOp_x2 does_ix h
/-- the parts of a slice -/
abbrev XO := En → Stt → R (Option Int)
def tXO (K : PySem.W.Frag) (W : WX) (f : XO) : TO := fun σ H Q => ∃ ρ st μ, ER K H μ ρ σ ∧ SR K H μ st ∧ RO K (wx K W σ) H μ (fun o _ H' _ => Q o H') (f ρ st)
theorem tXO_of {W : WX} {f : XO} {σ : L2.St} {H : Hp} {μ : List Addr} {ρ : En} {st : Stt} {P : Option Int → Stt → Hp → List Addr → Prop} {Q : Option Int → Hp → Prop} (E : ER K H μ ρ σ) (S : SR K H μ st) (h : RO K (wx K W σ) H μ P (f ρ st))
    (k : ∀ d st' H' μ', Ext K H μ H' μ' → ER K H' μ' ρ σ → SR K H' μ' st' → P d st' H' μ' → Q d H') : tXO K W f σ H Q :=
  ⟨ρ, st, μ, E, S, h.mono fun a s H' μ' e S' p => k a s H' μ' e (E.ext e) S' p⟩
def xON : XO := fun _ st => .ok none st
def isI (d : D) (st : Stt) : R Int := match d with
  | .int i => .ok i st
  | _ => .no
@[simp] theorem isI_int (i : Int) (st : Stt) : isI (.int i) st = .ok i st := (rfl)
theorem RO.isI {Wd : Exn → Hp → List Addr → Prop} {H : Hp} {μ : List Addr} {Q : Int → Stt → Hp → List Addr → Prop} {d : D} {st : Stt} {v : V} (S : SR K H μ st) (r : Rl K H μ d v) (h : RO K Wd H μ Q (isI d st)) : ∃ k, v = .int k ∧ Q k st H μ := by
  cases d with
  | int b => cases r; exact ⟨b, rfl, h.ok S⟩
  | non => exact h.elim
  | bl _ => exact h.elim
  | str _ => exact h.elim
  | tup _ => exact h.elim
  | loc _ => exact h.elim
  | cl _ => exact h.elim
  | opq _ => exact h.elim
  | exo _ _ _ _ => exact h.elim
def xOS (f : XE) : XO := fun ρ st => (f ρ st).bind fun d s => (isI d s).bind fun i s => .ok (some i) s
theorem po_imp {o : Option Expr} {t t' : TO} (h : PO X o t) (i : ∀ σ H Q, t' σ H Q → t σ H Q) : PO X o t' := ⟨fun pins s σ H Q I q => h.run pins s σ H Q I (i σ H Q q)⟩
theorem o_none : PO X none (tXO X.K W xON) := po_imp po_none fun σ H Q ⟨ρ, st, μ, E, S, h⟩ => h.ok S
theorem o_some (ha : PE X a (tX X.K W fa)) : PO X (some a) (tXO X.K W (xOS fa)) := po_imp (po_some ha) fun σ H Q ⟨ρ, st, μ, E, S, h⟩ =>
  tX_of E S h.bind fun x s1 H1 μ1 xv e1 E1 S1 r1 h1 => by
    obtain ⟨i, e, q⟩ := h1.bind.isI S1 r1
    exact ⟨i, e, q.ok S1⟩
def cutD (ds : List D) (lo hi : Option Int) : List D := (ds.drop (HT.sIx ds.length 0 lo)).take (HT.sIx ds.length ds.length hi - HT.sIx ds.length 0 lo)
theorem cut_rls {H : Hp} {μ : List Addr} {ds : List D} {vs : List V} (r : Rls K H μ ds vs) (lo hi : Option Int) : Rls K H μ (cutD ds lo hi) (cutV vs lo hi) := by
  unfold cutD cutV
  rw [r.length]
  exact (r.drop _).take _
theorem cut_whole {ds : List D} {lo hi : Option Int} (h : HT.sIx ds.length 0 lo = 0 ∧ HT.sIx ds.length ds.length hi = ds.length) : cutD ds lo hi = ds := by
  unfold cutD
  rw [h.1, h.2]
  simp
/-- of lists, tuples -/
def oSl (x : D) (lo hi : Option Int) (st : Stt) : Option (D × Stt) := match x with
  | .tup ds => some (.tup (cutD ds lo hi), st)
  | .loc n => (items st (.loc n)).map fun ds => (.loc st.length, st ++ [.lst (cutD ds lo hi)])
  | .cl ds => some (.loc st.length, st ++ [.lst (cutD ds lo hi)])
  | _ => none
def xSl (g : D → Option Int → Option Int → Stt → Option (D × Stt)) (fa : XE) (lo hi : XO) : XE := fun ρ st => (fa ρ st).bind fun p s => (lo ρ s).bind fun l s => (hi ρ s).bind fun u s => R.of (g p l u s)
theorem e_sl {lo hi : Option Expr} {fl fu : XO} {p2 : Pos} (ha : PE X a (tX X.K W fa)) (hl : PO X lo (tXO X.K W fl)) (hu : PO X hi (tXO X.K W fu)) : PE X (.Subscript a (.Slice lo hi none p2) pos) (tX X.K W (xSl oSl fa fl fu)) :=
  pe_imp (pe_slice (sl_list.or sl_tupA) ha hl hu) fun σ H Q ⟨ρ, st, μ, E, S, h⟩ => by
    refine tX_of E S h.bind fun x s1 H1 μ1 xv e1 E1 S1 r1 h1 => ?_
    refine tXO_of E1 S1 h1.bind fun l s2 H2 μ2 e2 E2 S2 h2 => ?_
    refine tXO_of E2 S2 h2.bind fun u s3 H3 μ3 e3 E3 S3 h3 => ?_
    obtain ⟨d, s4, h4, k⟩ := h3.of
    have r3 := (r1.ext e2).ext e3
    unfold oSl at h4
    split at h4
    · rename_i ds
      cases h4
      obtain ⟨a, vs, rfl, hq, q1⟩ := seqT (K := X.K) r3
      refine .inr ⟨a, vs, rfl, hq, fun hw => ?_, fun _ n hn => ?_⟩
      · rw [← q1.length] at hw
        refine k H3 μ3 (Ext.refl _ _) S3 _ ?_
        rw [cut_whole hw]
        exact .tup hq q1
      · exact k _ μ3 (ext_tup hn _) (S3.tup hn _) _ (.tup (.inl (.inl upd_same)) ((cut_rls q1 _ _).ext (ext_tup hn _)))
    · rename_i n
      obtain ⟨ds, hd, h4⟩ := Option.map_eq_some_iff.mp h4
      cases h4
      obtain ⟨a, vs, rfl, hq, q1⟩ := S3.seqL (K := X.K) hd r3
      exact .inl ⟨a, vs, rfl, hq, fun n hn => k _ _ (ext_new hn _) (S3.newL hn (cut_rls q1 _ _)) _ (loc_new S3)⟩
    · cases h4
      obtain ⟨a, vs, rfl, hq, q1⟩ := seqC (K := X.K) r3
      exact .inl ⟨a, vs, rfl, hq, fun n hn => k _ _ (ext_new hn _) (S3.newL hn (cut_rls q1 _ _)) _ (loc_new S3)⟩
    · cases h4
end
end Rg

set_option Elab.async false
set_option linter.all false
set_option maxRecDepth 100000
namespace Rg
open PySem PySem.Spec PyProof.Rows L2
variable {K : PySem.W.Frag}

/-! ### calls of what is built in -/
abbrev BF := List D → Stt → Option (D × Stt)
/-- r does on values what f does on trees -/
def DoesN (K : PySem.W.Frag) (r : List V → Hp → VK → Prop) (f : BF) : Prop := ∀ xs st d st' vs H μ (Q : VK), Rls K H μ xs vs → SR K H μ st → f xs st = some (d, st') → (∀ v H' μ', Ext K H μ H' μ' → SR K H' μ' st' → Rl K H' μ' d v → Q v H') → r vs H Q
def xCall (f : BF) (g : XA) : XE := fun ρ st => (g ρ st).bind fun ds s => R.of (f ds s)
section
variable {X : Cx} {x : Str} {p pos : Pos} {e : Expr} {es : List Expr} {g : XA} {id T : String} {r : List V → Hp → VK → Prop} {f : BF} {W : WX}
theorem tCB_x (hd : DoesN K r f) {σ : L2.St} {H : Hp} {Q : VK} (h : tX K W (xCall f g) σ H Q) : tCB r (tXA K W g) σ H Q := by
  obtain ⟨ρ, st, μ, E, S, h⟩ := h
  refine tXA_of E S h.bind fun xs s1 H1 μ1 vs e1 E1 S1 r1 h1 => ?_
  obtain ⟨d, s2, h2, k⟩ := h1.of
  exact hd xs s1 d s2 vs H1 μ1 Q r1 S1 h2 fun v H' μ' e S' r => k H' μ' e S' v r
theorem e_cb (hc : CallR X (.builtin id) r) (hd : DoesN X.K r f) (hm : X.mg x = none) (ha : PA X (e :: es) (tXA X.K W g)) (hg : Gl X x := by rfl) (hv : bootBuiltins x = some (.builtin id) := by decide +kernel) (hn : x ≠ "__name__" := by decide) (hdb : (x == ("__debug__" : Str)) = false := by decide)
    (he : starEach (e :: es) X.env = (false, eval e X.env) :: starEach es X.env := by rfl) (hpl : (backTo pos (starEach es X.env)).any (·.1) = false := by rfl) : PE X (.Call (.Name x p) (e :: es) [] pos) (tX X.K W (xCall f g)) :=
  pe_imp (pe_callB hc hg hm hv ha hn hdb he hpl) fun _ _ _ h => tCB_x hd h
theorem e_ct (hc : CallR X (.type T) r) (hd : DoesN X.K r f) (hm : X.mg x = none) (ha : PA X (e :: es) (tXA X.K W g)) (hg : Gl X x := by rfl) (hv : bootBuiltins x = some (.type T) := by decide +kernel) (hn : x ≠ "__name__" := by decide) (hdb : (x == ("__debug__" : Str)) = false := by decide)
    (he : starEach (e :: es) X.env = (false, eval e X.env) :: starEach es X.env := by rfl) (hpl : (backTo pos (starEach es X.env)).any (·.1) = false := by rfl) : PE X (.Call (.Name x p) (e :: es) [] pos) (tX X.K W (xCall f g)) :=
  pe_imp (pe_callTy hc hg hm hv ha hn hdb he hpl) fun _ _ _ h => tCB_x hd h
end
theorem rls1 {H : Hp} {μ : List Addr} {d : D} {vs : List V} (r : Rls K H μ [d] vs) : ∃ v, vs = [v] ∧ Rl K H μ d v := by
  cases r with
  | cons a b => cases b; exact ⟨_, rfl, a⟩
theorem rls2 {H : Hp} {μ : List Addr} {d e : D} {vs : List V} (r : Rls K H μ [d, e] vs) : ∃ v u, vs = [v, u] ∧ Rl K H μ d v ∧ Rl K H μ e u := by
  cases r with
  | cons a b => obtain ⟨u, rfl, c⟩ := rls1 b; exact ⟨_, _, rfl, a, c⟩

def fLen : BF := fun xs st => match xs with
  | [.str x] => if x.length ≤ sizeLine then some (.int x.length, st) else none
  | [d] => (items st d).map fun ds => (.int ds.length, st)
  | _ => none
theorem items_seq {H : Hp} {μ : List Addr} {st : Stt} {d : D} {ds : List D} {v : V} (S : SR K H μ st) (h : items st d = some ds) (r : Rl K H μ d v) : ∃ a vs, v = .ref a ∧ (SqL K H a vs ∨ SqT K H a vs) ∧ Rls K H μ ds vs := by
  cases d with
  | opq _ => cases h
  | exo _ _ _ _ => cases h
  | tup es =>
    cases h
    obtain ⟨a, vs, rfl, hq, q1⟩ := seqT (K := K) r
    exact ⟨a, vs, rfl, .inr hq, q1⟩
  | cl es =>
    cases h
    obtain ⟨a, vs, rfl, hq, q1⟩ := seqC (K := K) r
    exact ⟨a, vs, rfl, .inl hq, q1⟩
  | loc n =>
    obtain ⟨a, vs, rfl, hq, q1⟩ := S.seqL (K := K) h r
    exact ⟨a, vs, rfl, .inl hq, q1⟩
  | non => cases h
  | bl _ => cases h
  | int _ => cases h
  | str _ => cases h
theorem does_len : DoesN K (fun xs H Q => ∃ x n, xs = [x] ∧ LenV K x H n ∧ Q (.int (n : Nat)) H) fLen := fun xs st d st' vs H μ Q r S h q => by
  unfold fLen at h
  split at h
  · split at h
    · rename_i x hx
      cases h
      obtain ⟨v, rfl, rv⟩ := rls1 r
      cases rv
      exact ⟨_, _, rfl, ⟨hx, rfl⟩, q _ H μ (Ext.refl _ _) S (.int _)⟩
    · cases h
  · obtain ⟨ds, h1, h⟩ := Option.map_eq_some_iff.mp h
    cases h
    obtain ⟨v, rfl, rv⟩ := rls1 r
    obtain ⟨a, us, rfl, hq, q1⟩ := items_seq (K := K) S h1 rv
    refine ⟨_, us.length, rfl, ?_, ?_⟩
    · rcases hq with hq | hq
      · exact .inl ⟨us, hq, rfl⟩
      · exact .inr ⟨us, hq, rfl⟩
    · rw [← q1.length]
      exact q _ H μ (Ext.refl _ _) S (.int _)
  · cases h
def fAbs : BF := fun xs st => match xs with
  | [.int i] => some (.int (if i < 0 then -i else i), st)
  | _ => none
theorem does_abs : DoesN K (fun xs H Q => ∃ i, xs = [.int i] ∧ Q (.int (if i < 0 then -i else i)) H) fAbs := fun xs st d st' vs H μ Q r S h q => by
  unfold fAbs at h
  split at h
  · cases h
    obtain ⟨v, rfl, rv⟩ := rls1 r
    cases rv
    exact ⟨_, rfl, q _ H μ (Ext.refl _ _) S (.int _)⟩
  · cases h
def fMin2 : BF := fun xs st => match xs with
  | [.int i, .int j] => some (.int (if j < i then j else i), st)
  | _ => none
theorem does_min2 : DoesN K (fun xs H Q => ∃ i j, xs = [.int i, .int j] ∧ Q (.int (if j < i then j else i)) H) fMin2 := fun xs st d st' vs H μ Q r S h q => by
  unfold fMin2 at h
  split at h
  · cases h
    obtain ⟨v, u, rfl, rv, ru⟩ := rls2 r
    cases rv
    cases ru
    exact ⟨_, _, rfl, q _ H μ (Ext.refl _ _) S (.int _)⟩
  · cases h
def fInt : BF := fun xs st => match xs with
  | [.int i] => some (.int i, st)
  | [.bl k] => some (.int (if k then 1 else 0), st)
  | _ => none
theorem does_int : DoesN K (fun xs H Q => (∃ i, xs = [.int i] ∧ Q (.int i) H) ∨ ∃ k, xs = [.bl k] ∧ Q (.int (if k then 1 else 0)) H) fInt := fun xs st d st' vs H μ Q r S h q => by
  unfold fInt at h
  split at h
  · cases h
    obtain ⟨v, rfl, rv⟩ := rls1 r
    cases rv
    exact .inl ⟨_, rfl, q _ H μ (Ext.refl _ _) S (.int _)⟩
  · cases h
    obtain ⟨v, rfl, rv⟩ := rls1 r
    cases rv
    exact .inr ⟨_, rfl, q _ H μ (Ext.refl _ _) S (.int _)⟩
  · cases h
/-- list(x), x a text, a list or a tuple -/
def signs (x : Str) : List D := x.cps.toList.map fun c => .str ⟨#[c]⟩
def fList : BF := fun xs st => match xs with
  | [.str x] => if x.length ≤ sizeLine then some (.loc st.length, st ++ [.lst (signs x)]) else none
  | [d] => (items st d).map fun ds => (.loc st.length, st ++ [.lst ds])
  | _ => none
def rListS : List V → Hp → VK → Prop := fun xs H Q => ∃ x, xs = [.str x] ∧ x.length ≤ sizeLine ∧ ∀ l, H l = none → Q (.ref l) (upd H l (.lst (x.cps.toList.map fun c => V.str ⟨#[c]⟩)))
theorem vals_signs : ∀ (l : List Nat) (us : List Value), us.length = l.length → (∀ (i : Nat) (u : Value), us[i]? = some u → ∃ c t, l[i]? = some c ∧ u = .str ⟨#[c]⟩ t) → Vals (l.map fun c => V.str ⟨#[c]⟩) us
  | [], [], _, _ => .nil
  | [], u :: us, h, _ => by simp at h
  | c :: l, [], h, _ => by simp at h
  | c :: l, u :: us, h, k => by
    obtain ⟨c', t, e, rfl⟩ := k 0 u rfl
    cases e
    exact .cons ⟨t, rfl⟩ (vals_signs l us (by simpa using h) fun i w e => k (i + 1) w (by simpa using e))
theorem call_list_strR {X : Cx} (hc : X.calm = true) : CallR X (.type "list") rListS := by
  intro pins s σ H xs us Q I r h
  obtain ⟨x, rfl, hz, q⟩ := h
  obtain ⟨u, rfl, t, rfl⟩ := vals1 r
  refine call_list_str (I.ok.hd hc) x t (fun h' tk acc' c' hk hS hacc => ?_) hz
  have hv : Vals (x.cps.toList.map fun c => V.str ⟨#[c]⟩) acc'.toList := vals_signs _ _ (by rw [Array.length_toList, Array.length_toList]; exact hacc.1) fun i w e => by
    have := hacc.2 i w (by rw [← Array.getElem?_toList]; exact e)
    obtain ⟨c, t', h1, h2⟩ := this
    exact ⟨c, t', by rw [Array.getElem?_toList]; exact h1, h2⟩
  refine ⟨.ref s.heap.objs.size, upd H s.heap.objs.size _, I.laid (t' := tk) hk (Nat.le_refl _) (show ObjOk X.prog X.w _ h' _ (.lst (x.cps.toList.map fun c => V.str ⟨#[c]⟩)) from ⟨?_, acc'.toList, c', hv, ?_⟩), rfl, q _ (I.hok.fresh (Nat.le_refl _))⟩
  · rw [List.length_map, Array.length_toList]
    exact hz
  · rw [Array.toArray_toList]
    exact hS
def rListD' (K : PySem.W.Frag) : List V → Hp → VK → Prop := fun xs H Q => rListS xs H Q ∨ ∃ p ys, xs = [.ref p] ∧ (SqL K H p ys ∨ SqT K H p ys) ∧ ∀ l, H l = none → Q (.ref l) (upd H l (.lst ys))
theorem call_listD' {X : Cx} (hc : X.calm = true) : CallR X (.type "list") (rListD' X.K) := (call_list_strR hc).or call_list_of
theorem signs_rls {H : Hp} {μ : List Addr} : ∀ l : List Nat, Rls K H μ (l.map fun c => D.str ⟨#[c]⟩) (l.map fun c => V.str ⟨#[c]⟩)
  | [] => .nil
  | c :: l => .cons (.str _) (signs_rls l)
theorem does_list : DoesN K (rListD' K) fList := fun xs st d st' vs H μ Q r S h q => by
  unfold fList at h
  split at h
  · split at h
    · rename_i x hx
      cases h
      obtain ⟨v, rfl, rv⟩ := rls1 r
      cases rv
      exact .inl ⟨_, rfl, hx, fun l hl => q _ _ _ (ext_new hl _) (S.newL hl (signs_rls _)) (loc_new S)⟩
    · cases h
  · obtain ⟨ds, h1, h⟩ := Option.map_eq_some_iff.mp h
    cases h
    obtain ⟨v, rfl, rv⟩ := rls1 r
    obtain ⟨a, us, rfl, hq, q1⟩ := items_seq (K := K) S h1 rv
    exact .inr ⟨a, us, rfl, hq, fun l hl => q _ _ _ (ext_new hl _) (S.newL hl q1) (loc_new S)⟩
  · cases h
def fTuple : BF := fun xs st => match xs with
  | [d] => (items st d).map fun ds => (.tup ds, st)
  | _ => none
theorem does_tuple : DoesN K (fun xs H Q => ∃ p ys, xs = [.ref p] ∧ ((SqL K H p ys ∧ ∀ l, H l = none → Q (.ref l) (upd H l (.tup ys))) ∨ (SqT K H p ys ∧ Q (.ref p) H))) fTuple := fun xs st d st' vs H μ Q r S h q => by
  unfold fTuple at h
  split at h
  · rename_i d0
    obtain ⟨ds, h1, h⟩ := Option.map_eq_some_iff.mp h
    cases h
    obtain ⟨v, rfl, rv⟩ := rls1 r
    cases d0 with
    | opq _ => cases h1
    | exo _ _ _ _ => cases h1
    | tup es =>
      cases h1
      obtain ⟨a, us, rfl, hq, q1⟩ := seqT (K := K) rv
      exact ⟨a, us, rfl, .inr ⟨hq, q _ H μ (Ext.refl _ _) S (.tup hq q1)⟩⟩
    | cl es =>
      cases h1
      obtain ⟨a, us, rfl, hq, q1⟩ := seqC (K := K) rv
      exact ⟨a, us, rfl, .inl ⟨hq, fun l hl => q _ _ μ (ext_tup hl _) (S.tup hl _) (.tup (.inl (.inl upd_same)) (q1.ext (ext_tup hl _)))⟩⟩
    | loc n =>
      obtain ⟨a, us, rfl, hq, q1⟩ := S.seqL (K := K) h1 rv
      exact ⟨a, us, rfl, .inl ⟨hq, fun l hl => q _ _ μ (ext_tup hl _) (S.tup hl _) (.tup (.inl (.inl upd_same)) (q1.ext (ext_tup hl _)))⟩⟩
    | non => cases h1
    | bl _ => cases h1
    | int _ => cases h1
    | str _ => cases h1
  · cases h
/-- all, any of a list of bools -/
def bools : List D → Option (List Bool)
  | [] => some []
  | .bl b :: r => (bools r).map (b :: ·)
  | _ => none
theorem bools_map : ∀ (ds : List D) (bs : List Bool), bools ds = some bs → ds = bs.map D.bl
  | [], bs, h => by cases h; rfl
  | d :: r, bs, h => by
    cases d with
    | bl b =>
      obtain ⟨cs, h1, rfl⟩ := Option.map_eq_some_iff.mp (show (bools r).map (b :: ·) = some bs from h)
      rw [bools_map r cs h1]
      rfl
    | non => cases h
    | int _ => cases h
    | str _ => cases h
    | tup _ => cases h
    | cl _ => cases h
    | opq _ => cases h
    | exo _ _ _ _ => cases h
    | loc _ => cases h
theorem bls_rls {H : Hp} {μ : List Addr} : ∀ (bs : List Bool) (vs : List V), Rls K H μ (bs.map D.bl) vs → vs = bs.map V.bl
  | [], _, r => r.nil_inv
  | b :: bs, vs, r => by
    obtain ⟨v, us, rfl, a, c⟩ := r.cons_inv
    cases a
    rw [bls_rls bs us c]
    rfl
def fAll : BF := fun xs st => match xs with
  | [.loc n] => (items st (.loc n)).bind fun ds => (bools ds).map fun bs => (.bl (bs.all id), st)
  | _ => none
def fAny : BF := fun xs st => match xs with
  | [.loc n] => (items st (.loc n)).bind fun ds => (bools ds).map fun bs => (.bl (bs.any id), st)
  | _ => none
theorem does_all : DoesN K (rAll K) fAll := fun xs st d st' vs H μ Q r S h q => by
  unfold fAll at h
  split at h
  · obtain ⟨ds, h1, h⟩ := Option.bind_eq_some_iff.mp h
    obtain ⟨bs, h2, h⟩ := Option.map_eq_some_iff.mp h
    cases h
    obtain ⟨v, rfl, rv⟩ := rls1 r
    obtain ⟨a, us, rfl, hq, q1⟩ := S.seqL (K := K) h1 rv
    rw [bools_map ds bs h2] at q1
    rw [bls_rls bs us q1] at hq
    exact ⟨a, bs, rfl, hq, q _ H μ (Ext.refl _ _) S (.bl _)⟩
  · cases h
theorem does_any : DoesN K (rAny K) fAny := fun xs st d st' vs H μ Q r S h q => by
  unfold fAny at h
  split at h
  · obtain ⟨ds, h1, h⟩ := Option.bind_eq_some_iff.mp h
    obtain ⟨bs, h2, h⟩ := Option.map_eq_some_iff.mp h
    cases h
    obtain ⟨v, rfl, rv⟩ := rls1 r
    obtain ⟨a, us, rfl, hq, q1⟩ := S.seqL (K := K) h1 rv
    rw [bools_map ds bs h2] at q1
    rw [bls_rls bs us q1] at hq
    exact ⟨a, bs, rfl, hq, q _ H μ (Ext.refl _ _) S (.bl _)⟩
  · cases h

/-! ### isinstance(x, T), T a built-in type -/
def tyD (st : Stt) : D → Option String
  | .non => some "NoneType"
  | .bl _ => some "bool"
  | .int _ => some "int"
  | .str _ => some "str"
  | .tup _ => some "tuple"
  | .cl _ => some "list"
  | .opq _ => none
  | .exo _ _ _ _ => none
  | .loc n => match st[n]? with
    | some (.lst _) => some "list"
    | some (.dct _) => some "dict"
    | _ => none
theorem tyD_ok {H : Hp} {μ : List Addr} {st : Stt} {d : D} {v : V} {T : String} (S : SR K H μ st) (r : Rl K H μ d v) (h : tyD st d = some T) : TyX K H v (.type T) := by
  cases d with
  | opq _ => cases h
  | exo _ _ _ _ => cases h
  | non => cases r; cases h; exact .base .non
  | bl _ => cases r; cases h; exact .base (.bl _)
  | int _ => cases r; cases h; exact .base (.int _)
  | str _ => cases r; cases h; exact .base (.str _)
  | tup ds =>
    obtain ⟨a, vs, rfl, t, _⟩ := seqT (K := K) r
    cases h
    rcases t with (t | ⟨o, t⟩) | ⟨o, its, n, h1, h2, _⟩
    · exact .base (.tup t)
    · exact .fTuple t
    · exact .kTuple h1 h2
  | cl ds =>
    cases r with
    | cl h1 q =>
      cases h
      rcases h1 with ⟨o, h1⟩ | ⟨o, its, n, h1, h2, _⟩
      · exact .base (.frz h1)
      · exact .kList h1 h2
  | loc n =>
    have h : (match st[n]? with
      | some (.lst _) => some "list"
        | some (.dct _) => some "dict"
      | _ => none) = some T := h
    cases e : st[n]? with
    | none => rw [e] at h; cases h
    | some o =>
      rw [e] at h
      cases o with
      | lst ds => cases h; obtain ⟨a, vs, rfl, _, t, _⟩ := S.lst e r; exact .base (.lst t)
      | dct ds => cases h; obtain ⟨a, vs, rfl, _, t, _⟩ := S.dct e r; exact .base (.dK t)
      | ins _ _ => cases h
      | dtt _ => cases h
def oIsi (T : String) : Op1 := fun d st => (tyD st d).bind fun t => (kitB t T).map fun b => (.bl b, st)
section
variable {X : Cx} {p p2 pos : Pos} {e : Expr} {f : XE} {T : Str} {tn : String} {W : WX}
theorem e_isi (he : PE X e (tX X.K W f)) (hm : X.mg "isinstance" = none) (hT : X.mg T = none) (hv : bootBuiltins T = some (.type tn) := by decide +kernel) (hg : Gl X "isinstance" := by rfl) (hg2 : Gl X T := by rfl) (hn : T ≠ "__name__" := by decide) (hdb : (T == ("__debug__" : Str)) = false := by decide)
    (hs : starEach [e, .Name T p2] X.env = (false, eval e X.env) :: starEach [.Name T p2] X.env := by rfl) (hpl : (backTo pos (starEach [.Name T p2] X.env)).any (·.1) = false := by rfl) : PE X (.Call (.Name "isinstance" p) [e, .Name T p2] [] pos) (tX X.K W (x1 (oIsi tn) f)) :=
  pe_imp (pe_callB call_isi hg hm (by decide +kernel) (pa_cons he (pa_cons (pe_bltn (v := .ty tn) hg2 hT hv rfl hn hdb) pa_nil) hs) (by decide) (by decide) hs hpl) fun σ H Q ⟨ρ, st, μ, E, S, h⟩ =>
    tX_of E S h.bind fun x s1 H1 μ1 xv e1 E1 S1 r1 h1 => by
      obtain ⟨d, s2, h2, k⟩ := h1.of
      unfold oIsi at h2
      obtain ⟨t, h3, h2⟩ := Option.bind_eq_some_iff.mp h2
      obtain ⟨b, h4, h2⟩ := Option.map_eq_some_iff.mp h2
      cases h2
      exact ⟨xv, .ty tn, .type t, .type tn, b, rfl, .ty tn, tyD_ok S1 r1 h3, kit_ty h4, k H1 μ1 (Ext.refl _ _) S1 _ (.bl b)⟩
end

/-! ### methods -/
abbrev MtF := D → List D → Stt → Option (D × Stt)
def DoesM (K : PySem.W.Frag) (r : V → List V → Hp → VK → Prop) (f : MtF) : Prop := ∀ x xs st d st' v vs H μ (Q : VK), Rl K H μ x v → Rls K H μ xs vs → SR K H μ st → f x xs st = some (d, st') → (∀ v H' μ', Ext K H μ H' μ' → SR K H' μ' st' → Rl K H' μ' d v → Q v H') → r v vs H Q
/-- the receiver is of that type, whatever its arguments do -/
def Recv (K : PySem.W.Frag) (T : String) (t : Stt → D → Bool) : Prop := ∀ x st v H μ, Rl K H μ x v → SR K H μ st → t st x = true → tyV K T v H
def isRc (t : Stt → D → Bool) (d : D) (st : Stt) : R Unit := if t st d = true then .ok () st else .no
def xMt (t : Stt → D → Bool) (f : MtF) (fo : XE) (g : XA) : XE := fun ρ st => (fo ρ st).bind fun d s => (isRc t d s).bind fun _ s => (g ρ s).bind fun ds s => R.of (f d ds s)
theorem RO.isRc {t : Stt → D → Bool} {Wd : Exn → Hp → List Addr → Prop} {H : Hp} {μ : List Addr} {Q : Unit → Stt → Hp → List Addr → Prop} {d : D} {st : Stt} (S : SR K H μ st) (h : RO K Wd H μ Q (isRc t d st)) : t st d = true ∧ Q () st H μ := by
  unfold Rg.isRc at h
  split at h
  · exact ⟨by assumption, h.ok S⟩
  · exact h.elim
def isLst (st : Stt) : D → Bool
  | .loc n => match st[n]? with
    | some (.lst _) => true
    | _ => false
  | _ => false
def isStr (_ : Stt) : D → Bool
  | .str _ => true
  | _ => false
theorem recv_lst : Recv K "list" isLst := fun x st v H μ r S h => by
  cases x with
  | loc n =>
    have h : (match st[n]? with
      | some (.lst _) => true
      | _ => false) = true := h
    cases e : st[n]? with
    | none => rw [e] at h; cases h
    | some o =>
      rw [e] at h
      cases o with
      | lst ds => obtain ⟨a, vs, rfl, _, t, _⟩ := S.lst e r; exact .inl ⟨rfl, vs, .inl (.inl t)⟩
      | dct ds => cases h
      | ins _ _ => cases h
      | dtt _ => cases h
  | non => cases h
  | bl _ => cases h
  | int _ => cases h
  | str _ => cases h
  | tup _ => cases h
  | cl _ => cases h
  | opq _ => cases h
  | exo _ _ _ _ => cases h
theorem recv_str : Recv K "str" isStr := fun x st v H μ r S h => by
  cases x with
  | str y => cases r; rfl
  | non => cases h
  | bl _ => cases h
  | int _ => cases h
  | loc _ => cases h
  | tup _ => cases h
  | cl _ => cases h
  | opq _ => cases h
  | exo _ _ _ _ => cases h
section
variable {X : Cx} {o e : Expr} {es : List Expr} {fo : XE} {g : XA} {name : Str} {apos cpos : Pos} {T id : String} {r : V → List V → Hp → VK → Prop} {t : Stt → D → Bool} {f : MtF} {W : WX}
theorem e_mt0 (pa : PlainAttrs T) (slot : Slot T name id) (hty : typeOf (.builtin id) = pure (.type "method_descriptor")) (hm : MtR X id r) (hd : DoesM X.K r f) (hr : Recv X.K T t) (ho : PE X o (tX X.K W fo))
    (hbase : attributeBase o name X.env (eval o X.env) = eval o X.env := by rfl) (hline : (apos.endLine == cpos.line) = true := by rfl) : PE X (.Call (.Attribute o name apos) [] [] cpos) (tX X.K W (xMt t f fo xNil)) :=
  pe_imp (pe_bm0 pa slot hty hm ho hbase hline) fun σ H Q ⟨ρ, st, μ, E, S, h⟩ =>
    tX_of E S h.bind fun x s1 H1 μ1 v e1 E1 S1 r1 h1 => by
      obtain ⟨ht, h2⟩ := h1.bind.isRc S1
      refine ⟨hr x s1 v H1 μ1 r1 S1 ht, ?_⟩
      obtain ⟨d, s2, h3, k⟩ := (h2.bind.ok S1).of
      exact hd x [] s1 d s2 v [] H1 μ1 Q r1 .nil S1 h3 fun v' H' μ' e2 S' r' => k H' μ' e2 S' v' r'
theorem e_mt (pa : PlainAttrs T) (slot : Slot T name id) (hty : typeOf (.builtin id) = pure (.type "method_descriptor")) (hm : MtR X id r) (hd : DoesM X.K r f) (hr : Recv X.K T t) (ho : PE X o (tX X.K W fo)) (ha : PA X (e :: es) (tXA X.K W g))
    (hbase : attributeBase o name X.env (eval o X.env) = eval o X.env := by rfl)
    (hfew : ((backTo cpos (starEach (e :: es) X.env)).all (fun x => !x.1) && (backToKw cpos (keywordEach [] X.env)).all (fun x => x.1.isSome)
      && decide ((e :: es).length + ([] : List Keyword).length + (if ([] : List Keyword).isEmpty then 0 else 1) < 30)) = true := by rfl)
    (hline : (apos.endLine == cpos.line) = true := by rfl) (hs : starEach (e :: es) X.env = (false, eval e X.env) :: starEach es X.env := by rfl) (hplain : (backTo cpos (starEach es X.env)).any (·.1) = false := by rfl) :
    PE X (.Call (.Attribute o name apos) (e :: es) [] cpos) (tX X.K W (xMt t f fo g)) :=
  pe_imp (pe_bm pa slot hty hm ho ha hbase hfew hline hs hplain) fun σ H Q ⟨ρ, st, μ, E, S, h⟩ =>
    tX_of E S h.bind fun x s1 H1 μ1 v e1 E1 S1 r1 h1 => by
      obtain ⟨ht, h2⟩ := h1.bind.isRc S1
      refine ⟨hr x s1 v H1 μ1 r1 S1 ht, ?_⟩
      refine tXA_of E1 S1 h2.bind fun ys s2 H2 μ2 vs e2 E2 S2 r2 h3 => ?_
      obtain ⟨d, s3, h4, k⟩ := h3.of
      exact hd x ys s2 d s3 v vs H2 μ2 Q (r1.ext e2) r2 S2 h4 fun v' H' μ' e2 S' r' => k H' μ' e2 S' v' r'
end
/-- what stands at a place, a list -/
def lstAt (st : Stt) : D → Option (Nat × List D)
  | .loc n => match st[n]? with
    | some (.lst ds) => some (n, ds)
    | _ => none
  | _ => none
theorem lstAt_some {st : Stt} {d : D} {n : Nat} {ds : List D} (h : lstAt st d = some (n, ds)) : d = .loc n ∧ st[n]? = some (.lst ds) := by
  cases d with
  | loc m =>
    have h : (match st[m]? with
      | some (.lst ds) => some (m, ds)
      | _ => none) = some (n, ds) := h
    cases e : st[m]? with
    | none => rw [e] at h; cases h
    | some o =>
      rw [e] at h
      cases o with
      | lst es => cases h; exact ⟨rfl, e⟩
      | dct ds => cases h
      | ins _ _ => cases h
      | dtt _ => cases h
  | non => cases h
  | bl _ => cases h
  | int _ => cases h
  | str _ => cases h
  | tup _ => cases h
  | cl _ => cases h
  | opq _ => cases h
  | exo _ _ _ _ => cases h
def mAppend : MtF := fun x xs st => match xs with
  | [d] => (lstAt st x).bind fun p => if p.2.length < sizeLine then some (.non, st.set p.1 (.lst (p.2 ++ [d]))) else none
  | _ => none
theorem does_append : DoesM K rAppend mAppend := fun x xs st d st' v vs H μ Q r rs S h q => by
  unfold mAppend at h
  split at h
  · obtain ⟨⟨n, ds⟩, h1, h⟩ := Option.bind_eq_some_iff.mp h
    dsimp only at h
    split at h
    · rename_i y hz
      cases h
      obtain ⟨rfl, e⟩ := lstAt_some h1
      obtain ⟨a, us, rfl, ha, t, q1⟩ := S.lst e r
      obtain ⟨w, rfl, rw'⟩ := rls1 rs
      refine ⟨a, us, w, rfl, rfl, t, by rw [← q1.length]; exact hz, ?_⟩
      have ex := ext_set S e ha (.lst (us ++ [w]))
      exact q _ _ μ ex (S.put e ha (o' := .lst (ds ++ [_])) ⟨us ++ [w], upd_same, (q1.append (.cons rw' .nil)).ext ex⟩) .non
    · cases h
  · cases h
def mPop : MtF := fun x xs st => match xs with
  | [] => (lstAt st x).bind fun p => (p.2[p.2.length - 1]?).map fun d => (d, st.set p.1 (.lst p.2.dropLast))
  | _ => none
theorem does_pop : DoesM K rPop mPop := fun x xs st d st' v vs H μ Q r rs S h q => by
  unfold mPop at h
  split at h
  · obtain ⟨⟨n, ds⟩, h1, h⟩ := Option.bind_eq_some_iff.mp h
    obtain ⟨y, h2, h⟩ := Option.map_eq_some_iff.mp h
    cases h
    obtain ⟨rfl, e⟩ := lstAt_some h1
    obtain ⟨a, us, rfl, ha, t, q1⟩ := S.lst e r
    have := rs.nil_inv
    subst this
    obtain ⟨w, h3, rw'⟩ := q1.get h2
    have ex := ext_set S e ha (.lst us.dropLast)
    refine ⟨a, us, w, rfl, rfl, t, by rw [← q1.length]; exact h3, ?_⟩
    exact q _ _ μ ex (S.put e ha (o' := .lst ds.dropLast) ⟨us.dropLast, upd_same, q1.dropLast.ext ex⟩) (rw'.ext ex)
  · cases h
/-- xs.extend(ys), ys a list or a tuple -/
def rExtendT (K : PySem.W.Frag) : V → List V → Hp → VK → Prop := fun x vs H Q => ∃ l b xs zs, x = .ref l ∧ vs = [.ref b] ∧ H l = some (.lst xs) ∧ SqT K H b zs ∧ xs.length + zs.length ≤ sizeLine ∧ Q .non (upd H l (.lst (xs ++ zs)))
end Rg
namespace RgX
open PySem PySem.Spec PyProof.Rows
open PySem.AutoSeq1 in
theorem list_extend_tupleG (l : Addr) (xs : Array Value) (n : Nat) (b : Addr) (ys : Array Value) (n2 : Nat) (dd : Option Addr) (sl : Array (Option Value)) (hs0 : ¬(!xs.isEmpty && Builtin.List.listTooLong (xs.size + ys.size)) = true) (hs1 : xs.size ≤ sizeLine) (hs2 : xs.size + ys.size ≤ sizeLine + 1) :
    Meets (Builtin.«list.extend» ⟨[.ref l, .ref b], []⟩) (fun _ R s => s.heap.get? l = some { cls := .type "list", dict := none, data := .seq xs n, slots := #[] } ∧ s.heap.get? b = some { cls := .type "tuple", dict := dd, data := .seq ys n2, slots := sl } ∧ R (.ok (.ret Value.none)) { s with heap := s.heap.update l (Obj.mapSeq fun x => x ++ ys), toks := s.toks }) :=
  .of_wp fun prog w A R s0 hq0 => by
    obtain ⟨hp, gs, dr, tk, os⟩ := s0
    obtain ⟨hl, hb, hr⟩ := hq0
    have g1 := idx_int
    have g2 := PySem.AutoSeq1.sub_tuple_tuple
    have g3 := PySem.AutoSeq1.sub_list_list
    have g4 := PySem.AutoSeq1.sub_tuple_list
    have g5 := PySem.AutoSeq1.sub_list_tuple
    have hz' : (xs ++ ys).size ≤ sizeLine + 1 := by
      rw [Array.size_append]
      exact hs2
    wp_walk using (wpAny_updateSeq hl rfl (hz := hs1) (_hz' := hz')), wpAny_loadPart' hl, wpAny_loadPart' hb
    exact ⟨_, rfl, hr⟩
end RgX
namespace Rg
open PySem PySem.Spec PyProof.Rows L2
variable {K : PySem.W.Frag}
theorem mt_extendT {X : Cx} : MtM X "list.extend" (rExtendT X.K) := by
  intro pins s σ H x vs v us Q I rx rv h
  obtain ⟨l, b, xs, zs, rfl, rfl, hH, hB, hz, q⟩ := h
  cases rx
  obtain ⟨u, rfl, ru⟩ := rv.one
  cases ru
  obtain ⟨z, its, n, r, hl, e⟩ := I.lstM hH
  obtain ⟨its2, r2, ⟨ob, e2, c2, n2, d2⟩, z2⟩ := I.tuple hB
  have hl2 := r2.length
  obtain ⟨oc, od, dt, sl⟩ := ob
  simp only at c2 d2
  subst c2 d2
  have hsz : its.toArray.size + its2.toArray.size ≤ sizeLine := by rw [List.size_toArray, List.size_toArray]; omega
  have hlong : ¬ (!its.toArray.isEmpty && Builtin.List.listTooLong (its.toArray.size + its2.toArray.size)) = true := by
    rw [notLongL hsz, Bool.and_false]
    exact Bool.false_ne_true
  refine call_meets F.slot_list_extend ⟨_, e, rfl⟩ F.entry_list_extend (F.args_list_extend_2 _ _)
    (RgX.list_extend_tupleG l its.toArray n b its2.toArray n2 od sl hlong (by rw [List.size_toArray]; omega) (by omega)) ⟨e, e2, ?_⟩
  refine ⟨.non, _, I.lset (its' := its ++ its2) hH e (by simp) (r.append r2) ?_, rfl, q⟩
  rw [List.length_append]
  omega
def rExtendD (K : PySem.W.Frag) : V → List V → Hp → VK → Prop := fun x vs H Q => rExtend x vs H Q ∨ rExtendT K x vs H Q
theorem mt_extendD {X : Cx} : MtR X "list.extend" (rExtendD X.K) := MtR.or mt_extend mt_extendT
def mExtend : MtF := fun x xs st => match xs with
  | [.tup es] => (lstAt st x).bind fun p => if p.2.length + es.length ≤ sizeLine then some (.non, st.set p.1 (.lst (p.2 ++ es))) else none
  | [.loc m] => (lstAt st x).bind fun p => (lstAt st (.loc m)).bind fun q => if p.2.length + q.2.length ≤ sizeLine then some (.non, st.set p.1 (.lst (p.2 ++ q.2))) else none
  | _ => none
theorem does_extend : DoesM K (rExtendD K) mExtend := fun x xs st d st' v vs H μ Q r rs S h q => by
  unfold mExtend at h
  split at h
  · obtain ⟨⟨n, ds⟩, h1, h⟩ := Option.bind_eq_some_iff.mp h
    dsimp only at h
    split at h
    · rename_i es hz
      cases h
      obtain ⟨rfl, e⟩ := lstAt_some h1
      obtain ⟨a, us, rfl, ha, t, q1⟩ := S.lst e r
      obtain ⟨w, rfl, rw'⟩ := rls1 rs
      obtain ⟨b, ws, rfl, t2, q2⟩ := seqT (K := K) rw'
      refine .inr ⟨a, b, us, ws, rfl, rfl, t, t2, by rw [← q1.length, ← q2.length]; exact hz, ?_⟩
      have ex := ext_set S e ha (.lst (us ++ ws))
      exact q _ _ μ ex (S.put e ha (o' := .lst (ds ++ _)) ⟨us ++ ws, upd_same, (q1.append q2).ext ex⟩) .non
    · cases h
  · obtain ⟨⟨n, ds⟩, h1, h⟩ := Option.bind_eq_some_iff.mp h
    obtain ⟨⟨n2, es⟩, h2, h⟩ := Option.bind_eq_some_iff.mp h
    dsimp only at h
    split at h
    · rename_i hz
      cases h
      obtain ⟨rfl, e⟩ := lstAt_some h1
      obtain ⟨em, e2⟩ := lstAt_some h2
      cases em
      obtain ⟨a, us, rfl, ha, t, q1⟩ := S.lst e r
      obtain ⟨w, rfl, rw'⟩ := rls1 rs
      obtain ⟨b, ws, rfl, _, t2, q2⟩ := S.lst e2 rw'
      refine .inl ⟨a, b, us, ws, rfl, rfl, t, t2, by rw [← q1.length, ← q2.length]; exact hz, ?_⟩
      have ex := ext_set S e ha (.lst (us ++ ws))
      exact q _ _ μ ex (S.put e ha (o' := .lst (ds ++ _)) ⟨us ++ ws, upd_same, (q1.append q2).ext ex⟩) .non
    · cases h
  · cases h
/-- sep.join(xs) -/
def txts : List D → Option (List Str)
  | [] => some []
  | .str x :: r => (txts r).map (x :: ·)
  | _ => none
theorem txts_map : ∀ (ds : List D) (bs : List Str), txts ds = some bs → ds = bs.map D.str
  | [], bs, h => by cases h; rfl
  | d :: r, bs, h => by
    cases d with
    | str b =>
      obtain ⟨cs, h1, rfl⟩ := Option.map_eq_some_iff.mp (show (txts r).map (b :: ·) = some bs from h)
      rw [txts_map r cs h1]
      rfl
    | non => cases h
    | int _ => cases h
    | bl _ => cases h
    | tup _ => cases h
    | cl _ => cases h
    | opq _ => cases h
    | exo _ _ _ _ => cases h
    | loc _ => cases h
theorem txts_rls {H : Hp} {μ : List Addr} : ∀ (bs : List Str) (vs : List V), Rls K H μ (bs.map D.str) vs → vs = bs.map V.str
  | [], _, r => r.nil_inv
  | b :: bs, vs, r => by
    obtain ⟨v, us, rfl, a, c⟩ := r.cons_inv
    cases a
    rw [txts_rls bs us c]
    rfl
def mJoin : MtF := fun x xs st => match x, xs with
  | .str a, [d] => (items st d).bind fun ds => (txts ds).bind fun ys => if (ys.map (·.length)).sum + ys.length * a.length ≤ 16777216 then some (.str (Txt.join a ys), st) else none
  | _, _ => none
def rJoin (K : PySem.W.Frag) : V → List V → Hp → VK → Prop := fun x xs H Q => ∃ a p, ∃ ys : List Str, x = .str a ∧ xs = [.ref p] ∧ (SqL K H p (ys.map V.str) ∨ SqT K H p (ys.map V.str)) ∧
    (ys.map (·.length)).sum + ys.length * a.length ≤ 16777216 ∧ Q (.str (Txt.join a ys)) H
theorem mt_joinR {X : Cx} : MtR X "str.join" (rJoin X.K) := mt_join
theorem does_join : DoesM K (rJoin K) mJoin := fun x xs st d st' v vs H μ Q r rs S h q => by
  unfold mJoin at h
  split at h
  · obtain ⟨ds, h1, h⟩ := Option.bind_eq_some_iff.mp h
    obtain ⟨ys, h2, h⟩ := Option.bind_eq_some_iff.mp h
    split at h
    · rename_i hz
      cases h
      obtain ⟨w, rfl, rw'⟩ := rls1 rs
      cases r
      obtain ⟨a, us, rfl, hq, q1⟩ := items_seq (K := K) S h1 rw'
      rw [txts_map ds ys h2] at q1
      rw [txts_rls ys us q1] at hq
      exact ⟨_, a, ys, rfl, rfl, hq, hz, q _ H μ (Ext.refl _ _) S (.str _)⟩
    · cases h
  · cases h
end Rg

set_option Elab.async false
set_option linter.all false
set_option maxRecDepth 100000
namespace Rg
variable {K : PySem.W.Frag}
open PySem PySem.Spec PyProof.Rows L2

/-! ### targets -/
def wipeD (ρ : En) : List Nat → En
  | [] => ρ
  | v :: vs => (wipeD ρ vs).set v none
theorem ER.none {H : Hp} {μ : List Addr} {ρ : En} {σ : L2.St} (r : ER K H μ ρ σ) (i : Nat) : ER K H μ (ρ.set i none) (σ.set i none) := ⟨by simp [r.len], fun j e h => by
  by_cases hj : i = j
  · subst hj
    by_cases hl : i < ρ.length
    · rw [List.getElem?_set_self hl] at h
      cases h
    · rw [List.getElem?_eq_none (by simpa using hl)] at h
      cases h
  · rw [List.getElem?_set_ne hj] at h
    obtain ⟨w, h1, h2⟩ := r.val j e h
    exact ⟨w, by rw [List.getElem?_set_ne hj]; exact h1, h2⟩⟩
theorem ER.wipe {H : Hp} {μ : List Addr} {ρ : En} {σ : L2.St} (r : ER K H μ ρ σ) : ∀ vs : List Nat, ER K H μ (wipeD ρ vs) (L2.wipe σ vs)
  | [] => r
  | v :: vs => (ER.wipe r vs).none v
theorem wipe_set {σ : L2.St} {i : Nat} {x : Option V} : ∀ {vs : List Nat}, i ∈ vs → L2.wipe (σ.set i x) vs = L2.wipe σ vs
  | [], h => nomatch h
  | v :: vs, h => by
    show (L2.wipe (σ.set i x) vs).set v none = (L2.wipe σ vs).set v none
    by_cases hi : i ∈ vs
    · rw [wipe_set hi]
    · have e : i = v := by
        rcases List.mem_cons.mp h with h | h
        · exact h
        · exact absurd h hi
      subst e
      have out : ∀ vs : List Nat, i ∉ vs → L2.wipe (σ.set i x) vs = (L2.wipe σ vs).set i x := by
        intro vs
        induction vs with
        | nil => intro _; rfl
        | cons u us ih =>
          intro hu
          have h1 : i ≠ u := fun e => hu (by rw [e]; exact List.mem_cons_self)
          have h2 : i ∉ us := fun e => hu (List.mem_cons_of_mem _ e)
          show (L2.wipe (σ.set i x) us).set u none = ((L2.wipe σ us).set u none).set i x
          rw [ih h2, List.set_comm _ _ h1]
      rw [out vs hi, List.set_set]
theorem wipe_wipe {σ : L2.St} : ∀ (us vs : List Nat), (∀ i ∈ us, i ∈ vs) → L2.wipe (L2.wipe σ us) vs = L2.wipe σ vs
  | [], _, _ => rfl
  | u :: us, vs, h => by
    show L2.wipe ((L2.wipe σ us).set u none) vs = _
    rw [wipe_set (h u List.mem_cons_self), wipe_wipe us vs fun i hi => h i (List.mem_cons_of_mem _ hi)]
abbrev XG := D → En → Option En
/-- vs: the slots that it stores to -/
def tG (K : PySem.W.Frag) (vs : List Nat) (g : XG) : TG := fun v σ H Q => ∃ ρ st μ d, ER K H μ ρ σ ∧ SR K H μ st ∧ Rl K H μ d v ∧ ∃ ρ', g d ρ = some ρ' ∧ ∀ σ', ER K H μ ρ' σ' → (∀ us, (∀ i ∈ vs, i ∈ us) → L2.wipe σ' us = L2.wipe σ us) → Q σ' H
def tGs (K : PySem.W.Frag) (vs : List Nat) : TGs := fun xs σ H Q => ∃ ρ st μ ds, ER K H μ ρ σ ∧ SR K H μ st ∧ Rls K H μ ds xs ∧ ds.length = vs.length ∧ ∀ σ', ER K H μ (List.foldl (fun (r : En) (p : Nat × D) => r.set p.1 (some p.2)) ρ (vs.zip ds)) σ' → (∀ us, (∀ i ∈ vs, i ∈ us) → L2.wipe σ' us = L2.wipe σ us) → Q σ' H
def gN (i : Nat) : XG := fun d ρ => some (ρ.set i (some d))
def gT (vs : List Nat) : XG := fun d ρ => match d with
  | .tup ds => if ds.length = vs.length then some (List.foldl (fun (r : En) (p : Nat × D) => r.set p.1 (some p.2)) ρ (vs.zip ds)) else none
  | _ => none
section
variable {X : Cx} {pos : Pos} {e : Expr} {es : List Expr}
theorem pg_imp {t t' : TG} (h : PG X e t) (i : ∀ v σ H Q, t' v σ H Q → t v σ H Q) : PG X e t' := ⟨fun pins s σ H v u Q I r q => h.run pins s σ H v u Q I r (i v σ H Q q)⟩
theorem pgs_imp {t t' : TGs} (h : PGs X es t) (i : ∀ v σ H Q, t' v σ H Q → t v σ H Q) : PGs X es t' := ⟨fun pins s σ H v u Q I r q => h.run pins s σ H v u Q I r (i v σ H Q q)⟩
theorem g_name (i : Nat) {x : Str} (hN : X.N.Nodup) (hi : X.N[i]? = some x := by rfl) (hx : Loc X.env.scope x := by first | exact .inl rfl | exact .inr rfl) (hf : X.fn x = true ∨ X.env.scope.names.lookup x = some .local := by first | exact .inl rfl | exact .inr rfl) : PG X (.Name x pos) (tG X.K [i] (gN i)) :=
  pg_imp (pg_name hN hi hx hf) fun v σ H Q ⟨ρ, st, μ, d, E, S, r, ρ', h, q⟩ => by
    cases h
    exact q _ (E.set r i) fun us hu => wipe_set (hu i (by simp))
theorem gs_nil : PGs X [] (tGs X.K []) := pgs_imp pgs_nil fun v σ H Q ⟨ρ, st, μ, ds, E, S, r, hl, q⟩ => by
  have : ds = [] := List.eq_nil_of_length_eq_zero hl
  subst this
  exact ⟨r.nil_inv, q σ E fun _ _ => rfl⟩
theorem gs_cons {i : Nat} {vs : List Nat} (h1 : PG X e (tG X.K [i] (gN i))) (h2 : PGs X es (tGs X.K vs)) (hs : (assignEach (e :: es) X.env).map (·.2) = assign e X.env :: (assignEach es X.env).map (·.2) := by rfl) : PGs X (e :: es) (tGs X.K (i :: vs)) :=
  pgs_imp (pgs_cons h1 h2 hs) fun v σ H Q ⟨ρ, st, μ, ds, E, S, r, hl, q⟩ => by
    cases ds with
    | nil => simp at hl
    | cons d ds =>
      obtain ⟨x, xs, rfl, ra, rb⟩ := r.cons_inv
      refine ⟨x, xs, rfl, ρ, st, μ, d, E, S, ra, _, rfl, fun σ1 E1 w1 => ?_⟩
      refine ⟨_, st, μ, ds, E1, S, rb, by simpa using hl, fun σ2 E2 w2 => q σ2 E2 fun us hu => ?_⟩
      rw [w2 us fun j hj => hu j (List.mem_cons_of_mem _ hj), w1 us fun j hj => hu j (by simp at hj; subst hj; exact List.mem_cons_self)]
theorem g_tup {vs : List Nat} {k : Nat} (hc : X.calm = true) (h : PGs X es (tGs X.K vs)) (hn : (assignEach es X.env).length = vs.length := by rfl) (hst : (assignEach es X.env).findIdx? (·.1) = none := by rfl) : PG X (.Tuple es k pos) (tG X.K vs (gT vs)) :=
  pg_imp (pg_tup hc h hn hst) fun v σ H Q ⟨ρ, st, μ, d, E, S, r, ρ', h, q⟩ => by
    unfold gT at h
    split at h
    · rename_i ds
      split at h
      · rename_i hl
        cases h
        obtain ⟨a, us, rfl, hq, q1⟩ := seqT (K := X.K) r
        exact ⟨a, us, rfl, hq, by rw [← q1.length]; exact hl, ρ, st, μ, ds, E, S, q1, hl, q⟩
      · cases h
    · cases h
end

/-! ### what is walked -/
structure Wk where
  its : List D
  ok : Stt → Prop
structure ItOk (K : PySem.W.Frag) (w : Wk) (J : It) (H : Hp) (μ : List Addr) : Prop where
  go : ∀ (H2 : Hp) (μ2 : List Addr) (st2 : Stt) (i : Nat) (d : D), Ext K H μ H2 μ2 → SR K H2 μ2 st2 → w.ok st2 → w.its[i]? = some d → J.go i H2
  yld : ∀ (H2 : Hp) (μ2 : List Addr) (st2 : Stt) (i : Nat) (d : D) (x : V) (H3 : Hp), Ext K H μ H2 μ2 → SR K H2 μ2 st2 → w.ok st2 → w.its[i]? = some d → J.yld i H2 x H3 → Ext K H2 μ2 H3 μ2 ∧ SR K H3 μ2 st2 ∧ Rl K H3 μ2 d x ∧ ∀ b o, H2 b = some o → H3 b = some o
  stop : ∀ (H2 : Hp) (μ2 : List Addr) (st2 : Stt) (i : Nat), Ext K H μ H2 μ2 → SR K H2 μ2 st2 → w.ok st2 → w.its[i]? = none → J.stop i H2
abbrev XI := En → Stt → R Wk
def tXI (K : PySem.W.Frag) (W : WX) (f : XI) : TI := fun σ H Q => ∃ ρ st μ, ER K H μ ρ σ ∧ SR K H μ st ∧ RO K (wx K W σ) H μ (fun w _ H' μ' => ∀ J, ItOk K w J H' μ' → Q J H') (f ρ st)
theorem pi_imp {X : Cx} {tg e : Expr} {t t' : TI} (h : PI X tg e t) (i : ∀ σ H Q, t' σ H Q → t σ H Q) : PI X tg e t' := ⟨fun pins s σ H Q I q => h.run pins s σ H Q I (i σ H Q q)⟩
theorem pi_or {X : Cx} {tg e : Expr} {t t' : TI} (h : PI X tg e t) (h' : PI X tg e t') : PI X tg e (fun σ H R => t σ H R ∨ t' σ H R) := ⟨fun pins s σ H Q I q => by
  rcases q with q | q
  · exact h.run pins s σ H Q I q
  · exact h'.run pins s σ H Q I q⟩
/-- a list (as it stands), a tuple, a text -/
def wkOf (d : D) (st : Stt) : R Wk := match d with
  | .tup ds => .ok ⟨ds, fun _ => True⟩ st
  | .cl ds => .ok ⟨ds, fun _ => True⟩ st
  | .str x => .ok ⟨signs x, fun _ => True⟩ st
  | .loc n => match items st (.loc n) with
    | some ds => .ok ⟨ds, fun st => items st (.loc n) = some ds⟩ st
    | none => .no
  | _ => .no
def xIt (f : XE) : XI := fun ρ st => (f ρ st).bind wkOf
section
variable {X : Cx} {tg e e2 : Expr} {f f2 : XE} {W : WX}
theorem rd_inj {H : Hp} {a : Addr} {xs ys : List V} (h : Rd H a (.lst xs)) (g : Rd H a (.lst ys)) : xs = ys := by
  rcases h with h | ⟨o, h⟩ <;> rcases g with g | ⟨o', g⟩ <;> (rw [h] at g; first | (cases g; rfl) | cases g)
theorem itl_ok {H : Hp} {μ : List Addr} {st : Stt} {n : Nat} {ds : List D} {a : Addr} (S : SR K H μ st) (hi : items st (.loc n) = some ds) (ha : μ[n]? = some a) : ItOk K ⟨ds, fun st => items st (.loc n) = some ds⟩ (Itl K a) H μ := by
  have key : ∀ (H2 : Hp) (μ2 : List Addr) (st2 : Stt), Ext K H μ H2 μ2 → SR K H2 μ2 st2 → items st2 (.loc n) = some ds → ∃ vs, SqL K H2 a vs ∧ Rls K H2 μ2 ds vs := fun H2 μ2 st2 e S2 h => by
    obtain ⟨b, vs, eb, hq, q1⟩ := S2.seqL (K := K) h (.loc (e.get ha))
    cases eb
    exact ⟨vs, hq, q1⟩
  refine ⟨fun H2 μ2 st2 i d e S2 h hd => ?_, fun H2 μ2 st2 i d x H3 e S2 h hd hy => ?_, fun H2 μ2 st2 i e S2 h hd => ?_⟩
  · obtain ⟨vs, hq, q1⟩ := key H2 μ2 st2 e S2 h
    obtain ⟨v, h1, _⟩ := q1.get hd
    exact ⟨vs, v, hq, h1⟩
  · obtain ⟨vs, hq, q1⟩ := key H2 μ2 st2 e S2 h
    obtain ⟨v, h1, r⟩ := q1.get hd
    obtain ⟨rfl, hv⟩ := hy
    have : x = v := Option.some.inj ((hv vs hq).symm.trans h1)
    subst this
    exact ⟨Ext.refl _ _, S2, r, fun _ _ h => h⟩
  · obtain ⟨vs, hq, q1⟩ := key H2 μ2 st2 e S2 h
    refine ⟨vs, hq, ?_⟩
    rw [← q1.length]
    exact List.getElem?_eq_none_iff.mp hd
theorem itt_ok {H : Hp} {μ : List Addr} {ds : List D} {a : Addr} {vs : List V} (ht : SqT K H a vs) (q : Rls K H μ ds vs) : ItOk K ⟨ds, fun _ => True⟩ (Itt K a) H μ := by
  refine ⟨fun H2 μ2 st2 i d e S2 _ hd => ?_, fun H2 μ2 st2 i d x H3 e S2 _ hd hy => ?_, fun H2 μ2 st2 i e S2 _ hd => ?_⟩
  · obtain ⟨v, h1, _⟩ := q.get hd
    exact ⟨vs, v, e.tups _ _ ht, h1⟩
  · obtain ⟨v, h1, r⟩ := q.get hd
    obtain ⟨rfl, hv⟩ := hy
    have : x = v := Option.some.inj ((hv vs (e.tups _ _ ht)).symm.trans h1)
    subst this
    exact ⟨Ext.refl _ _, S2, r.ext e, fun _ _ h => h⟩
  · refine ⟨vs, e.tups _ _ ht, ?_⟩
    rw [← q.length]
    exact List.getElem?_eq_none_iff.mp hd
theorem itc_ok {H : Hp} {μ : List Addr} {ds : List D} {a : Addr} {vs : List V} (ht : CL K H a vs) (q : Rls K H μ ds vs) : ItOk K ⟨ds, fun _ => True⟩ (Itl K a) H μ := by
  refine ⟨fun H2 μ2 st2 i d e S2 _ hd => ?_, fun H2 μ2 st2 i d x H3 e S2 _ hd hy => ?_, fun H2 μ2 st2 i e S2 _ hd => ?_⟩
  · obtain ⟨v, h1, _⟩ := q.get hd
    exact ⟨vs, v, (e.cls _ _ ht).sq, h1⟩
  · obtain ⟨v, h1, r⟩ := q.get hd
    obtain ⟨rfl, hv⟩ := hy
    have : x = v := Option.some.inj ((hv vs (e.cls _ _ ht).sq).symm.trans h1)
    subst this
    exact ⟨Ext.refl _ _, S2, r.ext e, fun _ _ h => h⟩
  · refine ⟨vs, (e.cls _ _ ht).sq, ?_⟩
    rw [← q.length]
    exact List.getElem?_eq_none_iff.mp hd
theorem its_ok {H : Hp} {μ : List Addr} {x : Str} : ItOk K ⟨signs x, fun _ => True⟩ (Its x) H μ := by
  have len : (signs x).length = x.cps.size := by simp [signs]
  have at_ : ∀ (i : Nat) (d : D), (signs x)[i]? = some d → ∃ c, x.cps[i]? = some c ∧ d = .str ⟨#[c]⟩ := fun i d h => by
    unfold signs at h
    rw [List.getElem?_map] at h
    obtain ⟨c, h1, h2⟩ := Option.map_eq_some_iff.mp h
    exact ⟨c, by rw [← Array.getElem?_toList]; exact h1, h2.symm⟩
  refine ⟨fun H2 μ2 st2 i d e S2 _ hd => ?_, fun H2 μ2 st2 i d v H3 e S2 _ hd hy => ?_, fun H2 μ2 st2 i e S2 _ hd => ?_⟩
  · have := (List.getElem?_eq_some_iff.mp hd).1
    rw [len] at this
    exact this
  · obtain ⟨c, h1, rfl⟩ := at_ i d hd
    obtain ⟨rfl, c', h2, rfl⟩ := hy
    rw [h1] at h2
    cases h2
    exact ⟨Ext.refl _ _, S2, .str _, fun _ _ h => h⟩
  · have := List.getElem?_eq_none_iff.mp hd
    rw [len] at this
    exact this
theorem i_it (he : PE X e (tX X.K W f)) : PI X tg e (tXI X.K W (xIt f)) :=
  pi_imp (pi_or (pi_list he) (pi_or (pi_tup he) (pi_str he))) fun σ H Q ⟨ρ, st, μ, E, S, h⟩ => by
    cases hf : f ρ st with
    | no => unfold xIt at h; rw [hf] at h; exact h.elim
    | ex x s1 =>
      unfold xIt at h
      rw [hf] at h
      exact .inl ⟨ρ, st, μ, E, S, by rw [hf]; exact h⟩
    | ok x s1 =>
      unfold xIt at h
      rw [hf] at h
      have h : RO X.K (wx X.K W σ) H μ (fun w _ H' μ' => ∀ J, ItOk X.K w J H' μ' → Q J H') (wkOf x s1) := h
      cases x with
      | opq _ => exact h.elim
      | exo _ _ _ _ => exact h.elim
      | tup ds =>
        refine .inr (.inl ⟨ρ, st, μ, E, S, ?_⟩)
        rw [hf]
        intro H1 μ1 e1 S1 v r1
        obtain ⟨a, vs, rfl, hq, q1⟩ := seqT (K := X.K) r1
        exact ⟨a, rfl, ⟨vs, hq⟩, h H1 μ1 e1 S1 _ (itt_ok hq q1)⟩
      | str y =>
        refine .inr (.inr ⟨ρ, st, μ, E, S, ?_⟩)
        rw [hf]
        intro H1 μ1 e1 S1 v r1
        cases r1
        exact ⟨y, rfl, h H1 μ1 e1 S1 _ its_ok⟩
      | loc n =>
        refine .inl ⟨ρ, st, μ, E, S, ?_⟩
        rw [hf]
        intro H1 μ1 e1 S1 v r1
        have h : RO X.K (wx X.K W σ) H μ (fun w _ H' μ' => ∀ J, ItOk X.K w J H' μ' → Q J H') (match items s1 (.loc n) with
          | some ds => .ok ⟨ds, fun st => items st (.loc n) = some ds⟩ s1
          | none => .no) := h
        cases h2 : items s1 (.loc n) with
        | none => rw [h2] at h; exact h.elim
        | some ds =>
          rw [h2] at h
          obtain ⟨a, vs, rfl, hq, q1⟩ := S1.seqL (K := X.K) h2 r1
          cases r1 with
          | loc ha => exact ⟨a, rfl, ⟨vs, hq⟩, h H1 μ1 e1 S1 _ (itl_ok S1 h2 ha)⟩
      | cl ds =>
        refine .inl ⟨ρ, st, μ, E, S, ?_⟩
        rw [hf]
        intro H1 μ1 e1 S1 v r1
        obtain ⟨a, vs, ev, hq, q1⟩ := seqC (K := X.K) r1
        cases r1 with
        | cl hc q2 => exact ⟨_, rfl, ⟨_, hc.sq⟩, h H1 μ1 e1 S1 _ (itc_ok hc q2)⟩
      | non => exact h.elim
      | bl _ => exact h.elim
      | int _ => exact h.elim
/-- range(n), range(a, b) -/
def intsD (a : Int) (n : Nat) : List D := (List.range n).map fun (i : Nat) => .int (a + i)
theorem itr_ok {H : Hp} {μ : List Addr} {a : Int} {n : Nat} : ItOk K ⟨intsD a n, fun _ => True⟩ (Itr a n) H μ := by
  have len : (intsD a n).length = n := by simp [intsD]
  have at_ : ∀ (i : Nat) (d : D), (intsD a n)[i]? = some d → d = .int (a + i) := fun i d h => by
    unfold intsD at h
    rw [List.getElem?_map] at h
    obtain ⟨c, h1, h2⟩ := Option.map_eq_some_iff.mp h
    have h3 := List.getElem?_eq_some_iff.mp h1
    obtain ⟨h4, h5⟩ := h3
    rw [List.getElem_range] at h5
    subst h5
    exact h2.symm
  refine ⟨fun H2 μ2 st2 i d e S2 _ hd => ?_, fun H2 μ2 st2 i d v H3 e S2 _ hd hy => ?_, fun H2 μ2 st2 i e S2 _ hd => ?_⟩
  · have := (List.getElem?_eq_some_iff.mp hd).1
    rw [len] at this
    exact this
  · have := at_ i d hd
    subst this
    obtain ⟨rfl, rfl⟩ := hy
    exact ⟨Ext.refl _ _, S2, .int _, fun _ _ h => h⟩
  · have := List.getElem?_eq_none_iff.mp hd
    rw [len] at this
    exact this
def wkRange (ds : List D) (st : Stt) : R Wk := match ds with
  | [.int j] => if -(2 ^ 62) ≤ j ∧ j < 2 ^ 62 then .ok ⟨intsD 0 j.toNat, fun _ => True⟩ st else .no
  | _ => .no
def wkRange2 (ds : List D) (st : Stt) : R Wk := match ds with
  | [.int i, .int j] => if -(2 ^ 62) ≤ i ∧ i < 2 ^ 62 ∧ -(2 ^ 62) ≤ j ∧ j < 2 ^ 62 then .ok ⟨intsD i (j - i).toNat, fun _ => True⟩ st else .no
  | _ => .no
def xRange (g : XA) : XI := fun ρ st => (g ρ st).bind wkRange
def xRange2 (g : XA) : XI := fun ρ st => (g ρ st).bind wkRange2
theorem i_range {g : XA} {p pos : Pos} (hm : X.mg "range" = none) (ha : PA X [e] (tXA X.K W g)) (hg : Gl X "range" := by rfl) (hs : starEach [e] X.env = [(false, eval e X.env)] := by rfl) : PI X tg (.Call (.Name "range" p) [e] [] pos) (tXI X.K W (xRange g)) :=
  pi_imp (pi_range1 hg hm ha hs) fun σ H Q ⟨ρ, st, μ, E, S, h⟩ =>
    tXA_of E S h.bind fun ds s1 H1 μ1 vs e1 E1 S1 r1 h1 => by
      unfold wkRange at h1
      split at h1
      · rename_i j
        split at h1
        · rename_i hj
          obtain ⟨v, rfl, rv⟩ := rls1 r1
          cases rv
          exact ⟨j, rfl, hj.1, hj.2, h1 H1 μ1 (Ext.refl _ _) S1 _ itr_ok⟩
        · exact h1.elim
      · exact h1.elim
theorem i_range2 {g : XA} {p pos : Pos} (hm : X.mg "range" = none) (ha : PA X [e, e2] (tXA X.K W g)) (hg : Gl X "range" := by rfl) (hs : starEach [e, e2] X.env = [(false, eval e X.env), (false, eval e2 X.env)] := by rfl) (hs2 : starEach [e2] X.env = [(false, eval e2 X.env)] := by rfl) : PI X tg (.Call (.Name "range" p) [e, e2] [] pos) (tXI X.K W (xRange2 g)) :=
  pi_imp (pi_range2 hg hm ha hs hs2) fun σ H Q ⟨ρ, st, μ, E, S, h⟩ =>
    tXA_of E S h.bind fun ds s1 H1 μ1 vs e1 E1 S1 r1 h1 => by
      unfold wkRange2 at h1
      split at h1
      · rename_i i j
        split at h1
        · rename_i hj
          obtain ⟨v, u, rfl, rv, ru⟩ := rls2 r1
          cases rv
          cases ru
          exact ⟨i, j, rfl, hj, h1 H1 μ1 (Ext.refl _ _) S1 _ itr_ok⟩
        · exact h1.elim
      · exact h1.elim
/-- enumerate(xs), zip(xs, ys) of lists -/
def enumD (ds : List D) : List D := ds.zipIdx.map fun p => .tup [.int p.2, p.1]
def zipD (ds es : List D) : List D := (ds.zip es).map fun p => .tup [p.1, p.2]
def wkEnum (ds : List D) (st : Stt) : R Wk := match ds with
  | [.loc n] => match items st (.loc n) with
    | some ds => .ok ⟨enumD ds, fun st => items st (.loc n) = some ds⟩ st
    | none => .no
  | _ => .no
def wkZip (ds : List D) (st : Stt) : R Wk := match ds with
  | [.loc n, .loc m] => match items st (.loc n), items st (.loc m) with
    | some ds, some es => .ok ⟨zipD ds es, fun st => items st (.loc n) = some ds ∧ items st (.loc m) = some es⟩ st
    | _, _ => .no
  | _ => .no
def xEnum (g : XA) : XI := fun ρ st => (g ρ st).bind wkEnum
def xZip (g : XA) : XI := fun ρ st => (g ρ st).bind wkZip
theorem pair_new {H : Hp} {μ : List Addr} {st : Stt} {T : Addr} {v u : V} {d e : D} (S : SR K H μ st) (hT : H T = none) (r : Rl K H μ d v) (r2 : Rl K H μ e u) : Ext K H μ (upd H T (.tup [v, u])) μ ∧ SR K (upd H T (.tup [v, u])) μ st ∧ Rl K (upd H T (.tup [v, u])) μ (.tup [d, e]) (.ref T) ∧ ∀ b o, H b = some o → (upd H T (.tup [v, u])) b = some o :=
  ⟨ext_tup hT _, S.tup hT _, .tup (.inl (.inl upd_same)) (.cons (r.ext (ext_tup hT _)) (.cons (r2.ext (ext_tup hT _)) .nil)), fun b o h => by rw [upd_ne (ne_of_none h hT)]; exact h⟩
theorem i_enum {g : XA} {p pos tpos : Pos} {elts : List Expr} {kk : Nat} (hm : X.mg "enumerate" = none) (ha : PA X [e] (tXA X.K W g)) (hg : Gl X "enumerate" := by rfl) (hs : starEach [e] X.env = [(false, eval e X.env)] := by rfl) : PI X (.Tuple elts kk tpos) (.Call (.Name "enumerate" p) [e] [] pos) (tXI X.K W (xEnum g)) :=
  pi_imp (pi_enum hg hm ha hs) fun σ H Q ⟨ρ, st, μ, E, S, h⟩ => by
    refine tXA_of E S h.bind fun xs s1 H1 μ1 vs e1 E1 S1 r1 h1 => ?_
    unfold wkEnum at h1
    split at h1
    · rename_i n
      cases h2 : items s1 (.loc n) with
      | none => rw [h2] at h1; exact h1.elim
      | some ds =>
      rw [h2] at h1
      obtain ⟨v, rfl, rv⟩ := rls1 r1
      obtain ⟨a, us, rfl, hq, q1⟩ := S1.seqL (K := X.K) h2 rv
      have ha : μ1[n]? = some a := by
        cases rv with
        | loc ha => exact ha
      refine ⟨a, us, rfl, hq, h1 H1 μ1 (Ext.refl _ _) S1 _ ?_⟩
      have key : ∀ (H2 : Hp) (μ2 : List Addr) (st2 : Stt), Ext X.K H1 μ1 H2 μ2 → SR X.K H2 μ2 st2 → items st2 (.loc n) = some ds → ∃ vs, SqL X.K H2 a vs ∧ Rls X.K H2 μ2 ds vs := fun H2 μ2 st2 e S2 h => by
        obtain ⟨b, vs, eb, hq, q1⟩ := S2.seqL (K := X.K) h (.loc (e.get ha))
        cases eb
        exact ⟨vs, hq, q1⟩
      have at_ : ∀ (i : Nat) (d : D), (enumD ds)[i]? = some d → ∃ x, ds[i]? = some x ∧ d = .tup [.int i, x] := fun i d h => by
        unfold enumD at h
        rw [List.getElem?_map] at h
        obtain ⟨⟨x, k⟩, h1, h2⟩ := Option.map_eq_some_iff.mp h
        rw [List.getElem?_zipIdx] at h1
        obtain ⟨y, h3, h4⟩ := Option.map_eq_some_iff.mp h1
        cases h4
        refine ⟨x, h3, ?_⟩
        rw [← h2]
        simp
      have len : (enumD ds).length = ds.length := by simp [enumD]
      refine ⟨fun H2 μ2 st2 i d e S2 h hd => ?_, fun H2 μ2 st2 i d x H3 e S2 h hd hy => ?_, fun H2 μ2 st2 i e S2 h hd => ?_⟩
      · obtain ⟨vs, hq, q1⟩ := key H2 μ2 st2 e S2 h
        obtain ⟨y, h3, _⟩ := at_ i d hd
        obtain ⟨v, h4, _⟩ := q1.get h3
        exact ⟨vs, v, hq, h4⟩
      · obtain ⟨vs, hq, q1⟩ := key H2 μ2 st2 e S2 h
        obtain ⟨y, h3, rfl⟩ := at_ i d hd
        obtain ⟨v, h4, r⟩ := q1.get h3
        obtain ⟨T, z, rfl, hT, rfl, hz⟩ := hy
        have : z = v := Option.some.inj ((hz vs hq).symm.trans h4)
        subst this
        exact pair_new S2 hT (.int _) r
      · obtain ⟨vs, hq, q1⟩ := key H2 μ2 st2 e S2 h
        refine ⟨vs, hq, ?_⟩
        rw [← q1.length, ← len]
        exact List.getElem?_eq_none_iff.mp hd
    · exact h1.elim
theorem i_zip {g : XA} {p pos tpos : Pos} {elts : List Expr} {kk : Nat} (hm : X.mg "zip" = none) (ha : PA X [e, e2] (tXA X.K W g)) (hg : Gl X "zip" := by rfl) (hs : starEach [e, e2] X.env = (false, eval e X.env) :: starEach [e2] X.env := by rfl) (hpl : (backTo pos (starEach [e2] X.env)).any (·.1) = false := by rfl) : PI X (.Tuple elts kk tpos) (.Call (.Name "zip" p) [e, e2] [] pos) (tXI X.K W (xZip g)) :=
  pi_imp (pi_zip hg hm ha hs hpl) fun σ H Q ⟨ρ, st, μ, E, S, h⟩ => by
    refine tXA_of E S h.bind fun xs s1 H1 μ1 vs e1 E1 S1 r1 h1 => ?_
    unfold wkZip at h1
    split at h1
    · rename_i n m
      cases h2 : items s1 (.loc n) with
      | none => rw [h2] at h1; exact h1.elim
      | some ds =>
      cases h2' : items s1 (.loc m) with
      | none => rw [h2, h2'] at h1; exact h1.elim
      | some es =>
      rw [h2, h2'] at h1
      obtain ⟨v, u, rfl, rv, ru⟩ := rls2 r1
      obtain ⟨a, us, rfl, hq, q1⟩ := S1.seqL (K := X.K) h2 rv
      obtain ⟨b, ws, rfl, hq', q1'⟩ := S1.seqL (K := X.K) h2' ru
      have ha : μ1[n]? = some a := by
        cases rv with
        | loc ha => exact ha
      have hb : μ1[m]? = some b := by
        cases ru with
        | loc hb => exact hb
      refine ⟨a, b, us, ws, rfl, hq, hq', h1 H1 μ1 (Ext.refl _ _) S1 _ ?_⟩
      have key : ∀ (n : Nat) (a : Addr) (ds : List D), μ1[n]? = some a → ∀ (H2 : Hp) (μ2 : List Addr) (st2 : Stt), Ext X.K H1 μ1 H2 μ2 → SR X.K H2 μ2 st2 → items st2 (.loc n) = some ds → ∃ vs, SqL X.K H2 a vs ∧ Rls X.K H2 μ2 ds vs := fun n a ds ha H2 μ2 st2 e S2 h => by
        obtain ⟨b, vs, eb, hq, q1⟩ := S2.seqL (K := X.K) h (.loc (e.get ha))
        cases eb
        exact ⟨vs, hq, q1⟩
      have at_ : ∀ (i : Nat) (d : D), (zipD ds es)[i]? = some d → ∃ x y, ds[i]? = some x ∧ es[i]? = some y ∧ d = .tup [x, y] := fun i d h => by
        unfold zipD at h
        rw [List.getElem?_map] at h
        obtain ⟨⟨x, y⟩, h1, h2⟩ := Option.map_eq_some_iff.mp h
        obtain ⟨h3, h4⟩ := List.getElem?_zip_eq_some.mp h1
        exact ⟨x, y, h3, h4, h2.symm⟩
      refine ⟨fun H2 μ2 st2 i d e S2 h hd => ?_, fun H2 μ2 st2 i d x H3 e S2 h hd hy => ?_, fun H2 μ2 st2 i e S2 h hd => ?_⟩
      · obtain ⟨vs, hq, q1⟩ := key n a ds ha H2 μ2 st2 e S2 h.1
        obtain ⟨vs', hq', q1'⟩ := key m b es hb H2 μ2 st2 e S2 h.2
        obtain ⟨y, z, h3, h3', _⟩ := at_ i d hd
        obtain ⟨v, h4, _⟩ := q1.get h3
        obtain ⟨v', h4', _⟩ := q1'.get h3'
        exact ⟨vs, vs', v, v', hq, hq', h4, h4'⟩
      · obtain ⟨vs, hq, q1⟩ := key n a ds ha H2 μ2 st2 e S2 h.1
        obtain ⟨vs', hq', q1'⟩ := key m b es hb H2 μ2 st2 e S2 h.2
        obtain ⟨y, z, h3, h3', rfl⟩ := at_ i d hd
        obtain ⟨v, h4, r⟩ := q1.get h3
        obtain ⟨v', h4', r'⟩ := q1'.get h3'
        obtain ⟨T, z1, z2, rfl, hT, rfl, hz, hz'⟩ := hy
        have : z1 = v := Option.some.inj ((hz vs hq).symm.trans h4)
        subst this
        have : z2 = v' := Option.some.inj ((hz' vs' hq').symm.trans h4')
        subst this
        exact pair_new S2 hT r r'
      · obtain ⟨vs, hq, q1⟩ := key n a ds ha H2 μ2 st2 e S2 h.1
        obtain ⟨vs', hq', q1'⟩ := key m b es hb H2 μ2 st2 e S2 h.2
        refine ⟨vs, vs', hq, hq', ?_⟩
        rw [← q1.length, ← q1'.length]
        have := List.getElem?_eq_none_iff.mp hd
        simp only [zipD, List.length_map, List.length_zip] at this
        omega
    · exact h1.elim
end
end Rg

set_option Elab.async false
set_option linter.all false
set_option maxRecDepth 100000
namespace Rg
open PySem PySem.Spec PyProof.Rows L2

/-! ### statements -/
def sNil : XS := fun ρ st => .nx ρ st
def sCons (f g : XS) : XS := fun ρ st => (f ρ st).seq g
def sSet (i : Nat) (f : XE) : XS := fun ρ st => (f ρ st).out ρ fun d s => .nx (ρ.set i (some d)) s
def gOut (g : XG) (ρ : En) (d : D) (s : Stt) : Out := match g d ρ with
  | some ρ' => .nx ρ' s
  | none => .no
def sAsg (f : XE) (g : XG) : XS := fun ρ st => (f ρ st).out ρ (gOut g ρ)
def sExpr (f : XE) : XS := fun ρ st => (f ρ st).out ρ fun _ s => .nx ρ s
def sRet (f : XE) : XS := fun ρ st => (f ρ st).out ρ fun d s => .rt d s
def sIf (t : XT) (f g : XS) : XS := fun ρ st => (t ρ st).out ρ fun b s => if b = true then f ρ s else g ρ s
def sNo : XS := fun _ _ => .no
def sPass : XS := fun ρ st => .nx ρ st
def sBrk : XS := fun ρ st => .bk ρ st
def sCont : XS := fun ρ st => .ct ρ st
section
variable {X : Cx} {st : Stmt} {rest : List Stmt} {f g : XS} {e tg c : Expr} {fe : XE} {pos : Pos} {W : WX}
theorem ss_nil : PSs X [] (tXS X.K W sNil) := pss_imp pss_nil fun D' σ H ⟨ρ, s, μ, E, S, h⟩ => h σ H μ (Ext.refl _ _) E S
theorem ss_cons (h1 : PS X st (tXS X.K W f)) (h2 : PSs X rest (tXS X.K W g)) : PSs X (st :: rest) (tXS X.K W (sCons f g)) :=
  pss_imp (pss_cons h1 h2) fun D' σ H ⟨ρ, s, μ, E, S, h⟩ => by
    unfold sCons at h
    refine ⟨ρ, s, μ, E, S, ?_⟩
    cases e1 : f ρ s with
    | no => rw [e1] at h; exact h
    | nx ρ' s' =>
      rw [e1] at h
      exact fun σ1 H1 μ1 ex E1 S1 => ⟨ρ', s', μ1, E1, S1, outOk.at ex h⟩
    | rt d s' => rw [e1] at h; exact h
    | bk ρ' s' => rw [e1] at h; exact h
    | ct ρ' s' => rw [e1] at h; exact h
    | xx ρ' e s' => rw [e1] at h; exact h
theorem s_never : PS X st (tXS X.K W sNo) := ps_imp ps_never fun D' σ H ⟨ρ, s, μ, E, S, h⟩ => h.elim
theorem s_pass : PS X (.Pass pos) (tXS X.K W sPass) := ps_imp ps_pass fun D' σ H ⟨ρ, s, μ, E, S, h⟩ => h σ H μ (Ext.refl _ _) E S
theorem s_brk : PS X (.Break pos) (tXS X.K W sBrk) := ps_imp ps_break fun D' σ H ⟨ρ, s, μ, E, S, h⟩ => h σ H μ (Ext.refl _ _) E S
theorem s_cont : PS X (.Continue pos) (tXS X.K W sCont) := ps_imp ps_continue fun D' σ H ⟨ρ, s, μ, E, S, h⟩ => h σ H μ (Ext.refl _ _) E S
theorem s_set (i : Nat) {x : Str} {pos' : Pos} (hN : X.N.Nodup) (he : PE X e (tX X.K W fe)) (hi : X.N[i]? = some x := by rfl) (hx : Loc X.env.scope x := by first | exact .inl rfl | exact .inr rfl) (hs : swapsWith e (some (.Name x pos')) pos.line X.env = pure false := by rfl) (hf : X.fn x = true ∨ X.env.scope.names.lookup x = some .local := by first | exact .inl rfl | exact .inr rfl) :
    PS X (.Assign [.Name x pos'] e pos) (tXS X.K W (sSet i fe)) :=
  ps_imp (ps_set hN hi hx he hs hf) fun D' σ H ⟨ρ, s, μ, E, S, h⟩ =>
    tX_of E S (h.out E) fun d s1 H1 μ1 v e1 E1 S1 r q => q _ H1 μ1 (Ext.refl _ _) (E1.set r i) S1
theorem s_asg {vs : List Nat} {gt : XG} (he : PE X e (tX X.K W fe)) (hg : PG X tg (tG X.K vs gt)) (hs : swapsWithSole [tg] e pos.line X.env = pure false := by rfl) (hw : swappedStores [tg] e X.env = pure none := by rfl) (h1 : (assignEach [tg] X.env).map (·.2) = [assign tg X.env] := by rfl) :
    PS X (.Assign [tg] e pos) (tXS X.K W (sAsg fe gt)) :=
  ps_imp (ps_asg he hg hs hw h1) fun D' σ H ⟨ρ, s, μ, E, S, h⟩ =>
    tX_of E S (h.out E) fun d s1 H1 μ1 v e1 E1 S1 r q => by
      unfold gOut at q
      cases hgt : gt d ρ with
      | none => rw [hgt] at q; exact q.elim
      | some ρ' =>
        rw [hgt] at q
        exact ⟨ρ, s1, μ1, d, E1, S1, r, ρ', hgt, fun σ' E' _ => q σ' H1 μ1 (Ext.refl _ _) E' S1⟩
theorem s_expr (he : PE X e (tX X.K W fe)) (hs : swapsWith e none pos.line X.env = pure false := by rfl) : PS X (.Expr e pos) (tXS X.K W (sExpr fe)) :=
  ps_imp (ps_expr he hs) fun D' σ H ⟨ρ, s, μ, E, S, h⟩ =>
    tX_of E S (h.out E) fun d s1 H1 μ1 v e1 E1 S1 r q => q σ H1 μ1 (Ext.refl _ _) E1 S1
theorem s_ret (he : PE X e (tX X.K W fe)) : PS X (.Return (some e) pos) (tXS X.K W (sRet fe)) :=
  ps_imp (ps_ret he) fun D' σ H ⟨ρ, s, μ, E, S, h⟩ =>
    tX_of E S (h.out E) fun d s1 H1 μ1 v e1 E1 S1 r q => q v H1 μ1 (Ext.refl _ _) S1 r
theorem s_retN : PS X (.Return none pos) (tXS X.K W (sRet (xC .non))) :=
  ps_imp ps_retN fun D' σ H ⟨ρ, s, μ, E, S, h⟩ => h .non H μ (Ext.refl _ _) S .non
theorem s_if {a b : List Stmt} {t : XT} (hc : PT X c (tXT X.K W t)) (ha : PSs X a (tXS X.K W f)) (hb : PSs X b (tXS X.K W g)) : PS X (.If c a b pos) (tXS X.K W (sIf t f g)) :=
  ps_imp (ps_if hc ha hb) fun D' σ H ⟨ρ, s, μ, E, S, h⟩ =>
    tXT_of E S (h.out E) fun b s1 H1 μ1 e1 E1 S1 q => by
      cases b with
      | true => exact ⟨ρ, s1, μ1, E1, S1, q⟩
      | false => exact ⟨ρ, s1, μ1, E1, S1, q⟩
/-- xs[i] = v -/
def setL (o i v : D) (ρ : En) (s : Stt) : Out := match i, lstAt s o with
  | .int k, some p => match ixN p.2.length k with
    | some j => .nx ρ (s.set p.1 (.lst (p.2.set j v)))
    | none => .no
  | _, _ => .no
def sSubL (fo fi fv : XE) : XS := fun ρ st => (fv ρ st).out ρ fun v s => (fo ρ s).out ρ fun o s => (fi ρ s).out ρ fun i s => setL o i v ρ s
theorem s_subL {o i : Expr} {fo fi fv : XE} {p2 : Pos} (ho : PE X o (tX X.K W fo)) (hi : PE X i (tX X.K W fi)) (he : PE X e (tX X.K W fv))
    (ha : ∀ v, assign (.Subscript o i p2) X.env v = (do
      let ov ← holding [v] (eval o X.env)
      let iv ← holding [v, ov] (eval i X.env)
      standAt p2
      holding [v, ov, iv] (setItem ov iv v)
      release [v, ov, iv] []) := by intro _; rfl)
    (hs : swapsWithSole [.Subscript o i p2] e pos.line X.env = pure false := by rfl) (hw : swappedStores [.Subscript o i p2] e X.env = pure none := by rfl) (h1 : (assignEach [.Subscript o i p2] X.env).map (·.2) = [assign (.Subscript o i p2) X.env] := by rfl) :
    PS X (.Assign [.Subscript o i p2] e pos) (tXS X.K W (sSubL fo fi fv)) :=
  ps_imp (ps_asg he (pg_sub ho hi set_list ha) hs hw h1) fun D' σ H ⟨ρ, s, μ, E, S, h⟩ => by
    refine tX_of E S (h.out E) fun v s1 H1 μ1 vv e1 E1 S1 r1 hA => ?_
    refine tX_of E1 S1 (hA.out E1) fun o s2 H2 μ2 ov e2 E2 S2 r2 hB => ?_
    refine tX_of E2 S2 (hB.out E2) fun i s3 H3 μ3 iv e3 E3 S3 r3 hC => ?_
    unfold setL at hC
    split at hC
    · rename_i k p hp
      obtain ⟨n, ds⟩ := p
      split at hC
      · rename_i j hj
        obtain ⟨rfl, e4⟩ := lstAt_some hp
        cases r3
        obtain ⟨a, us, rfl, ha, t, q1⟩ := S3.lst e4 (r2.ext e3)
        refine ⟨a, us, k, j, rfl, rfl, t, by rw [← q1.length]; exact hj, ?_⟩
        have ex := ext_set S3 e4 ha (.lst (us.set j vv))
        exact hC σ _ μ3 ex (E3.ext ex) (S3.put e4 ha (o' := .lst (ds.set j v)) ⟨us.set j vv, upd_same, (Rls.set ((r1.ext e2).ext e3) j q1).ext ex⟩)
      · exact hC.elim
    · exact hC.elim
/-- d[k] = v -/
def keyD : D → Option Key
  | .int i => some (.inl i)
  | .str x => some (.inr x)
  | _ => none
theorem keyD_ok {K : PySem.W.Frag} {H : Hp} {μ : List Addr} {d : D} {v : V} {k : Key} (r : Rl K H μ d v) (h : keyD d = some k) : v = kV k := by
  cases d with
  | int i => cases h; cases r; rfl
  | str x => cases h; cases r; rfl
  | non => cases h
  | bl _ => cases h
  | tup _ => cases h
  | cl _ => cases h
  | opq _ => cases h
  | exo _ _ _ _ => cases h
  | loc _ => cases h
def dctAt (st : Stt) : D → Option (Nat × List (Key × D))
  | .loc n => match st[n]? with
    | some (.dct ds) => some (n, ds)
    | _ => none
  | _ => none
theorem dctAt_some {st : Stt} {d : D} {n : Nat} {ds : List (Key × D)} (h : dctAt st d = some (n, ds)) : d = .loc n ∧ st[n]? = some (.dct ds) := by
  cases d with
  | loc m =>
    have h : (match st[m]? with
      | some (.dct ds) => some (m, ds)
      | _ => none) = some (n, ds) := h
    cases e : st[m]? with
    | none => rw [e] at h; cases h
    | some o =>
      rw [e] at h
      cases o with
      | dct es => cases h; exact ⟨rfl, e⟩
      | lst ds => cases h
      | ins _ _ => cases h
      | dtt _ => cases h
  | non => cases h
  | bl _ => cases h
  | int _ => cases h
  | str _ => cases h
  | tup _ => cases h
  | cl _ => cases h
  | opq _ => cases h
  | exo _ _ _ _ => cases h
theorem kr_any {K : PySem.W.Frag} {H : Hp} {μ : List Addr} {k : Key} : ∀ {kd : List (Key × D)} {kv : List (Key × V)}, KR K H μ kd kv → (kv.any fun p => decide (p.1 = k)) = (kd.any fun p => decide (p.1 = k))
  | _, _, .nil => rfl
  | _, _, .cons r t => by rw [List.any_cons, List.any_cons, kr_any t, r.1]
theorem kr_map {K : PySem.W.Frag} {H : Hp} {μ : List Addr} {k : Key} {d : D} {v : V} (q : Rl K H μ d v) : ∀ {kd : List (Key × D)} {kv : List (Key × V)}, KR K H μ kd kv → KR K H μ (kd.map fun p => if p.1 = k then (p.1, d) else p) (kv.map fun p => if p.1 = k then (p.1, v) else p)
  | _, _, .nil => .nil
  | p :: kd, u :: kv, .cons r t => by
    refine .cons ?_ (kr_map q t)
    show (if p.1 = k then (p.1, d) else p).1 = (if u.1 = k then (u.1, v) else u).1 ∧ Rl K H μ (if p.1 = k then (p.1, d) else p).2 (if u.1 = k then (u.1, v) else u).2
    by_cases e : p.1 = k
    · rw [if_pos e, if_pos (r.1.symm.trans e)]
      exact ⟨r.1, q⟩
    · rw [if_neg e, if_neg fun z => e (r.1.trans z)]
      exact r
theorem kr_app {K : PySem.W.Frag} {H : Hp} {μ : List Addr} {k : Key} {d : D} {v : V} (q : Rl K H μ d v) : ∀ {kd : List (Key × D)} {kv : List (Key × V)}, KR K H μ kd kv → KR K H μ (kd ++ [(k, d)]) (kv ++ [(k, v)])
  | _, _, .nil => .cons ⟨rfl, q⟩ .nil
  | _, _, .cons r t => .cons r (kr_app q t)
def putD (kvs : List (Key × D)) (k : Key) (v : D) : List (Key × D) :=
  if (kvs.any fun kv => decide (kv.1 = k)) = true then kvs.map (fun kv => if kv.1 = k then (kv.1, v) else kv) else kvs ++ [(k, v)]
theorem kr_put {K : PySem.W.Frag} {H : Hp} {μ : List Addr} {k : Key} {d : D} {v : V} (q : Rl K H μ d v) {kd : List (Key × D)} {kv : List (Key × V)} (r : KR K H μ kd kv) : KR K H μ (putD kd k d) (putK kv k v) := by
  unfold putK putD
  rw [kr_any r]
  split
  · exact kr_map q r
  · exact kr_app q r
def setDk (o i v : D) (ρ : En) (s : Stt) : Out := match keyD i, dctAt s o with
  | some k, some p => if p.2.length < sizeLine then .nx ρ (s.set p.1 (.dct (putD p.2 k v))) else .no
  | _, _ => .no
def sPut (fo fi fv : XE) : XS := fun ρ st => (fv ρ st).out ρ fun v s => (fo ρ s).out ρ fun o s => (fi ρ s).out ρ fun i s => setDk o i v ρ s
theorem s_put {o i : Expr} {fo fi fv : XE} {p2 : Pos} (hu : X.A.units + 1 < cLine) (ho : PE X o (tX X.K W fo)) (hi : PE X i (tX X.K W fi)) (he : PE X e (tX X.K W fv)) (hs : swapsWith e (some (.Subscript o i p2)) pos.line X.env = pure false := by rfl) :
    PS X (.Assign [.Subscript o i p2] e pos) (tXS X.K W (sPut fo fi fv)) :=
  ps_imp (ps_dput hu ho hi he hs) fun D' σ H ⟨ρ, s, μ, E, S, h⟩ => by
    refine tX_of E S (h.out E) fun v s1 H1 μ1 vv e1 E1 S1 r1 hA => ?_
    refine tX_of E1 S1 (hA.out E1) fun o s2 H2 μ2 ov e2 E2 S2 r2 hB => ?_
    refine tX_of E2 S2 (hB.out E2) fun i s3 H3 μ3 iv e3 E3 S3 r3 hC => ?_
    unfold setDk at hC
    split at hC
    · rename_i k p hk hp
      obtain ⟨n, ds⟩ := p
      split at hC
      · rename_i hz
        obtain ⟨rfl, e4⟩ := dctAt_some hp
        have := keyD_ok r3 hk
        subst this
        obtain ⟨a, us, rfl, ha, t, q1⟩ := S3.dct e4 (r2.ext e3)
        have hl : us.length = ds.length := (Paired.length q1).symm
        refine ⟨a, _, rfl, DPut.k t (by rw [hl]; exact hz), ?_⟩
        have ex := ext_set S3 e4 ha (.dK (putK us k vv))
        exact hC σ _ μ3 ex (E3.ext ex) (S3.put e4 ha (o' := .dct (putD ds k v)) ⟨putK us k vv, upd_same, (kr_put ((r1.ext e2).ext e3) q1).ext ex⟩)
      · exact hC.elim
    · exact hC.elim
/-- x op= e -/
def DoesP (K : PySem.W.Frag) (r : TIp) (f : Op2) : Prop := Does K r f
def sAug (i : Nat) (f : Op2) (fe : XE) : XS := fun ρ st => (xV i ρ st).out ρ fun x s => (fe ρ s).out ρ fun y s => (R.of (f x y s)).out ρ fun z s => .nx (ρ.set i (some z)) s
theorem s_aug (i : Nat) {x : Str} {op : Operator} {ti : TIp} {fo : Op2} {pos' : Pos} (ho : PIp X op ti) (hd : Does X.K ti fo) (hN : X.N.Nodup) (he : PE X e (tX X.K W fe)) (hi : X.N[i]? = some x := by rfl) (hx : Loc X.env.scope x := by first | exact .inl rfl | exact .inr rfl) (hf : X.fn x = true ∨ X.env.scope.names.lookup x = some .local := by first | exact .inl rfl | exact .inr rfl) :
    PS X (.AugAssign (.Name x pos') op e pos) (tXS X.K W (sAug i fo fe)) :=
  ps_imp (ps_aug hN hi hx he ho hf) fun D' σ H ⟨ρ, s, μ, E, S, h⟩ => by
    unfold sAug xV at h
    cases hx : ρ[i]? with
    | none => rw [hx] at h; exact h.elim
    | some o =>
      rw [hx] at h
      cases o with
      | none => exact h.elim
      | some d =>
        obtain ⟨v, h1, h2⟩ := E.val i d hx
        refine ⟨v, h1, ?_⟩
        have h : outOk X.K W D' H μ ((fe ρ s).out ρ fun y s => (R.of (fo d y s)).out ρ fun z s => .nx (ρ.set i (some z)) s) := h
        refine tX_of E S (h.out E) fun y s1 H1 μ1 yv e1 E1 S1 r1 h => ?_
        obtain ⟨z, s2, h3, k⟩ := (h.out E1).of
        refine hd d y s1 z s2 v yv H1 μ1 _ (h2.ext e1) r1 S1 h3 fun zv H' μ' e' S' r' => ?_
        exact k H' μ' e' S' _ H' μ' (Ext.refl _ _) ((E1.ext e').set r' i) S'
/-- o[i] op= e, o a list -/
def oIxL : Op2 := fun x y st => match y with
  | .int i => match x with
    | .loc n => (items st (.loc n)).bind fun ds => (atI ds i).map fun d => (d, st)
    | _ => none
  | _ => none
theorem does_ixL {K : PySem.W.Frag} : Does K (rIxL K) oIxL := fun x y st d st' xv yv H μ Q rx ry S h q => by
  unfold oIxL at h
  split at h
  · rename_i i
    cases ry
    split at h
    · rename_i n
      obtain ⟨ds, h1, h⟩ := Option.bind_eq_some_iff.mp h
      obtain ⟨e, h2, h⟩ := Option.map_eq_some_iff.mp h
      cases h
      obtain ⟨a, vs, rfl, hq, q1⟩ := S.seqL (K := K) h1 rx
      obtain ⟨v, h3, h4⟩ := atI_rls q1 h2
      exact ⟨a, vs, i, v, rfl, rfl, hq, h3, q v H μ (Ext.refl _ _) S h4⟩
    · cases h
  · cases h
theorem get_list : PGet X (rIxL X.K) := by
  intro pins s σ H x y v u Q I rx ry h
  obtain ⟨p, xs, i, z, rfl, rfl, hq, he, q⟩ := h
  cases rx
  obtain ⟨t, rfl⟩ := ry
  obtain ⟨its, r, pl, hz⟩ := I.list hq
  obtain ⟨j, h1, h2, h3, h4, h5⟩ := atI_get he
  obtain ⟨w, ew, rw'⟩ := r.get h2
  have hl := r.length
  have hn := line63
  have fin : EP X pins σ Q w s := ⟨z, H, I, rw', q⟩
  by_cases h0 : 0 ≤ i
  · have hj : i.toNat = j := by
      rw [seqIndex_of h0 h5] at h1
      exact Option.some.inj h1
    exact wpAny_getItem_list pl.isList h0 (by omega) (by rw [hj]; simpa using ew) fin
  · have hj : (i + (its.toArray.size : Int)).toNat = j := by
      rw [seqIndex_neg (by omega) h4] at h1
      rw [List.size_toArray, ← hl]
      exact Option.some.inj h1
    exact wpAny_getItem_list_neg pl.isList (by omega) (by rw [List.size_toArray] <;> omega) (by omega) (by rw [hj]; simpa using ew) fin
def sAugL (fop : Op2) (fo fi fe : XE) : XS := fun ρ st => (fo ρ st).out ρ fun o s => (fi ρ s).out ρ fun i s => (R.of (oIxL o i s)).out ρ fun x s => (fe ρ s).out ρ fun y s => (R.of (fop x y s)).out ρ fun z s => setL o i z ρ s
theorem s_augL {o i : Expr} {fo fi : XE} {op : Operator} {tip : TIp} {fop : Op2} {tpos : Pos} (hp : PIp X op tip) (hd : Does X.K tip fop) (ho : PE X o (tX X.K W fo)) (hi : PE X i (tX X.K W fi)) (he : PE X e (tX X.K W fe))
    (ha : ∀ ov iv new, augStore i ov iv new = (do holding [new, ov, iv] (setItem ov iv new); release [new, ov, iv] []; pure .next) := by intros; rfl) : PS X (.AugAssign (.Subscript o i tpos) op e pos) (tXS X.K W (sAugL fop fo fi fe)) :=
  ps_imp (ps_augS ho hi get_list he hp set_list ha) fun D' σ H ⟨ρ, s, μ, E, S, h⟩ => by
    refine tX_of E S (h.out E) fun o s2 H2 μ2 ov e2 E2 S2 r2 hA => ?_
    refine tX_of E2 S2 (hA.out E2) fun i s3 H3 μ3 iv e3 E3 S3 r3 hB => ?_
    obtain ⟨x, s4, h4, k4⟩ := (hB.out E3).of
    refine does_ixL o i s3 x s4 ov iv H3 μ3 _ (r2.ext e3) r3 S3 h4 fun xv H4 μ4 e4 S4 r4 => ?_
    have hC := k4 H4 μ4 e4 S4
    have E4 := E3.ext e4
    refine tX_of E4 S4 (hC.out E4) fun y s5 H5 μ5 yv e5 E5 S5 r5 hD => ?_
    obtain ⟨z, s6, h6, k6⟩ := (hD.out E5).of
    refine hd x y s5 z s6 xv yv H5 μ5 _ (r4.ext e5) r5 S5 h6 fun zv H6 μ6 e6 S6 r6 => ?_
    have hE := k6 H6 μ6 e6 S6
    have r2' := (((r2.ext e3).ext e4).ext e5).ext e6
    have r3' := ((r3.ext e4).ext e5).ext e6
    unfold setL at hE
    split at hE
    · rename_i k p hp
      obtain ⟨n, ds⟩ := p
      split at hE
      · rename_i j hj
        obtain ⟨rfl, e9⟩ := lstAt_some hp
        cases r3'
        obtain ⟨a, us, rfl, ha, t, q1⟩ := S6.lst e9 r2'
        refine ⟨a, us, k, j, rfl, rfl, t, by rw [← q1.length]; exact hj, ?_⟩
        have ex := ext_set S6 e9 ha (.lst (us.set j zv))
        exact hE σ _ μ6 ex ((E5.ext e6).ext ex) (S6.put e9 ha (o' := .lst (ds.set j z)) ⟨us.set j zv, upd_same, (Rls.set r6 j q1).ext ex⟩)
      · exact hE.elim
    · exact hE.elim
theorem ip_I0 {K : PySem.W.Frag} {g : Int → Int → Int} : Does K (ipI g) (oI CAny fun i j => .int (g i j)) := fun x y st d st' xv yv H μ Q rx ry S h q => by
  obtain ⟨i, j, rfl, rfl, hc, rfl, rfl⟩ := oI_some h
  cases rx
  cases ry
  exact ⟨i, j, rfl, rfl, q _ H μ (Ext.refl _ _) S (.int _)⟩
end

/-! ### instances -/
def insAt (C : Addr) (st : Stt) : D → Option (Nat × List (Str × D))
  | .loc n => match st[n]? with
    | some (.ins C' fs) => if C' = C then some (n, fs) else none
    | _ => none
  | _ => none
theorem insAt_some {C : Addr} {st : Stt} {d : D} {n : Nat} {fs : List (Str × D)} (h : insAt C st d = some (n, fs)) : d = .loc n ∧ st[n]? = some (.ins C fs) := by
  cases d with
  | loc m =>
    have h : (match st[m]? with
      | some (.ins C' fs) => if C' = C then some (m, fs) else none
      | _ => none) = some (n, fs) := h
    cases e : st[m]? with
    | none => rw [e] at h; cases h
    | some o =>
      rw [e] at h
      cases o with
      | dtt _ => cases h
      | dct es => cases h
      | lst ds => cases h
      | ins C' es =>
        have h : (if C' = C then some (m, es) else none) = some (n, fs) := h
        by_cases hc : C' = C
        · rw [if_pos hc] at h
          cases h
          subst hc
          exact ⟨rfl, e⟩
        · rw [if_neg hc] at h
          cases h
  | non => cases h
  | bl _ => cases h
  | int _ => cases h
  | str _ => cases h
  | tup _ => cases h
  | cl _ => cases h
  | opq _ => cases h
  | exo _ _ _ _ => cases h
theorem FR.look {K : PySem.W.Frag} {H : Hp} {μ : List Addr} {f : Str} {d : D} : ∀ {fs : List (Str × D)} {vs : List (Str × V)}, FR K H μ fs vs → fs.lookup f = some d → ∃ v, vs.lookup f = some v ∧ Rl K H μ d v
  | _, _, .nil, h => by simp at h
  | (g, x) :: fs, (g', v) :: vs, .cons r t, h => by
    obtain ⟨e, rr⟩ := r
    have e : g = g' := e
    subst e
    by_cases hg : f = g
    · subst hg
      simp only [List.lookup, beq_self_eq_true] at h ⊢
      cases h
      exact ⟨_, rfl, rr⟩
    · have b : (f == g) = false := by simpa using hg
      simp only [List.lookup, b] at h ⊢
      exact FR.look t h
theorem FR.lookN {K : PySem.W.Frag} {H : Hp} {μ : List Addr} {f : Str} : ∀ {fs : List (Str × D)} {vs : List (Str × V)}, FR K H μ fs vs → fs.lookup f = none → vs.lookup f = none
  | _, _, .nil, h => by simp
  | (g, x) :: fs, (g', v) :: vs, .cons r t, h => by
    obtain ⟨e, rr⟩ := r
    have e : g = g' := e
    subst e
    by_cases hg : f = g
    · subst hg
      simp only [List.lookup, beq_self_eq_true] at h
      cases h
    · have b : (f == g) = false := by simpa using hg
      simp only [List.lookup, b] at h ⊢
      exact FR.lookN t h
def putFD (f : Str) (v : D) : List (Str × D) → List (Str × D)
  | [] => [(f, v)]
  | (g, x) :: r => if g = f then (g, v) :: r else (g, x) :: putFD f v r
theorem FR.put {K : PySem.W.Frag} {H : Hp} {μ : List Addr} {f : Str} {d : D} {v : V} (q : Rl K H μ d v) : ∀ {fs : List (Str × D)} {vs : List (Str × V)}, FR K H μ fs vs → FR K H μ (putFD f d fs) (putF f v vs)
  | _, _, .nil => .cons ⟨rfl, q⟩ .nil
  | (g, x) :: fs, (g', u) :: vs, .cons r t => by
    obtain ⟨e, rr⟩ := r
    have e : g = g' := e
    subst e
    unfold putFD putF
    by_cases hg : g = f
    · rw [if_pos hg, if_pos hg]
      exact .cons ⟨rfl, q⟩ t
    · rw [if_neg hg, if_neg hg]
      exact .cons ⟨rfl, rr⟩ (FR.put q t)
def oFld (C : Addr) (f : Str) : Op1 := fun d st => (insAt C st d).bind fun p => (p.2.lookup f).map fun x => (x, st)
section
variable {X : Cx} {e value : Expr} {fe fv : XE} {pos pos' tpos : Pos} {W : WX} {C : Addr} {f : Str}
theorem e_fld (c : Cls X.K C) (n : NoAttr X.K C f) (he : PE X e (tX X.K W fe)) (hb : attributeBase e f X.env (eval e X.env) = eval e X.env := by rfl) : PE X (.Attribute e f pos) (tX X.K W (x1 (oFld C f) fe)) :=
  pe_imp (pe_fld he hb) fun σ H Q ⟨ρ, st, μ, E, S, h⟩ =>
    tX_of E S h.bind fun x s1 H1 μ1 xv e1 E1 S1 r1 h1 => by
      obtain ⟨d, s2, h2, k⟩ := h1.of
      obtain ⟨⟨m, fs⟩, h3, h2⟩ := Option.bind_eq_some_iff.mp h2
      obtain ⟨y, h4, h2⟩ := Option.map_eq_some_iff.mp h2
      cases h2
      obtain ⟨rfl, h5⟩ := insAt_some h3
      obtain ⟨a, dx, vs, rfl, ha, t, q⟩ := S1.ins h5 r1
      obtain ⟨v, h6, r⟩ := q.look h4
      exact ⟨a, C, dx, vs, v, rfl, t, c, n, h6, k H1 μ1 (Ext.refl _ _) S1 v r⟩
def setF (C : Addr) (f : Str) (o v : D) (ρ : En) (s : Stt) : Out := match insAt C s o with
  | some p => if p.2.length < 1000 then .nx ρ (s.set p.1 (.ins C (putFD f v p.2))) else .no
  | none => .no
def sFldX (C : Addr) (f : Str) (fo fv : XE) : XS := fun ρ st => (fv ρ st).out ρ fun v s => (fo ρ s).out ρ fun o s => setF C f o v ρ s
theorem setF_ok {K : PySem.W.Frag} {D' : Ends} {ρ : En} {σ : L2.St} {o v : D} {s : Stt} {H : Hp} {μ : List Addr} {ov vv : V} (E : ER K H μ ρ σ) (S : SR K H μ s) (ro : Rl K H μ o ov) (rv : Rl K H μ v vv) (h : outOk K W D' H μ (setF C f o v ρ s)) :
    ∃ a dx fs, ov = .ref a ∧ H a = some (.ins C dx fs) ∧ fs.length < 1000 ∧ D'.nx σ (upd H a (.ins C dx (putF f vv fs))) := by
  unfold setF at h
  split at h
  · rename_i p hp
    obtain ⟨n, ds⟩ := p
    split at h
    · rename_i hz
      obtain ⟨rfl, h5⟩ := insAt_some hp
      obtain ⟨a, dx, vs, rfl, ha, t, q⟩ := S.ins h5 ro
      have hl : vs.length = ds.length := (Paired.length q).symm
      refine ⟨a, dx, vs, rfl, t, by rw [hl]; exact hz, ?_⟩
      have ex := ext_set S h5 ha (.ins C dx (putF f vv vs))
      exact h σ _ μ ex (E.ext ex) (S.put h5 ha (o' := .ins C (putFD f v ds)) ⟨dx, putF f vv vs, upd_same, (FR.put rv q).ext ex⟩)
    · exact h.elim
  · exact h.elim
theorem s_fld {o : Expr} {fo : XE} (c : Cls X.K C) (n : NoAttr X.K C f) (ho : PE X o (tX X.K W fo)) (hv : PE X value (tX X.K W fv)) (hs : swapsWith value (some (.Attribute o f pos')) pos.line X.env = pure false := by rfl) : PS X (.Assign [.Attribute o f pos'] value pos) (tXS X.K W (sFldX C f fo fv)) :=
  ps_imp (ps_fld ho hv hs) fun D' σ H ⟨ρ, s, μ, E, S, h⟩ => by
    refine tX_of E S (h.out E) fun v s1 H1 μ1 vv e1 E1 S1 r1 hA => ?_
    refine tX_of E1 S1 (hA.out E1) fun o s2 H2 μ2 ov e2 E2 S2 r2 hB => ?_
    obtain ⟨a, dx, fs, e3, t, l, q⟩ := setF_ok E2 S2 r2 (r1.ext e2) hB
    exact ⟨a, C, dx, fs, e3, t, c, n, l, q⟩
end
end Rg

set_option Elab.async false
set_option linter.all false
set_option maxRecDepth 100000
namespace Rg
open PySem PySem.Spec PyProof.Rows L2

/-! ### while -/
def whileF (c : XT) (f : XS) : Nat → En → Stt → Out
  | 0, _, _ => .no
  | m + 1, ρ, st => (c ρ st).out ρ fun b s => if b = true then (match f ρ s with
      | .nx ρ' st' => whileF c f m ρ' st'
      | .ct ρ' st' => whileF c f m ρ' st'
      | .bk ρ' st' => .nx ρ' st'
      | r => r) else .nx ρ s
def WN : Nat := 100000000
def sWhile (c : XT) (f : XS) : XS := fun ρ st => whileF c f WN ρ st
section
variable {X : Cx} {c tg iter e : Expr} {body : List Stmt} {t : XT} {f : XS} {pos : Pos} {W : WX}
theorem s_while (hp : PassesOwn (model X.prog X.w) X.A X.env X.xe) (hc : PT X c (tXT X.K W t)) (hb : PSs X body (tXS X.K W f)) : PS X (.While c body [] pos) (tXS X.K W (sWhile t f)) :=
  ps_imp (ps_while hp hc hb) fun D' σ H ⟨ρ, s, μ, E, S, h⟩ => by
    refine ⟨fun m σ2 H2 => ∃ ρ2 s2 μ2, ER X.K H2 μ2 ρ2 σ2 ∧ SR X.K H2 μ2 s2 ∧ outOk X.K W D' H2 μ2 (whileF t f m ρ2 s2), ⟨WN, ρ, s, μ, E, S, h⟩, fun m σ2 H2 ⟨ρ2, s2, μ2, E2, S2, h2⟩ => ?_⟩
    cases m with
    | zero => exact h2.elim
    | succ m =>
      have h3 : outOk X.K W D' H2 μ2 ((t ρ2 s2).out ρ2 fun b s => if b = true then (match f ρ2 s with
        | .nx ρ' st' => whileF t f m ρ' st'
        | .ct ρ' st' => whileF t f m ρ' st'
        | .bk ρ' st' => .nx ρ' st'
        | r => r) else .nx ρ2 s) := h2
      refine tXT_of E2 S2 (h3.out E2) fun k s3 H3 μ3 e3 E3 S3 h4 => ?_
      cases k with
      | false =>
        exact h4 σ2 H3 μ3 (Ext.refl _ _) E3 S3
      | true =>
        refine ⟨fun σ' H' => ∃ ρ2 s2 μ2, ER X.K H' μ2 ρ2 σ' ∧ SR X.K H' μ2 s2 ∧ outOk X.K W D' H' μ2 (whileF t f m ρ2 s2), fun σ' H' w => ⟨m, Nat.lt_succ_self m, w⟩, ?_⟩
        have h4 : outOk X.K W D' H3 μ3 (match f ρ2 s3 with
          | .nx ρ' st' => whileF t f m ρ' st'
          | .ct ρ' st' => whileF t f m ρ' st'
          | .bk ρ' st' => .nx ρ' st'
          | r => r) := h4
        refine ⟨ρ2, s3, μ3, E3, S3, ?_⟩
        cases e5 : f ρ2 s3 with
        | no => rw [e5] at h4; exact h4.elim
        | nx ρ' s' => rw [e5] at h4; exact fun σ6 H6 μ6 e6 E6 S6 => ⟨ρ', s', μ6, E6, S6, outOk.at e6 h4⟩
        | ct ρ' s' => rw [e5] at h4; exact fun σ6 H6 μ6 e6 E6 S6 => ⟨ρ', s', μ6, E6, S6, outOk.at e6 h4⟩
        | bk ρ' s' => rw [e5] at h4; exact fun σ6 H6 μ6 e6 E6 S6 => h4 σ6 H6 μ6 e6 E6 S6
        | rt d s' => rw [e5] at h4; exact h4
        | xx ρ' x s' => rw [e5] at h4; exact h4

/-! ### for -/
open Classical in
noncomputable def forF (ok : Stt → Prop) (g : XG) (f : XS) : List D → En → Stt → Out
  | [], ρ, st => if ok st then .nx ρ st else .no
  | d :: ds, ρ, st => if ok st then (match g d ρ with
    | none => .no
    | some ρ1 => match f ρ1 st with
      | .nx ρ' st' => forF ok g f ds ρ' st'
      | .ct ρ' st' => forF ok g f ds ρ' st'
      | .bk ρ' st' => .nx ρ' st'
      | r => r) else .no
noncomputable def sFor (w : XI) (g : XG) (f : XS) : XS := fun ρ st => (w ρ st).out ρ fun k s => forF k.ok g f k.its ρ s
theorem s_for {w : XI} {g : XG} {vs : List Nat} (hp : PassesOwn (model X.prog X.w) X.A X.env X.xe) (hc : X.calm = true) (hi : PI X tg iter (tXI X.K W w)) (hg : PG X tg (tG X.K vs g)) (hb : PSs X body (tXS X.K W f))
    (hs : ∀ x, foldedSetIterable iter X.env x = pure x := by intro _; rfl) : PS X (.For tg iter body [] pos) (tXS X.K W (sFor w g f)) :=
  ps_imp (ps_for hp hc hi hg hb hs) fun D' σ H ⟨ρ, s, μ, E, S, h⟩ => by
    have h := (show outOk X.K W D' H μ ((w ρ s).out ρ fun k s => forF k.ok g f k.its ρ s) from h).out E
    refine ⟨ρ, s, μ, E, S, h.mono fun wk s1 H1 μ1 e1 S1 h1 J ik => ?_⟩
    refine ⟨fun i m σ2 H2 => m = wk.its.length - i ∧ i ≤ wk.its.length ∧ ∃ ρ2 s2 μ2, ER X.K H2 μ2 ρ2 σ2 ∧ SR X.K H2 μ2 s2 ∧ Ext X.K H1 μ1 H2 μ2 ∧ outOk X.K W D' H2 μ2 (forF wk.ok g f (wk.its.drop i) ρ2 s2),
      ⟨_, rfl, Nat.zero_le _, ρ, s1, μ1, E.ext e1, S1, Ext.refl _ _, h1⟩, fun i m σ2 H2 hW => ?_⟩
    obtain ⟨rfl, hi, ρ2, s2, μ2, E2, S2, ex, h2⟩ := hW
    by_cases hlt : i < wk.its.length
    · have hd : wk.its[i]? = some wk.its[i] := List.getElem?_eq_getElem hlt
      rw [List.drop_eq_getElem_cons hlt] at h2
      unfold forF at h2
      split at h2
      · rename_i hok
        cases hgd : g wk.its[i] ρ2 with
        | none => rw [hgd] at h2; exact h2.elim
        | some ρ3 =>
        rw [hgd] at h2
        refine .inr ⟨ik.go H2 μ2 s2 i _ ex S2 hok hd, fun σ' H' => ∃ ρ2 s2 μ2, ER X.K H' μ2 ρ2 σ' ∧ SR X.K H' μ2 s2 ∧ Ext X.K H1 μ1 H' μ2 ∧ outOk X.K W D' H' μ2 (forF wk.ok g f (wk.its.drop (i + 1)) ρ2 s2), fun σ' H' w => ⟨wk.its.length - (i + 1), by omega, rfl, by omega, w⟩, fun x H3 hy => ?_⟩
        obtain ⟨e3, S3, r3, _⟩ := ik.yld H2 μ2 s2 i _ x H3 ex S2 hok hd hy
        refine ⟨ρ2, s2, μ2, _, E2.ext e3, S3, r3, ρ3, hgd, fun σ4 E4 _ => ?_⟩
        have h4 : outOk X.K W D' H3 μ2 (match f ρ3 s2 with
          | .nx ρ' st' => forF wk.ok g f (wk.its.drop (i + 1)) ρ' st'
          | .ct ρ' st' => forF wk.ok g f (wk.its.drop (i + 1)) ρ' st'
          | .bk ρ' st' => .nx ρ' st'
          | r => r) := outOk.at e3 h2
        refine ⟨ρ3, s2, μ2, E4, S3, ?_⟩
        cases e5 : f ρ3 s2 with
        | no => rw [e5] at h4; exact h4.elim
        | nx ρ' s' => rw [e5] at h4; exact fun σ6 H6 μ6 e6 E6 S6 => ⟨ρ', s', μ6, E6, S6, (ex.trans e3).trans e6, outOk.at e6 h4⟩
        | ct ρ' s' => rw [e5] at h4; exact fun σ6 H6 μ6 e6 E6 S6 => ⟨ρ', s', μ6, E6, S6, (ex.trans e3).trans e6, outOk.at e6 h4⟩
        | bk ρ' s' => rw [e5] at h4; exact h4
        | rt d s' => rw [e5] at h4; exact h4
        | xx ρ' x s' => rw [e5] at h4; exact h4
      · exact h2.elim
    · have e : i = wk.its.length := by omega
      subst e
      rw [List.drop_length] at h2
      unfold forF at h2
      split at h2
      · rename_i hok
        exact .inl ⟨ik.stop H2 μ2 s2 _ ex S2 hok (List.getElem?_eq_none (Nat.le_refl _)), h2 σ2 H2 μ2 (Ext.refl _ _) E2 S2⟩
      · exact h2.elim

/-! ### comprehensions -/
/-- nothing is let out -/
def W0 : WX := fun _ _ _ _ => False
open Classical in
noncomputable def compF (L : Nat) (ok : Stt → Prop) (g : XG) (t : XT) (f : XE) (ρ : En) : List D → Stt → R Unit
  | [], st => if ok st then .ok () st else .no
  | d :: ds, st => if ok st then (match g d ρ with
    | none => .no
    | some ρ1 => match t ρ1 st with
      | .ok true s => (match f ρ1 s with
        | .ok y s2 => (match lstAt s2 (.loc L) with
          | some p => if p.2.length < sizeLine then compF L ok g t f ρ ds (s2.set L (.lst (p.2 ++ [y]))) else .no
          | none => .no)
        | _ => .no)
      | .ok false s => compF L ok g t f ρ ds s
      | _ => .no) else .no
noncomputable def xLc (w : XI) (g : XG) (t : XT) (f : XE) (vs : List Nat) : XE := fun ρ st => (w ρ st).bind fun k s => (compF s.length k.ok g t f (wipeD ρ vs) k.its (s ++ [.lst []])).bind fun _ s' => .ok (.loc s.length) s'
def xYes : XT := fun _ st => .ok true st
theorem compF_ne {L : Nat} {ok : Stt → Prop} {g : XG} {t : XT} {f : XE} {ρ : En} : ∀ {ds : List D} {st : Stt} {e : Exn} {s : Stt}, compF L ok g t f ρ ds st ≠ .ex e s
  | [], st, e, s => by unfold compF; split <;> exact fun h => by cases h
  | d :: ds, st, e, s => by
    unfold compF
    split
    · split
      · exact fun h => by cases h
      · split
        · split
          · split
            · split
              · exact compF_ne
              · exact fun h => by cases h
            · exact fun h => by cases h
          · exact fun h => by cases h
        · exact compF_ne
        · exact fun h => by cases h
    · exact fun h => by cases h
theorem tLc_x {K : PySem.W.Frag} {w : XI} {g : XG} {gs vs : List Nat} {t : XT} {fe : XE} (hsub : ∀ i ∈ gs, i ∈ vs) {σ : L2.St} {H : Hp} {Q : VK} (h : tX K W (xLc w g t fe vs) σ H Q) : tLc (tXI K W w) (tG K gs g) (tXT K W0 t) (tX K W0 fe) vs σ H Q := by
  obtain ⟨ρ, s, μ, E, S, h⟩ := h
  refine ⟨ρ, s, μ, E, S, h.bind.mono fun wk s1 H1 μ1 e1 S1 h1 J ik Dp hD => ?_⟩
  have S1' : SR K (upd H1 Dp (.lst [])) (μ1 ++ [Dp]) (s1 ++ [.lst []]) := S1.newL hD .nil
  have e1' : Ext K H1 μ1 (upd H1 Dp (.lst [])) (μ1 ++ [Dp]) := ext_new hD _
  have hL : (μ1 ++ [Dp])[s1.length]? = some Dp := by rw [← S1.len]; simp
  cases hcf : compF s1.length wk.ok g t fe (wipeD ρ vs) wk.its (s1 ++ [.lst []]) with
  | no => rw [hcf] at h1; exact h1.elim
  | ex x s9 => exact absurd hcf compF_ne
  | ok u s9 =>
  rw [hcf] at h1
  refine ⟨fun i m H2 => m = wk.its.length - i ∧ i ≤ wk.its.length ∧ ∃ s2 μ2, SR K H2 μ2 s2 ∧ Ext K (upd H1 Dp (.lst [])) (μ1 ++ [Dp]) H2 μ2 ∧ compF s1.length wk.ok g t fe (wipeD ρ vs) (wk.its.drop i) s2 = .ok () s9,
    ⟨_, rfl, Nat.zero_le _, _, _, S1', Ext.refl _ _, hcf⟩, fun i m H2 hW => ?_⟩
  obtain ⟨rfl, hi, s2, μ2, S2, ex, h3⟩ := hW
  have ex1 : Ext K H1 μ1 H2 μ2 := e1'.trans ex
  by_cases hlt : i < wk.its.length
  · have hd : wk.its[i]? = some wk.its[i] := List.getElem?_eq_getElem hlt
    rw [List.drop_eq_getElem_cons hlt] at h3
    unfold compF at h3
    split at h3
    · rename_i hok
      split at h3
      · cases h3
      · rename_i ρ3 hg3
        refine .inr ⟨ik.go H2 μ2 s2 i _ ex1 S2 hok hd, fun H' => ∃ s2 μ2, SR K H' μ2 s2 ∧ Ext K (upd H1 Dp (.lst [])) (μ1 ++ [Dp]) H' μ2 ∧ compF s1.length wk.ok g t fe (wipeD ρ vs) (wk.its.drop (i + 1)) s2 = .ok () s9, fun H' w => ⟨wk.its.length - (i + 1), by omega, rfl, by omega, w⟩, fun x H3 hy => ?_⟩
        obtain ⟨e3, S3, r3, _⟩ := ik.yld H2 μ2 s2 i _ x H3 ex1 S2 hok hd hy
        refine ⟨wipeD ρ vs, s2, μ2, _, ((E.ext e1).ext (ex1.trans e3)).wipe vs, S3, r3, ρ3, hg3, fun σ4 E4 w4 => ⟨?_, ?_⟩⟩
        · rw [w4 vs hsub, wipe_wipe vs vs fun _ h => h]
        · refine ⟨ρ3, s2, μ2, E4, S3, ?_⟩
          split at h3
          · rename_i s4 ht
            rw [ht]
            intro H5 μ5 e5 S5
            split at h3
            · rename_i y s6 hf
              split at h3
              · rename_i p h7
                obtain ⟨n, acc⟩ := p
                split at h3
                · rename_i hz
                  obtain ⟨en, e7⟩ := lstAt_some h7
                  cases en
                  refine ⟨ρ3, s4, μ5, E4.ext e5, S5, ?_⟩
                  rw [hf]
                  intro H6 μ6 e6 S6 yv r6
                  have ex6 := ((ex.trans e3).trans e5).trans e6
                  have ha : μ6[s1.length]? = some Dp := ex6.get hL
                  obtain ⟨a, us, ea, hb, t6, q6⟩ := S6.lst e7 (.loc ha)
                  cases ea
                  have ex7 := ext_set S6 e7 ha (.lst (us ++ [yv]))
                  exact ⟨us, t6, by rw [← q6.length]; exact hz, _, μ6, S6.put e7 ha (o' := .lst (acc ++ [y])) ⟨us ++ [yv], upd_same, (q6.append (.cons r6 .nil)).ext ex7⟩, ex6.trans ex7, h3⟩
                · cases h3
              · cases h3
            · cases h3
          · rename_i s4 ht
            rw [ht]
            exact fun H5 μ5 e5 S5 => ⟨s4, μ5, S5, (ex.trans e3).trans e5, h3⟩
          · cases h3
    · cases h3
  · have e : i = wk.its.length := by omega
    subst e
    rw [List.drop_length] at h3
    unfold compF at h3
    split at h3
    · rename_i hok
      cases h3
      refine .inl ⟨ik.stop H2 μ2 _ _ ex1 S2 hok (List.getElem?_eq_none (Nat.le_refl _)), ?_⟩
      exact h1 H2 μ2 (e1'.trans ex) S2 _ (.loc (ex.get hL))
    · cases h3
theorem ts_nil : PTs X [] (tXT X.K W xYes) := ⟨fun pins s σ H Q I ⟨ρ, st, μ, E, S, h⟩ => pts_nil.run pins s σ H Q I (h.ok S)⟩
theorem ts_one {t : XT} (h : PT X c (tXT X.K W t)) : PTs X [c] (tXT X.K W t) := pts_one h
theorem e_lc {elt : Expr} {ifs : List Expr} {scope : Scope} {own : List (Str × Nat)} {w : XI} {g : XG} {gs : List Nat} {t : XT} {fe : XE} (hc : X.calm = true) (hN : X.N.Nodup) (ok : BlkOk X.N X.env.scope scope own) (hi : PI X tg iter (tXI X.K W w))
    (hg : ∀ (s : Shared) (H : Hp) (C : Addr) (cl : List (Str × Addr)) (fp : List Addr), PG (X.blk s H scope (compEnvC scope cl C X.env) fp) tg (tG X.K gs g)) (ht : ∀ (s : Shared) (H : Hp) (C : Addr) (cl : List (Str × Addr)) (fp : List Addr), PTs (X.blk s H scope (compEnvC scope cl C X.env) fp) ifs (tXT X.K W0 t))
    (he : ∀ (s : Shared) (H : Hp) (C : Addr) (cl : List (Str × Addr)) (fp : List Addr), PE (X.blk s H scope (compEnvC scope cl C X.env) fp) elt (tX X.K W0 fe)) (hsub : ∀ i ∈ gs, i ∈ own.map (·.2) := by decide) (hs : ∀ x, foldedSetIterable iter X.env x = pure x := by intro _; rfl) :
    PE X (.ListComp elt [⟨tg, iter, ifs, 0⟩] scope pos) (tX X.K W (xLc w g t fe (own.map (·.2)))) :=
  pe_imp (pe_lc hc hN hi ok hg ht he hs) fun _ _ _ h => tLc_x hsub h
theorem s_setLc (i : Nat) {y : Str} {py spos : Pos} {elt : Expr} {ifs : List Expr} {scope : Scope} {own : List (Str × Nat)} {w : XI} {g : XG} {gs : List Nat} {t : XT} {fe : XE} (hc : X.calm = true) (hN : X.N.Nodup) (ok : BlkOk X.N X.env.scope scope own) (hi : PI X tg iter (tXI X.K W w))
    (hg : ∀ (s : Shared) (H : Hp) (C : Addr) (cl : List (Str × Addr)) (fp : List Addr), PG (X.blk s H scope (compEnvC scope cl C X.env) fp) tg (tG X.K gs g)) (ht : ∀ (s : Shared) (H : Hp) (C : Addr) (cl : List (Str × Addr)) (fp : List Addr), PTs (X.blk s H scope (compEnvC scope cl C X.env) fp) ifs (tXT X.K W0 t))
    (he : ∀ (s : Shared) (H : Hp) (C : Addr) (cl : List (Str × Addr)) (fp : List Addr), PE (X.blk s H scope (compEnvC scope cl C X.env) fp) elt (tX X.K W0 fe))
    (hsw : swapsWith (.ListComp elt [⟨tg, iter, ifs, 0⟩] scope pos) (some (.Name y py)) spos.line X.env = pure true) (hy : X.N[i]? = some y := by rfl) (hyl : X.env.scope.names.lookup y = some .local := by rfl) (hsub : ∀ i ∈ gs, i ∈ own.map (·.2) := by decide) (hs : ∀ x, foldedSetIterable iter X.env x = pure x := by intro _; rfl) :
    PS X (.Assign [.Name y py] (.ListComp elt [⟨tg, iter, ifs, 0⟩] scope pos) spos) (tXS X.K W (sSet i (xLc w g t fe (own.map (·.2))))) :=
  ps_imp (L2.ps_setLc hc hN hy hyl hsw hi ok hg ht he hs) fun D' σ H ⟨ρ, s, μ, E, S, h⟩ => by
    refine tLc_x hsub (tX_of E S (h.out E) fun d s1 H1 μ1 v e1 E1 S1 r q => ?_)
    exact q _ H1 μ1 (Ext.refl _ _) (E1.set r i) S1
end

/-! ### defs -/
abbrev Fn := List D → Stt → R D
def spX (K : PySem.W.Frag) (n : Nat) (f : Fn) : Sp := fun vs H Q E => vs.length = n ∧ ∃ ds st μ, SR K H μ st ∧ Rls K H μ ds vs ∧ RO K (fun e H' μ' => ∀ d, XR K H' μ' e d → E (.ref e.cls) d H') H μ (QD K Q) (f ds st)
def Out.ret : Out → R D
  | .rt d st => .ok d st
  | .nx _ st => .ok .non st
  | .xx _ e st => .ex e st
  | _ => .no
def runB (n : Nat) (f : XS) : Fn := fun ds st => (f (ds.map some ++ List.replicate (n - ds.length) none) st).ret
theorem start_er {K : PySem.W.Frag} {H : Hp} {μ : List Addr} {N : List Str} : ∀ {ds : List D} {vs : List V}, Rls K H μ ds vs → ER K H μ (ds.map some ++ List.replicate (N.length - ds.length) none) (L2.start N vs) := fun {ds vs} r => by
  refine ⟨by simp [L2.start, r.length], fun i d h => ?_⟩
  by_cases hi : i < ds.length
  · rw [List.getElem?_append_left (by simpa using hi), List.getElem?_map] at h
    obtain ⟨d', h1, h2⟩ := Option.map_eq_some_iff.mp h
    cases h2
    obtain ⟨v, h3, h4⟩ := r.get h1
    refine ⟨v, ?_, h4⟩
    unfold L2.start
    have hv : i < vs.length := by rw [← r.length]; exact hi
    rw [List.getElem?_append_left (by simpa using hv), List.getElem?_map, h3]
    rfl
  · rw [List.getElem?_append_right (by simpa using hi), List.getElem?_replicate] at h
    split at h <;> cases h
section
variable {P : Program} {w : World} {K : PySem.W.Frag} {mg : Str → Option Value} {base : Heap}
/-- what the context of a def's body gives -/
structure Ctx (X : Cx) (W : WX) : Prop where
  calm : X.calm = true
  tk : L2.Takes X W
  own : PassesOwn (model X.prog X.w) X.A X.env X.xe
/-- a def of the text: its body's derivation -/
theorem ok_def {x qual : Str} {st : Stmt} {f : Addr} {fd : FuncData} {N ps : List Str} {k : Nat} {fb : XS} (F : Fun K x qual st f fd) (S : FnScope N ps (defScope st))
    (hb : ∀ (cdv : Value) (A : Around) (outer : List Env) (s : Shared) (H : Hp) (E : XK), Room k (A.deeper (envOfC qual (defScope st) s.heap.objs.size f cdv)) → Ctx (cxOf (L2.CX P w) P w K mg base N qual (defScope st) f cdv A outer s H E) (fun c d _ H => E c d H) → PSs (cxOf (L2.CX P w) P w K mg base N qual (defScope st) f cdv A outer s H E) (defBody st) (tXS K (fun c d _ H => E c d H) fb)) :
    FnOk P w K mg base (L2.CX P w) (k + 1) f fd ps (spX K ps.length (runB N.length fb)) := by
  refine F.okX S (fun vs H Q E h => h.1) (fun cdv A outer s H vs Q E hr h => ?_)
  obtain ⟨hl, ds, st, μ, SS, r, h⟩ := h
  refine ⟨_, hb cdv A outer s H E hr ⟨rfl, takes_of rfl rfl rfl rfl, passes_of rfl⟩, ?_⟩
  unfold runB at h
  refine ⟨_, st, μ, start_er r, SS, ?_⟩
  cases e : fb (ds.map some ++ List.replicate (N.length - ds.length) none) st with
  | no => rw [e] at h; exact h.elim
  | rt d' s' => rw [e] at h; exact fun v H' μ' ex S' r' => h H' μ' ex S' v r'
  | nx ρ' s' => rw [e] at h; exact fun σ H' μ' ex _ S' => h H' μ' ex S' .non .non
  | bk _ _ => rw [e] at h; exact h.elim
  | ct _ _ => rw [e] at h; exact h.elim
  | xx ρ' x s' => rw [e] at h; exact fun σ H' μ' ex _ S' => h H' μ' ex S'
theorem FnOk.sem {CX : CXT} {k n : Nat} {f : Addr} {fd : FuncData} {ps : List Str} {g g' : Fn} (F : FnOk P w K mg base CX k f fd ps (spX K n g)) (h : ∀ ds st, g' ds st ≠ .no → g ds st = g' ds st) : FnOk P w K mg base CX k f fd ps (spX K n g') :=
  F.imp fun vs H Q E ⟨hl, ds, st, μ, S, r, q⟩ => ⟨hl, ds, st, μ, S, r, by rw [h ds st fun e => by rw [e] at q; exact q]; exact q⟩
end

/-! ### calls -/
def Len (g : XA) (n : Nat) : Prop := ∀ ρ st r s', g ρ st = .ok r s' → r.length = n
theorem len_nil : Len xNil 0 := fun _ _ _ _ h => by cases h; rfl
theorem len_cons {f : XE} {g : XA} {n : Nat} (h : Len g n) : Len (xCons f g) (n + 1) := fun ρ st r s' e => by
  unfold xCons at e
  cases h1 : f ρ st with
  | no => rw [h1] at e; cases e
  | ex _ _ => rw [h1] at e; cases e
  | ok d s1 =>
    rw [h1] at e
    have e : ((g ρ s1).bind fun ds s => R.ok (d :: ds) s) = .ok r s' := e
    cases h2 : g ρ s1 with
    | no => rw [h2] at e; cases e
    | ex _ _ => rw [h2] at e; cases e
    | ok ds s2 =>
      rw [h2] at e
      cases e
      rw [List.length_cons, h _ _ _ _ h2]
def xFn (g : Fn) (ga : XA) : XE := fun ρ st => (ga ρ st).bind g
section
variable {X : Cx} {k n : Nat} {f C : Addr} {fd : FuncData} {ps : List Str} {g : Fn} {x m : Str} {p pos apos : Pos} {e o : Expr} {es : List Expr} {ga : XA} {fo : XE} {W : WX}
theorem tXA_eq {K : PySem.W.Frag} {f : XA} {σ : L2.St} {H : Hp} {μ : List Addr} {ρ : En} {st : Stt} {P : List D → Stt → Hp → List Addr → Prop} {Q : List V → Hp → Prop} (E : ER K H μ ρ σ) (S : SR K H μ st) (h : RO K (wx K W σ) H μ P (f ρ st))
    (k : ∀ d st' H' μ' v, f ρ st = .ok d st' → Ext K H μ H' μ' → ER K H' μ' ρ σ → SR K H' μ' st' → Rls K H' μ' d v → P d st' H' μ' → Q v H') : tXA K W f σ H Q := by
  refine ⟨ρ, st, μ, E, S, ?_⟩
  cases e : f ρ st with
  | no => rw [e] at h; exact h
  | ex _ _ => rw [e] at h; exact h
  | ok d s => rw [e] at h; exact fun H' μ' ex S' v r => k d s H' μ' v e ex (E.ext ex) S' r (h H' μ' ex S')
/-- f(e, ..) -/
theorem e_call (F : FnOk X.prog X.w X.K X.mg X.base (L2.CX X.prog X.w) k f fd ps (spX X.K (es.length + 1) g)) (tk : L2.Takes X W) (hr : Room k X.A) (hm : X.mg x = some (.ref f)) (hk : PySem.W.keepIn X.K (.ref f) = true) (hb : Binds X.K fd ps []) (ha : PA X (e :: es) (tXA X.K W ga)) (hg : Gl X x := by rfl) (hdb : (x == ("__debug__" : Str)) = false := by decide)
    (he : starEach (e :: es) X.env = (false, eval e X.env) :: starEach es X.env := by rfl) (hpl : (backTo pos (starEach es X.env)).any (·.1) = false := by rfl) (hlen : Len ga (es.length + 1) := by repeat (first | exact len_nil | apply len_cons)) : PE X (.Call (.Name x p) (e :: es) [] pos) (tX X.K W (xFn g ga)) :=
  pe_imp (pe_callS F hr hg hm hk hb (fun σ => passAt tk σ) ha hdb he hpl) fun σ H Q ⟨ρ, st, μ, E, S, h⟩ =>
    tXA_eq E S h.bind fun ds s1 H1 μ1 vs eq e1 E1 S1 r1 h1 => ⟨by rw [← r1.length]; exact hlen _ _ _ _ eq, ds, s1, μ1, S1, r1, h1⟩
/-- f() -/
def tCallS0 (sp : Sp) (E : L2.St → XK) : TE := fun σ H Q => sp [] H Q (E σ)
theorem pe_callS0 {CX : CXT} {sp : Sp} {E : L2.St → XK} (F : FnOk X.prog X.w X.K X.mg X.base CX k f fd ps sp) (hr : Room k X.A) (hg : Gl X x) (hm : X.mg x = some (.ref f)) (hk : PySem.W.keepIn X.K (.ref f) = true) (hb : Binds X.K fd ps []) (hx : ∀ σ, PassesAt CX X σ (E σ))
    (hdb : (x == ("__debug__" : Str)) = false := by decide) : PE X (.Call (.Name x p) [] [] pos) (tCallS0 sp E) := by
  refine ⟨fun pins s σ H Q I h => ?_⟩
  refine wpAny_Call_Name_kw (ld_glob I hg hm ?_ hdb)
  exact PySem.W.callWith_K0 I.kIn hk (run_fnS (us := []) (vs := []) F hr hb (hx σ) I .nil h)
theorem e_call0 (F : FnOk X.prog X.w X.K X.mg X.base (L2.CX X.prog X.w) k f fd ps (spX X.K 0 g)) (tk : L2.Takes X W) (hr : Room k X.A) (hm : X.mg x = some (.ref f)) (hk : PySem.W.keepIn X.K (.ref f) = true) (hb : Binds X.K fd ps []) (hg : Gl X x := by rfl) (hdb : (x == ("__debug__" : Str)) = false := by decide) : PE X (.Call (.Name x p) [] [] pos) (tX X.K W (xFn g xNil)) :=
  pe_imp (pe_callS0 F hr hg hm hk hb (fun σ => passAt tk σ) hdb) fun σ H Q ⟨ρ, st, μ, E, S, h⟩ => ⟨rfl, [], st, μ, S, .nil, h⟩
/-- o.m(e, ..) -/
def hasM (C : Addr) (m : Str) (d : D) (st : Stt) : R Unit := match insAt C st d with
  | some p => if p.2.lookup m = none then .ok () st else .no
  | none => .no
def xMeth (C : Addr) (m : Str) (g : Fn) (fo : XE) (ga : XA) : XE := fun ρ st => (fo ρ st).bind fun d s => (hasM C m d s).bind fun _ s => (ga ρ s).bind fun ds s => g (d :: ds) s
theorem RO.hasM {K : PySem.W.Frag} {Wd : Exn → Hp → List Addr → Prop} {H : Hp} {μ : List Addr} {Q : Unit → Stt → Hp → List Addr → Prop} {d : D} {st : Stt} {v : V} (S : SR K H μ st) (r : Rl K H μ d v) (h : RO K Wd H μ Q (hasM C m d st)) : ∃ a dx vs, v = .ref a ∧ H a = some (.ins C dx vs) ∧ vs.lookup m = none ∧ Q () st H μ := by
  unfold Rg.hasM at h
  split at h
  · rename_i p hp
    obtain ⟨n, fs⟩ := p
    split at h
    · rename_i hl
      obtain ⟨rfl, h5⟩ := insAt_some hp
      obtain ⟨a, dx, vs, rfl, ha, t, q⟩ := S.ins h5 r
      exact ⟨a, dx, vs, rfl, t, q.lookN hl, h.ok S⟩
    · exact h.elim
  · exact h.elim
def tMethS (C : Addr) (m : Str) (sp : Sp) (E : L2.St → XK) (ta : TE) (t : TA) : TE := fun σ H Q => ta σ H fun x H1 => ∃ a dx fs, x = .ref a ∧ H1 a = some (.ins C dx fs) ∧ fs.lookup m = none ∧ t σ H1 fun vs H2 => sp (x :: vs) H2 Q (E σ)
theorem pe_methSs {CX : CXT} {sp : Sp} {E : L2.St → XK} {ta : TE} {t : TA} {pl : Sem Bool} (he : PE X o ta) (c : Cls X.K C) (hm : Meth X.K C m f) (F : FnOk X.prog X.w X.K X.mg X.base CX k f fd ps sp) (hr : Room k X.A) (hb : Binds X.K fd ps []) (hx : ∀ σ, PassesAt CX X σ (E σ)) (ha : PA X (e :: es) t)
    (hst : starEach (e :: es) X.env = (false, eval e X.env) :: starEach es X.env := by rfl) (hpl : (backTo pos (starEach es X.env)).any (·.1) = false := by rfl)
    (ht : eval (.Call (.Attribute o m apos) (e :: es) [] pos) X.env = (do
      let ov ← eval o X.env
      standAt apos.atName
      let (f, first) ← holding [ov] (getMethod ov m pl)
      callWith pos f first (backTo pos (starEach (e :: es) X.env)) (backToKw pos (keywordEach [] X.env))) := by rfl) :
    PE X (.Call (.Attribute o m apos) (e :: es) [] pos) (tMethS C m sp E ta t) := by
  refine ⟨fun pins s σ H Q I h => ?_⟩
  refine PySem.W.methodCall_KW (pl := pl) (thn (he.run pins s σ H _ I h) fun u s1 ⟨x, H1, I1, rx, a, dx, fs, ex, ea, l, q⟩ => ?_) ht
  subst ex
  obtain rfl : u = Value.ref a := rx
  refine getmeth_ok I1 ea c hm l ?_
  refine PySem.W.callWith_K (first := [.ref a]) (h₀ := X.base) I.ok.mod.kin hm.kp (thn (ha.run pos pins s1 σ H1 _ I1 q) fun us s2 ⟨vs, H2, I2, r, q2⟩ => ⟨I2.kIn, ?_⟩) hst hpl
  exact run_fnS (us := .ref a :: us) (vs := .ref a :: vs) F hr hb (hx σ) I2 (.cons rfl r) q2
theorem pe_methSs0 {CX : CXT} {sp : Sp} {E : L2.St → XK} {ta : TE} {pl : Sem Bool} (he : PE X o ta) (c : Cls X.K C) (hm : Meth X.K C m f) (F : FnOk X.prog X.w X.K X.mg X.base CX k f fd ps sp) (hr : Room k X.A) (hb : Binds X.K fd ps []) (hx : ∀ σ, PassesAt CX X σ (E σ))
    (ht : eval (.Call (.Attribute o m apos) [] [] pos) X.env = (do
      let ov ← eval o X.env
      standAt apos.atName
      let (f, first) ← holding [ov] (getMethod ov m pl)
      callWith pos f first (backTo pos (starEach [] X.env)) (backToKw pos (keywordEach [] X.env))) := by rfl) :
    PE X (.Call (.Attribute o m apos) [] [] pos) (tMethS C m sp E ta tNil) := by
  refine ⟨fun pins s σ H Q I h => ?_⟩
  refine PySem.W.methodCall_KW (pl := pl) (thn (he.run pins s σ H _ I h) fun u s1 ⟨x, H1, I1, rx, a, dx, fs, ex, ea, l, q⟩ => ?_) ht
  subst ex
  obtain rfl : u = Value.ref a := rx
  refine getmeth_ok I1 ea c hm l ?_
  exact PySem.W.callWith_K0 (first := [.ref a]) I1.kIn hm.kp (run_fnS (us := [.ref a]) (vs := [.ref a]) F hr hb (hx σ) I1 (.cons rfl .nil) q)
theorem e_meth (c : Cls X.K C) (hm : Meth X.K C m f) (F : FnOk X.prog X.w X.K X.mg X.base (L2.CX X.prog X.w) k f fd ps (spX X.K (es.length + 2) g)) (tk : L2.Takes X W) (hr : Room k X.A) (hb : Binds X.K fd ps []) (ho : PE X o (tX X.K W fo)) (ha : PA X (e :: es) (tXA X.K W ga)) {pl : Sem Bool}
    (hst : starEach (e :: es) X.env = (false, eval e X.env) :: starEach es X.env := by rfl) (hpl : (backTo pos (starEach es X.env)).any (·.1) = false := by rfl)
    (ht : eval (.Call (.Attribute o m apos) (e :: es) [] pos) X.env = (do
      let ov ← eval o X.env
      standAt apos.atName
      let (f, first) ← holding [ov] (getMethod ov m pl)
      callWith pos f first (backTo pos (starEach (e :: es) X.env)) (backToKw pos (keywordEach [] X.env))) := by rfl) (hlen : Len ga (es.length + 1) := by repeat (first | exact len_nil | apply len_cons)) :
    PE X (.Call (.Attribute o m apos) (e :: es) [] pos) (tX X.K W (xMeth C m g fo ga)) :=
  pe_imp (pe_methSs (pl := pl) ho c hm F hr hb (fun σ => passAt tk σ) ha hst hpl ht) fun σ H Q ⟨ρ, st, μ, E, S, h⟩ =>
    tX_of E S h.bind fun x s1 H1 μ1 xv e1 E1 S1 r1 h1 => by
      obtain ⟨a, dx, vs, ev, t, l, q⟩ := h1.bind.hasM S1 r1
      refine ⟨a, dx, vs, ev, t, l, ?_⟩
      refine tXA_eq E1 S1 q.bind fun ds s2 H2 μ2 us eq e2 E2 S2 r2 h2 => ?_
      exact ⟨by rw [List.length_cons, ← r2.length, hlen _ _ _ _ eq], x :: ds, s2, μ2, S2, .cons (r1.ext e2) r2, h2⟩
theorem e_meth0 (c : Cls X.K C) (hm : Meth X.K C m f) (F : FnOk X.prog X.w X.K X.mg X.base (L2.CX X.prog X.w) k f fd ps (spX X.K 1 g)) (tk : L2.Takes X W) (hr : Room k X.A) (hb : Binds X.K fd ps []) (ho : PE X o (tX X.K W fo)) {pl : Sem Bool}
    (ht : eval (.Call (.Attribute o m apos) [] [] pos) X.env = (do
      let ov ← eval o X.env
      standAt apos.atName
      let (f, first) ← holding [ov] (getMethod ov m pl)
      callWith pos f first (backTo pos (starEach [] X.env)) (backToKw pos (keywordEach [] X.env))) := by rfl) :
    PE X (.Call (.Attribute o m apos) [] [] pos) (tX X.K W (xMeth C m g fo xNil)) :=
  pe_imp (pe_methSs0 (pl := pl) ho c hm F hr hb (fun σ => passAt tk σ) ht) fun σ H Q ⟨ρ, st, μ, E, S, h⟩ =>
    tX_of E S h.bind fun x s1 H1 μ1 xv e1 E1 S1 r1 h1 => by
      obtain ⟨a, dx, vs, ev, t, l, q⟩ := h1.bind.hasM S1 r1
      exact ⟨a, dx, vs, ev, t, l, rfl, [x], s1, μ1, S1, .cons r1 .nil, q⟩
/-- C(e, ..) -/
def mkIns (C : Addr) (g : Fn) (ds : List D) (st : Stt) : R D := (g (.loc st.length :: ds) (st ++ [.ins C []])).bind fun d s => match d with
  | .non => .ok (.loc st.length) s
  | _ => .no
def xMake (C : Addr) (g : Fn) (ga : XA) : XE := fun ρ st => (ga ρ st).bind (mkIns C g)
def tMakeS (C : Addr) (sp : Sp) (E : L2.St → XK) (t : TA) : TE := fun σ H Q => t σ H fun vs H1 => ∀ x dx, H1 x = none → H1 dx = none → dx ≠ x → sp (.ref x :: vs) (upd (upd H1 dx (.own x)) x (.ins C dx [])) (fun v H2 => v = .non ∧ Q (.ref x) H2) (E σ)
theorem run_makeS {CX : CXT} {sp : Sp} {E : L2.St → XK} {pins : List (Addr × Obj)} {σ : L2.St} {H : Hp} {s : Shared} {Q : VK} {us : List Value} {vs : List V} (M : Mk X.K C f) (F : FnOk X.prog X.w X.K X.mg X.base CX k f fd ps sp) (hr : Room (k + 1) X.A) (hb : Binds X.K fd ps [])
    (hx : PassesAt CX X σ (E σ)) (I : Inv X pins σ H s) (r : Vals vs us)
    (h : ∀ x dx, H x = none → H dx = none → dx ≠ x → sp (.ref x :: vs) (upd (upd H dx (.own x)) x (.ins C dx [])) (fun v H2 => v = .non ∧ Q (.ref x) H2) (E σ)) :
    wpAny (model X.prog X.w) X.A (call (.ref C) us) (EP X pins σ Q) X.xe s := by
  have hq := h (s.heap.objs.size + 1) s.heap.objs.size (I.hok.fresh (Nat.le_succ _)) (I.hok.fresh (Nat.le_refl _)) (Nat.ne_of_lt (Nat.lt_succ_self _))
  have I2 := Inv.made (C := C) I
  have r2 : Vals (V.ref (s.heap.objs.size + 1) :: vs) (Value.ref (s.heap.objs.size + 1) :: us) := .cons rfl r
  have hl : (Value.ref (s.heap.objs.size + 1) :: us).length = ps.length := by
    have e := r2.length
    rw [F.len _ _ _ _ hq] at e
    exact e.symm
  have b := hb _ (Value.ref (s.heap.objs.size + 1) :: us) I2.kIn (by rw [List.append_nil]; exact hl)
  rw [List.append_nil] at b
  refine wpAny_call (make_map (f := f) I.kIn M.makes M.init (beq_iff_eq.mp M.fn) (codeAny_mono (F.run _ X.stack _ _ ⟨Value.ref (s.heap.objs.size + 1) :: us, []⟩ (Value.ref (s.heap.objs.size + 1) :: us) _ _ (E σ) (hr.make C us [])
    (I2.env0.make C us []) b r2 hq) fun r s' hq' => ?_))
  cases r with
  | error e => exact hx pins _ _ e s' I2 hq'
  | ok fl =>
    cases fl with
    | ret u =>
      obtain ⟨v, H', I3, rv, ev, q3⟩ := I2.after hq'
      subst ev
      exact ⟨rv, ⟨V.ref (s.heap.objs.size + 1), H', I3, rfl, q3⟩⟩
    | next => exact False.elim hq'
    | brk => exact False.elim hq'
    | cont => exact False.elim hq'
theorem pe_makeS {CX : CXT} {sp : Sp} {E : L2.St → XK} {t : TA} (M : Mk X.K C f) (F : FnOk X.prog X.w X.K X.mg X.base CX k f fd ps sp) (hr : Room (k + 1) X.A) (hg : Gl X x) (hm : X.mg x = some (.ref C)) (hb : Binds X.K fd ps []) (hx : ∀ σ, PassesAt CX X σ (E σ))
    (ha : PA X (e :: es) t) (hdb : (x == ("__debug__" : Str)) = false := by decide) (he : starEach (e :: es) X.env = (false, eval e X.env) :: starEach es X.env := by rfl) (hpl : (backTo pos (starEach es X.env)).any (·.1) = false := by rfl) :
    PE X (.Call (.Name x p) (e :: es) [] pos) (tMakeS C sp E t) := by
  refine ⟨fun pins s σ H Q I h => ?_⟩
  refine wpAny_Call_Name_kw (ld_glob I hg hm ?_ hdb)
  refine PySem.W.callWith_K (h₀ := X.base) I.ok.mod.kin M.kp (thn (ha.run pos pins s σ H _ I h) fun us s1 ⟨vs, H1, I1, r, q⟩ => ⟨I1.kIn, ?_⟩) he hpl
  exact run_makeS M F hr hb (hx σ) I1 r q
theorem pe_makeS0 {CX : CXT} {sp : Sp} {E : L2.St → XK} (M : Mk X.K C f) (F : FnOk X.prog X.w X.K X.mg X.base CX k f fd ps sp) (hr : Room (k + 1) X.A) (hg : Gl X x) (hm : X.mg x = some (.ref C)) (hb : Binds X.K fd ps []) (hx : ∀ σ, PassesAt CX X σ (E σ))
    (hdb : (x == ("__debug__" : Str)) = false := by decide) : PE X (.Call (.Name x p) [] [] pos) (tMakeS C sp E tNil) := by
  refine ⟨fun pins s σ H Q I h => ?_⟩
  refine wpAny_Call_Name_kw (ld_glob I hg hm ?_ hdb)
  exact PySem.W.callWith_K0 I.kIn M.kp (run_makeS (us := []) M F hr hb (hx σ) I .nil h)
theorem mk_ok {K : PySem.W.Frag} {n : Nat} {ds : List D} {st : Stt} {H : Hp} {μ : List Addr} {E : XK} {Q : VK} {vs : List V} (S : SR K H μ st) (r : Rls K H μ ds vs) (hn : vs.length = n) (h : RO K (fun e H' μ' => ∀ d, XR K H' μ' e d → E (.ref e.cls) d H') H μ (QD K Q) (mkIns C g ds st)) :
    ∀ x dx, H x = none → H dx = none → dx ≠ x → spX K (n + 1) g (.ref x :: vs) (upd (upd H dx (.own x)) x (.ins C dx [])) (fun v H2 => v = .non ∧ Q (.ref x) H2) E := fun x dx hx hdx hne => by
  have hx2 : upd H dx (.own x) x = none := by rw [upd_ne (Ne.symm hne)]; exact hx
  have S1 := S.side hdx (.own x)
  have e1 : Ext K H μ (upd H dx (.own x)) μ := ext_side hdx _
  have e2 : Ext K (upd H dx (.own x)) μ (upd (upd H dx (.own x)) x (.ins C dx [])) (μ ++ [x]) := ext_new hx2 _
  have S2 : SR K (upd (upd H dx (.own x)) x (.ins C dx [])) (μ ++ [x]) (st ++ [.ins C []]) := S1.new (o := .ins C []) hx2 ⟨dx, [], upd_same, .nil⟩
  have hl : (μ ++ [x])[st.length]? = some x := by rw [← S.len]; simp
  refine ⟨by rw [List.length_cons, hn], .loc st.length :: ds, _, _, S2, .cons (.loc hl) (r.ext (e1.trans e2)), ?_⟩
  refine (h.bind.at (e1.trans e2)).mono fun d s H' μ' e S' q v rv => ?_
  cases d with
  | non =>
    cases rv
    exact ⟨rfl, q.ok S' _ (.loc (e.get hl))⟩
  | bl _ => exact q.elim
  | int _ => exact q.elim
  | str _ => exact q.elim
  | tup _ => exact q.elim
  | loc _ => exact q.elim
  | cl _ => exact q.elim
  | opq _ => exact q.elim
  | exo _ _ _ _ => exact q.elim
theorem e_make (M : Mk X.K C f) (F : FnOk X.prog X.w X.K X.mg X.base (L2.CX X.prog X.w) k f fd ps (spX X.K (es.length + 2) g)) (tk : L2.Takes X W) (hr : Room (k + 1) X.A) (hm : X.mg x = some (.ref C)) (hb : Binds X.K fd ps []) (ha : PA X (e :: es) (tXA X.K W ga)) (hg : Gl X x := by rfl) (hdb : (x == ("__debug__" : Str)) = false := by decide) (he : starEach (e :: es) X.env = (false, eval e X.env) :: starEach es X.env := by rfl) (hpl : (backTo pos (starEach es X.env)).any (·.1) = false := by rfl) (hlen : Len ga (es.length + 1) := by repeat (first | exact len_nil | apply len_cons)) :
    PE X (.Call (.Name x p) (e :: es) [] pos) (tX X.K W (xMake C g ga)) :=
  pe_imp (pe_makeS M F hr hg hm hb (fun σ => passAt tk σ) ha hdb he hpl) fun σ H Q ⟨ρ, st, μ, E, S, h⟩ =>
    tXA_eq E S h.bind fun ds s1 H1 μ1 vs eq e1 E1 S1 r1 h1 => mk_ok S1 r1 (by rw [← r1.length]; exact hlen _ _ _ _ eq) h1
theorem e_make0 (M : Mk X.K C f) (F : FnOk X.prog X.w X.K X.mg X.base (L2.CX X.prog X.w) k f fd ps (spX X.K 1 g)) (tk : L2.Takes X W) (hr : Room (k + 1) X.A) (hm : X.mg x = some (.ref C)) (hb : Binds X.K fd ps []) (hg : Gl X x := by rfl) (hdb : (x == ("__debug__" : Str)) = false := by decide) :
    PE X (.Call (.Name x p) [] [] pos) (tX X.K W (xMake C g xNil)) :=
  pe_imp (pe_makeS0 M F hr hg hm hb (fun σ => passAt tk σ) hdb) fun σ H Q ⟨ρ, st, μ, E, S, h⟩ => mk_ok S .nil rfl h
end
end Rg

set_option Elab.async false
set_option linter.all false
set_option maxRecDepth 100000
namespace Rg
open PySem PySem.Spec PyProof.Rows L2

/-! ### tuples of the module -/
mutual
theorem WT.ok {K : PySem.W.Frag} {H : Hp} {μ : List Addr} : ∀ {d : D} {u : Value}, WT K d u → ∃ v, RelV v u ∧ Rl K H μ d v
  | _, _, .non => ⟨.non, rfl, .non⟩
  | _, _, .bl b => ⟨.bl b, rfl, .bl b⟩
  | _, _, .int i t => ⟨.int i, ⟨t, rfl⟩, .int i⟩
  | _, _, .str x t => ⟨.str x, ⟨t, rfl⟩, .str x⟩
  | _, _, .tup (a := a) (its := its) h1 h2 h3 h4 h5 => by
    obtain ⟨vs, r1, r2⟩ := WT.oks h5
    exact ⟨.ref a, rfl, .tup (.inr ⟨_, its, _, h1, h2, h3, h4, r1⟩) r2⟩
theorem WT.oks {K : PySem.W.Frag} {H : Hp} {μ : List Addr} : ∀ {ds : List D} {us : List Value}, Paired (WT K) ds us → ∃ vs, Vals vs us ∧ Rls K H μ ds vs
  | _, _, .nil => ⟨[], .nil, .nil⟩
  | _, _, .cons h t => by
    obtain ⟨v, r1, r2⟩ := WT.ok (H := H) (μ := μ) h
    obtain ⟨vs, q1, q2⟩ := WT.oks (H := H) (μ := μ) t
    exact ⟨v :: vs, .cons r1 q1, .cons r2 q2⟩
end
section
variable {X : Cx} {a b c e : Expr} {es : List Expr} {fa fb fc : XE} {pos : Pos} {W : WX}
theorem e_gw {x : Str} {d : D} {u : Value} (hm : X.mg x = some u) (t : WT X.K d u) (hg : Gl X x := by rfl) (hd : (x == ("__debug__" : Str)) = false := by decide) : PE X (.Name x pos) (tX X.K W (xC d)) := by
  obtain ⟨v, r, _⟩ := WT.ok (H := fun _ => none) (μ := []) t
  exact pe_imp (pe_glob hg hm r hd) fun σ H Q ⟨ρ, st, μ, E, S, h⟩ => by
    obtain ⟨v', r', q⟩ := WT.ok (H := H) (μ := μ) t
    rw [r.inj r']
    exact h.ok S v' q

/-! ### and, or as values -/
theorem e_and {rest : List Expr} (ha : PE X a (tX X.K W fa)) (hb : PE X (.BoolOp .And (b :: rest) pos) (tX X.K W fb)) : PE X (.BoolOp .And (a :: b :: rest) pos) (tX X.K W (xAndV fa fb)) :=
  pe_imp (pe_andT ha hb) fun σ H Q ⟨ρ, st, μ, E, S, h⟩ =>
    tX_of E S h.bind fun x s1 H1 μ1 xv e1 E1 S1 r1 h1 => by
      obtain ⟨k, t, _, q⟩ := h1.bind.isT S1 r1
      refine ⟨k, t, ?_⟩
      cases k with
      | true => exact ⟨ρ, s1, μ1, E1, S1, q⟩
      | false => exact q.ok S1 xv r1
theorem e_or {rest : List Expr} (ha : PE X a (tX X.K W fa)) (hb : PE X (.BoolOp .Or (b :: rest) pos) (tX X.K W fb)) : PE X (.BoolOp .Or (a :: b :: rest) pos) (tX X.K W (xOrV fa fb)) :=
  pe_imp (pe_orT ha hb) fun σ H Q ⟨ρ, st, μ, E, S, h⟩ =>
    tX_of E S h.bind fun x s1 H1 μ1 xv e1 E1 S1 r1 h1 => by
      obtain ⟨k, t, _, q⟩ := h1.bind.isT S1 r1
      refine ⟨k, t, ?_⟩
      cases k with
      | true => exact q.ok S1 xv r1
      | false => exact ⟨ρ, s1, μ1, E1, S1, q⟩
end
variable {K : PySem.W.Frag}
/-! ### one operand -/
def oNeg : Op1 := fun d st => match d with
  | .int i => some (.int (-i), st)
  | _ => none
theorem does_neg : Does1 K (rU fun i => .int (-i)) oNeg := fun x st d st' xv H μ Q rx S h q => by
  unfold oNeg at h
  split at h
  · cases h
    cases rx
    exact ⟨_, rfl, q _ H μ (Ext.refl _ _) S (.int _)⟩
  · cases h
def oInv : Op1 := fun d st => match d with
  | .int i => some (.int (Builtin.bitNot i), st)
  | _ => none
theorem does_inv : Does1 K (rU fun i => .int (Builtin.bitNot i)) oInv := fun x st d st' xv H μ Q rx S h q => by
  unfold oInv at h
  split at h
  · cases h
    cases rx
    exact ⟨_, rfl, q _ H μ (Ext.refl _ _) S (.int _)⟩
  · cases h
/-! ### bits -/
abbrev oAnd : Op2 := oI CAny fun i j => .int (Builtin.bitAnd i j)
abbrev oOr : Op2 := oI CAny fun i j => .int (Builtin.bitOr i j)
abbrev oXor : Op2 := oI CAny fun i j => .int (Builtin.bitXor i j)
abbrev oShl : Op2 := oI CPow fun i j => .int (i * 2 ^ j.toNat)
theorem does_and : Does K (rI0 fun i j => .int (Builtin.bitAnd i j)) oAnd := does_I0
theorem does_orB : Does K (rI0 fun i j => .int (Builtin.bitOr i j)) oOr := does_I0
theorem does_xor : Does K (rI0 fun i j => .int (Builtin.bitXor i j)) oXor := does_I0
theorem does_shl : Does K (rI CPow fun i j => .int (i * 2 ^ j.toNat)) oShl := does_I
/-! ### is None, is a bool -/
def isNon : D → Bool
  | .non => true
  | _ => false
theorem isNon_ok {H : Hp} {μ : List Addr} {d : D} {v : V} (r : Rl K H μ d v) : decide (v = .non) = isNon d := by
  cases r <;> simp [isNon]
def oIsN : Op2 := fun x y st => match y with
  | .non => some (.bl (isNon x), st)
  | _ => none
def oNotN : Op2 := fun x y st => match y with
  | .non => some (.bl (!isNon x), st)
  | _ => none
theorem does_isN : Does K rIsN oIsN := fun x y st d st' xv yv H μ Q rx ry S h q => by
  unfold oIsN at h
  split at h
  · cases h
    cases ry
    refine ⟨rfl, ?_⟩
    rw [isNon_ok rx]
    exact q _ H μ (Ext.refl _ _) S (.bl _)
  · cases h
theorem does_notN : Does K rNotN oNotN := fun x y st d st' xv yv H μ Q rx ry S h q => by
  unfold oNotN at h
  split at h
  · cases h
    cases ry
    refine ⟨rfl, ?_⟩
    rw [isNon_ok rx]
    exact q _ H μ (Ext.refl _ _) S (.bl _)
  · cases h
/-! ### in -/
def fv : D → Option V
  | .non => some .non
  | .bl b => some (.bl b)
  | .int i => some (.int i)
  | .str x => some (.str x)
  | _ => none
theorem fv_ok {H : Hp} {μ : List Addr} {d : D} {v w : V} (r : Rl K H μ d v) (h : fv d = some w) : v = w ∧ flatV v = true := by
  cases r <;> first | (cases h; exact ⟨rfl, rfl⟩) | cases h
theorem fvs_ok {H : Hp} {μ : List Addr} : ∀ {ds : List D} {vs ws : List V}, Rls K H μ ds vs → ds.mapM fv = some ws → vs = ws ∧ vs.all flatV = true
  | [], vs, ws, r, h => by
    rw [List.mapM_nil] at h
    cases h
    rw [r.nil_inv]
    exact ⟨rfl, rfl⟩
  | d :: ds, vs, ws, r, h => by
    rw [List.mapM_cons] at h
    obtain ⟨p, h1, h⟩ := Option.bind_eq_some_iff.mp h
    obtain ⟨qs, h2, h⟩ := Option.bind_eq_some_iff.mp h
    cases h
    obtain ⟨v, us, rfl, ra, rb⟩ := r.cons_inv
    obtain ⟨rfl, f1⟩ := fv_ok ra h1
    obtain ⟨rfl, f2⟩ := fvs_ok rb h2
    exact ⟨rfl, by rw [List.all_cons, f1, f2]; rfl⟩
def inTxt (i j : Str) : Bool := match i.cps.toList with
  | [c] => decide (c ∈ j.cps.toList)
  | _ => !(Builtin.Str.occurrences j i 0 j.length 1).isEmpty
/-- x in y: a text, a list or tuple of flat items -/
def inOf (st : Stt) (x y : D) : Option Bool := match y with
  | .str j => match x with
    | .str i => some (inTxt i j)
    | _ => none
  | y => (items st y).bind fun ds => (fv x).bind fun w => (ds.mapM fv).map fun ws => inV w ws
def oIn : Op2 := fun x y st => (inOf st x y).map fun b => (.bl b, st)
def oNotIn : Op2 := fun x y st => (inOf st x y).map fun b => (.bl !b, st)
def rInAny (K : PySem.W.Frag) (neg : Bool) : R2 := fun x y H Q => (∃ (c : Nat) (z : Str), x = .str ⟨#[c]⟩ ∧ y = .str z ∧ Q (.bl (if neg then !decide (c ∈ z.cps.toList) else decide (c ∈ z.cps.toList))) H) ∨
  ((∃ i j, x = .str i ∧ y = .str j ∧ Q (.bl (if neg then !(!(Builtin.Str.occurrences j i 0 j.length 1).isEmpty) else !(Builtin.Str.occurrences j i 0 j.length 1).isEmpty)) H) ∨ rIn K neg x y H Q)
theorem op_inAny {X : Cx} : OpR X (compareOp .In) (rInAny X.K false) := op_in_sign.or (op_in_str.or op_in_seq)
theorem op_notInAny {X : Cx} : OpR X (compareOp .NotIn) (rInAny X.K true) := op_notIn_sign.or (op_notIn_str.or op_notIn_seq)
theorem inOf_ok {neg : Bool} {x y : D} {st : Stt} {b : Bool} {xv yv : V} {H : Hp} {μ : List Addr} {Q : VK} (rx : Rl K H μ x xv) (ry : Rl K H μ y yv) (S : SR K H μ st) (h : inOf st x y = some b) (q : Q (.bl (if neg then !b else b)) H) : rInAny K neg xv yv H Q := by
  have seq : ∀ {y : D} {yv : V}, Rl K H μ y yv → ((items st y).bind fun ds => (fv x).bind fun w => (ds.mapM fv).map fun ws => inV w ws) = some b → rIn K neg xv yv H Q := fun ry h => by
    obtain ⟨ds, h1, h⟩ := Option.bind_eq_some_iff.mp h
    obtain ⟨w, h2, h⟩ := Option.bind_eq_some_iff.mp h
    obtain ⟨ws, h3, h⟩ := Option.map_eq_some_iff.mp h
    subst h
    obtain ⟨a, us, rfl, hq, q1⟩ := items_seq (K := K) S h1 ry
    obtain ⟨rfl, f1⟩ := fv_ok rx h2
    obtain ⟨rfl, f2⟩ := fvs_ok q1 h3
    exact ⟨a, us, rfl, hq, f1, f2, q⟩
  cases y with
  | str j =>
    cases x with
    | str i =>
      cases rx
      cases ry
      cases h
      unfold inTxt at q
      cases hc : i.cps.toList with
      | nil => rw [hc] at q; exact .inr (.inl ⟨i, j, rfl, rfl, by cases neg <;> exact q⟩)
      | cons c r =>
        cases r with
        | nil =>
          rw [hc] at q
          refine .inl ⟨c, j, ?_, rfl, by cases neg <;> exact q⟩
          obtain ⟨cs⟩ := i
          have : cs = #[c] := by
            obtain ⟨l⟩ := cs
            have hc : l = [c] := hc
            rw [hc]
          rw [this]
        | cons c2 r2 => rw [hc] at q; exact .inr (.inl ⟨i, j, rfl, rfl, by cases neg <;> exact q⟩)
    | non => cases h
    | bl _ => cases h
    | int _ => cases h
    | tup _ => cases h
    | cl _ => cases h
    | opq _ => cases h
    | exo _ _ _ _ => cases h
    | loc _ => cases h
  | non => cases h
  | bl _ => cases h
  | int _ => cases h
  | tup _ => exact .inr (.inr (seq ry h))
  | cl _ => exact .inr (.inr (seq ry h))
  | opq _ => cases h
  | exo _ _ _ _ => cases h
  | loc _ => exact .inr (.inr (seq ry h))
theorem does_in : Does K (rInAny K false) oIn := fun x y st d st' xv yv H μ Q rx ry S h q => by
  obtain ⟨b, h1, h2⟩ := Option.map_eq_some_iff.mp h
  cases h2
  exact inOf_ok rx ry S h1 (q _ H μ (Ext.refl _ _) S (.bl _))
theorem does_notIn : Does K (rInAny K true) oNotIn := fun x y st d st' xv yv H μ Q rx ry S h q => by
  obtain ⟨b, h1, h2⟩ := Option.map_eq_some_iff.mp h
  cases h2
  exact inOf_ok rx ry S h1 (q _ H μ (Ext.refl _ _) S (.bl _))
/-! ### dicts -/
theorem KR.find {H : Hp} {μ : List Addr} {k : Key} : ∀ {kd : List (Key × D)} {kv : List (Key × V)}, KR K H μ kd kv →
    (∀ d, (kd.find? fun p => decide (p.1 = k)).map (·.2) = some d → ∃ v, valV kv k = some v ∧ Rl K H μ d v) ∧ ((kd.find? fun p => decide (p.1 = k)) = none → valV kv k = none)
  | _, _, .nil => ⟨fun d h => by simp at h, fun _ => rfl⟩
  | (a, x) :: kd, (b, y) :: kv, .cons r t => by
    obtain ⟨e, r⟩ := r
    have e : a = b := e
    subst e
    obtain ⟨i1, i2⟩ := KR.find t
    unfold valV
    by_cases h : a = k
    · have hd : decide (a = k) = true := decide_eq_true h
      simp only [List.find?, hd]
      exact ⟨fun d e => ⟨y, rfl, by simp at e; rw [← e]; exact r⟩, fun z => by simp at z⟩
    · have hd : decide (a = k) = false := decide_eq_false h
      simp only [List.find?, hd]
      exact ⟨i1, i2⟩
def getD' (kvs : List (Key × D)) (k : Key) : Option D := (kvs.find? fun p => decide (p.1 = k)).map (·.2)
/-- d[k] -/
def oGet : Op2 := fun x y st => (dctAt st x).bind fun p => (keyD y).bind fun k => (getD' p.2 k).map fun d => (d, st)
def oHas : Op2 := fun y x st => (dctAt st x).bind fun p => (keyD y).map fun k => (.bl (getD' p.2 k).isSome, st)
def oHasnt : Op2 := fun y x st => (dctAt st x).bind fun p => (keyD y).map fun k => (.bl (!(getD' p.2 k).isSome), st)
section
variable {X : Cx} {a b c e o i : Expr} {es : List Expr} {fa fb fc fo fi : XE} {pos : Pos} {W : WX}
theorem e_get (hu : X.A.units + 1 < cLine) (ho : PE X o (tX X.K W fo)) (hi : PE X i (tX X.K W fi)) (hs : NoSl i := by exact fun _ _ => rfl) : PE X (.Subscript o i pos) (tX X.K W (x2 oGet fo fi)) :=
  pe_imp (pe_dget hu ho hi hs) fun σ H Q ⟨ρ, st, μ, E, S, h⟩ => by
    refine tX_of E S h.bind fun x s1 H1 μ1 xv e1 E1 S1 r1 h1 => ?_
    refine tX_of E1 S1 h1.bind fun y s2 H2 μ2 yv e2 E2 S2 r2 h2 => ?_
    obtain ⟨d, s3, h3, k⟩ := h2.of
    obtain ⟨⟨n, kvs⟩, h4, h3⟩ := Option.bind_eq_some_iff.mp h3
    obtain ⟨key, h5, h3⟩ := Option.bind_eq_some_iff.mp h3
    obtain ⟨dd, h6, h3⟩ := Option.map_eq_some_iff.mp h3
    cases h3
    obtain ⟨rfl, e4⟩ := dctAt_some h4
    have := keyD_ok r2 h5
    subst this
    obtain ⟨a, us, rfl, ha, t, q1⟩ := S2.dct e4 (r1.ext e2)
    obtain ⟨v, hv, r⟩ := (q1.find (k := key)).1 _ h6
    exact ⟨a, v, rfl, by rw [← hv]; exact DGet.k t, k H2 μ2 (Ext.refl _ _) S2 v r⟩
theorem has_ok {K : PySem.W.Frag} {H : Hp} {μ : List Addr} {st : Stt} {x y : D} {xv yv : V} {n : Nat} {kvs : List (Key × D)} {key : Key} (S : SR K H μ st) (rx : Rl K H μ x xv) (ry : Rl K H μ y yv) (h4 : dctAt st x = some (n, kvs)) (h5 : keyD y = some key) :
    ∃ a o, xv = .ref a ∧ DGet H a yv o ∧ o.isSome = (getD' kvs key).isSome := by
  obtain ⟨rfl, e4⟩ := dctAt_some h4
  have := keyD_ok ry h5
  subst this
  obtain ⟨a, us, rfl, ha, t, q1⟩ := S.dct e4 rx
  refine ⟨a, _, rfl, DGet.k t, ?_⟩
  unfold getD'
  cases hf : kvs.find? fun p => decide (p.1 = key) with
  | none => rw [(q1.find (k := key)).2 hf]; rfl
  | some p =>
    obtain ⟨v, hv, _⟩ := (q1.find (k := key)).1 p.2 (by rw [hf]; rfl)
    rw [hv]
    rfl
theorem c_has (hu : X.A.units + 1 < cLine) (hi : PE X i (tX X.K W fi)) (ho : PE X o (tX X.K W fo)) : PC X .In i o (tX X.K W (x2 oHas fi fo)) :=
  ⟨fun pins s σ H Q I ⟨ρ, st, μ, E, S, h⟩ => (pc_din hu hi ho).run pins s σ H Q I (by
    refine tX_of E S h.bind fun y s1 H1 μ1 yv e1 E1 S1 r1 h1 => ?_
    refine tX_of E1 S1 h1.bind fun x s2 H2 μ2 xv e2 E2 S2 r2 h2 => ?_
    obtain ⟨d, s3, h3, k⟩ := h2.of
    obtain ⟨⟨n, kvs⟩, h4, h3⟩ := Option.bind_eq_some_iff.mp h3
    obtain ⟨key, h5, h3⟩ := Option.map_eq_some_iff.mp h3
    cases h3
    obtain ⟨a, o, ea, g, eo⟩ := has_ok S2 r2 (r1.ext e2) h4 h5
    exact ⟨a, o, ea, g, by rw [eo]; exact k H2 μ2 (Ext.refl _ _) S2 _ (.bl _)⟩)⟩
theorem c_hasnt (hu : X.A.units + 1 < cLine) (hi : PE X i (tX X.K W fi)) (ho : PE X o (tX X.K W fo)) : PC X .NotIn i o (tX X.K W (x2 oHasnt fi fo)) :=
  ⟨fun pins s σ H Q I ⟨ρ, st, μ, E, S, h⟩ => (pc_dnotin hu hi ho).run pins s σ H Q I (by
    refine tX_of E S h.bind fun y s1 H1 μ1 yv e1 E1 S1 r1 h1 => ?_
    refine tX_of E1 S1 h1.bind fun x s2 H2 μ2 xv e2 E2 S2 r2 h2 => ?_
    obtain ⟨d, s3, h3, k⟩ := h2.of
    obtain ⟨⟨n, kvs⟩, h4, h3⟩ := Option.bind_eq_some_iff.mp h3
    obtain ⟨key, h5, h3⟩ := Option.map_eq_some_iff.mp h3
    cases h3
    obtain ⟨a, o, ea, g, eo⟩ := has_ok S2 r2 (r1.ext e2) h4 h5
    exact ⟨a, o, ea, g, by rw [eo]; exact k H2 μ2 (Ext.refl _ _) S2 _ (.bl _)⟩)⟩
theorem e_pc {op : CmpOp} {f : XE} (h : PC X op a b (tX X.K W f)) (hm : behindInMarks op b = false := by rfl) : PE X (.Compare a [op] [b] pos) (tX X.K W f) := pe_cmp h hm
theorem t_pc {op : CmpOp} {f : XE} (h : PC X op a b (tX X.K W f)) (hm : behindInMarks op b = false := by rfl) : PT X (.Compare a [op] [b] pos) (tXT X.K W (xB f)) :=
  pt_imp (pt_cmp h hm) fun σ H Q h => tX_bl h
/-- {k: v, ..} of constants -/
def mergeD (more : List (Key × D)) : List (Key × D) := more.foldl (fun acc kv => putD acc kv.1 kv.2) []
theorem kr_merge {K : PySem.W.Frag} {H : Hp} {μ : List Addr} : ∀ {more : List (Key × D)} {mv : List (Key × V)} {kd : List (Key × D)} {kv : List (Key × V)}, KR K H μ more mv → KR K H μ kd kv → KR K H μ (more.foldl (fun acc kv => putD acc kv.1 kv.2) kd) (mergeK kv mv)
  | _, _, _, _, .nil, r => r
  | (a, x) :: more, (b, y) :: mv, kd, kv, .cons h t, r => by
    obtain ⟨e, h⟩ := h
    have e : a = b := e
    subst e
    show KR K H μ (more.foldl _ (putD kd a x)) (mergeK (putK kv a y) mv)
    exact kr_merge t (kr_put h r)
def xDispC (kvs : List (Key × D)) : XE := fun _ st => .ok (.loc st.length) (st ++ [.dct (mergeD kvs)])
/-- keys and values that are written down -/
inductive CP (X : Cx) : List (TE × TE) → List (Key × D) → Prop
  | nil : CP X [] []
  | consS {x : Str} {d : D} {v : V} {r : List (TE × TE)} {kvs : List (Key × D)} : (∀ H μ, Rl X.K H μ d v) → CP X r kvs → CP X ((tC (.str x), tC v) :: r) ((.inr x, d) :: kvs)
  | consI {x : Int} {d : D} {v : V} {r : List (TE × TE)} {kvs : List (Key × D)} : (∀ H μ, Rl X.K H μ d v) → CP X r kvs → CP X ((tC (.int x), tC v) :: r) ((.inl x, d) :: kvs)
theorem CP.len {trs : List (TE × TE)} {kvs : List (Key × D)} (h : CP X trs kvs) : kvs.length = trs.length := by
  induction h with
  | nil => rfl
  | consS _ _ ih => simp [ih]
  | consI _ _ ih => simp [ih]
theorem CP.run {trs : List (TE × TE)} {kvs : List (Key × D)} (h : CP X trs kvs) : ∀ {σ : L2.St} {H : Hp} {Q : List (V × V) → Hp → Prop}, (∀ kv, (∀ μ, KR X.K H μ kvs kv) → Q (kv.map fun p => (kV p.1, p.2)) H) → tPairs trs σ H Q := by
  induction h with
  | nil => exact fun h => h [] fun _ => .nil
  | @consS x d v r kvs r1 _ ih => exact fun {σ H Q} h => ih fun kv hk => h ((.inr x, v) :: kv) fun μ => .cons ⟨rfl, r1 H μ⟩ (hk μ)
  | @consI x d v r kvs r1 _ ih => exact fun {σ H Q} h => ih fun kv hk => h ((.inl x, v) :: kv) fun μ => .cons ⟨rfl, r1 H μ⟩ (hk μ)
theorem e_dispC {keys : List (Option Expr)} {values : List Expr} {trs : List (TE × TE)} {kvs : List (Key × D)} (h : PPs X pos keys values trs) (hc : CP X trs kvs) (hall : keys.all (·.isSome) = true := by rfl) (hl : keys.length = values.length := by rfl) (h0 : keys ≠ [] := by simp) (h15 : keys.length ≤ 15 := by decide) (h16 : trs.length ≤ 15 := by decide) : PE X (.Dict keys values pos) (tX X.K W (xDispC kvs)) :=
  pe_imp (pe_disp h hall hl h0 h15) fun σ H Q ⟨ρ, st, μ, E, S, h⟩ => by
    intro p hp
    refine hc.run fun kv hk => ⟨upd_same, kv, rfl, ?_, ?_⟩
    · rw [← Paired.length (hk []), hc.len]
      exact h16
    · rw [upd_upd]
      have e : Ext X.K H μ (upd H p (.dK (mergeK [] kv))) (μ ++ [p]) := ext_new hp _
      refine h _ (μ ++ [p]) e (S.new (o := .dct (mergeD kvs)) hp ⟨_, upd_same, ?_⟩) _ (loc_new S)
      have := kr_merge (hk μ) (.nil : KR X.K (upd H p (.dK [])) μ [] [])
      exact ((KR.ext · this) : Ext X.K (upd H p (.dK [])) μ (upd H p (.dK (mergeK [] kv))) (μ ++ [p]) → _) ⟨fun a vs h => by have z := sqT_upd (u := .dK (mergeK [] kv)) (p := p) (fun w e => by rw [upd_same] at e; cases e; exact ⟨fun _ z => HO.noConfusion z, fun _ _ z => (by cases z), fun _ z => (by cases z)⟩) h; rw [upd_upd] at z; exact z, fun a vs h => by have z := cl_upd (u := .dK (mergeK [] kv)) (p := p) (fun w e => by rw [upd_same] at e; cases e; exact ⟨fun _ z => HO.noConfusion z, fun _ _ z => (by cases z), fun _ z => (by cases z)⟩) h; rw [upd_upd] at z; exact z, fun a vs h => by have z := xd_upd (u := .dK (mergeK [] kv)) (p := p) (fun w e => by rw [upd_same] at e; cases e; exact ⟨fun _ z => HO.noConfusion z, fun _ _ z => (by cases z), fun _ z => (by cases z)⟩) h; rw [upd_upd] at z; exact z, [p], rfl⟩
end
end Rg

set_option Elab.async false
set_option linter.all false
set_option maxRecDepth 100000
namespace Rg
open PySem PySem.Spec PyProof.Rows L2
variable {K : PySem.W.Frag}
/-! ### slices of texts too -/
def oSlA (x : D) (lo hi : Option Int) (st : Stt) : Option (D × Stt) := match x with
  | .str z => if z.length ≤ sizeLine then some (.str (cutS z lo hi), st) else none
  | x => oSl x lo hi st
section
variable {X : Cx} {a : Expr} {fa : XE} {pos : Pos} {W : WX}
theorem e_slA {lo hi : Option Expr} {fl fu : XO} {p2 : Pos} (ha : PE X a (tX X.K W fa)) (hl : PO X lo (tXO X.K W fl)) (hu : PO X hi (tXO X.K W fu)) : PE X (.Subscript a (.Slice lo hi none p2) pos) (tX X.K W (xSl oSlA fa fl fu)) :=
  pe_imp (pe_slice ((sl_list.or sl_tupA).or sl_str) ha hl hu) fun σ H Q ⟨ρ, st, μ, E, S, h⟩ => by
    refine tX_of E S h.bind fun x s1 H1 μ1 xv e1 E1 S1 r1 h1 => ?_
    refine tXO_of E1 S1 h1.bind fun l s2 H2 μ2 e2 E2 S2 h2 => ?_
    refine tXO_of E2 S2 h2.bind fun u s3 H3 μ3 e3 E3 S3 h3 => ?_
    obtain ⟨d, s4, h4, k⟩ := h3.of
    have r3 := (r1.ext e2).ext e3
    have seq : oSl x l u s3 = some (d, s4) → (rSlL X.K xv l u H3 Q ∨ rSlA X.K xv l u H3 Q) := fun h4 => by
      unfold oSl at h4
      split at h4
      · rename_i ds
        cases h4
        obtain ⟨a, vs, rfl, hq, q1⟩ := seqT (K := X.K) r3
        refine .inr ⟨a, vs, rfl, hq, fun hw => ?_, fun _ n hn => ?_⟩
        · rw [← q1.length] at hw
          refine k H3 μ3 (Ext.refl _ _) S3 _ ?_
          rw [cut_whole hw]
          exact .tup hq q1
        · exact k _ μ3 (ext_tup hn _) (S3.tup hn _) _ (.tup (.inl (.inl upd_same)) ((cut_rls q1 _ _).ext (ext_tup hn _)))
      · rename_i n
        obtain ⟨ds, hd, h4⟩ := Option.map_eq_some_iff.mp h4
        cases h4
        obtain ⟨a, vs, rfl, hq, q1⟩ := S3.seqL (K := X.K) hd r3
        exact .inl ⟨a, vs, rfl, hq, fun n hn => k _ _ (ext_new hn _) (S3.newL hn (cut_rls q1 _ _)) _ (loc_new S3)⟩
      · cases h4
        obtain ⟨a, vs, rfl, hq, q1⟩ := seqC (K := X.K) r3
        exact .inl ⟨a, vs, rfl, hq, fun n hn => k _ _ (ext_new hn _) (S3.newL hn (cut_rls q1 _ _)) _ (loc_new S3)⟩
      · cases h4
    cases x with
    | str z =>
      have h4 : (if z.length ≤ sizeLine then some (D.str (cutS z l u), s3) else none) = some (d, s4) := h4
      by_cases hz : z.length ≤ sizeLine
      · rw [if_pos hz] at h4
        cases h4
        cases r3
        exact .inr ⟨z, rfl, hz, k H3 μ3 (Ext.refl _ _) S3 _ (.str _)⟩
      · rw [if_neg hz] at h4
        cases h4
    | non => exact .inl (seq h4)
    | bl _ => exact .inl (seq h4)
    | int _ => exact .inl (seq h4)
    | tup _ => exact .inl (seq h4)
    | loc _ => exact .inl (seq h4)
    | cl _ => exact .inl (seq h4)
    | opq _ => exact .inl (seq h4)
    | exo _ _ _ _ => exact .inl (seq h4)
end
/-! ### products -/
def repS (x : Str) (n : Int) : Str := if n < 1 then Str.empty else if (n == 1 || x.length == 0) = true then x else ⟨(List.replicate n.toNat x.cps).foldl (· ++ ·) #[]⟩
def rRepS : R2 := fun x y H Q => ∃ i j, x = .str i ∧ y = .int j ∧ i.length ≤ 1000 ∧ -1000 ≤ j ∧ j ≤ 1000 ∧ Q (.str (repS i j)) H
theorem op_repS {X : Cx} : OpR X (binaryOp .Mult) rRepS := by
  intro pins s σ H x y v u Q I rx ry h
  obtain ⟨i, j, rfl, rfl, h1, h2, h3, q⟩ := h
  obtain ⟨t, rfl⟩ := rx
  obtain ⟨t', rfl⟩ := ry
  have hm : i.length * j.toNat ≤ 1000 * 1000 := Nat.mul_le_mul h1 (by omega)
  have hsl : (1000 * 1000 : Nat) ≤ sizeLine := by decide
  refine PySem.P.mul_str (by
      have e1 : decide (j < -(2 ^ 63 : Int)) = false := decide_eq_false (by omega)
      have e2 : decide (j ≥ 2 ^ 63) = false := decide_eq_false (by omega)
      rw [e1, e2]; rfl) (fun h4 _ => ?_) (fun h4 _ => ?_) ?_
  · have : (2 ^ 63 - 1) / j ≥ (2 ^ 63 - 1) / 1000 := by
      have hj : 0 < j := by omega
      rw [ge_iff_le, Int.le_ediv_iff_mul_le hj]
      have : (2 ^ 63 - 1) / 1000 * j ≤ (2 ^ 63 - 1) / 1000 * 1000 := Int.mul_le_mul_of_nonneg_left h3 (by decide)
      omega
    have : ((2 ^ 63 - 1 : Int)) / 1000 = 9223372036854775 := by decide
    omega
  · unfold Builtin.Str.tooLong
    first
      | exact decide_eq_false (by omega)
      | (simp; omega)
  · unfold repS at q
    split
    · rw [if_pos (by assumption)] at q
      exact ⟨by decide, .str _, H, I.tok _, ⟨_, rfl⟩, q⟩
    · rw [if_neg (by assumption)] at q
      split
      · rw [if_pos (by assumption)] at q
        exact ⟨.str _, H, I, ⟨_, rfl⟩, q⟩
      · rw [if_neg (by assumption)] at q
        refine ⟨?_, .str _, H, I.tok _, ⟨_, rfl⟩, q⟩
        have key : ∀ (n : Nat) (acc : Array Nat), (List.foldl (fun x1 x2 => x1 ++ x2) acc (List.replicate n i.cps)).size = acc.size + n * i.cps.size := by
          intro n
          induction n with
          | zero => intro acc; simp
          | succ n ih =>
            intro acc
            rw [List.replicate_succ, List.foldl_cons, ih, Array.size_append, Nat.succ_mul]
            omega
        show (List.foldl (fun x1 x2 => x1 ++ x2) #[] (List.replicate j.toNat i.cps)).size ≤ sizeLine
        rw [key, Nat.mul_comm]
        have hm : i.cps.size * j.toNat ≤ 1000 * 1000 := hm
        simp only [List.size_toArray, List.length_nil, Nat.zero_add]
        omega
def oMulA : Op2 := fun x y st => match x, y with
  | .int i, .int j => if CMul i j then some (.int (i * j), st) else none
  | .str i, .int j => if i.length ≤ 1000 ∧ -1000 ≤ j ∧ j ≤ 1000 then some (.str (repS i j), st) else none
  | _, _ => none
def rMulA : R2 := fun x y H Q => rI CMul (fun i j => .int (i * j)) x y H Q ∨ rRepS x y H Q
theorem op_mulA {X : Cx} : OpR X (binaryOp .Mult) rMulA := op_mul.or op_repS
theorem does_mulA : Does K rMulA oMulA := fun x y st d st' xv yv H μ Q rx ry S h q => by
  unfold oMulA at h
  split at h
  · split at h
    · rename_i hc
      cases h
      cases rx
      cases ry
      exact .inl ⟨_, _, rfl, rfl, hc, q _ H μ (Ext.refl _ _) S (.int _)⟩
    · cases h
  · split at h
    · rename_i hc
      cases h
      cases rx
      cases ry
      exact .inr ⟨_, _, rfl, rfl, hc.1, hc.2.1, hc.2.2, q _ H μ (Ext.refl _ _) S (.str _)⟩
    · cases h
  · cases h
/-! ### ord -/
def fOrd : BF := fun xs st => match xs with
  | [.str x] => if x.length = 1 then some (.int (x.cps.getD 0 0 : Nat), st) else none
  | _ => none
theorem does_ord : DoesN K (fun xs H Q => ∃ x, xs = [.str x] ∧ x.length = 1 ∧ Q (.int (x.cps.getD 0 0 : Nat)) H) fOrd := fun xs st d st' vs H μ Q r S h q => by
  unfold fOrd at h
  split at h
  · split at h
    · rename_i hx
      cases h
      obtain ⟨v, rfl, rv⟩ := rls1 r
      cases rv
      exact ⟨_, rfl, hx, q _ H μ (Ext.refl _ _) S (.int _)⟩
    · cases h
  · cases h
theorem FnOk.none {P : Program} {w : World} {mg : Str → Option Value} {base : Heap} {CX : CXT} {k n : Nat} {f : Addr} {fd : FuncData} {ps : List Str} : FnOk P w K mg base CX k f fd ps (spX K n fun _ _ => .no) :=
  ⟨fun vs H Q E h => by obtain ⟨_, _, _, _, _, _, h⟩ := h; exact h.elim, fun A outer s H args us vs Q E _ _ _ _ h => by obtain ⟨_, _, _, _, _, _, h⟩ := h; exact h.elim⟩
end Rg

set_option Elab.async false
set_option linter.all false
set_option maxRecDepth 100000
namespace Rg
open PySem PySem.Spec PyProof.Rows L2
/-- what is promised of the law's def -/
def spLaw (K : PySem.W.Frag) : Sp := fun vs H Q _ => ∃ (a : Addr) (ns : List Int), vs = [.ref a] ∧ CL K H a (ns.map V.int) ∧ ns.length ≤ 63 ∧ ∀ H', Q (.bl true) H'
theorem cl_only {K : PySem.W.Frag} {H : Hp} {a : Addr} {xs : List V} (o : Only H) (h : SqL K H a xs) : CL K H a xs := by
  rcases h with h | h
  · rcases h with h | ⟨u, h⟩
    · rcases o a with e | ⟨u, ys, e⟩
      · rw [e] at h; cases h
      · rw [e] at h; cases h
    · exact .inl ⟨u, h⟩
  · exact .inr h
theorem sp_law {K : PySem.W.Frag} {H : Hp} {a : Addr} {ns : List Int} (hl : ns.length ≤ 63) (o : Only H) (h : SqL K H a (ns.map V.int)) : spLaw K [.ref a] H (fun v _ => v = .bl true) fun _ _ _ => False :=
  ⟨a, ns, rfl, cl_only o h, hl, fun _ => rfl⟩
theorem law_ok {P : Program} {w : World} {K : PySem.W.Frag} {mg : Str → Option Value} {base : Heap} {CX : CXT} {k : Nat} {f : Addr} {fd : FuncData} {ps : List Str} {g : Fn} (F : FnOk P w K mg base CX k f fd ps (spX K 1 g))
    (h : ∀ ns : List Int, ns.length ≤ 63 → ∃ st, g [.cl (ns.map D.int)] [] = .ok (.bl true) st) : FnOk P w K mg base CX k f fd ps (spLaw K) :=
  F.imp fun vs H Q E ⟨a, ns, e, c, hl, q⟩ => by
    subst e
    obtain ⟨st, hg⟩ := h ns hl
    refine ⟨rfl, [.cl (ns.map D.int)], [], [], ⟨rfl, List.nodup_nil, fun n o z => by simp at z⟩, .cons (.cl c (Rls.ints ns)) .nil, ?_⟩
    rw [hg]
    intro H' μ' _ _ v r
    cases r
    exact q H'
theorem cx_no {P : Program} {w : World} {H : Hp} {s : Shared} {e : Value} {s' : Shared} (h : L2.CX P w [] H s (fun _ _ _ => False) e s') : False := by
  obtain ⟨_, _, _, _, _, _, _, _, _, _, _, _, z⟩ := h
  exact z
end Rg

set_option Elab.async false
set_option linter.all false
set_option maxRecDepth 100000
namespace Rg
open PySem PySem.Spec PyProof.Rows L2
/-! ### loops by invariants -/
theorem forF_inv {ok : Stt → Prop} {g : XG} {f : XS} {its : List D} (I : Nat → En → Stt → Prop) (hok : ∀ i ρ st, i ≤ its.length → I i ρ st → ok st)
    (step : ∀ i d ρ st, its[i]? = some d → I i ρ st → ∃ ρ1, g d ρ = some ρ1 ∧ ∃ ρ' st', (f ρ1 st = .nx ρ' st' ∨ f ρ1 st = .ct ρ' st') ∧ I (i + 1) ρ' st') {ρ : En} {st : Stt} (h0 : I 0 ρ st) :
    ∃ ρ' st', forF ok g f its ρ st = .nx ρ' st' ∧ I its.length ρ' st' := by
  have key : ∀ (n : Nat) (i : Nat) (ρ : En) (st : Stt), its.length - i = n → i ≤ its.length → I i ρ st → ∃ ρ' st', forF ok g f (its.drop i) ρ st = .nx ρ' st' ∧ I its.length ρ' st' := by
    intro n
    induction n with
    | zero =>
      intro i ρ st hn hi h
      have : i = its.length := by omega
      subst this
      rw [List.drop_length]
      unfold forF
      rw [if_pos (hok _ _ _ (Nat.le_refl _) h)]
      exact ⟨ρ, st, rfl, h⟩
    | succ n ih =>
      intro i ρ st hn hi h
      have hlt : i < its.length := by omega
      rw [List.drop_eq_getElem_cons hlt]
      unfold forF
      rw [if_pos (hok _ _ _ hi h)]
      obtain ⟨ρ1, h1, ρ', st', h2, h3⟩ := step i its[i] ρ st (List.getElem?_eq_getElem hlt) h
      rw [h1]
      obtain ⟨ρ2, st2, h4, h5⟩ := ih (i + 1) ρ' st' (by omega) hlt h3
      refine ⟨ρ2, st2, ?_, h5⟩
      rcases h2 with h2 | h2 <;> (simp only [h2]; exact h4)
  have := key its.length 0 ρ st (by omega) (Nat.zero_le _) h0
  rwa [List.drop_zero] at this
theorem compF_inv {L : Nat} {ok : Stt → Prop} {g : XG} {t : XT} {f : XE} {ρ : En} {its : List D} (I : Nat → Stt → List D → Prop) (hok : ∀ i st acc, i ≤ its.length → I i st acc → ok st)
    (step : ∀ i d st acc, its[i]? = some d → I i st acc → ∃ ρ1, g d ρ = some ρ1 ∧ ∃ b s1, t ρ1 st = .ok b s1 ∧ (b = false → I (i + 1) s1 acc) ∧
      (b = true → ∃ y s2, f ρ1 s1 = .ok y s2 ∧ lstAt s2 (.loc L) = some (L, acc) ∧ acc.length < sizeLine ∧ I (i + 1) (s2.set L (.lst (acc ++ [y]))) (acc ++ [y]))) {st : Stt} (h0 : I 0 st []) :
    ∃ st' acc, compF L ok g t f ρ its st = .ok () st' ∧ I its.length st' acc := by
  have key : ∀ (n : Nat) (i : Nat) (st : Stt) (acc : List D), its.length - i = n → i ≤ its.length → I i st acc → ∃ st' acc', compF L ok g t f ρ (its.drop i) st = .ok () st' ∧ I its.length st' acc' := by
    intro n
    induction n with
    | zero =>
      intro i st acc hn hi h
      have : i = its.length := by omega
      subst this
      rw [List.drop_length]
      unfold compF
      rw [if_pos (hok _ _ _ (Nat.le_refl _) h)]
      exact ⟨st, acc, rfl, h⟩
    | succ n ih =>
      intro i st acc hn hi h
      have hlt : i < its.length := by omega
      rw [List.drop_eq_getElem_cons hlt]
      unfold compF
      rw [if_pos (hok _ _ _ hi h)]
      obtain ⟨ρ1, h1, b, s1, h2, hf, ht⟩ := step i its[i] st acc (List.getElem?_eq_getElem hlt) h
      simp only [h1, h2]
      cases b with
      | false => exact ih (i + 1) s1 acc (by omega) hlt (hf rfl)
      | true =>
        obtain ⟨y, s2, h3, h4, h5, h6⟩ := ht rfl
        simp only [h3, h4, if_pos h5]
        exact ih (i + 1) _ _ (by omega) hlt h6
  have := key its.length 0 st [] (by omega) (Nat.zero_le _) h0
  rwa [List.drop_zero] at this
end Rg

set_option Elab.async false
set_option linter.all false
set_option maxRecDepth 100000
namespace Rg
open PySem PySem.Spec PyProof.Rows L2
/-! ### running, by simp -/
@[simp] theorem x2_run (f : Op2) (fa fb : XE) (ρ : En) (st : Stt) : x2 f fa fb ρ st = (fa ρ st).bind fun x s1 => (fb ρ s1).bind fun y s2 => R.of (f x y s2) := (rfl)
@[simp] theorem x1_run (f : Op1) (fa : XE) (ρ : En) (st : Stt) : x1 f fa ρ st = (fa ρ st).bind fun x s1 => R.of (f x s1) := (rfl)
@[simp] theorem xB_run (f : XE) (ρ : En) (st : Stt) : xB f ρ st = (f ρ st).bind isB := (rfl)
@[simp] theorem xTr_run (f : XE) (ρ : En) (st : Stt) : xTr f ρ st = (f ρ st).bind isT := (rfl)
@[simp] theorem xNot_run (f : XT) (ρ : En) (st : Stt) : xNot f ρ st = (f ρ st).bind fun b s => .ok (!b) s := (rfl)
@[simp] theorem xNotV_run (f : XE) (ρ : En) (st : Stt) : xNotV f ρ st = (f ρ st).bind fun d s => (isT d s).bind fun b s => .ok (.bl !b) s := (rfl)
@[simp] theorem xAnd_run (f g : XT) (ρ : En) (st : Stt) : xAnd f g ρ st = (f ρ st).bind fun b s => if b = true then g ρ s else .ok false s := (rfl)
@[simp] theorem xOr_run (f g : XT) (ρ : En) (st : Stt) : xOr f g ρ st = (f ρ st).bind fun b s => if b = true then .ok true s else g ρ s := (rfl)
@[simp] theorem xAndV_run (f g : XE) (ρ : En) (st : Stt) : xAndV f g ρ st = (f ρ st).bind fun d s => (isT d s).bind fun b s => if b = true then g ρ s else .ok d s := (rfl)
@[simp] theorem xOrV_run (f g : XE) (ρ : En) (st : Stt) : xOrV f g ρ st = (f ρ st).bind fun d s => (isT d s).bind fun b s => if b = true then .ok d s else g ρ s := (rfl)
@[simp] theorem xIte_run (t : XT) (f g : XE) (ρ : En) (st : Stt) : xIte t f g ρ st = (t ρ st).bind fun b s => if b = true then f ρ s else g ρ s := (rfl)
@[simp] theorem xCh_run (f f' : Op2) (fa fb fc : XE) (ρ : En) (st : Stt) : xCh f f' fa fb fc ρ st = (fa ρ st).bind fun x s1 => (fb ρ s1).bind fun y s2 => (R.of (f x y s2)).bind fun z s3 => (isB z s3).bind fun k s4 => if k = true then (fc ρ s4).bind fun w s5 => R.of (f' y w s5) else .ok (.bl false) s4 := (rfl)
@[simp] theorem xNil_run (ρ : En) (st : Stt) : xNil ρ st = .ok [] st := (rfl)
@[simp] theorem xCons_run (f : XE) (g : XA) (ρ : En) (st : Stt) : xCons f g ρ st = (f ρ st).bind fun d s => (g ρ s).bind fun ds s => .ok (d :: ds) s := (rfl)
@[simp] theorem xTup_run (g : XA) (ρ : En) (st : Stt) : xTup g ρ st = (g ρ st).bind mkTup := (rfl)
@[simp] theorem xLst_run (g : XA) (ρ : En) (st : Stt) : xLst g ρ st = (g ρ st).bind mkLst := (rfl)
@[simp] theorem xDict0_run (ρ : En) (st : Stt) : xDict0 ρ st = .ok (.loc st.length) (st ++ [.dct []]) := (rfl)
@[simp] theorem xDispC_run (kvs : List (Key × D)) (ρ : En) (st : Stt) : xDispC kvs ρ st = .ok (.loc st.length) (st ++ [.dct (mergeD kvs)]) := (rfl)
@[simp] theorem xCall_run (f : BF) (g : XA) (ρ : En) (st : Stt) : xCall f g ρ st = (g ρ st).bind fun ds s => R.of (f ds s) := (rfl)
@[simp] theorem xFn_run (g : Fn) (ga : XA) (ρ : En) (st : Stt) : xFn g ga ρ st = (ga ρ st).bind g := (rfl)
@[simp] theorem xMt_run (t : Stt → D → Bool) (f : MtF) (fo : XE) (g : XA) (ρ : En) (st : Stt) : xMt t f fo g ρ st = (fo ρ st).bind fun d s => (isRc t d s).bind fun _ s => (g ρ s).bind fun ds s => R.of (f d ds s) := (rfl)
@[simp] theorem xMeth_run (C : Addr) (m : Str) (g : Fn) (fo : XE) (ga : XA) (ρ : En) (st : Stt) : xMeth C m g fo ga ρ st = (fo ρ st).bind fun d s => (hasM C m d s).bind fun _ s => (ga ρ s).bind fun ds s => g (d :: ds) s := (rfl)
@[simp] theorem xMake_run (C : Addr) (g : Fn) (ga : XA) (ρ : En) (st : Stt) : xMake C g ga ρ st = (ga ρ st).bind (mkIns C g) := (rfl)
@[simp] theorem xSl_run (g : D → Option Int → Option Int → Stt → Option (D × Stt)) (fa : XE) (lo hi : XO) (ρ : En) (st : Stt) : xSl g fa lo hi ρ st = (fa ρ st).bind fun p s => (lo ρ s).bind fun l s => (hi ρ s).bind fun u s => R.of (g p l u s) := (rfl)
@[simp] theorem xON_run (ρ : En) (st : Stt) : xON ρ st = .ok none st := (rfl)
@[simp] theorem xOS_run (f : XE) (ρ : En) (st : Stt) : xOS f ρ st = (f ρ st).bind fun d s => (isI d s).bind fun i s => .ok (some i) s := (rfl)
@[simp] theorem xYes_run (ρ : En) (st : Stt) : xYes ρ st = .ok true st := (rfl)
@[simp] theorem xIt_run (f : XE) (ρ : En) (st : Stt) : xIt f ρ st = (f ρ st).bind wkOf := (rfl)
@[simp] theorem xRange_run (g : XA) (ρ : En) (st : Stt) : xRange g ρ st = (g ρ st).bind wkRange := (rfl)
@[simp] theorem xRange2_run (g : XA) (ρ : En) (st : Stt) : xRange2 g ρ st = (g ρ st).bind wkRange2 := (rfl)
@[simp] theorem xLc_run (w : XI) (g : XG) (t : XT) (f : XE) (vs : List Nat) (ρ : En) (st : Stt) : xLc w g t f vs ρ st = (w ρ st).bind fun k s => (compF s.length k.ok g t f (wipeD ρ vs) k.its (s ++ [.lst []])).bind fun _ s' => .ok (.loc s.length) s' := (rfl)
@[simp] theorem gN_run (i : Nat) (d : D) (ρ : En) : gN i d ρ = some (ρ.set i (some d)) := (rfl)
/-! statements -/
@[simp] theorem sNil_run (ρ : En) (st : Stt) : sNil ρ st = .nx ρ st := (rfl)
@[simp] theorem sCons_run (f g : XS) (ρ : En) (st : Stt) : sCons f g ρ st = (f ρ st).seq g := (rfl)
@[simp] theorem sSet_run (i : Nat) (f : XE) (ρ : En) (st : Stt) : sSet i f ρ st = (f ρ st).out ρ fun d s => .nx (ρ.set i (some d)) s := (rfl)
@[simp] theorem sAsg_run (f : XE) (g : XG) (ρ : En) (st : Stt) : sAsg f g ρ st = (f ρ st).out ρ (gOut g ρ) := (rfl)
@[simp] theorem sExpr_run (f : XE) (ρ : En) (st : Stt) : sExpr f ρ st = (f ρ st).out ρ fun _ s => .nx ρ s := (rfl)
@[simp] theorem sRet_run (f : XE) (ρ : En) (st : Stt) : sRet f ρ st = (f ρ st).out ρ fun d s => .rt d s := (rfl)
@[simp] theorem sIf_run (t : XT) (f g : XS) (ρ : En) (st : Stt) : sIf t f g ρ st = (t ρ st).out ρ fun b s => if b = true then f ρ s else g ρ s := (rfl)
@[simp] theorem sSubL_run (fo fi fv : XE) (ρ : En) (st : Stt) : sSubL fo fi fv ρ st = (fv ρ st).out ρ fun v s => (fo ρ s).out ρ fun o s => (fi ρ s).out ρ fun i s => setL o i v ρ s := (rfl)
@[simp] theorem sPut_run (fo fi fv : XE) (ρ : En) (st : Stt) : sPut fo fi fv ρ st = (fv ρ st).out ρ fun v s => (fo ρ s).out ρ fun o s => (fi ρ s).out ρ fun i s => setDk o i v ρ s := (rfl)
@[simp] theorem sAug_run (i : Nat) (f : Op2) (fe : XE) (ρ : En) (st : Stt) : sAug i f fe ρ st = (xV i ρ st).out ρ fun x s => (fe ρ s).out ρ fun y s => (R.of (f x y s)).out ρ fun z s => .nx (ρ.set i (some z)) s := (rfl)
@[simp] theorem sAugL_run (fop : Op2) (fo fi fe : XE) (ρ : En) (st : Stt) : sAugL fop fo fi fe ρ st = (fo ρ st).out ρ fun o s => (fi ρ s).out ρ fun i s => (R.of (oIxL o i s)).out ρ fun x s => (fe ρ s).out ρ fun y s => (R.of (fop x y s)).out ρ fun z s => setL o i z ρ s := (rfl)
@[simp] theorem sFldX_run (C : Addr) (f : Str) (fo fv : XE) (ρ : En) (st : Stt) : sFldX C f fo fv ρ st = (fv ρ st).out ρ fun v s => (fo ρ s).out ρ fun o s => setF C f o v ρ s := (rfl)
@[simp] theorem sFor_run (w : XI) (g : XG) (f : XS) (ρ : En) (st : Stt) : sFor w g f ρ st = (w ρ st).out ρ fun k s => forF k.ok g f k.its ρ s := (rfl)
@[simp] theorem ret_rt (d : D) (st : Stt) : (Out.rt d st).ret = .ok d st := (rfl)
@[simp] theorem ret_nx (ρ : En) (st : Stt) : (Out.nx ρ st).ret = .ok .non st := (rfl)
@[simp] theorem ret_xx (ρ : En) (e : Exn) (st : Stt) : (Out.xx ρ e st).ret = .ex e st := (rfl)
@[simp] theorem ret_ite (c : Prop) [Decidable c] (a b : Out) : (if c then a else b).ret = if c then a.ret else b.ret := by split <;> rfl
@[simp] theorem seq_ite (c : Prop) [Decidable c] (a b : Out) (g : XS) : (if c then a else b).seq g = if c then a.seq g else b.seq g := by split <;> rfl
@[simp] theorem out_ite {α : Type} (c : Prop) [Decidable c] (a b : R α) (ρ : En) (k : α → Stt → Out) : (if c then a else b).out ρ k = if c then a.out ρ k else b.out ρ k := by split <;> rfl
@[simp] theorem bind_ite {α β : Type} (c : Prop) [Decidable c] (a b : R α) (f : α → Stt → R β) : (if c then a else b).bind f = if c then a.bind f else b.bind f := by split <;> rfl
theorem xV_some {i : Nat} {ρ : En} {d : D} (st : Stt) (h : ρ[i]? = some (some d)) : xV i ρ st = .ok d st := by unfold xV; rw [h]
@[simp] theorem xV_0 (d : D) (ρ : En) (st : Stt) : xV 0 (some d :: ρ) st = .ok d st := (rfl)
@[simp] theorem xV_s (i : Nat) (o : Option D) (ρ : En) (st : Stt) : xV (i + 1) (o :: ρ) st = xV i ρ st := by unfold xV; simp
@[simp] theorem xV_1 (o : Option D) (d : D) (ρ : En) (st : Stt) : xV 1 (o :: some d :: ρ) st = .ok d st := (rfl)
@[simp] theorem xV_2 (a b : Option D) (d : D) (ρ : En) (st : Stt) : xV 2 (a :: b :: some d :: ρ) st = .ok d st := (rfl)
@[simp] theorem xV_3 (a b c : Option D) (d : D) (ρ : En) (st : Stt) : xV 3 (a :: b :: c :: some d :: ρ) st = .ok d st := (rfl)
@[simp] theorem xV_4 (a b c e : Option D) (d : D) (ρ : En) (st : Stt) : xV 4 (a :: b :: c :: e :: some d :: ρ) st = .ok d st := (rfl)
@[simp] theorem xV_5 (a b c e f : Option D) (d : D) (ρ : En) (st : Stt) : xV 5 (a :: b :: c :: e :: f :: some d :: ρ) st = .ok d st := (rfl)
@[simp] theorem xV_6 (a b c e f g : Option D) (d : D) (ρ : En) (st : Stt) : xV 6 (a :: b :: c :: e :: f :: g :: some d :: ρ) st = .ok d st := (rfl)
@[simp] theorem xV_7 (a b c e f g h : Option D) (d : D) (ρ : En) (st : Stt) : xV 7 (a :: b :: c :: e :: f :: g :: h :: some d :: ρ) st = .ok d st := (rfl)
@[simp] theorem xV_8 (a b c e f g h k : Option D) (d : D) (ρ : En) (st : Stt) : xV 8 (a :: b :: c :: e :: f :: g :: h :: k :: some d :: ρ) st = .ok d st := (rfl)
/-! operations -/
@[simp] theorem oAdd_i (i j : Int) (st : Stt) : oAdd (.int i) (.int j) st = some (.int (i + j), st) := (rfl)
@[simp] theorem oSub_i (i j : Int) (st : Stt) : oSub (.int i) (.int j) st = some (.int (i - j), st) := (rfl)
@[simp] theorem oLt_i (i j : Int) (st : Stt) : oLt (.int i) (.int j) st = some (.bl (decide (i < j)), st) := (rfl)
@[simp] theorem oLe_i (i j : Int) (st : Stt) : oLe (.int i) (.int j) st = some (.bl (decide (i ≤ j)), st) := (rfl)
@[simp] theorem oGt_i (i j : Int) (st : Stt) : oGt (.int i) (.int j) st = some (.bl (decide (j < i)), st) := (rfl)
@[simp] theorem oGe_i (i j : Int) (st : Stt) : oGe (.int i) (.int j) st = some (.bl (decide (j ≤ i)), st) := (rfl)
theorem oMod_i {i j : Int} (h : 0 < j) (st : Stt) : oMod (.int i) (.int j) st = some (.int (i % j), st) := if_pos h
theorem oDiv_i {i j : Int} (h : 0 < j) (h2 : j < 1073741824) (st : Stt) : oDiv (.int i) (.int j) st = some (.int (i / j), st) := if_pos ⟨h, h2⟩
theorem oMulA_r {i j : Int} (h : -(2 ^ 64) < j ∧ j < 2 ^ 64) (st : Stt) : oMulA (.int i) (.int j) st = some (.int (i * j), st) := if_pos (.inr h)
theorem oMulA_l {i j : Int} (h : -(2 ^ 64) < i ∧ i < 2 ^ 64) (st : Stt) : oMulA (.int i) (.int j) st = some (.int (i * j), st) := if_pos (.inl h)
@[simp] theorem oEq_i (i j : Int) (st : Stt) : oEq (.int i) (.int j) st = some (.bl (decide (i = j)), st) := by
  show (some (D.bl (i == j), st)) = _
  rw [Bool.beq_eq_decide_eq]
@[simp] theorem oNe_i (i j : Int) (st : Stt) : oNe (.int i) (.int j) st = some (.bl (!decide (i = j)), st) := by
  show (some (D.bl (!(i == j)), st)) = _
  rw [Bool.beq_eq_decide_eq]
theorem toD_str {x : Str} (h : PyData.strOk x = true) (n : Nat) (st : Stt) : toD st (n + 1) (.str x) = some (.str x) := if_pos h
theorem oEq_s {x y : Str} (hx : PyData.strOk x = true) (hy : PyData.strOk y = true) (st : Stt) : oEq (.str x) (.str y) st = some (.bl (decide (x = y)), st) := by
  unfold oEq deq
  rw [toD_str hx, toD_str hy]
  show (some (D.bl (x == y), st)) = _
  rw [Bool.beq_eq_decide_eq]
theorem oNe_s {x y : Str} (hx : PyData.strOk x = true) (hy : PyData.strOk y = true) (st : Stt) : oNe (.str x) (.str y) st = some (.bl (!decide (x = y)), st) := by
  unfold oNe deq
  rw [toD_str hx, toD_str hy]
  show (some (D.bl (!(x == y)), st)) = _
  rw [Bool.beq_eq_decide_eq]
@[simp] theorem fInt_i (i : Int) (st : Stt) : fInt [.int i] st = some (.int i, st) := (rfl)
@[simp] theorem fInt_b (k : Bool) (st : Stt) : fInt [.bl k] st = some (.int (if k then 1 else 0), st) := (rfl)
@[simp] theorem fAbs_i (i : Int) (st : Stt) : fAbs [.int i] st = some (.int (if i < 0 then -i else i), st) := (rfl)
@[simp] theorem items_tup (st : Stt) (ds : List D) : items st (.tup ds) = some ds := (rfl)
@[simp] theorem items_cl (st : Stt) (ds : List D) : items st (.cl ds) = some ds := (rfl)
theorem items_loc {st : Stt} {n : Nat} {ds : List D} (h : st[n]? = some (.lst ds)) : items st (.loc n) = some ds := by show (match st[n]? with | some (.lst ds) => some ds | _ => none) = _; rw [h]
theorem lstAt_loc {st : Stt} {n : Nat} {ds : List D} (h : st[n]? = some (.lst ds)) : lstAt st (.loc n) = some (n, ds) := by show (match st[n]? with | some (.lst ds) => some (n, ds) | _ => none) = _; rw [h]
theorem dctAt_loc {st : Stt} {n : Nat} {ds : List (Key × D)} (h : st[n]? = some (.dct ds)) : dctAt st (.loc n) = some (n, ds) := by show (match st[n]? with | some (.dct ds) => some (n, ds) | _ => none) = _; rw [h]
theorem insAt_loc {st : Stt} {n : Nat} {C : Addr} {fs : List (Str × D)} (h : st[n]? = some (.ins C fs)) : insAt C st (.loc n) = some (n, fs) := by
  show (match st[n]? with | some (.ins C' fs) => if C' = C then some (n, fs) else none | _ => none) = _
  rw [h]
  exact if_pos rfl
theorem fLen_of {st : Stt} {d : D} {ds : List D} (h : items st d = some ds) : fLen [d] st = some (.int ds.length, st) := by
  cases d with
  | str x => cases h
  | non => cases h
  | bl _ => cases h
  | int _ => cases h
  | tup _ => cases h; rfl
  | cl _ => cases h; rfl
  | opq _ => cases h
  | exo _ _ _ _ => cases h
  | loc _ => show (items st _).map _ = _; rw [h]; rfl
theorem fLen_s {x : Str} (h : x.length ≤ sizeLine) (st : Stt) : fLen [.str x] st = some (.int x.length, st) := if_pos h
theorem atI_of {α : Type} {xs : List α} {i : Int} {x : α} (h0 : 0 ≤ i) (h : xs[i.toNat]? = some x) : atI xs i = some x := by
  have hl : i.toNat < xs.length := (List.getElem?_eq_some_iff.mp h).1
  unfold atI ixN
  rw [if_pos h0, if_pos (by omega)]
  exact h
theorem atI_lit {α : Type} {xs : List α} {n : Nat} {x : α} (h : xs[n]? = some x) : atI xs (n : Int) = some x := atI_of (Int.natCast_nonneg n) (by simpa using h)
theorem oIx_of {st : Stt} {d x : D} {ds : List D} {i : Int} (h : items st d = some ds) (hx : atI ds i = some x) : oIx d (.int i) st = some (x, st) := by
  cases d with
  | str x => cases h
  | non => cases h
  | bl _ => cases h
  | int _ => cases h
  | tup _ => cases h; show (some _).bind _ = _; simp [hx]
  | cl _ => cases h; show (some _).bind _ = _; simp [hx]
  | opq _ => cases h
  | exo _ _ _ _ => cases h
  | loc _ => show (items st _).bind _ = _; rw [h]; simp [hx]
theorem setL_of {st : Stt} {o : D} {n : Nat} {ds : List D} {k : Int} {j : Nat} (h : lstAt st o = some (n, ds)) (hj : ixN ds.length k = some j) (v : D) (ρ : En) : setL o (.int k) v ρ st = .nx ρ (st.set n (.lst (ds.set j v))) := by
  unfold setL
  rw [h]
  simp only [hj]
theorem mkLst_of {ds : List D} (h : ds.length ≤ sizeLine) (st : Stt) : mkLst ds st = .ok (.loc st.length) (st ++ [.lst ds]) := if_pos h
theorem mkTup_of {ds : List D} (h : ds.length ≤ sizeLine) (st : Stt) : mkTup ds st = .ok (.tup ds) st := if_pos h
/-! texts by their codes -/
def okL (l : List Nat) : Bool := l.all (· < 0x110000)
theorem strOk_l (l : List Nat) : PyData.strOk ⟨l.toArray⟩ = okL l := by
  unfold PyData.strOk okL
  simp
@[simp] theorem oEq_l (x y : List Nat) (st : Stt) : oEq (.str ⟨x.toArray⟩) (.str ⟨y.toArray⟩) st = if okL x = true ∧ okL y = true then some (.bl (decide (x = y)), st) else none := by
  by_cases h : okL x = true
  · by_cases h2 : okL y = true
    · rw [if_pos ⟨h, h2⟩, oEq_s (by rw [strOk_l]; exact h) (by rw [strOk_l]; exact h2)]
      simp
    · rw [if_neg fun z => h2 z.2]
      unfold oEq deq
      have : toD st 60 (.str ⟨y.toArray⟩) = none := if_neg (by rw [strOk_l]; exact h2)
      rw [this]
      simp
  · rw [if_neg fun z => h z.1]
    unfold oEq deq
    have : toD st 60 (.str ⟨x.toArray⟩) = none := if_neg (by rw [strOk_l]; exact h)
    rw [this]
    rfl
@[simp] theorem oNe_l (x y : List Nat) (st : Stt) : oNe (.str ⟨x.toArray⟩) (.str ⟨y.toArray⟩) st = if okL x = true ∧ okL y = true then some (.bl (!decide (x = y)), st) else none := by
  have := oEq_l x y st
  unfold oEq at this
  unfold oNe
  cases h : deq st (.str ⟨x.toArray⟩) (.str ⟨y.toArray⟩) with
  | none => rw [h] at this; split at this <;> simp_all
  | some b =>
    rw [h] at this
    split at this
    · rename_i hc
      rw [if_pos hc]
      simp at this
      simp [this]
    · cases this
@[simp] theorem okL_nil : okL [] = true := (rfl)
@[simp] theorem okL_cons (a : Nat) (l : List Nat) : okL (a :: l) = (decide (a < 1114112) && okL l) := by simp [okL]
end Rg

set_option Elab.async false
set_option linter.all false
set_option maxRecDepth 100000
namespace Rg
open PySem PySem.Spec PyProof.Rows L2
variable {K : PySem.W.Frag}
/-! ### xs[::-1] -/
def litems (st : Stt) : D → Option (List D)
  | .tup _ => none
  | d => items st d
theorem litems_seq {H : Hp} {μ : List Addr} {st : Stt} {d : D} {ds : List D} {v : V} (S : SR K H μ st) (h : litems st d = some ds) (r : Rl K H μ d v) : ∃ a vs, v = .ref a ∧ SqL K H a vs ∧ Rls K H μ ds vs := by
  cases d with
  | opq _ => cases h
  | exo _ _ _ _ => cases h
  | tup _ => cases h
  | cl es => cases h; exact seqC r
  | loc n => exact S.seqL h r
  | non => cases h
  | bl _ => cases h
  | int _ => cases h
  | str _ => cases h
theorem litems_of {st : Stt} {d : D} {ds : List D} (h : litems st d = some ds) : items st d = some ds := by
  cases d <;> first | cases h; done | exact h
@[simp] theorem litems_cl (st : Stt) (ds : List D) : litems st (.cl ds) = some ds := (rfl)
theorem litems_loc {st : Stt} {n : Nat} {ds : List D} (h : st[n]? = some (.lst ds)) : litems st (.loc n) = some ds := by
  show (match st[n]? with | some (.lst ds) => some ds | _ => none) = _
  rw [h]
def oRev : Op1 := fun d st => (litems st d).map fun ds => (.loc st.length, st ++ [.lst ds.reverse])
section
variable {X : Cx} {a b c e : Expr} {es : List Expr} {fa fb fc : XE} {pos : Pos} {W : WX}
theorem e_revL {k : Nat} {p1 p2 p3 : Pos} (he : PE X e (tX X.K W fa)) : PE X (.Subscript e (.Slice none none (some (.UnaryOp .USub (.Constant (.int 1) k p1) p2)) p3) pos) (tX X.K W (x1 oRev fa)) :=
  pe_imp (pe_revL he) fun σ H Q ⟨ρ, st, μ, E, S, h⟩ => by
    refine tX_of E S h.bind fun x s1 H1 μ1 xv e1 E1 S1 r1 h1 => ?_
    obtain ⟨d, s3, h3, k⟩ := h1.of
    obtain ⟨ds, h4, h3⟩ := Option.map_eq_some_iff.mp h3
    cases h3
    obtain ⟨l, vs, rfl, hq, q⟩ := litems_seq S1 h4 r1
    exact ⟨l, vs, rfl, hq, fun p hp => k _ _ (ext_new hp _) (S1.newL hp q.reverse) _ (loc_new S1)⟩
/-! ### tuple(range(..)) -/
def rgD (i j : Int) : List D := (List.range (j - i).toNat).map fun k => .int (i + (k : Nat))
theorem rgD_ok {H : Hp} {μ : List Addr} (i j : Int) : Rls K H μ (rgD i j) (rgV i j) := by
  unfold rgD rgV
  generalize List.range (j - i).toNat = l
  induction l with
  | nil => exact .nil
  | cons k l ih => exact .cons (.int _) ih
def rgOld (i j : Int) : Prop := -(2 ^ 62) ≤ i ∧ i < 2 ^ 62 ∧ -(2 ^ 62) ≤ j ∧ j < 2 ^ 62 ∧ (j - i).toNat ≤ 2 ^ 24
/-- (by natural numbers: the kernel then compares no great ints) -/
def rgB : Int → Int → Bool
  | .ofNat m, .ofNat n => Nat.ble m 1000000 && Nat.ble n 1000000
  | _, _ => false
def rgOk (i j : Int) : Prop := rgB i j = true
instance (i j : Int) : Decidable (rgOk i j) := inferInstanceAs (Decidable (_ = true))
theorem rgOk_of {i j : Int} (h0 : 0 ≤ i) (h1 : i ≤ 1000000) (h2 : 0 ≤ j) (h3 : j ≤ 1000000) : rgOk i j := by
  obtain ⟨m, rfl⟩ := Int.eq_ofNat_of_zero_le h0
  obtain ⟨n, rfl⟩ := Int.eq_ofNat_of_zero_le h2
  show (Nat.ble m 1000000 && Nat.ble n 1000000) = true
  rw [Bool.and_eq_true, Nat.ble_eq, Nat.ble_eq]
  omega
theorem rgOk.old {i j : Int} (h : rgOk i j) : rgOld i j := by
  cases i with
  | negSucc m => cases j <;> cases h
  | ofNat m =>
    cases j with
    | negSucc n => cases h
    | ofNat n =>
      have h : (Nat.ble m 1000000 && Nat.ble n 1000000) = true := h
      rw [Bool.and_eq_true, Nat.ble_eq, Nat.ble_eq] at h
      show -(2 ^ 62) ≤ (m : Int) ∧ (m : Int) < 2 ^ 62 ∧ -(2 ^ 62) ≤ (n : Int) ∧ (n : Int) < 2 ^ 62 ∧ ((n : Int) - m).toNat ≤ 2 ^ 24
      refine ⟨?_, ?_, ?_, ?_, ?_⟩ <;> omega
def mkRgT (x y : D) (st : Stt) : R D := match x, y with
  | .int i, .int j => if rgOk i j then .ok (.tup (rgD i j)) st else .no
  | _, _ => .no
def mkRgL (x y : D) (st : Stt) : R D := match x, y with
  | .int i, .int j => if rgOk i j then .ok (.loc st.length) (st ++ [.lst (rgD i j)]) else .no
  | _, _ => .no
def xTupRg (fa fb : XE) : XE := fun ρ st => (fa ρ st).bind fun x s => (fb ρ s).bind fun y s => mkRgT x y s
def xLstRg (fa fb : XE) : XE := fun ρ st => (fa ρ st).bind fun x s => (fb ρ s).bind fun y s => mkRgL x y s
theorem rg_int {g : Int → Int → Stt → R D} {Wd : Exn → Hp → List Addr → Prop} {H : Hp} {μ : List Addr} {st : Stt} {Q : D → Stt → Hp → List Addr → Prop} {x y : D} {f : D → D → Stt → R D}
    (hf : ∀ x y st, f x y st = match x, y with | .int i, .int j => if rgOk i j then g i j st else .no | _, _ => .no) {xv yv : V} (rx : Rl K H μ x xv) (ry : Rl K H μ y yv) (h : RO K Wd H μ Q (f x y st)) :
    ∃ i j, xv = .int i ∧ yv = .int j ∧ rgOld i j ∧ RO K Wd H μ Q (g i j st) := by
  rw [hf] at h
  split at h
  · rename_i i j
    split at h
    · rename_i hk
      cases rx
      cases ry
      exact ⟨i, j, rfl, rfl, hk.old, h⟩
    · exact h.elim
  · exact h.elim
section
variable {p p2 q : Pos}
theorem e_tupRg1 (hm : X.mg "tuple" = none) (hm2 : X.mg "range" = none) (hc : X.calm = true) (hb : PE X b (tX X.K W fb)) (hg : Gl X "tuple" := by rfl) (hg2 : Gl X "range" := by rfl)
    (nb : starEach [b] X.env = (false, eval b X.env) :: starEach [] X.env := by rfl) (nc : starEach [.Call (.Name "range" p2) [b] [] q] X.env = (false, eval (.Call (.Name "range" p2) [b] [] q) X.env) :: starEach [] X.env := by rfl) :
    PE X (.Call (.Name "tuple" p) [.Call (.Name "range" p2) [b] [] q] [] pos) (tX X.K W (xTupRg (xC (.int 0)) fb)) :=
  pe_imp (pe_tupRg hc hg hm (prg_1 hg2 hm2 hb nb) nc) fun σ H Q ⟨ρ, st, μ, E, S, h⟩ => by
    have h : RO X.K (wx X.K W σ) H μ (QD X.K Q) ((fb ρ st).bind fun y s => mkRgT (.int 0) y s) := h
    refine tX_of E S h.bind fun y s2 H2 μ2 yv e2 E2 S2 r2 h2 => ?_
    obtain ⟨i, j, ei, rfl, hk, h3⟩ := rg_int (g := fun i j st => .ok (.tup (rgD i j)) st) (fun x y st => by unfold mkRgT; rfl) (.int 0) r2 h2
    cases ei
    exact ⟨j, rfl, hk, fun l hl => h3 _ μ2 (ext_tup hl _) (S2.tup hl _) _ (.tup (.inl (.inl upd_same)) (rgD_ok _ _))⟩
theorem e_tupRg2 (hm : X.mg "tuple" = none) (hm2 : X.mg "range" = none) (hc : X.calm = true) (ha : PE X a (tX X.K W fa)) (hb : PE X b (tX X.K W fb)) (hg : Gl X "tuple" := by rfl) (hg2 : Gl X "range" := by rfl)
    (na : starEach [a, b] X.env = (false, eval a X.env) :: starEach [b] X.env := by rfl) (nb : starEach [b] X.env = (false, eval b X.env) :: starEach [] X.env := by rfl)
    (hp : (backTo q (starEach [b] X.env)).any (·.1) = false := by rfl) (nc : starEach [.Call (.Name "range" p2) [a, b] [] q] X.env = (false, eval (.Call (.Name "range" p2) [a, b] [] q) X.env) :: starEach [] X.env := by rfl) :
    PE X (.Call (.Name "tuple" p) [.Call (.Name "range" p2) [a, b] [] q] [] pos) (tX X.K W (xTupRg fa fb)) :=
  pe_imp (pe_tupRg hc hg hm (prg_2 hg2 hm2 ha hb na nb hp) nc) fun σ H Q ⟨ρ, st, μ, E, S, h⟩ => by
    refine tX_of E S h.bind fun x s1 H1 μ1 xv e1 E1 S1 r1 h1 => ?_
    refine tX_of E1 S1 h1.bind fun y s2 H2 μ2 yv e2 E2 S2 r2 h2 => ?_
    obtain ⟨i, j, rfl, rfl, hk, h3⟩ := rg_int (g := fun i j st => .ok (.tup (rgD i j)) st) (fun x y st => by unfold mkRgT; rfl) (r1.ext e2) r2 h2
    exact ⟨i, j, rfl, rfl, hk, fun l hl => h3 _ μ2 (ext_tup hl _) (S2.tup hl _) _ (.tup (.inl (.inl upd_same)) (rgD_ok _ _))⟩
theorem e_lstRg1 (hm : X.mg "list" = none) (hm2 : X.mg "range" = none) (hc : X.calm = true) (hb : PE X b (tX X.K W fb)) (hg : Gl X "list" := by rfl) (hg2 : Gl X "range" := by rfl)
    (nb : starEach [b] X.env = (false, eval b X.env) :: starEach [] X.env := by rfl) (nc : starEach [.Call (.Name "range" p2) [b] [] q] X.env = (false, eval (.Call (.Name "range" p2) [b] [] q) X.env) :: starEach [] X.env := by rfl) :
    PE X (.Call (.Name "list" p) [.Call (.Name "range" p2) [b] [] q] [] pos) (tX X.K W (xLstRg (xC (.int 0)) fb)) :=
  pe_imp (pe_listRg hc hg hm (prg_1 hg2 hm2 hb nb) nc) fun σ H Q ⟨ρ, st, μ, E, S, h⟩ => by
    have h : RO X.K (wx X.K W σ) H μ (QD X.K Q) ((fb ρ st).bind fun y s => mkRgL (.int 0) y s) := h
    refine tX_of E S h.bind fun y s2 H2 μ2 yv e2 E2 S2 r2 h2 => ?_
    obtain ⟨i, j, ei, rfl, hk, h3⟩ := rg_int (g := fun i j st => .ok (.loc st.length) (st ++ [.lst (rgD i j)])) (fun x y st => by unfold mkRgL; rfl) (.int 0) r2 h2
    cases ei
    exact ⟨j, rfl, hk, fun l hl => h3 _ _ (ext_new hl _) (S2.newL hl (rgD_ok _ _)) _ (loc_new S2)⟩
end
/-! ### dicts of the module, keys are texts -/
def wget (kvs : List (Str × D)) (z : Str) : Option D := (kvs.find? fun p => p.1 == z).map (·.2)
inductive WE (K : PySem.W.Frag) (w : World) : List (Str × D) → List DictEntry → Prop
  | nil : WE K w [] []
  | cons {x : Str} {t : Tok} {h : Int} {u : Value} {d : D} {kvs : List (Str × D)} {es : List DictEntry} : h = PyData.keyHash w.params x → WT K d u → WE K w kvs es → WE K w ((x, d) :: kvs) (⟨h, .str x t, u⟩ :: es)
structure WD (K : PySem.W.Frag) (w : World) (p : Addr) (kvs : List (Str × D)) : Prop where
  at_ : ∃ es n, K.lookup p = some ⟨.type "dict", none, .dict es n, #[]⟩ ∧ WE K w kvs es.toList
  low : (p == sysModules) = false
theorem WE.lit {w : World} : ∀ {kvs : List (Str × D)} {es : List DictEntry}, WE K w kvs es → PySem.W.KeysLit w.params es
  | _, _, .nil => trivial
  | _, _, .cons h _ r => ⟨⟨_, _, rfl, h⟩, r.lit⟩
theorem WE.find {w : World} (z : Str) : ∀ {kvs : List (Str × D)} {es : List DictEntry}, WE K w kvs es → match wget kvs z with
    | some d => ∃ u, (es.find? fun e => Value.isStrOf z e.key).map (·.val) = some u ∧ WT K d u
    | none => (es.find? fun e => Value.isStrOf z e.key).map (·.val) = none
  | _, _, .nil => rfl
  | (x, d) :: kvs, _, .cons (t := t) (h := hh) (u := u) (es := es) h q r => by
    have ih := WE.find z r
    unfold wget at ih ⊢
    have e : Value.isStrOf z (Value.str x t) = (x == z) := rfl
    rw [List.find?_cons, List.find?_cons]
    show match Option.map (·.2) (match x == z with | true => some (x, d) | false => kvs.find? fun p => p.1 == z) with
      | some d => ∃ u', Option.map (·.val) (match Value.isStrOf z (Value.str x t) with | true => some (⟨hh, .str x t, u⟩ : DictEntry) | false => es.find? fun e => Value.isStrOf z e.key) = some u' ∧ WT K d u'
      | none => Option.map (·.val) (match Value.isStrOf z (Value.str x t) with | true => some (⟨hh, .str x t, u⟩ : DictEntry) | false => es.find? fun e => Value.isStrOf z e.key) = none
    rw [e]
    cases x == z with
    | true => exact ⟨u, rfl, q⟩
    | false => exact ih
theorem wd_find {w : World} {p : Addr} {kvs : List (Str × D)} (D' : WD K w p kvs) (z : Str) : ∃ es n, K.lookup p = some ⟨.type "dict", none, .dict es n, #[]⟩ ∧ PySem.W.KeysLit w.params es.toList ∧ match wget kvs z with
    | some d => ∃ u, findBy Value.isStrOf es z = some u ∧ WT K d u
    | none => findBy Value.isStrOf es z = none := by
  obtain ⟨es, n, hl, we⟩ := D'.at_
  refine ⟨es, n, hl, we.lit, ?_⟩
  have := we.find z
  unfold findBy
  obtain ⟨l⟩ := es
  rw [List.find?_toArray]
  exact this
def oWGet (kvs : List (Str × D)) : Op1 := fun d st => match d with
  | .str z => (wget kvs z).map fun d => (d, st)
  | _ => none
def oWHas (kvs : List (Str × D)) : Op1 := fun d st => match d with
  | .str z => some (.bl (wget kvs z).isSome, st)
  | _ => none
def oWHasnt (kvs : List (Str × D)) : Op1 := fun d st => match d with
  | .str z => some (.bl (!(wget kvs z).isSome), st)
  | _ => none
end
section
variable {X : Cx} {a b c e : Expr} {es : List Expr} {fa fb fc : XE} {pos : Pos} {W : WX} {kvs : List (Str × D)} {p : Addr}
/-- the rule, by the pairs -/
def rWGet (K : PySem.W.Frag) (p : Addr) (kvs : List (Str × D)) : R2 := fun x y H Q => ∃ z d, x = .ref p ∧ y = .str z ∧ wget kvs z = some d ∧ ∀ v u, WT K d u → RelV v u → Q v H
theorem ix_wd (w : WD X.K X.w p kvs) : IxR X (rWGet X.K p kvs) := by
  intro value slice pins s σ H x y v u Q I rx ry h hs
  obtain ⟨z, d, rfl, rfl, hg, q⟩ := h
  obtain rfl : v = Value.ref p := rx
  obtain ⟨t, rfl⟩ := ry
  obtain ⟨es, n, hl, hk, hf⟩ := wd_find w z
  rw [hg] at hf
  obtain ⟨u0, hf, wt⟩ := hf
  obtain ⟨v0, rv, _⟩ := WT.ok (H := H) (μ := []) wt
  have hm := PySem.W.mapOf_K (prog := X.prog) (w := X.w) I.kIn hl hk
  exact tail_any hm.typeIs slot_dict_getitem.lookup (wpAny_getItem_of (strKind_is X.prog X.w z t) hm hf ⟨v0, H, I.tok _, rv, q v0 u0 wt rv⟩) hs
def rWIn (p : Addr) (kvs : List (Str × D)) (neg : Bool) : R2 := fun x y H Q => ∃ z, x = .str z ∧ y = .ref p ∧ Q (.bl (if neg then !(wget kvs z).isSome else (wget kvs z).isSome)) H
theorem wd_some {K : PySem.W.Frag} {o : Option D} {r : Option Value} (h : match o with
    | some d => ∃ u, r = some u ∧ WT K d u
    | none => r = none) : r.isSome = o.isSome := by
  cases o with
  | none => rw [h]; rfl
  | some d => obtain ⟨u, e, _⟩ := h; rw [e]; rfl
theorem op_inW (w : WD X.K X.w p kvs) : OpR X (compareOp .In) (rWIn p kvs false) := by
  intro pins s σ H x y v u Q I rx ry h
  obtain ⟨z, rfl, rfl, q⟩ := h
  obtain ⟨t, rfl⟩ := rx
  cases ry
  obtain ⟨es, n, hl, hk, hf⟩ := wd_find w z
  exact wpAny_in_of (PySem.strKind_is X.prog X.w z t) w.low (PySem.W.mapOf_K (prog := X.prog) I.kIn hl hk) ⟨.bl _, H, I.tok _, rfl, by rw [wd_some hf]; exact q⟩
theorem op_notInW (w : WD X.K X.w p kvs) : OpR X (compareOp .NotIn) (rWIn p kvs true) := by
  intro pins s σ H x y v u Q I rx ry h
  obtain ⟨z, rfl, rfl, q⟩ := h
  obtain ⟨t, rfl⟩ := rx
  cases ry
  obtain ⟨es, n, hl, hk, hf⟩ := wd_find w z
  exact wpAny_notIn_of (PySem.strKind_is X.prog X.w z t) w.low (PySem.W.mapOf_K (prog := X.prog) I.kIn hl hk) ⟨.bl _, H, I.tok _, rfl, by rw [wd_some hf]; exact q⟩
theorem pc_op {op : CmpOp} {r : R2} {ta tb : TE} (ho : OpR X (compareOp op) r) (ha : PE X a ta) (hb : PE X b tb) : PC X op a b (tOp r ta tb) :=
  ⟨fun _ _ _ _ _ I h => binT ha hb I h fun v u s2 x y H2 I2 rx ry q => ho _ s2 _ H2 x y v u _ I2 rx ry q⟩
theorem e_wget {x : Str} {p1 : Pos} {i : Expr} {fi : XE} (hm : X.mg x = some (.ref p)) (w : WD X.K X.w p kvs) (hi : PE X i (tX X.K W fi)) (hg : Gl X x := by rfl) (hd : (x == ("__debug__" : Str)) = false := by decide) (hs : PlainIx i := by exact fun _ _ => rfl) :
    PE X (.Subscript (.Name x p1) i pos) (tX X.K W (x1 (oWGet kvs) fi)) :=
  pe_imp (pe_ix (ix_wd w) (pe_glob (v := .ref p) hg hm rfl hd) hi hs) fun σ H Q ⟨ρ, st, μ, E, S, h⟩ => by
    show tX X.K W fi σ H _
    refine tX_of E S h.bind fun y s2 H2 μ2 yv e2 E2 S2 r2 h2 => ?_
    obtain ⟨d, s3, h3, k⟩ := h2.of
    unfold oWGet at h3
    split at h3
    · rename_i z
      obtain ⟨dd, h4, h5⟩ := Option.map_eq_some_iff.mp h3
      obtain ⟨ed, es⟩ := Prod.mk.inj h5
      subst ed es
      cases r2
      refine ⟨z, dd, rfl, rfl, h4, fun v u wt rv => ?_⟩
      obtain ⟨v', rv', q⟩ := WT.ok (H := H2) (μ := μ2) wt
      rw [rv.inj rv']
      exact k H2 μ2 (Ext.refl _ _) S2 v' q
    · cases h3
theorem c_win {x : Str} {p1 : Pos} {i : Expr} {fi : XE} (hm : X.mg x = some (.ref p)) (w : WD X.K X.w p kvs) (hi : PE X i (tX X.K W fi)) (hg : Gl X x := by rfl) (hd : (x == ("__debug__" : Str)) = false := by decide) :
    PC X .In i (.Name x p1) (tX X.K W (x1 (oWHas kvs) fi)) :=
  ⟨fun pins s σ H Q I ⟨ρ, st, μ, E, S, h⟩ => (pc_op (op_inW w) hi (pe_glob (v := .ref p) hg hm rfl hd)).run pins s σ H Q I (by
    refine tX_of E S h.bind fun y s2 H2 μ2 yv e2 E2 S2 r2 h2 => ?_
    obtain ⟨d, s3, h3, k⟩ := h2.of
    unfold oWHas at h3
    split at h3
    · rename_i z
      cases h3
      cases r2
      exact ⟨z, rfl, rfl, k H2 μ2 (Ext.refl _ _) S2 _ (.bl _)⟩
    · cases h3)⟩
theorem c_wnotin {x : Str} {p1 : Pos} {i : Expr} {fi : XE} (hm : X.mg x = some (.ref p)) (w : WD X.K X.w p kvs) (hi : PE X i (tX X.K W fi)) (hg : Gl X x := by rfl) (hd : (x == ("__debug__" : Str)) = false := by decide) :
    PC X .NotIn i (.Name x p1) (tX X.K W (x1 (oWHasnt kvs) fi)) :=
  ⟨fun pins s σ H Q I ⟨ρ, st, μ, E, S, h⟩ => (pc_op (op_notInW w) hi (pe_glob (v := .ref p) hg hm rfl hd)).run pins s σ H Q I (by
    refine tX_of E S h.bind fun y s2 H2 μ2 yv e2 E2 S2 r2 h2 => ?_
    obtain ⟨d, s3, h3, k⟩ := h2.of
    unfold oWHasnt at h3
    split at h3
    · rename_i z
      cases h3
      cases r2
      exact ⟨z, rfl, rfl, k H2 μ2 (Ext.refl _ _) S2 _ (.bl _)⟩
    · cases h3)⟩
end
end Rg

set_option Elab.async false
set_option linter.all false
set_option maxRecDepth 100000
namespace Rg
open PySem PySem.Spec PyProof.Rows L2
variable {K : PySem.W.Frag}
/-! ### the order of texts -/
def leS (x y : Str) : Bool := !ltCps y.cps.toList x.cps.toList
theorem leS_iff (x y : Str) : leS x y = true ↔ x.cps.toList ≤ y.cps.toList := by
  unfold leS
  rw [ltCps_eq, Bool.not_eq_true', decide_eq_false_iff_not, List.not_lt]
theorem leS_trans (a b c : Str) (h : leS a b = true) (k : leS b c = true) : leS a c = true := by
  rw [leS_iff] at *
  exact List.le_trans h k
theorem leS_total (a b : Str) : (leS a b || leS b a) = true := by
  rw [Bool.or_eq_true, leS_iff, leS_iff]
  exact List.le_total _ _
theorem leS_anti {a b : Str} (h : leS a b = true) (k : leS b a = true) : a = b := by
  rw [leS_iff] at *
  have e := List.le_antisymm h k
  obtain ⟨⟨l⟩⟩ := a
  obtain ⟨⟨m⟩⟩ := b
  have e : l = m := e
  rw [e]
theorem rising_pw : ∀ (l : List Str) (p : Str), risingS p l = true → (p :: l).Pairwise fun a b => leS a b = true
  | [], p, _ => by simp
  | x :: r, p, h => by
    have h : (!ltCps x.cps.toList p.cps.toList && risingS x r) = true := h
    rw [Bool.and_eq_true] at h
    have ih := rising_pw r x h.2
    refine List.pairwise_cons.mpr ⟨fun y hy => ?_, ih⟩
    rcases List.mem_cons.mp hy with rfl | hy
    · exact h.1
    · exact leS_trans _ _ _ h.1 ((List.pairwise_cons.mp ih).1 y hy)
theorem sorted_pw : ∀ l : List Str, sortedS l = true → l.Pairwise fun a b => leS a b = true
  | [], _ => .nil
  | x :: r, h => rising_pw r x h
def sortS (l : List Str) : List Str := l.mergeSort leS
theorem sortS_is {l ys : List Str} (p : ys.Perm l) (h : ys.Pairwise fun a b => leS a b = true) : ys = sortS l :=
  List.Perm.eq_of_pairwise (le := fun a b => leS a b = true) (fun a b _ _ => leS_anti) h (List.pairwise_mergeSort leS_trans leS_total l) (p.trans (List.mergeSort_perm l leS).symm)
def leI (x y : Int) : Bool := decide (x ≤ y)
def sortI (l : List Int) : List Int := l.mergeSort leI
theorem leI_trans (a b c : Int) (h : leI a b = true) (k : leI b c = true) : leI a c = true := by
  unfold leI at *
  rw [decide_eq_true_iff] at *
  omega
theorem leI_total (a b : Int) : (leI a b || leI b a) = true := by
  unfold leI
  rw [Bool.or_eq_true, decide_eq_true_iff, decide_eq_true_iff]
  omega
theorem sortI_is {l ys : List Int} (p : ys.Perm l) (h : ys.Pairwise (· ≤ ·)) : ys = sortI l :=
  List.Perm.eq_of_pairwise (le := fun a b : Int => leI a b = true) (fun a b _ _ h k => Int.le_antisymm (of_decide_eq_true h) (of_decide_eq_true k)) (h.imp fun {_ _} z => by unfold leI; exact decide_eq_true z)
    (List.pairwise_mergeSort leI_trans leI_total l) (p.trans (List.mergeSort_perm l leI).symm)
/-! ### sorted -/
def intsOf : List D → Option (List Int)
  | [] => some []
  | .int b :: r => (intsOf r).map (b :: ·)
  | _ => none
theorem intsOf_map : ∀ (ds : List D) (bs : List Int), intsOf ds = some bs → ds = bs.map D.int
  | [], bs, h => by cases h; rfl
  | .int b :: r, bs, h => by
    obtain ⟨cs, h1, h2⟩ := Option.map_eq_some_iff.mp h
    subst h2
    rw [intsOf_map r cs h1]
    rfl
  | .non :: r, bs, h => by cases h
  | .bl _ :: r, bs, h => by cases h
  | .str _ :: r, bs, h => by cases h
  | .tup _ :: r, bs, h => by cases h
  | .cl _ :: r, bs, h => by cases h
  | .opq _ :: r, bs, h => by cases h
  | .exo _ _ _ _ :: r, bs, h => by cases h
  | .loc _ :: r, bs, h => by cases h
@[simp] theorem intsOf_ints : ∀ l : List Int, intsOf (l.map D.int) = some l
  | [] => rfl
  | i :: l => by
    show (intsOf (l.map D.int)).map (i :: ·) = _
    rw [intsOf_ints l]
    rfl
@[simp] theorem txts_strs : ∀ l : List Str, txts (l.map D.str) = some l
  | [] => rfl
  | i :: l => by
    show (txts (l.map D.str)).map (i :: ·) = _
    rw [txts_strs l]
    rfl
theorem ints_rls {H : Hp} {μ : List Addr} : ∀ (bs : List Int) (vs : List V), Rls K H μ (bs.map D.int) vs → vs = bs.map V.int
  | [], vs, r => r.nil_inv
  | b :: bs, vs, r => by
    obtain ⟨v, us, rfl, r1, r2⟩ := Rls.cons_inv r
    cases r1
    rw [ints_rls bs us r2]
    rfl
theorem Rls.txs {H : Hp} {μ : List Addr} : ∀ ns : List Str, Rls K H μ (ns.map D.str) (ns.map V.str)
  | [] => .nil
  | n :: ns => .cons (.str n) (Rls.txs ns)
/-- the keys of a dict, as values -/
def kD : Key → D
  | .inl i => .int i
  | .inr x => .str x
theorem kD_ok {H : Hp} {μ : List Addr} (k : Key) : Rl K H μ (kD k) (kV k) := by
  cases k with
  | inl i => exact .int i
  | inr x => exact .str x
theorem KR.keys {H : Hp} {μ : List Addr} : ∀ {kd : List (Key × D)} {kv : List (Key × V)}, KR K H μ kd kv → kv.map (·.1) = kd.map (·.1)
  | _, _, .nil => rfl
  | _, _, .cons h t => by rw [List.map_cons, List.map_cons, KR.keys t, h.1]
theorem keys_rls {H : Hp} {μ : List Addr} {kd : List (Key × D)} {kv : List (Key × V)} (r : KR K H μ kd kv) : Rls K H μ (kd.map fun p => kD p.1) (kv.map fun p => kV p.1) := by
  induction r with
  | nil => exact .nil
  | @cons x y _ _ h t ih =>
    have e : x.1 = y.1 := h.1
    exact .cons (show Rl K H μ (kD x.1) (kV y.1) by rw [← e]; exact kD_ok _) ih
def skeys : List Key → Option (List Str)
  | [] => some []
  | .inr x :: r => (skeys r).map (x :: ·)
  | _ => none
theorem skeys_map : ∀ (ks : List Key) (bs : List Str), skeys ks = some bs → ks = bs.map Sum.inr
  | [], bs, h => by cases h; rfl
  | .inr b :: r, bs, h => by
    obtain ⟨cs, h1, h2⟩ := Option.map_eq_some_iff.mp h
    subst h2
    rw [skeys_map r cs h1]
    rfl
  | .inl _ :: r, bs, h => by cases h
def ikeys : List Key → Option (List Int)
  | [] => some []
  | .inl x :: r => (ikeys r).map (x :: ·)
  | _ => none
theorem ikeys_map : ∀ (ks : List Key) (bs : List Int), ikeys ks = some bs → ks = bs.map Sum.inl
  | [], bs, h => by cases h; rfl
  | .inl b :: r, bs, h => by
    obtain ⟨cs, h1, h2⟩ := Option.map_eq_some_iff.mp h
    subst h2
    rw [ikeys_map r cs h1]
    rfl
  | .inr _ :: r, bs, h => by cases h
def sortD (ds : List D) : Option (List D) := if ds.length < 64 then match txts ds with
  | some xs => some ((sortS xs).map D.str)
  | none => (intsOf ds).map fun ns => (sortI ns).map D.int
  else none
def sortK (ks : List Key) : Option (List D) := if ks.length < 64 then match skeys ks with
  | some xs => some ((sortS xs).map D.str)
  | none => (ikeys ks).map fun ns => (sortI ns).map D.int
  else none
def fSorted : BF := fun xs st => match xs with
  | [d] => match dctAt st d with
    | some p => (sortK (p.2.map (·.1))).map fun ds => (.loc st.length, st ++ [.lst ds])
    | none => (litems st d).bind fun ds => (sortD ds).map fun es => (.loc st.length, st ++ [.lst es])
  | _ => none
abbrev rSortA (K : PySem.W.Frag) : List V → Hp → VK → Prop := fun vs H Q => rSortedS K vs H Q ∨ (rSorted K vs H Q ∨
  ((∃ (a : Addr) (kvs : List (Key × V)) (ks : List Str), vs = [.ref a] ∧ Rd H a (.dK kvs) ∧ kvs.map (·.1) = ks.map Sum.inr ∧ ks.length < 64 ∧ ∀ ys p, ys.Perm ks → sortedS ys = true → H p = none → Q (.ref p) (upd H p (.lst (ys.map V.str)))) ∨
  (∃ (a : Addr) (kvs : List (Key × V)) (ks : List Int), vs = [.ref a] ∧ Rd H a (.dK kvs) ∧ kvs.map (·.1) = ks.map Sum.inl ∧ ks.length < 64 ∧ ∀ (ys : List Int) (p : Addr), ys.Perm ks → ys.Pairwise (· ≤ ·) → H p = none → Q (.ref p) (upd H p (.lst (ys.map V.int))))))
theorem call_sortA {X : Cx} (hc : X.calm = true) : CallR X (.builtin "sorted") (rSortA X.K) := cr_sortedS.or (cr_sorted.or ((call_sortedD hc).or (call_sortedDI hc)))
theorem does_sorted : DoesN K (rSortA K) fSorted := fun xs st d st' vs H μ Q r S h q => by
  unfold fSorted at h
  split at h
  · rename_i d0
    obtain ⟨v, rfl, rv⟩ := rls1 r
    split at h
    · rename_i pp hp
      obtain ⟨n, kvs⟩ := pp
      obtain ⟨rfl, e4⟩ := dctAt_some hp
      obtain ⟨ds, h1, h⟩ := Option.map_eq_some_iff.mp h
      cases h
      obtain ⟨a, us, rfl, ha, t, q1⟩ := S.dct e4 rv
      unfold sortK at h1
      split at h1
      · rename_i h64
        rw [List.length_map] at h64
        have h64 : kvs.length < 64 := h64
        have hkeys := KR.keys q1
        split at h1
        · rename_i bs hb
          cases h1
          have hb := skeys_map _ _ hb
          have hl : bs.length = kvs.length := by
            have := congrArg List.length hb
            rw [List.length_map, List.length_map] at this
            exact (show kvs.length = _ from this).symm
          refine .inr (.inr (.inl ⟨a, us, bs, rfl, .inl t, hkeys.trans hb, by omega, fun ys p hy hs hn => ?_⟩))
          rw [sortS_is hy (sorted_pw _ hs)]
          exact q _ _ _ (ext_new hn _) (S.newL hn (Rls.txs _)) (loc_new S)
        · obtain ⟨ns, h2, h1⟩ := Option.map_eq_some_iff.mp h1
          cases h1
          have hb := ikeys_map _ _ h2
          have hl : ns.length = kvs.length := by
            have := congrArg List.length hb
            rw [List.length_map, List.length_map] at this
            exact (show kvs.length = _ from this).symm
          refine .inr (.inr (.inr ⟨a, us, ns, rfl, .inl t, hkeys.trans hb, by omega, fun ys p hy hs hn => ?_⟩))
          rw [sortI_is hy hs]
          exact q _ _ _ (ext_new hn _) (S.newL hn (Rls.ints _)) (loc_new S)
      · cases h1
    · obtain ⟨ds, h1, h⟩ := Option.bind_eq_some_iff.mp h
      obtain ⟨es, h2, h⟩ := Option.map_eq_some_iff.mp h
      cases h
      obtain ⟨a, us, rfl, hq, q1⟩ := litems_seq (K := K) S h1 rv
      unfold sortD at h2
      split at h2
      · rename_i h64
        split at h2
        · rename_i bs hb
          cases h2
          have hb := txts_map _ _ hb
          subst hb
          rw [List.length_map] at h64
          have := txts_rls _ _ q1
          subst this
          refine .inl ⟨a, bs, rfl, hq, h64, fun ys p hy hs hn => ?_⟩
          rw [sortS_is hy (sorted_pw _ hs)]
          exact q _ _ _ (ext_new hn _) (S.newL hn (Rls.txs _)) (loc_new S)
        · obtain ⟨ns, h3, h2⟩ := Option.map_eq_some_iff.mp h2
          cases h2
          have hb := intsOf_map _ _ h3
          subst hb
          rw [List.length_map] at h64
          have := ints_rls _ _ q1
          subst this
          refine .inr (.inl ⟨a, ns, rfl, hq, h64, fun ys p hy hs hn => ?_⟩)
          rw [sortI_is hy hs]
          exact q _ _ _ (ext_new hn _) (S.newL hn (Rls.ints _)) (loc_new S)
      · cases h2
  · cases h
/-! ### list(dict), dict(pairs) -/
def fListE : BF := fun xs st => match xs with
  | [d] => match dctAt st d with
    | some p => some (.loc st.length, st ++ [.lst (p.2.map fun kv => kD kv.1)])
    | none => fList [d] st
  | xs => fList xs st
abbrev rListE (K : PySem.W.Frag) : List V → Hp → VK → Prop := fun xs H Q => rListD' K xs H Q ∨ rListD xs H Q
theorem call_listE {X : Cx} (hc : X.calm = true) : CallR X (.type "list") (rListE X.K) := (call_listD' hc).or (call_list_dK hc)
theorem does_listE : DoesN K (rListE K) fListE := fun xs st d st' vs H μ Q r S h q => by
  unfold fListE at h
  split at h
  · rename_i d0
    split at h
    · rename_i pp hp
      obtain ⟨n, kvs⟩ := pp
      cases h
      obtain ⟨v, rfl, rv⟩ := rls1 r
      obtain ⟨rfl, e4⟩ := dctAt_some hp
      obtain ⟨a, us, rfl, ha, t, q1⟩ := S.dct e4 rv
      exact .inr ⟨a, us, rfl, t, fun l hl => q _ _ _ (ext_new hl _) (S.newL hl (keys_rls q1)) (loc_new S)⟩
    · exact .inl (does_list _ _ _ _ _ _ _ _ r S h q)
  · exact .inl (does_list _ _ _ _ _ _ _ _ r S h q)
/-- the pairs of a list -/
def pairsD : List D → Option (List (Key × D))
  | [] => some []
  | .tup [k, d] :: r => (keyD k).bind fun k => (pairsD r).map ((k, d) :: ·)
  | _ => none
theorem pairsD_ok {H : Hp} {μ : List Addr} : ∀ (ds : List D) (kvs : List (Key × D)) (vs : List V), pairsD ds = some kvs → Rls K H μ ds vs → ∃ (ps : List Addr) (us : List (Key × V)), vs = ps.map V.ref ∧ Paired (fun p kv => SqT K H p [kV kv.1, kv.2]) ps us ∧ KR K H μ kvs us
  | [], kvs, vs, h, r => by
    cases h
    cases r
    exact ⟨[], [], rfl, .nil, .nil⟩
  | .tup [k, d] :: ds, kvs, vs, h, r => by
    obtain ⟨key, h1, h⟩ := Option.bind_eq_some_iff.mp h
    obtain ⟨more, h2, h⟩ := Option.map_eq_some_iff.mp h
    subst h
    obtain ⟨v, rest, rfl, r1, r2⟩ := Rls.cons_inv r
    obtain ⟨ps, us, rfl, p1, p2⟩ := pairsD_ok ds more rest h2 r2
    obtain ⟨a, ws, rfl, hq, q1⟩ := seqT r1
    obtain ⟨x, y, rfl, rx, ry⟩ := rls2 q1
    have := keyD_ok rx h1
    subst this
    exact ⟨a :: ps, (key, y) :: us, rfl, .cons hq p1, .cons ⟨rfl, ry⟩ p2⟩
  | .tup [] :: _, _, _, h, _ => by cases h
  | .tup [_] :: _, _, _, h, _ => by cases h
  | .tup (_ :: _ :: _ :: _) :: _, _, _, h, _ => by cases h
  | .non :: _, _, _, h, _ => by cases h
  | .bl _ :: _, _, _, h, _ => by cases h
  | .int _ :: _, _, _, h, _ => by cases h
  | .str _ :: _, _, _, h, _ => by cases h
  | .cl _ :: _, _, _, h, _ => by cases h
  | .opq _ :: _, _, _, h, _ => by cases h
  | .exo _ _ _ _ :: _, _, _, h, _ => by cases h
  | .loc _ :: _, _, _, h, _ => by cases h
def fDict : BF := fun xs st => match xs with
  | [d] => (litems st d).bind fun ds => (pairsD ds).map fun kvs => (.loc st.length, st ++ [.dct (mergeD kvs)])
  | _ => none
abbrev rDictP (K : PySem.W.Frag) : List V → Hp → VK → Prop := fun xs H Q => ∃ (a : Addr) (ps : List Addr) (kvs : List (Key × V)), xs = [.ref a] ∧ SqL K H a (ps.map V.ref) ∧ Paired (fun p kv => SqT K H p [kV kv.1, kv.2]) ps kvs ∧
    ∀ p, H p = none → Q (.ref p) (upd H p (.dK (mergeK [] kvs)))
theorem call_dictA {X : Cx} (hc : X.calm = true) : CallR X (.type "dict") (rDictP X.K) := call_dictP hc
theorem does_dictP : DoesN K (rDictP K) fDict := fun xs st d st' vs H μ Q r S h q => by
  unfold fDict at h
  split at h
  · rename_i d0
    obtain ⟨ds, h1, h⟩ := Option.bind_eq_some_iff.mp h
    obtain ⟨kvs, h2, h⟩ := Option.map_eq_some_iff.mp h
    cases h
    obtain ⟨v, rfl, rv⟩ := rls1 r
    obtain ⟨a, us, rfl, hq, q1⟩ := litems_seq (K := K) S h1 rv
    obtain ⟨ps, ks, rfl, p1, p2⟩ := pairsD_ok _ _ _ h2 q1
    refine ⟨a, ps, ks, rfl, hq, p1, fun l hl => q _ _ _ (ext_new hl _) (S.new (o := .dct (mergeD kvs)) hl ⟨_, upd_same, ?_⟩) (loc_new S)⟩
    exact KR.ext (ext_new hl _) (kr_merge p2 (.nil : KR K H μ [] []))
  · cases h
end Rg

set_option Elab.async false
set_option linter.all false
set_option maxRecDepth 100000
set_option maxHeartbeats 3200000
namespace Rg
open PySem PySem.Spec PyProof.Rows L2
open PySem.Froz (sObj TxOk addTx add_x is_str)
variable {P : Program} {w : World} {A : Around} {E : Value → Shared → Prop} {s : Shared}
/-- the set of the texts l at a; it can be walked -/
structure TS (P : Program) (w : World) (h : Heap) (a : Addr) (l : List Str) : Prop where
  ob : ∃ D, h.get? a = some (sObj "set" D) ∧ TxOk P w D l ∧ Ris D.2.2.place.toList ∧ (w.params.followText "set-order" = true ∨ D.2.2.led = true)
  nd : l.Nodup
theorem TS.at {h h' : Heap} {a : Addr} {l : List Str} (t : TS P w h a l) (k : ∀ o, h.get? a = some o → h'.get? a = some o) : TS P w h' a l := by
  obtain ⟨⟨D, h1, h2⟩, nd⟩ := t
  exact ⟨⟨D, k _ h1, h2⟩, nd⟩
def ins1 (l : List Str) (k : Str) : List Str := if k ∈ l then l else k :: l
theorem tail_ris {ep : Nat} {es : Array (Int × Value)} {t : SetTable} {b : Bool} (h : Ris t.place.toList) : Ris (Froz.tailTx ep es t b).2.2.place.toList := by
  unfold Froz.tailTx
  split
  · exact (relayAll_ris t es _)
  · exact h
theorem tail_led {ep : Nat} {es : Array (Int × Value)} {t : SetTable} {b : Bool} : (Froz.tailTx ep es t b).2.2.led = t.led := by
  unfold Froz.tailTx
  split
  · exact (relayAll_led t es _)
  · rfl
theorem addTx_ris (h : Int) (v : Value) (D : Froz.SD) (r : Ris D.2.2.place.toList) : Ris (addTx h v D).2.2.place.toList := by
  unfold addTx
  refine tail_ris ?_
  have := layNew_ris D.2.2 D.1 h v r
  split <;> exact this
theorem addTx_led (h : Int) (v : Value) (D : Froz.SD) : (addTx h v D).2.2.led = D.2.2.led := by
  unfold addTx
  rw [tail_led]
  have := layNew_led D.2.2 D.1 h v
  split <;> exact this
/-- one text into the set -/
theorem ts_add {a : Addr} {l : List Str} {k : Str} {u : Tok} {Q : Bool → Shared → Prop} (t : TS P w s.heap a l) (hb : l.length + 1 < scanBound)
    (q : ∀ h' b, (∀ c o, c ≠ a → s.heap.get? c = some o → h'.get? c = some o) → TS P w h' a (ins1 l k) → Q b { s with heap := h' }) : wpAny (model P w) A (setAddHashed a (.str k u) (hashStr w k)) Q E s := by
  obtain ⟨⟨D, ho, F, r, hl⟩, nd⟩ := t
  by_cases hk : k ∈ l
  · have q := q s.heap false (fun c o _ e => e) ⟨⟨D, ho, by unfold ins1; rw [if_pos hk]; exact F, r, hl⟩, by unfold ins1; rw [if_pos hk]; exact nd⟩
    obtain ⟨es, ep, t⟩ := D
    have hf : t.fits es.size = true := F.fit
    have hel : ElemsOf (strKind P w) es.toList := F.el
    have hb0 : es.size < scanBound := by have z : es.size = l.length := F.sz; omega
    have hkey := is_str (P := P) (w := w) k u
    unfold setAddHashed setAddHashedIn
    refine wpAny_holding (wpAny_bind (wpAny_setState_of ho rfl hf ?_))
    dsimp only
    rw [byScan_of (x := Value.str k u) rfl hb0 hel, if_pos rfl]
    unfold setAddByScan
    refine wpAny_bind (wpAny_bind (wpAny_rule (wpAny_bind (wpAny_setScan_of (knd := strKind P w) (k := k) hkey ho rfl hf hel ?_))))
    cases hi : List.findIdx? (fun e => (strKind P w).is k e.2) es.toList with
    | some j => exact wpAny_pure (wpAny_pure q)
    | none =>
      obtain ⟨e, he, ke⟩ := (F.mem k).mp hk
      have z := List.findIdx?_eq_none_iff.mp hi e he
      rw [ke] at z
      cases z
  · have q := fun h' hs t => q h' true hs t
    refine add_x ho F hk hb (q _ (fun c o hc e => (Heap.get?_update_other _ _ (Ne.symm hc)).trans e) ⟨⟨_, Froz.get_upd _ ho rfl, by unfold ins1; rw [if_neg hk]; exact Froz.add_ok u F, addTx_ris _ _ _ r, hl.imp id fun z => (addTx_led _ _ _).trans z⟩, ?_⟩)
    unfold ins1
    rw [if_neg hk]
    exact List.nodup_cons.mpr ⟨hk, nd⟩
/-- the texts of a list, each once -/
def dedT (xs : List Str) : List Str := xs.foldl ins1 []
theorem ins1_mem (l : List Str) (k x : Str) : x ∈ ins1 l k ↔ x ∈ l ∨ x = k := by
  unfold ins1
  by_cases h : k ∈ l
  · rw [if_pos h]
    exact ⟨.inl, fun z => z.elim id fun e => e ▸ h⟩
  · rw [if_neg h, List.mem_cons]
    exact Or.comm
theorem ded_mem : ∀ (xs l : List Str) (x : Str), x ∈ xs.foldl ins1 l ↔ x ∈ l ∨ x ∈ xs
  | [], l, x => by simp
  | k :: xs, l, x => by
    rw [List.foldl_cons, ded_mem xs, ins1_mem, List.mem_cons]
    exact or_assoc
theorem ded_nd : ∀ (xs l : List Str), l.Nodup → (xs.foldl ins1 l).Nodup
  | [], l, h => h
  | k :: xs, l, h => by
    rw [List.foldl_cons]
    refine ded_nd xs _ ?_
    unfold ins1
    split
    · exact h
    · rename_i hk
      exact List.nodup_cons.mpr ⟨hk, h⟩
theorem ded_len : ∀ (xs l : List Str), (xs.foldl ins1 l).length ≤ l.length + xs.length
  | [], l => Nat.le_refl _
  | k :: xs, l => by
    rw [List.foldl_cons]
    refine Nat.le_trans (ded_len xs _) ?_
    unfold ins1
    rw [List.length_cons]
    split
    · omega
    · rw [List.length_cons]; omega
theorem take_ded {xs : List Str} {i : Nat} {x : Str} (h : xs[i]? = some x) : dedT (xs.take (i + 1)) = ins1 (dedT (xs.take i)) x := by
  unfold dedT
  rw [List.take_add_one, h, List.foldl_append]
  rfl
/-- the loop of set(..) over a list of texts -/
theorem fill_txt {I : Addr} {fp wr : List Addr} {G : Array GenState → Array GenState → Prop} {Pv : Nat → Value → Prop} {St : Nat → Shared → Prop} {R : Result → Shared → Prop} {xs : List Str}
    (W : WalksS P w A.in1 I fp wr G xs.length Pv St) (S : Addr) (hSf : S ∉ fp) (hb : xs.length + 1 < scanBound) (hval : ∀ i v, Pv i v → ∃ x t, xs[i]? = some x ∧ v = .str x t) :
    ∀ (k i : Nat) (s : Shared), xs.length - i = k → i ≤ xs.length → St i s → TS P w s.heap S (dedT (xs.take i)) →
      (∀ s', Moved (S :: wr) G s s' → TS P w s'.heap S (dedT xs) → R (.ok (.ret .none)) s') → codeAny (model P w) A (.builtin "set.update.loop" ⟨[.ref S, .ref I], []⟩) R s := by
  have hSw : S ∉ wr := fun h => hSf (W.sub _ h)
  have up : ∀ {s s' : Shared}, Moved wr G s s' → Moved (S :: wr) G s s' := fun m => m.mono fun b hb => List.mem_cons_of_mem _ hb
  intro k
  induction k with
  | zero =>
    intro i s hk hi hst t hR
    have e : i = xs.length := Nat.le_antisymm hi (Nat.sub_eq_zero_iff_le.mp hk)
    subst e
    rw [List.take_length] at t
    refine codeAny_builtin F.entry_set_update_loop ?_
    rw [Around.under_plainId F.plain_set_update_loop _]
    refine wpAny_bind (m := pyNext (.ref I)) (W.done s _ _ hst fun s' hm => ?_)
    exact wpAny_pure (hR s' (up hm) (t.at fun o e => hm.heap S o hSw e))
  | succ k ih =>
    intro i s hk hi hst t hR
    have hlt : i < xs.length := by omega
    refine codeAny_builtin F.entry_set_update_loop ?_
    rw [Around.under_plainId F.plain_set_update_loop _]
    refine wpAny_bind (m := pyNext (.ref I)) (W.item i s _ _ hlt hst fun v s' hP hst' hm => ?_)
    obtain ⟨x, tk, hx, rfl⟩ := hval i v hP
    have t' := t.at fun o e => hm.heap S o hSw e
    have hl : (dedT (xs.take i)).length ≤ i := by
      refine Nat.le_trans (ded_len _ _) ?_
      rw [List.length_nil, Nat.zero_add, List.length_take]
      exact Nat.min_le_left ..
    refine wpAny_bind (m := holding [Value.str x tk] (setAdd S (.str x tk))) (wpAny_holding ?_)
    unfold setAdd
    refine wpAny_holding (wpAny_bind ((strKind P w).pyHash (k := x) (is_str x tk) ?_))
    refine ts_add (s := { s' with toks := s'.toks + 1 }) t' (by omega) fun h' b sb tn => ?_
    rw [← take_ded hx] at tn
    refine wpAny_pure ⟨plainId_quiet F.plain_set_update_loop _, ih (i + 1) _ (by omega) hlt (W.frame _ s' _ _ hst' (Nat.le_add_right _ _) fun c hc o e => ?_) tn fun s2 hm2 t2 => hR s2 ?_ t2⟩
    · exact sb c o (fun z => hSf (z ▸ hc)) e
    · refine Moved.trans W.gtrans ((up hm).then_heap (Nat.le_add_right _ _) fun c o hc e => ?_) hm2
      exact sb c o (fun z => hc (z ▸ List.mem_cons_self ..)) e
theorem strs_get : ∀ {vs : List Value} {xs : List Str}, StrsAre vs xs → ∀ (i : Nat) (v : Value), vs[i]? = some v → ∃ x t, xs[i]? = some x ∧ v = .str x t
  | _, _, .nil, i, v, h => by simp at h
  | _, _, .cons x t h, 0, v, e => ⟨x, t, rfl, by simpa using e.symm⟩
  | _, _, .cons x t h, i + 1, v, e => by
    obtain ⟨y, u, h1, h2⟩ := strs_get h i v (by simpa using e)
    exact ⟨y, u, by simpa using h1, h2⟩
abbrev newSet (w : World) : Obj := { cls := .type "set", dict := none, data := .set #[] 0 (.fresh 0 0 (!w.params.followText "set-order")) }
theorem ts_new {h : Heap} {a : Addr} (e : h.get? a = some (newSet w)) : TS P w h a [] :=
  ⟨⟨(#[], 0, .fresh 0 0 (!w.params.followText "set-order")), e, TxOk.nil rfl, List.Pairwise.nil, by
    show _ ∨ (!w.params.followText "set-order") = true
    cases w.params.followText "set-order"
    · exact .inr rfl
    · exact .inl rfl⟩, List.nodup_nil⟩
theorem call_set_txt {l : Addr} {items : Array Value} {xs : List Str} {Q : Value → Shared → Prop} (hh : A.handled = none) (hl : s.heap.IsList l items) (hi : StrsAre items.toList xs) (hb : xs.length + 1 < scanBound)
    (h : ∀ (h' : Heap) (tk : Nat), TS P w h' s.heap.objs.size (dedT xs) → (∀ b o, s.heap.get? b = some o → h'.get? b = some o) → Q (.ref s.heap.objs.size) { s with heap := h', toks := tk }) :
    wpAny (model P w) A (call (.type "set") [.ref l]) Q E s := by
  have hn : items.size = xs.length := by rw [← Array.length_toList]; exact hi.length
  obtain ⟨c, tl, hmro⟩ := F.called_set.mro
  have hmade := F.called_set.made
  have hsub := F.called_set.sub
  refine wpAny_call (codeAny_of_tree (wpAny_pure ⟨Code.quiet_builtin _ (by decide +kernel), codeAny_builtin F.entry_type_call ?_⟩))
  rw [Around.under_plain (weight_type_call_type "set" [.ref l] []) rfl]
  have h1 := F.called_set.notType
  have h2 := F.called_set.canCreate
  have hct := F.typeCall_set_1 (.ref l)
  repeat (any_goals (first | assumption | wp_step))
  refine codeAny_mono (code_set_led1 (.ref l) (E := E) (Q₁ := fun obj s₁ => obj = .ref s.heap.objs.size ∧ s₁ = { s with heap := s.heap.push (newSet w) }) ⟨rfl, rfl⟩) fun r s₁ hr => ?_
  cases r with
  | error e => exact hr
  | ok fl =>
    cases fl with
    | ret obj =>
      obtain ⟨rfl, rfl⟩ := hr
      have hS : (s.heap.push (newSet w)).get? s.heap.objs.size = some (newSet w) := Heap.get?_push_size _ rfl
      have hT : Shared.TypeIs { s with heap := s.heap.push (newSet w) } (.ref s.heap.objs.size) "set" := ⟨_, hS, rfl⟩
      have hli := F.called_set.init.lookup
      have hbi := F.called_set.init.bind (.ref s.heap.objs.size)
      repeat (any_goals (first | assumption | wp_step))
      refine codeAny_mono (codeAny_call_builtin (R := wants (fun r s₂ => r = .none ∧ ∃ h' tk, s₂ = { s with heap := h', toks := tk } ∧ TS P w h' s.heap.objs.size (dedT xs) ∧ (∀ b o, s.heap.get? b = some o → h'.get? b = some o)) E) F.called_set.init.plain F.entry_set_init (check_set_init_1 hT ?_)) fun r₂ s₂ hr₂ => ?_
      · obtain ⟨⟨ocls, odict, odata, oslots⟩, hol, hcl, nl, hdl⟩ := hl
        simp only at hcl hdl
        subst hcl
        subst hdl
        have hol' : (s.heap.push (newSet w)).get? l = some { cls := .type "list", dict := odict, data := .seq items nl, slots := oslots } := Heap.get?_push_of_some _ hol
        have hsls := F.sub_list_set
        have hslf := F.sub_list_frozenset
        have hne : (Value.type "list" == Value.type "dict") = false := by decide
        have hl1 : (s.heap.push (newSet w)).IsList l items := ⟨_, hol', rfl, nl, rfl⟩
        unfold Builtin.«set.__init__» noKeywords Builtin.Frozenset.updateFrom
        generalize hPI : pyIter = PI
        wp_walk
        subst hPI
        refine wpAny_pyIter_list hl1 (wpAny_bind (wpAny_runValue ?_))
        have hlS : l < s.heap.objs.size := Heap.lt_size hol
        have hz : (s.heap.push (newSet w)).objs.size = s.heap.objs.size + 1 := Heap.size_push ..
        have hneI : l ≠ (s.heap.push (newSet w)).objs.size := by rw [hz]; exact Nat.ne_of_lt (Nat.lt_succ_of_lt hlS)
        have W := (Walks.list (prog := P) (w := w) (A := A.in1.in1.in1) (by simp [hh]) (s.heap.push (newSet w)).objs.size l hneI items).toS
        rw [hn] at W
        refine fill_txt W s.heap.objs.size (fun z => ?_) hb (fun i v hv => ?_) (xs.length - 0) 0 _ rfl (Nat.zero_le _) ⟨⟨_, Heap.get?_push_size _ rfl, rfl, rfl⟩, hl1.push _⟩ (ts_new (Heap.get?_push_of_some _ hS)) fun s' hm t => ?_
        · rw [hz] at z
          rcases List.mem_cons.mp z with z | z
          · exact Nat.lt_irrefl _ (Nat.lt_of_lt_of_eq (Nat.lt_succ_self _) z.symm)
          · exact Nat.lt_irrefl _ (Nat.lt_of_lt_of_eq hlS (List.mem_singleton.mp z))
        · have hv : items.toList[i]? = some v := by rw [Array.getElem?_toList]; exact hv
          exact strs_get hi i v hv
        · obtain ⟨h', g2, d', tk', os'⟩ := s'
          have eg : g2 = s.gens := hm.gens
          have ed : d' = s.drawn := hm.drawn
          have eo : os' = s.os := hm.os
          subst eg
          subst ed
          subst eo
          refine wpAny_pure (show wpAny _ _ (ret Value.none) _ _ _ from wpAny_pure ⟨rfl, h', tk', rfl, t, fun b o e => ?_⟩)
          have hb := Heap.lt_size e
          refine hm.heap b o (fun z => ?_) (Heap.get?_push_of_some _ (Heap.get?_push_of_some _ e))
          rw [hz] at z
          rcases List.mem_cons.mp z with z | z
          · exact Nat.lt_irrefl _ (Nat.lt_of_lt_of_eq hb z.symm)
          · exact Nat.lt_irrefl _ (Nat.lt_of_lt_of_le hb (Nat.le_of_lt (Nat.lt_of_lt_of_eq (Nat.lt_succ_self _) (List.mem_singleton.mp z).symm)))
      · cases r₂ with
        | error e => exact hr₂
        | ok fl₂ =>
          cases fl₂ with
          | ret r =>
            obtain ⟨rfl, h', tk, rfl, t, hk⟩ := hr₂
            repeat (any_goals (first | assumption | wp_step))
            exact h _ _ t hk
          | _ => exact hr₂.elim
    | _ => exact hr.elim
/-! ### sorted(set(..)), len(set(..)) -/
theorem perm_of_nd {α : Type} [DecidableEq α] : ∀ (l xs : List α), l.Nodup → (∀ x ∈ l, x ∈ xs) → xs.length = l.length → xs.Perm l
  | [], xs, _, _, h => by
    rw [List.length_nil, List.length_eq_zero_iff] at h
    rw [h]
  | x :: l, xs, nd, sub, h => by
    obtain ⟨n1, n2⟩ := List.nodup_cons.mp nd
    have hx := sub x (List.mem_cons_self ..)
    refine (List.perm_cons_erase hx).trans (.cons x (perm_of_nd l (xs.erase x) n2 (fun y hy => ?_) ?_))
    · exact (List.mem_erase_of_ne (fun e : y = x => n1 (by rw [← e]; exact hy))).mpr (sub y (List.mem_cons_of_mem _ hy))
    · rw [List.length_erase_of_mem hx, h, List.length_cons, Nat.add_sub_cancel]
theorem ts_out {es : Array (Int × Value)} {ep : Nat} {t : SetTable} {l : List Str} (F : TxOk P w (es, ep, t) l) (nd : l.Nodup) {vs : List Value} (p : vs.Perm (es.toList.map (·.2))) : ∃ xs, StrsAre vs xs ∧ xs.Perm l := by
  have str : ∀ v ∈ vs, ∃ x t, v = Value.str x t := fun v hv => by
    obtain ⟨e, he, q⟩ := List.mem_map.mp (p.mem_iff.mp hv)
    obtain ⟨⟨x, hx, _⟩, _⟩ := F.el e he
    obtain ⟨t, ht⟩ := Value.isStrOf_shape (x := x) (v := e.2) hx
    exact ⟨x, t, q.symm.trans ht⟩
  have mk : ∀ vs : List Value, (∀ v ∈ vs, ∃ x t, v = Value.str x t) → ∃ xs, StrsAre vs xs := fun vs => by
    induction vs with
    | nil => exact fun _ => ⟨[], .nil⟩
    | cons v vs ih =>
      intro h
      obtain ⟨xs, hx⟩ := ih fun u hu => h u (List.mem_cons_of_mem _ hu)
      obtain ⟨x, t, rfl⟩ := h v (List.mem_cons_self ..)
      exact ⟨x :: xs, .cons x t hx⟩
  obtain ⟨xs, hx⟩ := mk vs str
  have mem : ∀ x : Str, x ∈ xs ↔ ∃ t, Value.str x t ∈ vs := by
    clear str p mk
    induction hx with
    | nil => simp
    | cons y tk h ih =>
      intro x
      rw [List.mem_cons, ih x]
      constructor
      · rintro (rfl | ⟨u, h⟩)
        · exact ⟨tk, List.mem_cons_self ..⟩
        · exact ⟨u, List.mem_cons_of_mem _ h⟩
      · rintro ⟨u, h⟩
        rcases List.mem_cons.mp h with h | h
        · cases h; exact .inl rfl
        · exact .inr ⟨u, h⟩
  have all : ∀ x, x ∈ l ↔ x ∈ xs := fun x => by
    rw [F.mem x, mem x]
    constructor
    · rintro ⟨e, he, q⟩
      obtain ⟨t, ht⟩ := Value.isStrOf_shape (x := x) (v := e.2) q
      exact ⟨t, p.mem_iff.mpr (List.mem_map.mpr ⟨e, he, ht⟩)⟩
    · rintro ⟨t, ht⟩
      obtain ⟨e, he, q⟩ := List.mem_map.mp (p.mem_iff.mp ht)
      refine ⟨e, he, ?_⟩
      show (strKind P w).is x e.2 = true
      rw [q]
      exact is_str x t
  have len : xs.length = l.length := by
    have z : es.size = l.length := F.sz
    rw [← hx.length, p.length_eq, List.length_map, Array.length_toList, z]
  exact ⟨xs, hx, perm_of_nd l xs nd (fun x h => (all x).mp h) len⟩
theorem sorted_ts {a : Addr} {l : List Str} {Q : Value → Shared → Prop} (t : TS P w s.heap a l) (hh : A.handled = none) (h64 : l.length < 64)
    (q : ∀ s' p (out : List Value) (c : Nat) (ys : List Str), (∀ b o, s.heap.get? b = some o → s'.heap.get? b = some o) → s'.gens = s.gens → s'.os = s.os → s.heap.objs.size ≤ p →
      s'.heap.get? p = some (seqObj "list" out.toArray c) → StrsAre out ys → ys = sortS l → Q (.ref p) s') :
    wpAny (model P w) A (call (.builtin "sorted") [.ref a]) Q E s := by
  obtain ⟨⟨⟨es, ep, tb⟩, ho, F, r, hl⟩, nd⟩ := t
  have hsz : es.size = l.length := F.sz
  refine Calls.call_function_entry kind_sorted plain_sorted entry_sorted (args_sorted1 _) ?_
  unfold Builtin.«sorted»
  refine wpAny_bind (m := checkCount "sorted" 1 1 _) (wpAny_pure (wpAny_bind ?_))
  refine collect_set (A := A.in1) hh ⟨_, ho, rfl, rfl⟩ F.fit (by rw [show (es, ep, tb).1.size = es.size from rfl]; unfold scanBound; omega) r hl fun s1 vs k1 hz g1 o1 pm => ?_
  obtain ⟨xs, hx, px⟩ := ts_out F nd pm
  have hvl : vs.length = l.length := by rw [pm.length_eq, List.length_map, Array.length_toList]; exact hsz
  refine wpAny_bind (wpAny_newList ?_ (by rw [hvl, sizeLine_eq]; omega))
  have hoL : (s1.heap.push (seqObj "list" vs.toArray 0)).get? s1.heap.objs.size = some (seqObj "list" vs.toArray 0) := Heap.get?_push_size _ rfl
  refine wpAny_bind (wpAny_holding (wpAny_call_entry slot_list_sort ⟨_, hoL, rfl⟩ entry_list_sort
    (list_sort_treeK strKind_oneLt (s := { s1 with heap := s1.heap.push (seqObj "list" vs.toArray 0) }) hoL hx.keysOf (fun v₁ v₂ rest e => keyKind_strs (by rw [← e]; exact hx)) (by rw [hvl]; exact h64) fun st' hp hs => ⟨_, rfl, ?_⟩) (args_list_sort _)))
  obtain ⟨ys, g1', g2, g3⟩ := sorted_out_str hx hp hs
  obtain ⟨c, hc⟩ := sortedHeap_at (vs := vs) (out := (arrOf st').map (·.2)) hoL
  refine wpAny_pure ⟨_, rfl, q _ s1.heap.objs.size ((arrOf st').map (·.2)).toList c ys (fun b u e => ?_) g1 o1 hz (by rw [Array.toArray_toList]; exact hc) g1' (sortS_is (g2.trans px) (sorted_pw _ g3))⟩
  have e2 := k1 b u e
  have hlt := Heap.lt_size e2
  show (sortedHeap (s1.heap.push (seqObj "list" vs.toArray 0)) s1.heap.objs.size vs _).get? b = some u
  rw [sortedHeap_old (Nat.ne_of_lt hlt) (by rw [size_push']; exact Nat.lt_succ_of_lt hlt)]
  exact Heap.get?_push_of_some _ e2
def fSorSet (st : Stt) (d : D) : R D := match litems st d with
  | some ds => match txts ds with
    | some xs => if xs.length < 64 then .ok (.loc st.length) (st ++ [.lst ((sortS (dedT xs)).map D.str)]) else .no
    | none => .no
  | none => .no
def xSorSet (f : XE) : XE := fun ρ st => (f ρ st).bind fun d s => fSorSet s d
def fLenSet (st : Stt) (d : D) : R D := match litems st d with
  | some ds => match txts ds with
    | some xs => if xs.length < 4000 then .ok (.int (dedT xs).length) st else .no
    | none => .no
  | none => .no
def xLenSet (f : XE) : XE := fun ρ st => (f ρ st).bind fun d s => fLenSet s d
section
variable {X : Cx} {e : Expr} {fe : XE} {pos p p2 q : Pos} {W : WX}
theorem txt_list {H : Hp} {μ : List Addr} {st : Stt} {d : D} {v : V} {ds : List D} {xs : List Str} (S : SR X.K H μ st) (h : litems st d = some ds) (ht : txts ds = some xs) (r : Rl X.K H μ d v) {pins : List (Addr × Obj)} {σ : L2.St} {s : Shared} (I : Inv X pins σ H s) :
    ∃ a its, v = .ref a ∧ s.heap.IsList a its ∧ StrsAre its.toList xs := by
  obtain ⟨a, vs, rfl, hq, q⟩ := litems_seq S h r
  have := txts_map _ _ ht
  subst this
  have := txts_rls _ _ q
  subst this
  obtain ⟨its, rv, pl, hz⟩ := I.list hq
  exact ⟨a, its.toArray, rfl, pl.isList, by rw [List.toList_toArray]; exact strsAre_of rv⟩
theorem e_sorSet (hm : X.mg "sorted" = none) (hm2 : X.mg "set" = none) (hc : X.calm = true) (he : PE X e (tX X.K W fe)) (hg : Gl X "sorted" := by rfl) (hg2 : Gl X "set" := by rfl)
    (na : starEach [e] X.env = (false, eval e X.env) :: starEach [] X.env := by rfl) : PE X (.Call (.Name "sorted" p) [.Call (.Name "set" p2) [e] [] q] [] pos) (tX X.K W (xSorSet fe)) := by
  refine ⟨fun pins s σ H Q I ⟨ρ, st, μ, E', S, h⟩ => ?_⟩
  refine Call_ (ld_blt I hg hm boot_sorted (callWith_builtin1 (args_cons (Call_ (ld_blt I hg2 hm2 boot_set ?_)) rfl) rfl rfl))
  have he' := he.run pins s σ H _ I (tX_of E' S h.bind fun d s1 H1 μ1 v e1 E1 S1 r1 h1 => (show ∃ μ st d, SR X.K H1 μ st ∧ Rl X.K H1 μ d v ∧ RO X.K (wx X.K W σ) H1 μ (QD X.K Q) (fSorSet st d) from ⟨μ1, s1, d, S1, r1, h1⟩))
  refine callWith_type1 (args_cons (thn he' fun v s1 ⟨x, H1, I1, r1, μ1, st1, d, S1, rd, h1⟩ => args_nil ?_) na) na rfl
  unfold fSorSet at h1
  split at h1
  · rename_i ds hds
    split at h1
    · rename_i xs hxs
      split at h1
      · rename_i h64
        obtain ⟨a, its, rfl, hl, hs⟩ := txt_list S1 hds hxs rd I1
        cases r1
        refine call_set_txt (I1.ok.hd hc) hl hs (by unfold scanBound; omega) fun h' tk t hk => args_nil ?_
        have I2 : Inv X pins σ H1 { s1 with heap := h', toks := tk } := I1.kept hk
        have hlen : (dedT xs).length < 64 := Nat.lt_of_le_of_lt (Nat.le_trans (ded_len xs []) (by rw [List.length_nil, Nat.zero_add]; exact Nat.le_refl _)) h64
        refine sorted_ts (s := { s1 with heap := h', toks := tk }) t (I2.ok.hd hc) hlen fun s' p out c ys k g o hp hat hs2 ey => ?_
        subst ey
        have hlen2 : ((sortS (dedT xs)).map V.str).length ≤ sizeLine := by
          rw [List.length_map, sizeLine_eq]
          have : (sortS (dedT xs)).length = (dedT xs).length := (List.mergeSort_perm _ _).length_eq
          omega
        have hn : H1 p = none := I2.hok.fresh hp
        generalize hs2' : ({ s1 with heap := h', toks := tk } : Shared) = s2 at I2 k g o hp
        have J : Inv X pins σ (upd H1 p (.lst ((sortS (dedT xs)).map V.str))) { s2 with heap := s'.heap, gens := s'.gens, drawn := s'.drawn, toks := s'.toks } :=
          I2.call (ch := []) (Un.laid k hp hn) (I2.hok.laid k hp ⟨hlen2, out, c, vals_of_strs hs2, hat⟩) (by rw [g]; exact I2.bare) (fun _ z => nomatch z)
        have e : s' = { s2 with heap := s'.heap, gens := s'.gens, drawn := s'.drawn, toks := s'.toks } := by
          cases s'
          cases s2
          cases o
          rfl
        rw [e]
        exact ⟨.ref p, _, J, rfl, h1 _ _ (ext_new hn _) (S1.newL hn (Rls.txs _)) _ (loc_new S1)⟩
      · exact h1.elim
    · exact h1.elim
  · exact h1.elim
theorem e_lenSet (hm : X.mg "len" = none) (hm2 : X.mg "set" = none) (hc : X.calm = true) (he : PE X e (tX X.K W fe)) (hg : Gl X "len" := by rfl) (hg2 : Gl X "set" := by rfl)
    (na : starEach [e] X.env = (false, eval e X.env) :: starEach [] X.env := by rfl) : PE X (.Call (.Name "len" p) [.Call (.Name "set" p2) [e] [] q] [] pos) (tX X.K W (xLenSet fe)) := by
  refine ⟨fun pins s σ H Q I ⟨ρ, st, μ, E', S, h⟩ => ?_⟩
  refine Call_ (ld_blt I hg hm boot_len (callWith_builtin1 (args_cons (Call_ (ld_blt I hg2 hm2 boot_set ?_)) rfl) rfl rfl))
  have he' := he.run pins s σ H _ I (tX_of E' S h.bind fun d s1 H1 μ1 v e1 E1 S1 r1 h1 => (show ∃ μ st d, SR X.K H1 μ st ∧ Rl X.K H1 μ d v ∧ RO X.K (wx X.K W σ) H1 μ (QD X.K Q) (fLenSet st d) from ⟨μ1, s1, d, S1, r1, h1⟩))
  refine callWith_type1 (args_cons (thn he' fun v s1 ⟨x, H1, I1, r1, μ1, st1, d, S1, rd, h1⟩ => args_nil ?_) na) na rfl
  unfold fLenSet at h1
  split at h1
  · rename_i ds hds
    split at h1
    · rename_i xs hxs
      split at h1
      · rename_i h64
        obtain ⟨a, its, rfl, hl, hs⟩ := txt_list S1 hds hxs rd I1
        cases r1
        refine call_set_txt (I1.ok.hd hc) hl hs (by unfold scanBound; omega) fun h' tk t hk => args_nil ?_
        have I2 : Inv X pins σ H1 { s1 with heap := h', toks := tk } := I1.kept hk
        obtain ⟨⟨⟨es, ep, tb⟩, ho, F, r, hl⟩, nd⟩ := t
        have hsz : es.size = (dedT xs).length := F.sz
        have hlen : (dedT xs).length ≤ xs.length := Nat.le_trans (ded_len xs []) (by rw [List.length_nil, Nat.zero_add]; exact Nat.le_refl _)
        refine call_len_set ho ⟨rfl, rfl, rfl⟩ rfl F.fit (by rw [show (es, ep, tb).1.size = es.size from rfl, hsz]; omega) ⟨.int (dedT xs).length, H1, I2.tok _, ⟨_, by rw [show (es, ep, tb).1.size = es.size from rfl, hsz]⟩, ?_⟩
        exact h1 H1 μ1 (Ext.refl _ _) S1 _ (.int _)
      · exact h1.elim
    · exact h1.elim
  · exact h1.elim
end
end Rg

set_option Elab.async false
set_option linter.all false
set_option maxRecDepth 100000
namespace Rg
open PySem PySem.Spec PyProof.Rows L2
/-! ### stores that grow; cells behind an old store -/
theorem ax {α β : Type} {r : α → β → Prop} (h : ∀ x, ∃ y, r x y) : ∃ f : α → β, ∀ x, r x (f x) := Classical.axiomOfChoice h
@[simp] theorem at_0 (st : Stt) (a : O) (J : Stt) : (st ++ a :: J)[st.length]? = some a := by simp
@[simp] theorem at_add (st J : Stt) (n : Nat) : (st ++ J)[st.length + n]? = J[n]? := by
  rw [List.getElem?_append_right (by omega)]; simp
@[simp] theorem set_0 (st : Stt) (a x : O) (J : Stt) : (st ++ a :: J).set st.length x = st ++ x :: J := by
  rw [List.set_append_right _ _ (Nat.le_refl _)]; simp
@[simp] theorem set_add (st J : Stt) (n : Nat) (x : O) : (st ++ J).set (st.length + n) x = st ++ J.set n x := by
  rw [List.set_append_right _ _ (by omega)]; simp
theorem at_old {st : Stt} {n : Nat} {o : O} (h : st[n]? = some o) (J : Stt) : (st ++ J)[n]? = some o := by
  rw [List.getElem?_append_left (List.getElem?_eq_some_iff.mp h).1]; exact h
theorem at_lt {st : Stt} {n : Nat} (h : n < st.length) (J : Stt) : (st ++ J)[n]? = st[n]? := List.getElem?_append_left h
theorem set_lt {st : Stt} {n : Nat} (h : n < st.length) (J : Stt) (x : O) : (st ++ J).set n x = st.set n x ++ J := List.set_append_left _ _ h
/-! the partial readers, as matches on what stands there -/
@[simp] theorem items_at (st : Stt) (n : Nat) : items st (.loc n) = match st[n]? with | some (.lst ds) => some ds | _ => none := (rfl)
@[simp] theorem lstAt_at (st : Stt) (n : Nat) : lstAt st (.loc n) = match st[n]? with | some (.lst ds) => some (n, ds) | _ => none := (rfl)
@[simp] theorem dctAt_at (st : Stt) (n : Nat) : dctAt st (.loc n) = match st[n]? with | some (.dct ds) => some (n, ds) | _ => none := (rfl)
@[simp] theorem dctAt_str (st : Stt) (x : Str) : dctAt st (.str x) = none := (rfl)
@[simp] theorem dctAt_tup (st : Stt) (x : List D) : dctAt st (.tup x) = none := (rfl)
@[simp] theorem dctAt_cl (st : Stt) (x : List D) : dctAt st (.cl x) = none := (rfl)
@[simp] theorem litems_at (st : Stt) (n : Nat) : litems st (.loc n) = match st[n]? with | some (.lst ds) => some ds | _ => none := (rfl)
@[simp] theorem tyD_at (st : Stt) (n : Nat) : tyD st (.loc n) = match st[n]? with | some (.lst _) => some "list" | some (.dct _) => some "dict" | _ => none := (rfl)
@[simp] theorem tyD_str (st : Stt) (x : Str) : tyD st (.str x) = some "str" := (rfl)
@[simp] theorem tyD_tup (st : Stt) (x : List D) : tyD st (.tup x) = some "tuple" := (rfl)
@[simp] theorem tyD_cl (st : Stt) (x : List D) : tyD st (.cl x) = some "list" := (rfl)
@[simp] theorem tyD_int (st : Stt) (x : Int) : tyD st (.int x) = some "int" := (rfl)
@[simp] theorem tyD_bl (st : Stt) (x : Bool) : tyD st (.bl x) = some "bool" := (rfl)
@[simp] theorem tyD_non (st : Stt) : tyD st .non = some "NoneType" := (rfl)
@[simp] theorem isRc_lst (st : Stt) (n : Nat) : isRc isLst (.loc n) st = match st[n]? with | some (.lst _) => .ok () st | _ => .no := by
  have e : isLst st (.loc n) = match st[n]? with | some (.lst _) => true | _ => false := (rfl)
  unfold isRc
  rw [e]
  cases h : st[n]? with
  | none => simp
  | some o => cases o <;> simp
@[simp] theorem isRc_str (x : Str) (st : Stt) : isRc isStr (.str x) st = .ok () st := (rfl)
@[simp] theorem mAppend_at (st : Stt) (n : Nat) (d : D) : mAppend (.loc n) [d] st = match st[n]? with | some (.lst ds) => (if ds.length < sizeLine then some (.non, st.set n (.lst (ds ++ [d]))) else none) | _ => none := by
  unfold mAppend
  rw [lstAt_at]
  cases h : st[n]? with
  | none => simp
  | some o => cases o <;> simp
@[simp] theorem mPop_at (st : Stt) (n : Nat) : mPop (.loc n) [] st = match st[n]? with | some (.lst ds) => (ds[ds.length - 1]?).map fun d => (d, st.set n (.lst ds.dropLast)) | _ => none := by
  unfold mPop
  rw [lstAt_at]
  cases h : st[n]? with
  | none => simp
  | some o => cases o <;> simp
@[simp] theorem mExtT_at (st : Stt) (n : Nat) (es : List D) : mExtend (.loc n) [.tup es] st = match st[n]? with | some (.lst ds) => (if ds.length + es.length ≤ sizeLine then some (.non, st.set n (.lst (ds ++ es))) else none) | _ => none := by
  unfold mExtend
  simp only [lstAt_at]
  cases h : st[n]? with
  | none => simp
  | some o => cases o <;> simp
@[simp] theorem mExtL_at (st : Stt) (n m : Nat) : mExtend (.loc n) [.loc m] st = match st[n]? with | some (.lst ds) => (match st[m]? with | some (.lst es) => (if ds.length + es.length ≤ sizeLine then some (.non, st.set n (.lst (ds ++ es))) else none) | _ => none) | _ => none := by
  unfold mExtend
  simp only [lstAt_at]
  cases h : st[n]? with
  | none => simp
  | some o =>
    cases o with
    | lst ds =>
      cases h2 : st[m]? with
      | none => simp
      | some o => cases o <;> simp
    | _ => simp
@[simp] theorem isT_at (st : Stt) (n : Nat) : isT (.loc n) st = match st[n]? with | some (.lst ds) => .ok (!ds.isEmpty) st | some (.dct ds) => .ok (!ds.isEmpty) st | _ => .no := by
  unfold isT
  have : truth st (.loc n) = match st[n]? with | some (.lst ds) => some (!ds.isEmpty) | some (.dct ds) => some (!ds.isEmpty) | _ => none := (rfl)
  rw [this]
  cases h : st[n]? with
  | none => simp
  | some o => cases o <;> simp
@[simp] theorem isT_bl (b : Bool) (st : Stt) : isT (.bl b) st = .ok b st := (rfl)
@[simp] theorem isT_int (i : Int) (st : Stt) : isT (.int i) st = .ok (i != 0) st := (rfl)
@[simp] theorem isT_non (st : Stt) : isT .non st = .ok false st := (rfl)
@[simp] theorem isT_tup (ds : List D) (st : Stt) : isT (.tup ds) st = .ok (!ds.isEmpty) st := (rfl)
@[simp] theorem oRev_at (st : Stt) (n : Nat) : oRev (.loc n) st = match st[n]? with | some (.lst ds) => some (.loc st.length, st ++ [.lst ds.reverse]) | _ => none := by
  unfold oRev
  rw [litems_at]
  cases h : st[n]? with
  | none => simp
  | some o => cases o <;> simp
@[simp] theorem oAdd_ll (st : Stt) (m n : Nat) : oAdd (.loc m) (.loc n) st = match st[m]?, st[n]? with
    | some (.lst a), some (.lst b) => if a.length + b.length ≤ sizeLine then some (.loc st.length, st ++ [.lst (a ++ b)]) else none
    | _, _ => none := (rfl)
@[simp] theorem oAdd_ss (i j : Str) (st : Stt) : oAdd (.str i) (.str j) st = if i.length + j.length ≤ sizeLine then some (.str (i ++ j), st) else none := (rfl)
@[simp] theorem oAdd_tt (a b : List D) (st : Stt) : oAdd (.tup a) (.tup b) st = if a.length + b.length ≤ sizeLine then some (.tup (a ++ b), st) else none := (rfl)
@[simp] theorem fLen_at (st : Stt) (n : Nat) : fLen [.loc n] st = match st[n]? with | some (.lst ds) => some (.int ds.length, st) | _ => none := by
  show (items st (.loc n)).map _ = _
  rw [items_at]
  cases h : st[n]? with
  | none => simp
  | some o => cases o <;> simp
@[simp] theorem fLen_tup (ds : List D) (st : Stt) : fLen [.tup ds] st = some (.int ds.length, st) := fLen_of rfl
@[simp] theorem fLen_cl (ds : List D) (st : Stt) : fLen [.cl ds] st = some (.int ds.length, st) := fLen_of rfl
@[simp] theorem fLen_str (x : Str) (st : Stt) : fLen [.str x] st = if x.length ≤ sizeLine then some (.int x.length, st) else none := (rfl)
@[simp] theorem fTuple_tup (ds : List D) (st : Stt) : fTuple [.tup ds] st = some (.tup ds, st) := (rfl)
@[simp] theorem fTuple_at (st : Stt) (n : Nat) : fTuple [.loc n] st = match st[n]? with | some (.lst ds) => some (.tup ds, st) | _ => none := by
  show (items st (.loc n)).map _ = _
  rw [items_at]
  cases h : st[n]? with
  | none => simp
  | some o => cases o <;> simp
@[simp] theorem oIx_tup (ds : List D) (i : Int) (st : Stt) : oIx (.tup ds) (.int i) st = (atI ds i).map fun d => (d, st) := (rfl)
@[simp] theorem oIx_cl (ds : List D) (i : Int) (st : Stt) : oIx (.cl ds) (.int i) st = (atI ds i).map fun d => (d, st) := (rfl)
@[simp] theorem oIx_at (st : Stt) (n : Nat) (i : Int) : oIx (.loc n) (.int i) st = match st[n]? with | some (.lst ds) => (atI ds i).map fun d => (d, st) | _ => none := by
  show (items st (.loc n)).bind _ = _
  rw [items_at]
  cases h : st[n]? with
  | none => simp
  | some o => cases o <;> simp
@[simp] theorem oIx_str (z : Str) (i : Int) (st : Stt) : oIx (.str z) (.int i) st = if z.length ≤ sizeLine then (atI z.cps.toList i).map fun c => (.str ⟨#[c]⟩, st) else none := (rfl)
@[simp] theorem atI_neg1 {α : Type} {xs : List α} {x : α} : atI (xs ++ [x]) (-1) = some x := by
  unfold atI ixN
  rw [if_neg (by omega), if_pos (by simp; omega)]
  have e : ((-1 : Int) + ((xs ++ [x]).length : Int)).toNat = xs.length := by simp; omega
  show (xs ++ [x])[_]? = _
  rw [e]
  simp
@[simp] theorem atI_0 {α : Type} (x : α) (xs : List α) : atI (x :: xs) 0 = some x := by unfold atI ixN; simp
@[simp] theorem atI_1 {α : Type} (x y : α) (xs : List α) : atI (x :: y :: xs) 1 = some y := by
  unfold atI ixN; rw [if_pos (by omega), if_pos (by simp; omega)]; rfl
@[simp] theorem atI_2 {α : Type} (x y z : α) (xs : List α) : atI (x :: y :: z :: xs) 2 = some z := by
  unfold atI ixN; rw [if_pos (by omega), if_pos (by simp; omega)]; rfl
@[simp] theorem atI_3 {α : Type} (x y z w : α) (xs : List α) : atI (x :: y :: z :: w :: xs) 3 = some w := by
  unfold atI ixN; rw [if_pos (by omega), if_pos (by simp; omega)]; rfl
@[simp] theorem wkOf_at (st : Stt) (n : Nat) : wkOf (.loc n) st = match st[n]? with | some (.lst ds) => .ok ⟨ds, fun st => items st (.loc n) = some ds⟩ st | _ => .no := by
  show (match items st (.loc n) with | some ds => R.ok (⟨ds, fun st => items st (.loc n) = some ds⟩ : Wk) st | none => .no) = _
  rw [items_at]
  cases h : st[n]? with
  | none => simp
  | some o => cases o <;> simp
@[simp] theorem wkOf_tup (ds : List D) (st : Stt) : wkOf (.tup ds) st = .ok ⟨ds, fun _ => True⟩ st := (rfl)
@[simp] theorem wkOf_str (x : Str) (st : Stt) : wkOf (.str x) st = .ok ⟨signs x, fun _ => True⟩ st := (rfl)
@[simp] theorem oFld_at (C : Addr) (f : Str) (st : Stt) (n : Nat) : oFld C f (.loc n) st = match st[n]? with | some (.ins C' fs) => (if C' = C then (fs.lookup f).map fun x => (x, st) else none) | _ => none := by
  show ((match st[n]? with | some (.ins C' fs) => if C' = C then some (n, fs) else none | _ => none).bind fun p => (p.2.lookup f).map fun x => (x, st)) = _
  cases h : st[n]? with
  | none => simp
  | some o =>
    cases o with
    | ins C' fs => by_cases hc : C' = C <;> simp [hc]
    | _ => simp
@[simp] theorem setF_at (C : Addr) (f : Str) (st : Stt) (n : Nat) (v : D) (ρ : En) : setF C f (.loc n) v ρ st = match st[n]? with | some (.ins C' fs) => (if C' = C then (if fs.length < 1000 then .nx ρ (st.set n (.ins C (putFD f v fs))) else .no) else .no) | _ => .no := by
  show (match (match st[n]? with | some (.ins C' fs) => if C' = C then some (n, fs) else none | _ => none) with | some p => if p.2.length < 1000 then Out.nx ρ (st.set p.1 (.ins C (putFD f v p.2))) else .no | none => .no) = _
  cases h : st[n]? with
  | none => simp
  | some o =>
    cases o with
    | ins C' fs => by_cases hc : C' = C <;> simp [hc]
    | _ => simp
@[simp] theorem hasM_at (C : Addr) (m : Str) (n : Nat) (st : Stt) : hasM C m (.loc n) st = match st[n]? with | some (.ins C' fs) => (if C' = C then (match fs.lookup m with | none => .ok () st | some _ => .no) else .no) | _ => .no := by
  unfold hasM
  show (match (match st[n]? with | some (.ins C' fs) => if C' = C then some (n, fs) else none | _ => none) with | some p => _ | none => _) = _
  cases h : st[n]? with
  | none => simp
  | some o =>
    cases o with
    | ins C' fs => 
      by_cases hc : C' = C
      · simp [hc]
        cases hl : fs.lookup m <;> simp
      · simp [hc]
    | _ => simp
@[simp] theorem setL_at (n : Nat) (k : Int) (v : D) (ρ : En) (st : Stt) : setL (.loc n) (.int k) v ρ st = match st[n]? with | some (.lst ds) => (match ixN ds.length k with | some j => .nx ρ (st.set n (.lst (ds.set j v))) | none => .no) | _ => .no := by
  unfold setL
  rw [lstAt_at]
  cases h : st[n]? with
  | none => simp
  | some o => cases o <;> simp <;> rfl
@[simp] theorem ixN_neg1 (n : Nat) : ixN (n + 1) (-1) = some n := by unfold ixN; rw [if_neg (by omega), if_pos (by simp; omega)]; simp; omega
theorem le_sz {n : Nat} (h : n ≤ 16777216) : n ≤ sizeLine := by rw [sizeLine_eq]; exact h
theorem lt_sz {n : Nat} (h : n < 16777216) : n < sizeLine := by rw [sizeLine_eq]; exact h
@[simp] theorem runB_run (n : Nat) (f : XS) (ds : List D) (st : Stt) : runB n f ds st = (f (ds.map some ++ List.replicate (n - ds.length) none) st).ret := (rfl)
@[simp] theorem mkTup_run (ds : List D) (st : Stt) : mkTup ds st = if ds.length ≤ sizeLine then .ok (.tup ds) st else .no := (rfl)
@[simp] theorem mkLst_run (ds : List D) (st : Stt) : mkLst ds st = if ds.length ≤ sizeLine then .ok (.loc st.length) (st ++ [.lst ds]) else .no := (rfl)
/-! ### while: with a measure -/
theorem whileF_inv {c : XT} {f : XS} (I : Nat → En → Stt → Prop) (Q : En → Stt → Prop)
    (step : ∀ k ρ st, I k ρ st → (∃ s, c ρ st = .ok false s ∧ Q ρ s) ∨ ∃ s, c ρ st = .ok true s ∧ ∃ ρ' st', (f ρ s = .nx ρ' st' ∨ f ρ s = .ct ρ' st') ∧ ∃ j, j < k ∧ I j ρ' st') :
    ∀ (m k : Nat) (ρ : En) (st : Stt), k < m → I k ρ st → ∃ ρ' st', whileF c f m ρ st = .nx ρ' st' ∧ Q ρ' st'
  | 0, k, _, _, h, _ => absurd h (Nat.not_lt_zero k)
  | m + 1, k, ρ, st, h, hI => by
    unfold whileF
    rcases step k ρ st hI with ⟨s, h1, h2⟩ | ⟨s, h1, ρ', st', h2, j, hj, h3⟩
    · rw [h1]; exact ⟨ρ, s, rfl, h2⟩
    · rw [h1]
      obtain ⟨ρ2, st2, h4, h5⟩ := whileF_inv I Q step m j ρ' st' (by omega) h3
      refine ⟨ρ2, st2, ?_, h5⟩
      rcases h2 with h2 | h2 <;> (simp only [R.out_ok, if_true, h2]; exact h4)
theorem sWhile_inv {c : XT} {f : XS} (I : Nat → En → Stt → Prop) (Q : En → Stt → Prop)
    (step : ∀ k ρ st, I k ρ st → (∃ s, c ρ st = .ok false s ∧ Q ρ s) ∨ ∃ s, c ρ st = .ok true s ∧ ∃ ρ' st', (f ρ s = .nx ρ' st' ∨ f ρ s = .ct ρ' st') ∧ ∃ j, j < k ∧ I j ρ' st')
    {k : Nat} {ρ : En} {st : Stt} (hk : k < 100000000) (h : I k ρ st) : ∃ ρ' st', sWhile c f ρ st = .nx ρ' st' ∧ Q ρ' st' := whileF_inv I Q step WN k ρ st hk h
/-! ### for, one after another -/
@[simp] theorem forF_nil (g : XG) (f : XS) (ρ : En) (st : Stt) : forF (fun _ => True) g f [] ρ st = .nx ρ st := by unfold forF; simp
theorem forF_cons (g : XG) (f : XS) (d : D) (ds : List D) (ρ : En) (st : Stt) : forF (fun _ => True) g f (d :: ds) ρ st = match g d ρ with
    | none => .no
    | some ρ1 => match f ρ1 st with
      | .nx ρ' st' => forF (fun _ => True) g f ds ρ' st'
      | .ct ρ' st' => forF (fun _ => True) g f ds ρ' st'
      | .bk ρ' st' => .nx ρ' st'
      | r => r := by
  conv => lhs; unfold forF
  rw [if_pos trivial]
  all_goals rfl
@[simp] theorem compF_nil {L : Nat} (g : XG) (t : XT) (f : XE) (ρ : En) (st : Stt) : compF L (fun _ => True) g t f ρ [] st = .ok () st := by unfold compF; simp
theorem compF_cons {L : Nat} (g : XG) (t : XT) (f : XE) (ρ : En) (d : D) (ds : List D) (st : Stt) : compF L (fun _ => True) g t f ρ (d :: ds) st = match g d ρ with
    | none => .no
    | some ρ1 => match t ρ1 st with
      | .ok true s => (match f ρ1 s with
        | .ok y s2 => (match lstAt s2 (.loc L) with
          | some p => if p.2.length < sizeLine then compF L (fun _ => True) g t f ρ ds (s2.set L (.lst (p.2 ++ [y]))) else .no
          | none => .no)
        | _ => .no)
      | .ok false s => compF L (fun _ => True) g t f ρ ds s
      | _ => .no := by
  conv => lhs; unfold compF
  rw [if_pos trivial]
  all_goals rfl
/-! ### texts by their codes -/
@[simp] theorem app_l (x y : List Nat) : (⟨x.toArray⟩ : Str) ++ ⟨y.toArray⟩ = ⟨(x ++ y).toArray⟩ := by
  show (⟨x.toArray ++ y.toArray⟩ : Str) = _
  simp
@[simp] theorem len_l (x : List Nat) : (⟨x.toArray⟩ : Str).length = x.length := by show x.toArray.size = _; simp
@[simp] theorem cps_l (x : List Nat) : (⟨x.toArray⟩ : Str).cps.toList = x := (rfl)
theorem empty_l : Str.empty = ⟨([] : List Nat).toArray⟩ := (rfl)
@[simp] theorem beq_l (x y : List Nat) : ((⟨x.toArray⟩ : Str) == ⟨y.toArray⟩) = decide (x = y) := by
  rw [Bool.beq_eq_decide_eq]; simp
theorem join_l (a : List Nat) : ∀ (ys : List (List Nat)), Txt.join ⟨a.toArray⟩ (ys.map fun y => ⟨y.toArray⟩) = ⟨((ys.intersperse a).flatten).toArray⟩
  | [] => by
    show Builtin.Str.glued _ _ = _
    rw [StrLaws.glued_eq_join]; rfl
  | [y] => by
    show Builtin.Str.glued _ _ = _
    rw [StrLaws.glued_eq_join]
    show (⟨y.toArray⟩ : Str) = _
    simp
  | y :: z :: r => by
    have ih := join_l a (z :: r)
    unfold Txt.join at ih ⊢
    rw [StrLaws.glued_eq_join] at ih ⊢
    show (⟨y.toArray⟩ : Str) ++ ⟨a.toArray⟩ ++ Str.join _ _ = _
    rw [ih]
    simp
@[simp] theorem txts_l (ys : List (List Nat)) : txts (ys.map fun y => .str ⟨y.toArray⟩) = some (ys.map fun y => ⟨y.toArray⟩) := by
  induction ys with
  | nil => rfl
  | cons y ys ih => show (txts (ys.map _)).map _ = _; rw [ih]; rfl
@[simp] theorem inTxt_1 (c : Nat) (z : Str) : inTxt ⟨#[c]⟩ z = decide (c ∈ z.cps.toList) := (rfl)
@[simp] theorem inOf_ss (st : Stt) (i j : Str) : inOf st (.str i) (.str j) = some (inTxt i j) := (rfl)
@[simp] theorem inOf_st (st : Stt) (x : Str) (ds : List D) : inOf st (.str x) (.tup ds) = (ds.mapM fv).map fun ws => inV (.str x) ws := (rfl)
@[simp] theorem fv_str (x : Str) : fv (.str x) = some (.str x) := (rfl)
@[simp] theorem inV_nil (x : V) : inV x [] = false := (rfl)
@[simp] theorem inV_str (x y : Str) (ws : List V) : inV (.str x) (.str y :: ws) = ((x == y) || inV (.str x) ws) := by
  show (eqV (.str y) (.str x) || _) = _
  have : eqV (.str y) (.str x) = (x == y) := by
    rw [Bool.eq_iff_iff]
    first
    | (show (y == x) = true ↔ (x == y) = true; rw [beq_iff_eq, beq_iff_eq]; exact eq_comm)
    | (simp [eqV]; exact eq_comm)
  rw [this]; rfl
@[simp] theorem oIn_run (x y : D) (st : Stt) : oIn x y st = (inOf st x y).map fun b => (.bl b, st) := (rfl)
@[simp] theorem oNotIn_run (x y : D) (st : Stt) : oNotIn x y st = (inOf st x y).map fun b => (.bl !b, st) := (rfl)
@[simp] theorem oIsi_run (T : String) (d : D) (st : Stt) : oIsi T d st = (tyD st d).bind fun t => (kitB t T).map fun b => (.bl b, st) := (rfl)
@[simp] theorem oWGet_run (kvs : List (Str × D)) (z : Str) (st : Stt) : oWGet kvs (.str z) st = (wget kvs z).map fun d => (d, st) := (rfl)
@[simp] theorem oWHas_run (kvs : List (Str × D)) (z : Str) (st : Stt) : oWHas kvs (.str z) st = some (.bl (wget kvs z).isSome, st) := (rfl)
@[simp] theorem wget_nil (z : Str) : wget [] z = none := (rfl)
@[simp] theorem wget_cons (k : Str) (d : D) (kvs : List (Str × D)) (z : Str) : wget ((k, d) :: kvs) z = if (k == z) = true then some d else wget kvs z := by
  unfold wget
  rw [List.find?_cons]
  cases h : k == z <;> simp [h]
@[simp] theorem mJoin_run (a : Str) (d : D) (st : Stt) : mJoin (.str a) [d] st = (items st d).bind fun ds => (txts ds).bind fun ys => if (ys.map (·.length)).sum + ys.length * a.length ≤ 16777216 then some (.str (Txt.join a ys), st) else none := (rfl)
@[simp] theorem oIsN_run (x : D) (st : Stt) : oIsN x .non st = some (.bl (isNon x), st) := (rfl)
@[simp] theorem oNotN_run (x : D) (st : Stt) : oNotN x .non st = some (.bl (!isNon x), st) := (rfl)
@[simp] theorem isNon_non : isNon .non = true := (rfl)
@[simp] theorem isNon_tup (x : List D) : isNon (.tup x) = false := (rfl)
@[simp] theorem isNon_str (x : Str) : isNon (.str x) = false := (rfl)
@[simp] theorem isNon_loc (x : Nat) : isNon (.loc x) = false := (rfl)
@[simp] theorem isNon_int (x : Int) : isNon (.int x) = false := (rfl)
@[simp] theorem isNon_bl (x : Bool) : isNon (.bl x) = false := (rfl)
@[simp] theorem oNeg_i (i : Int) (st : Stt) : oNeg (.int i) st = some (.int (-i), st) := (rfl)
theorem gT_run (vs : List Nat) (ds : List D) (ρ : En) : gT vs (.tup ds) ρ = if ds.length = vs.length then some (List.foldl (fun (r : En) (p : Nat × D) => r.set p.1 (some p.2)) ρ (vs.zip ds)) else none := (rfl)
@[simp] theorem gOut_run (g : XG) (ρ : En) (d : D) (s : Stt) : gOut g ρ d s = match g d ρ with | some ρ' => .nx ρ' s | none => .no := by unfold gOut; cases g d ρ <;> rfl
@[simp] theorem kit_str_str : kitB "str" "str" = some true := by decide +kernel
@[simp] theorem kit_str_tuple : kitB "str" "tuple" = some false := by decide +kernel
@[simp] theorem kit_str_list : kitB "str" "list" = some false := by decide +kernel
@[simp] theorem kit_str_int : kitB "str" "int" = some false := by decide +kernel
@[simp] theorem kit_str_dict : kitB "str" "dict" = some false := by decide +kernel
@[simp] theorem kit_str_bool : kitB "str" "bool" = some false := by decide +kernel
@[simp] theorem kit_tuple_str : kitB "tuple" "str" = some false := by decide +kernel
@[simp] theorem kit_tuple_tuple : kitB "tuple" "tuple" = some true := by decide +kernel
@[simp] theorem kit_tuple_list : kitB "tuple" "list" = some false := by decide +kernel
@[simp] theorem kit_tuple_int : kitB "tuple" "int" = some false := by decide +kernel
@[simp] theorem kit_tuple_dict : kitB "tuple" "dict" = some false := by decide +kernel
@[simp] theorem kit_tuple_bool : kitB "tuple" "bool" = some false := by decide +kernel
@[simp] theorem kit_list_str : kitB "list" "str" = some false := by decide +kernel
@[simp] theorem kit_list_tuple : kitB "list" "tuple" = some false := by decide +kernel
@[simp] theorem kit_list_list : kitB "list" "list" = some true := by decide +kernel
@[simp] theorem kit_list_int : kitB "list" "int" = some false := by decide +kernel
@[simp] theorem kit_list_dict : kitB "list" "dict" = some false := by decide +kernel
@[simp] theorem kit_list_bool : kitB "list" "bool" = some false := by decide +kernel
@[simp] theorem kit_int_str : kitB "int" "str" = some false := by decide +kernel
@[simp] theorem kit_int_tuple : kitB "int" "tuple" = some false := by decide +kernel
@[simp] theorem kit_int_list : kitB "int" "list" = some false := by decide +kernel
@[simp] theorem kit_int_int : kitB "int" "int" = some true := by decide +kernel
@[simp] theorem kit_int_dict : kitB "int" "dict" = some false := by decide +kernel
@[simp] theorem kit_int_bool : kitB "int" "bool" = some false := by decide +kernel
@[simp] theorem kit_bool_str : kitB "bool" "str" = some false := by decide +kernel
@[simp] theorem kit_bool_tuple : kitB "bool" "tuple" = some false := by decide +kernel
@[simp] theorem kit_bool_list : kitB "bool" "list" = some false := by decide +kernel
@[simp] theorem kit_bool_int : kitB "bool" "int" = some true := by decide +kernel
@[simp] theorem kit_bool_dict : kitB "bool" "dict" = some false := by decide +kernel
@[simp] theorem kit_bool_bool : kitB "bool" "bool" = some true := by decide +kernel
@[simp] theorem kit_NoneType_str : kitB "NoneType" "str" = some false := by decide +kernel
@[simp] theorem kit_NoneType_tuple : kitB "NoneType" "tuple" = some false := by decide +kernel
@[simp] theorem kit_NoneType_list : kitB "NoneType" "list" = some false := by decide +kernel
@[simp] theorem kit_NoneType_int : kitB "NoneType" "int" = some false := by decide +kernel
@[simp] theorem kit_NoneType_dict : kitB "NoneType" "dict" = some false := by decide +kernel
@[simp] theorem kit_NoneType_bool : kitB "NoneType" "bool" = some false := by decide +kernel
@[simp] theorem kit_dict_str : kitB "dict" "str" = some false := by decide +kernel
@[simp] theorem kit_dict_tuple : kitB "dict" "tuple" = some false := by decide +kernel
@[simp] theorem kit_dict_list : kitB "dict" "list" = some false := by decide +kernel
@[simp] theorem kit_dict_int : kitB "dict" "int" = some false := by decide +kernel
@[simp] theorem kit_dict_dict : kitB "dict" "dict" = some true := by decide +kernel
@[simp] theorem kit_dict_bool : kitB "dict" "bool" = some false := by decide +kernel
@[simp] theorem szl : sizeLine = 16777216 := sizeLine_eq
@[simp] theorem bools_nil : bools [] = some [] := (rfl)
@[simp] theorem bools_cons (b : Bool) (r : List D) : bools (.bl b :: r) = (bools r).map (b :: ·) := (rfl)
@[simp] theorem fAll_at (st : Stt) (n : Nat) : fAll [.loc n] st = match st[n]? with | some (.lst ds) => (bools ds).map fun bs => (.bl (bs.all id), st) | _ => none := by
  show (items st (.loc n)).bind _ = _
  rw [items_at]
  cases h : st[n]? with
  | none => simp
  | some o => cases o <;> simp
@[simp] theorem signs_l (l : List Nat) : Rg.signs ⟨l.toArray⟩ = l.map fun c => D.str ⟨#[c]⟩ := (rfl)
@[simp] theorem sIx_none' (n d : Nat) : HT.sIx n d none = d := (rfl)
@[simp] theorem sIx_some' (n d : Nat) (v : Int) : HT.sIx n d (some v) = if v < 0 then (v + (n : Int)).toNat else min v.toNat n := (rfl)
@[simp] theorem cutD_run (ds : List D) (lo hi : Option Int) : cutD ds lo hi = (ds.drop (HT.sIx ds.length 0 lo)).take (HT.sIx ds.length ds.length hi - HT.sIx ds.length 0 lo) := (rfl)
@[simp] theorem oSlA_tup (ds : List D) (lo hi : Option Int) (st : Stt) : oSlA (.tup ds) lo hi st = some (.tup (cutD ds lo hi), st) := (rfl)
@[simp] theorem oSlA_str (z : Str) (lo hi : Option Int) (st : Stt) : oSlA (.str z) lo hi st = if z.length ≤ sizeLine then some (.str (cutS z lo hi), st) else none := (rfl)
@[simp] theorem fListE_tup (ds : List D) (st : Stt) : fListE [.tup ds] st = some (.loc st.length, st ++ [.lst ds]) := (rfl)
@[simp] theorem fListE_cl (ds : List D) (st : Stt) : fListE [.cl ds] st = some (.loc st.length, st ++ [.lst ds]) := (rfl)
@[simp] theorem fListE_at (st : Stt) (n : Nat) : fListE [.loc n] st = match st[n]? with | some (.lst ds) => some (.loc st.length, st ++ [.lst ds]) | some (.dct kvs) => some (.loc st.length, st ++ [.lst (kvs.map fun kv => kD kv.1)]) | _ => none := by
  unfold fListE fList
  simp only [dctAt_at, items_at]
  cases h : st[n]? with
  | none => simp
  | some o => cases o <;> simp
theorem whileF_succ (c : XT) (f : XS) (m : Nat) (ρ : En) (st : Stt) : whileF c f (m + 1) ρ st = (c ρ st).out ρ fun b s => if b = true then (match f ρ s with
      | .nx ρ' st' => whileF c f m ρ' st'
      | .ct ρ' st' => whileF c f m ρ' st'
      | .bk ρ' st' => .nx ρ' st'
      | r => r) else .nx ρ s := (rfl)
theorem sWhile_two : ∃ N : Nat, ∀ (c : XT) (f : XS) (ρ : En) (st : Stt), sWhile c f ρ st = whileF c f (N + 1 + 1) ρ st := ⟨99999998, fun _ _ _ _ => rfl⟩
@[simp] theorem xTupRg_run (fa fb : XE) (ρ : En) (st : Stt) : xTupRg fa fb ρ st = (fa ρ st).bind fun x s => (fb ρ s).bind fun y s => mkRgT x y s := (rfl)
@[simp] theorem xLstRg_run (fa fb : XE) (ρ : En) (st : Stt) : xLstRg fa fb ρ st = (fa ρ st).bind fun x s => (fb ρ s).bind fun y s => mkRgL x y s := (rfl)
@[simp] theorem mkRgT_run (i j : Int) (st : Stt) : mkRgT (.int i) (.int j) st = if rgOk i j then .ok (.tup (rgD i j)) st else .no := Eq.trans rfl rfl
@[simp] theorem mkRgL_run (i j : Int) (st : Stt) : mkRgL (.int i) (.int j) st = if rgOk i j then .ok (.loc st.length) (st ++ [.lst (rgD i j)]) else .no := Eq.trans rfl rfl
@[simp] theorem xSorSet_run (f : XE) (ρ : En) (st : Stt) : xSorSet f ρ st = (f ρ st).bind fun d s => fSorSet s d := (rfl)
@[simp] theorem xLenSet_run (f : XE) (ρ : En) (st : Stt) : xLenSet f ρ st = (f ρ st).bind fun d s => fLenSet s d := (rfl)
@[simp] theorem fSorSet_at (st : Stt) (n : Nat) : fSorSet st (.loc n) = match st[n]? with | some (.lst ds) => (match txts ds with | some xs => if xs.length < 64 then .ok (.loc st.length) (st ++ [.lst ((sortS (dedT xs)).map D.str)]) else .no | none => .no) | _ => .no := by
  unfold fSorSet
  rw [litems_at]
  cases h : st[n]? with
  | none => simp
  | some o => cases o <;> simp <;> rfl
@[simp] theorem fSorted_at (st : Stt) (n : Nat) : fSorted [.loc n] st = match st[n]? with
    | some (.lst ds) => (sortD ds).map fun es => (.loc st.length, st ++ [.lst es])
    | some (.dct kvs) => (sortK (kvs.map (·.1))).map fun ds => (.loc st.length, st ++ [.lst ds])
    | _ => none := by
  unfold fSorted
  simp only [dctAt_at, litems_at]
  cases h : st[n]? with
  | none => simp
  | some o => cases o <;> simp
@[simp] theorem fDict_at (st : Stt) (n : Nat) : fDict [.loc n] st = match st[n]? with | some (.lst ds) => (pairsD ds).map fun kvs => (.loc st.length, st ++ [.dct (mergeD kvs)]) | _ => none := by
  unfold fDict
  simp only [litems_at]
  cases h : st[n]? with
  | none => simp
  | some o => cases o <;> simp
@[simp] theorem wipeD_nil (ρ : En) : wipeD ρ [] = ρ := (rfl)
@[simp] theorem wipeD_cons (ρ : En) (v : Nat) (vs : List Nat) : wipeD ρ (v :: vs) = (wipeD ρ vs).set v none := (rfl)
end Rg

set_option Elab.async false
set_option linter.all false
set_option maxRecDepth 100000
set_option maxHeartbeats 1000000
namespace Rg
open PySem PySem.Spec PyProof.Rows L2
/-! ### exceptions -/
section
variable {X : Cx} {C : Addr} {bmB : List Value} {B newId initId : String}
/-- X() -/
theorem pmk_own0 {x : Str} {p pos : Pos} (F : ExcBaseFacts B newId initId bmB) (q : PySem.W.excIn X.K C bmB newId = true) (gC : X.mg x = some (.ref C)) (kC : PySem.W.keepIn X.K (.ref C) = true) (r : Raises X (.ref C)) (hg : Gl X x)
    (hdb : (x == ("__debug__" : Str)) = false := by decide) : PMk X (.Call (.Name x p) [] [] pos) (fun _ H Q => Q (.ref C) none H) := by
  intro pins s σ H Q I h
  refine wpAny_Call_Name_kw (ld_glob I hg gC ?_ hdb)
  refine PySem.W.callWith_K0 I.kIn kC ?_
  obtain ⟨bm, N, nm, qn, bs, hdct, sn, sub, ab, col, dd, k0, k1, k2, k3, k5, mN, hC, hN, hni, T⟩ := exc_obj I.kIn q
  refine wpAny_call_exc_subT F T hC hN hni (fun h' e hm => ?_) (by show 0 ≤ sizeLine; rw [sizeLine_eq]; omega)
  exact mk_of I hm r h (I.hok.gone hm.new)
end
def sRaise (C : Addr) : XS := fun ρ st => .xx ρ ⟨C, none⟩ st
/-- what a class of the program's errors must say -/
structure ExK (K : PySem.W.Frag) (C : Addr) : Prop where
  q : PySem.W.excIn K C [.type "ValueError", .type "Exception", .type "BaseException", .type "object"] "ValueError.__new__" = true
  kp : PySem.W.keepIn K (.ref C) = true
  b : PySem.W.subIn K (.ref C) (.type "BaseException") = some true
  t : PySem.W.typeIn K (.ref C) = some (.type "type")
section
variable {X : Cx} {x : Str} {p np pos pos' : Pos} {W : WX} {C : Addr}
theorem s_raise0 (E : ExK X.K C) (hc : X.calm = true) (tk : L2.Takes X W) (gC : X.mg x = some (.ref C)) (hg : Gl X x := by rfl) (hdb : (x == ("__debug__" : Str)) = false := by decide) :
    PS X (.Raise (some (.Call (.Name x p) [] [] pos')) none pos) (tXS X.K W (sRaise C)) :=
  ps_imp (ps_raise hc tk (pmk_own0 PySem.F.excBase_ValueError E.q gC E.kp (raises_own E.b E.t) hg hdb)) fun D' σ H ⟨ρ, s, μ, ER', S, h⟩ => h σ H μ (Ext.refl _ _) ER' S none rfl
/-- the suite lets nothing out -/
def noX : Out → Out
  | .xx _ _ _ => .no
  | o => o
def clr (i : Nat) : Out → Out
  | .nx ρ st => .nx (ρ.set i none) st
  | .bk ρ st => .bk (ρ.set i none) st
  | .ct ρ st => .ct (ρ.set i none) st
  | o => o
/-- what stands in the name: an exception without fields, or one with these in its dict -/
def excD (a dd : Addr) (e : Exn) : D := match e.fs with
  | none => .opq a
  | some fs => .exo a dd (fs.map (·.1)) (fs.map (·.2))
/-- its dict, as the suite knows it -/
def XLk (e : Exn) (d : Option Addr) (dd : Addr) : Prop := match e.fs with
  | none => d = none
  | some _ => d = some dd
open Classical in
noncomputable def common (g : Addr × Addr → Out) : Out := if h : ∃ o, ∀ a, g a = o then h.choose else .no
theorem common_all {g : Addr × Addr → Out} (a : Addr × Addr) (h : common g ≠ .no) : g a = common g := by
  unfold common at h ⊢
  split at h
  · rename_i q
    rw [dif_pos q]
    exact q.choose_spec a
  · exact absurd rfl h
theorem common_of {g : Addr × Addr → Out} {o : Out} (h : ∀ a, g a = o) : common g = o := by
  have q : ∃ o, ∀ a, g a = o := ⟨o, h⟩
  unfold common
  rw [dif_pos q]
  have := q.choose_spec (0, 0)
  rw [h] at this
  exact this.symm
theorem fr_split {K : PySem.W.Frag} {H : Hp} {μ : List Addr} : ∀ {fs : List (Str × D)} {vs : List (Str × V)}, FR K H μ fs vs → Rls K H μ (fs.map (·.2)) (vs.map (·.2)) ∧ vs = (fs.map (·.1)).zip (vs.map (·.2))
  | _, _, .nil => ⟨.nil, rfl⟩
  | _, _, .cons (a := p) (b := q) r t => by
    obtain ⟨h1, h2⟩ := fr_split t
    refine ⟨.cons r.2 h1, ?_⟩
    simp only [List.map_cons, List.zip_cons_cons]
    rw [← h2, r.1]
theorem xr_excD {K : PySem.W.Frag} {H : Hp} {μ : List Addr} {e : Exn} {d : Option Addr} (h : XR K H μ e d) (a : Addr) : ∃ dd, XLk e d dd ∧ Rl K H μ (excD a dd e) (.ref a) := by
  unfold XR at h
  unfold XLk excD
  cases e1 : e.fs with
  | none => rw [e1] at h; exact ⟨0, h, .opq a⟩
  | some fs =>
    rw [e1] at h
    obtain ⟨dd, vs, h1, h2, h3⟩ := h
    obtain ⟨r, q⟩ := fr_split h3
    exact ⟨dd, h1, .exo (by rw [← q]; exact h2) r⟩
/-- try: f except C: g -/
def sTry0 (ca : Addr → Option Bool) (f g : XS) : XS := fun ρ st => match f ρ st with
  | .xx ρ' e s => (match ca e.cls with
    | some true => noX (g ρ' s)
    | some false => .xx ρ' e s
    | none => .no)
  | o => o
noncomputable def sTryA (ca : Addr → Option Bool) (i : Nat) (f : XS) (g : Addr × Addr → Exn → XS) : XS := fun ρ st => match f ρ st with
  | .xx ρ' e s => (match ca e.cls with
    | some true => common fun a => clr i (noX (g a e (ρ'.set i (some (excD a.1 a.2 e))) s))
    | some false => .xx ρ' e s
    | none => .no)
  | o => o
theorem outOk_noX {K : PySem.W.Frag} {W : WX} {D' : Ends} {H : Hp} {μ : List Addr} : ∀ {o : Out}, outOk K W D' H μ (noX o) → outOk K W0 D' H μ o
  | .no, h => h
  | .nx _ _, h => h
  | .rt _ _, h => h
  | .bk _ _, h => h
  | .ct _ _, h => h
  | .xx _ _ _, h => h.elim
theorem outOk_clr {K : PySem.W.Frag} {W : WX} {D' : Ends} {H : Hp} {μ : List Addr} {i : Nat} : ∀ {o : Out}, outOk K W D' H μ (clr i o) → outOk K W { nx := fun σ' H' => D'.nx (σ'.set i none) H', rt := D'.rt, bk := fun σ' H' => D'.bk (σ'.set i none) H', ct := fun σ' H' => D'.ct (σ'.set i none) H' } H μ o
  | .no, h => h
  | .nx _ _, h => fun σ H' μ' e E S => h (σ.set i none) H' μ' e (E.none i) S
  | .rt _ _, h => h
  | .bk _ _, h => fun σ H' μ' e E S => h (σ.set i none) H' μ' e (E.none i) S
  | .ct _ _, h => fun σ H' μ' e E S => h (σ.set i none) H' μ' e (E.none i) S
  | .xx _ _ _, h => h
/-- what is wished where e is caught -/
def tSu (K : PySem.W.Frag) (f : Exn → XS) (cls : Value) (d : Option Addr) : L2.TS := fun D' σ H => ∃ ρ st μ e, ER K H μ ρ σ ∧ SR K H μ st ∧ cls = .ref e.cls ∧ XR K H μ e d ∧ outOk K W0 D' H μ (f e ρ st)
variable {body suite : List Stmt} {b₀ : Stmt} {n : Str} {fb : XS} {ca : Addr → Option Bool}
theorem s_try0 {fs : XS} (hs : X.stack = X.env :: X.outer) (hf : X.env.frame = some X.env.locals) (hc : Names X x (.ref C)) (hca : ∀ D b, ca D = some b → PySem.W.exmOne X.K (.ref D) (.ref C) = some b) (tk : L2.Takes X W)
    (hb : ∀ (W : WX) (pn : List (Addr × Obj)) (xe : Value → Shared → Prop), L2.Takes (X.tr pn xe) W → PassesOwn (model X.prog X.w) X.A X.env xe → PSs (X.tr pn xe) body (tXS X.K W fb))
    (hsu : ∀ (a : Addr) (oe : Obj) (pn : List (Addr × Obj)), PSs (X.suite a ((a, oe) :: pn)) (b₀ :: suite) (tXS X.K W0 fs)) :
    PS X (.Try body [.ExceptHandler (some (.Name x np)) none (b₀ :: suite) pos'] [] [] pos) (tXS X.K W (sTry0 ca fb fs)) := by
  refine ps_imp (ps_try_only (tb := fun W => tXS X.K W fb) (ts := fun _ _ _ => tXS X.K W0 fs) hs hf hc tk hb (fun a oe cls d pn _ _ => hsu a oe pn)) fun D' σ H ⟨ρ, s, μ, E, S, h⟩ => ?_
  unfold sTry0 at h
  refine ⟨ρ, s, μ, E, S, ?_⟩
  cases e1 : fb ρ s with
  | no => rw [e1] at h; exact h
  | nx ρ' s' => rw [e1] at h; exact h
  | rt d s' => rw [e1] at h; exact h
  | bk ρ' s' => rw [e1] at h; exact h
  | ct ρ' s' => rw [e1] at h; exact h
  | xx ρ' e s' =>
    rw [e1] at h
    intro σ' H' μ' ex E' S' d hd
    dsimp only at h
    cases hm : ca e.cls with
    | none => rw [hm] at h; exact h.elim
    | some b =>
      rw [hm] at h
      refine ⟨b, hca _ _ hm, fun hb' a ha => ?_, fun hb' => ?_⟩
      · subst hb'
        exact ⟨ρ', s', μ', E', S', outOk.at ex (outOk_noX h)⟩
      · subst hb'
        exact h σ' H' μ' ex E' S' d hd
theorem pss_ex {Y : Cx} {l : List Stmt} {α : Type} {P : α → Prop} {t : α → L2.TS} (h : ∀ e, P e → PSs Y l (t e)) : PSs Y l (fun D σ H => ∃ e, P e ∧ t e D σ H) := ⟨fun pins s σ H D I ⟨e, p, q⟩ => (h e p).run pins s σ H D I q⟩
theorem s_tryA (i : Nat) {fs : Addr × Addr → Exn → XS} (hN : X.N.Nodup) (hs : X.stack = X.env :: X.outer) (hf : X.env.frame = some X.env.locals) (hi : X.N[i]? = some n) (hln : X.env.kindOf n = some .local) (hc : Names X x (.ref C)) (hca : ∀ D b, ca D = some b → PySem.W.exmOne X.K (.ref D) (.ref C) = some b) (tk : L2.Takes X W)
    (hb : ∀ (W : WX) (pn : List (Addr × Obj)) (xe : Value → Shared → Prop), L2.Takes (X.tr pn xe) W → PassesOwn (model X.prog X.w) X.A X.env xe → PSs (X.tr pn xe) body (tXS X.K W fb))
    (hsu : ∀ (a dd : Addr) (oe : Obj) (d : Option Addr) (pn : List (Addr × Obj)) (e : Exn), Zc (.ref e.cls) d oe → (∃ vs, oe.data = .fields vs) → XLk e d dd → PSs (X.suite a ((a, oe) :: pn)) (b₀ :: suite) (tXS X.K W0 (fs (a, dd) e))) :
    PS X (.Try body [.ExceptHandler (some (.Name x np)) (some n) (b₀ :: suite) pos'] [] [] pos) (tXS X.K W (sTryA ca i fb fs)) := by
  refine ps_imp (ps_try_as (i := i) (tb := fun W => tXS X.K W fb) (ts := fun a cls d D' σ H => ∃ p : Exn × Addr, (cls = .ref p.1.cls ∧ XLk p.1 d p.2) ∧ tXS X.K W0 (fs (a, p.2) p.1) D' σ H) hs hf hN hi hln hc tk hb
    (fun a oe cls d pn hz hv => pss_ex fun p ⟨he, hd⟩ => hsu a p.2 oe d pn p.1 (by rw [← he]; exact hz) hv hd)) fun D' σ H ⟨ρ, s, μ, E, S, h⟩ => ?_
  unfold sTryA at h
  refine ⟨ρ, s, μ, E, S, ?_⟩
  cases e1 : fb ρ s with
  | no => rw [e1] at h; exact h
  | nx ρ' s' => rw [e1] at h; exact h
  | rt d s' => rw [e1] at h; exact h
  | bk ρ' s' => rw [e1] at h; exact h
  | ct ρ' s' => rw [e1] at h; exact h
  | xx ρ' e s' =>
    rw [e1] at h
    intro σ' H' μ' ex E' S' d hd
    dsimp only at h
    cases hm : ca e.cls with
    | none => rw [hm] at h; exact h.elim
    | some b =>
      rw [hm] at h
      refine ⟨b, hca _ _ hm, fun hb' a ha => ?_, fun hb' => ?_⟩
      · subst hb'
        have h : outOk X.K W D' H μ (common fun a => clr i (noX (fs a e (ρ'.set i (some (excD a.1 a.2 e))) s'))) := h
        have hne : (common fun a => clr i (noX (fs a e (ρ'.set i (some (excD a.1 a.2 e))) s'))) ≠ .no := fun z => by rw [z] at h; exact h
        obtain ⟨dd, lk, rx⟩ := xr_excD hd a
        rw [← common_all (a, dd) hne] at h
        exact ⟨(e, dd), ⟨rfl, lk⟩, ρ'.set i (some (excD a dd e)), s', μ', E'.set rx i, S', outOk.at ex (outOk_noX (W := W) (outOk_clr h))⟩
      · subst hb'
        exact h σ' H' μ' ex E' S' d hd
/-- isinstance(e, T) of what is caught -/
def isE (sub : Option Bool) (p : Addr × Addr) (e : Exn) (x : D) (s : Stt) : R D := match x, sub with
  | .opq a', some b => if a' = p.1 ∧ e.fs.isNone = true then .ok (.bl b) s else .no
  | .exo a' dd' _ _, some b => if (a' = p.1 ∧ dd' = p.2) ∧ e.fs.isSome = true then .ok (.bl b) s else .no
  | _, _ => .no
def xIsE (sub : Option Bool) (p : Addr × Addr) (e : Exn) (i : Nat) : XE := fun ρ st => (xV i ρ st).bind (isE sub p e)
theorem inst_exd {Y : Cx} {pins : List (Addr × Obj)} {σ : L2.St} {H : Hp} {s : Shared} {a dd D : Addr} {oe : Obj} {vs : List (Str × V)} (I : Inv Y pins σ H s) (hg : s.heap.get? a = some oe) (hz : Zc (.ref D) (some dd) oe) (hf : ∃ vs, oe.data = .fields vs) (hx : H dd = some (.xd vs)) : ∃ od, PySem.W.InstAt s.heap a oe D (some od) := by
  obtain ⟨mA, hns, _⟩ := (I.hok dd _ hx : ObjOk Y.prog Y.w H s.heap dd (.xd vs))
  obtain ⟨od, ho, _⟩ := lookIn_ns hns
  obtain ⟨ws, hw⟩ := hf
  exact ⟨od, hg, hz.1, (by unfold PySem.W.notCls; rw [hw] <;> rfl), (by rw [hz.2]; exact ho)⟩
def rIsEd (K : PySem.W.Frag) (D a dd : Addr) : List V → Hp → VK → Prop := fun xs H Q => (∃ vs, H dd = some (.xd vs)) ∧ ∃ (c : V) (cv : Value) (b : Bool), xs = [.ref a, c] ∧ (∀ u, RelV c u → u = cv) ∧ PySem.W.kitOne K (.ref D) cv = some b ∧ Q (.bl b) H
theorem call_isEd {X : Cx} {a dd D : Addr} {oe : Obj} {pn : List (Addr × Obj)} (C : ExcC X.K D) (hz : Zc (.ref D) (some dd) oe) (hf : ∃ vs, oe.data = .fields vs) : CallR (X.suite a ((a, oe) :: pn)) (.builtin "isinstance") (rIsEd X.K D a dd) := by
  intro pins s σ H xs us Q I r ⟨⟨vs, hx⟩, c, cv, b, exs, hcv, e, q⟩
  subst exs
  have hcl : (PySem.W.clsIn X.K D).isSome = true := by
    obtain ⟨_, h1, _⟩ := PySem.W.any_some C.hd
    rw [h1] <;> rfl
  match us, r with
  | _, .cons rx (.cons rt .nil) =>
    cases rx
    cases (hcv _ rt : _ = cv)
    obtain ⟨od, J⟩ := inst_exd I (I.pin (a, oe) (List.mem_append.mpr (.inl List.mem_cons_self))).1 hz hf hx
    refine PySem.W.kia_one (PySem.W.kitx_exc hcl C.hg C.hk C.hs C.ha C.hn C.ht C.hm) I.kIn J e (fun z => nomatch z) fun tk => ?_
    exact ⟨.bl b, H, I.kept (t' := tk) (fun _ _ z => z), rfl, q⟩
theorem e_isE {Y : Cx} {a dd T : Addr} {oe : Obj} {pn : List (Addr × Obj)} {d : Option Addr} {e : Exn} {ea : Expr} {i : Nat} {y : Str} {p2 pos2 : Pos} {sub : Option Bool} (hY : Y = X.suite a ((a, oe) :: pn)) (hz : Zc (.ref e.cls) d oe) (hf : ∃ vs, oe.data = .fields vs) (hd : XLk e d dd)
    (hs : ∀ b, sub = some b → ExcC X.K e.cls ∧ PySem.W.kitOne X.K (.ref e.cls) (.ref T) = some b)
    (he : PE Y ea (tX Y.K W (xV i))) (hm : Y.mg "isinstance" = none) (hT : Y.mg y = some (.ref T)) (hg : Gl Y "isinstance" := by rfl) (hg2 : Gl Y y := by rfl) (hdb : (y == ("__debug__" : Str)) = false := by decide)
    (hst : starEach [ea, .Name y p2] Y.env = (false, eval ea Y.env) :: starEach [.Name y p2] Y.env := by rfl) (hpl : (backTo pos2 (starEach [.Name y p2] Y.env)).any (·.1) = false := by rfl) :
    PE Y (.Call (.Name "isinstance" p) [ea, .Name y p2] [] pos2) (tX Y.K W (xIsE sub (a, dd) e i)) := by
  refine ⟨fun pins s σ H Q I ⟨ρ, st, μ, E, S, h⟩ => ?_⟩
  subst hY
  have key : ∃ b x, sub = some b ∧ xV i ρ st = .ok x st ∧ ((x = .opq a ∧ e.fs = none) ∨ ∃ ks ds, x = .exo a dd ks ds ∧ e.fs.isSome = true) ∧ RO X.K (wx X.K W σ) H μ (QD X.K Q) (.ok (.bl b) st) := by
    unfold xIsE at h
    cases e1 : xV i ρ st with
    | no => rw [e1] at h; exact h.elim
    | ex x s => unfold xV at e1; split at e1 <;> cases e1
    | ok x s =>
      have es : s = st := by unfold xV at e1; split at e1 <;> cases e1; rfl
      subst es
      rw [e1] at h
      have h2 : RO X.K (wx X.K W σ) H μ (QD X.K Q) (isE sub (a, dd) e x s) := h
      clear h
      unfold isE at h2
      split at h2
      · split at h2
        · rename_i hq
          obtain ⟨rfl, hn⟩ := hq
          exact ⟨_, _, rfl, rfl, .inl ⟨rfl, Option.isNone_iff_eq_none.mp hn⟩, h2⟩
        · exact h2.elim
      · split at h2
        · rename_i hq
          obtain ⟨⟨rfl, rfl⟩, hn⟩ := hq
          exact ⟨_, _, rfl, rfl, .inr ⟨_, _, rfl, hn⟩, h2⟩
        · exact h2.elim
      · exact h2.elim
  obtain ⟨b, x, e1, e3, e2, h⟩ := key
  obtain ⟨hC, hk⟩ := hs b e1
  unfold XLk at hd
  rcases e2 with ⟨rfl, hn⟩ | ⟨ks, ds, rfl, hn⟩
  · rw [hn] at hd
    have hd' : d = none := hd
    subst hd'
    refine (pe_callB (call_isE hC hz hf) hg hm (by decide +kernel) (pa_cons he (pa_cons (pe_glob (v := .ref T) hg2 hT rfl hdb) pa_nil) hst) (by decide) (by decide) hst hpl).run pins s σ H Q I ?_
    refine tX_of E S (P := fun d st' _ _ => d = .opq a ∧ st' = st) (by rw [e3]; exact fun _ _ _ _ => ⟨rfl, rfl⟩) fun x s1 H1 μ1 xv e4 E1 S1 r1 hx => ?_
    obtain ⟨hx, hs1⟩ := hx
    subst hx hs1
    cases r1
    exact ⟨.ref T, .ref T, b, rfl, fun u hu => hu, hk, h H1 μ1 e4 S1 _ (.bl b)⟩
  · obtain ⟨fs, hfs⟩ := Option.isSome_iff_exists.mp hn
    rw [hfs] at hd
    have hd' : d = some dd := hd
    subst hd'
    refine (pe_callB (call_isEd hC hz hf) hg hm (by decide +kernel) (pa_cons he (pa_cons (pe_glob (v := .ref T) hg2 hT rfl hdb) pa_nil) hst) (by decide) (by decide) hst hpl).run pins s σ H Q I ?_
    refine tX_of E S (P := fun d st' _ _ => d = .exo a dd ks ds ∧ st' = st) (by rw [e3]; exact fun _ _ _ _ => ⟨rfl, rfl⟩) fun x s1 H1 μ1 xv e4 E1 S1 r1 hx => ?_
    obtain ⟨hx, hs1⟩ := hx
    subst hx hs1
    cases r1 with
    | exo hxd rr => exact ⟨⟨_, hxd⟩, .ref T, .ref T, b, rfl, fun u hu => hu, hk, h H1 μ1 e4 S1 _ (.bl b)⟩
/-! e.f -/
def fldE (sub : Option Bool) (p : Addr × Addr) (f : Str) (x : D) (s : Stt) (e : Exn) : R D := match x, sub with
  | .exo a' dd' ks ds, some _ => if (a' = p.1 ∧ dd' = p.2) ∧ e.fs.isSome = true then (match (ks.zip ds).lookup f with
    | some d => .ok d s
    | none => .no) else .no
  | _, _ => .no
def xFldE (sub : Option Bool) (p : Addr × Addr) (e : Exn) (f : Str) (i : Nat) : XE := fun ρ st => (xV i ρ st).bind fun x s => fldE sub p f x s e
theorem zip_lookup {K : PySem.W.Frag} {H : Hp} {μ : List Addr} {f : Str} {d : D} : ∀ {ks : List Str} {ds : List D} {vs : List V}, Rls K H μ ds vs → (ks.zip ds).lookup f = some d → ∃ v, (ks.zip vs).lookup f = some v ∧ Rl K H μ d v
  | [], _, _, _, h => by cases h
  | _ :: _, _, _, .nil, h => by cases h
  | k :: ks, _, _, .cons (d := d0) (v := v0) r t, h => by
    rw [List.zip_cons_cons, List.lookup_cons] at h
    rw [List.zip_cons_cons, List.lookup_cons]
    by_cases hk : (f == k) = true
    · rw [hk] at h ⊢
      cases h
      exact ⟨v0, rfl, r⟩
    · have hk : (f == k) = false := by simpa using hk
      rw [hk] at h ⊢
      exact zip_lookup t h
theorem e_fldE {Y : Cx} {a dd : Addr} {oe : Obj} {pn : List (Addr × Obj)} {d : Option Addr} {e : Exn} {ea : Expr} {i : Nat} {f : Str} {pos2 : Pos} {sub : Option Bool} (hY : Y = X.suite a ((a, oe) :: pn)) (hz : Zc (.ref e.cls) d oe) (hf : ∃ vs, oe.data = .fields vs) (hd : XLk e d dd)
    (hs : ∀ b, sub = some b → XfC X.K e.cls ∧ PySem.W.findIn X.K (.ref e.cls) f = some none)
    (he : PE Y ea (tX Y.K W (xV i))) (hb : attributeBase ea f Y.env (eval ea Y.env) = eval ea Y.env := by rfl) :
    PE Y (.Attribute ea f pos2) (tX Y.K W (xFldE sub (a, dd) e f i)) := by
  subst hY
  cases sub with
  | none =>
    refine ⟨fun pins s σ H Q I ⟨ρ, st, μ, E, S, h⟩ => ?_⟩
    exfalso
    unfold xFldE at h
    cases e1 : xV i ρ st with
    | no => rw [e1] at h; exact h
    | ex x s => unfold xV at e1; split at e1 <;> cases e1
    | ok x s => rw [e1] at h; unfold fldE at h; cases x <;> exact h
  | some b =>
    obtain ⟨h1, hno⟩ := hs b rfl
    refine pe_imp (pe_xf h1 hno hz hf he hb) fun σ H Q ⟨ρ, st, μ, E, S, h⟩ => ?_
    refine tX_of E S h.bind fun x s1 H1 μ1 xv e1 E1 S1 r1 h1 => ?_
    unfold fldE at h1
    split at h1
    · rename_i a' dd' ks ds _
      split at h1
      · rename_i hq
        obtain ⟨⟨rfl, rfl⟩, hn⟩ := hq
        split at h1
        · rename_i y hy
          cases r1 with
          | exo hx rr =>
            obtain ⟨v, hv, rv⟩ := zip_lookup rr hy
            obtain ⟨fs, hfs⟩ := Option.isSome_iff_exists.mp hn
            unfold XLk at hd
            rw [hfs] at hd
            exact ⟨rfl, rfl, _, _, v, hd, hx, hv, h1.ok S1 v rv⟩
        · exact h1.elim
      · exact h1.elim
    · exact h1.elim
end
end Rg

set_option Elab.async false
set_option linter.all false
set_option maxRecDepth 100000
set_option maxHeartbeats 1000000
namespace Rg
open PySem PySem.Spec PyProof.Rows L2
variable {K : PySem.W.Frag}
/-! ### sorted, of data -/
def alikeB (ps : List PyData) : Bool := ps.all fun d => ps.all fun e => PySem.W.alike d e
def headed : PyData → Bool
  | .tuple (_ :: _) => true
  | _ => false
def plainB : PyData → Bool
  | .none => false
  | .tuple _ => false
  | _ => true
def sortableB (ps : List PyData) : Bool := ps.all headed || ps.all plainB
theorem alikeB_ok {ps : List PyData} (h : alikeB ps = true) : PySem.W.AllAlike ps := fun d hd e he => List.all_eq_true.mp (List.all_eq_true.mp h d hd) e he
theorem sortableB_ok {ps : List PyData} (h : sortableB ps = true) : PySem.W.Sortable ps := by
  unfold sortableB at h
  rw [Bool.or_eq_true] at h
  rcases h with h | h
  · refine .inl fun d hd => ?_
    have := List.all_eq_true.mp h d hd
    unfold headed at this
    split at this
    · exact ⟨_, _, rfl⟩
    · cases this
  · refine .inr fun d hd => ?_
    have := List.all_eq_true.mp h d hd
    unfold plainB at this
    split at this
    · cases this
    · cases this
    · rename_i h1 h2
      exact ⟨h1, h2⟩
/-- the order of what is sorted -/
def leP {α : Type} : α × PyData → α × PyData → Bool := PySem.W.dataLe false Prod.snd
def sortP {α : Type} (xs : List α) (ps : List PyData) : List α := ((xs.zip ps).mergeSort leP).map Prod.fst
def rSortD (K : PySem.W.Frag) : List V → Hp → VK → Prop := fun vs H Q => ∃ (a : Addr) (xs : List V) (ps : List PyData), vs = [.ref a] ∧ SqL K H a xs ∧ DpAll K H xs ps ∧ PySem.W.AllAlike ps ∧ PySem.W.Sortable ps ∧ (∀ p ∈ ps, p.depth ≤ 61) ∧
  ∀ l, H l = none → Q (.ref l) (upd H l (.lst (sortP xs ps)))
theorem DpAll.len {H : Hp} : ∀ {xs : List V} {ps : List PyData}, DpAll K H xs ps → xs.length = ps.length
  | _, _, .nil => rfl
  | _, _, .cons _ t => by simp [DpAll.len t]
theorem dpAll_each {X : Cx} {pins : List (Addr × Obj)} {σ : L2.St} {H : Hp} {s : Shared} (I : L2.Inv X pins σ H s) : ∀ {xs : List V} {ps : List PyData} {us : List Value}, DpAll X.K H xs ps → Vals xs us →
    PySem.W.EachIs (fun u (b : V × PyData) => RelV b.1 u ∧ ∃ as, Reads s.heap u b.2 as) us (xs.zip ps)
  | _, _, _, .nil, .nil => .nil
  | _, _, _, .cons d t, .cons r rs => .cons ⟨r, Dp.reads I _ _ _ d r⟩ (dpAll_each I t rs)
theorem each_imp {α β : Type} {R S : α → β → Prop} (h : ∀ a b, R a b → S a b) : ∀ {as : List α} {bs : List β}, PySem.W.EachIs R as bs → PySem.W.EachIs S as bs
  | _, _, .nil => .nil
  | _, _, .cons r t => .cons (h _ _ r) (each_imp h t)
theorem vals_each : ∀ {us : List Value} {bs : List (V × PyData)}, PySem.W.EachIs (fun u (b : V × PyData) => RelV b.1 u) us bs → Vals (bs.map Prod.fst) us
  | _, _, .nil => .nil
  | _, _, .cons r t => .cons r (vals_each t)
theorem zip_snd : ∀ (xs : List V) (ps : List PyData), xs.length = ps.length → (xs.zip ps).map Prod.snd = ps
  | [], [], _ => rfl
  | [], _ :: _, h => by simp at h
  | _ :: _, [], h => by simp at h
  | x :: xs, p :: ps, h => by simp [zip_snd xs ps (by simpa using h)]
theorem cr_sortD {X : Cx} (hu : X.A.units + 64 < cLine) : CallR X (.builtin "sorted") (rSortD X.K) := by
  intro pins s σ H vs us Q I r h
  obtain ⟨a, xs, ps, rfl, hs, dp, al, so, dep, q⟩ := h
  obtain ⟨its, rv, hl, hz⟩ := I.list hs
  rw [Vals.ref1 r]
  have e := dpAll_each I dp rv
  have ez := zip_snd xs ps (DpAll.len dp)
  have kp : ∀ b o, s.heap.get? b = some o → (PySem.W.sortingHeap (PySem.W.copyHeap s.heap its) (s.heap.objs.size + 1) its).get? b = some o := fun b o eb => PySem.W.sorting_copy_old eb
  have er : PySem.W.EachIs (fun u (b : V × PyData) => ∃ as, Reads (PySem.W.sortingHeap (PySem.W.copyHeap s.heap its) (s.heap.objs.size + 1) its) u b.2 as) its (xs.zip ps) := each_imp (fun u b h => by
    obtain ⟨_, as, h⟩ := h
    exact ⟨as, Reads.keeps kp h⟩) e
  have el : its.length ≤ sizeLine := by rw [← rv.length]; exact hz
  refine PySem.W.sorted_vals hl.isList (κ := PySem.W.dataKind (PySem.W.sortingHeap (PySem.W.copyHeap s.heap its) (s.heap.objs.size + 1) its) ps) (PySem.W.SortsAt.data ?_ al so fun d hd => ?_) el ?_
  · rw [← ez]
    exact PySem.W.each_map (R := fun u d => ∃ as, Reads (PySem.W.sortingHeap (PySem.W.copyHeap s.heap its) (s.heap.objs.size + 1) its) u d as) Prod.snd er
  · have := dep d hd
    show X.A.units + 1 + 1 + d.depth < cLine
    omega
  · have sd := PySem.W.sortVals_data (R := fun u (b : V × PyData) => RelV b.1 u) (enc := Prod.snd) false (each_imp (fun _ _ h => h.1) e) er (by rw [ez]; exact al)
    rw [ez] at sd
    have rv2 := vals_each sd
    obtain ⟨ep, he'⟩ := PyProof.Rows.sortedAll_at s.heap its (PySem.W.sortVals (PySem.W.dataKind (PySem.W.sortingHeap (PySem.W.copyHeap s.heap its) (s.heap.objs.size + 1) its) ps) false its its).toArray
    refine ⟨.ref _, upd H (s.heap.objs.size + 1) (.lst (sortP xs ps)), I.laid (t' := s.toks) (fun _ _ => PyProof.Rows.sortedAll_old) (Nat.le_succ _) ⟨?_, _, ep, rv2, he'⟩, rfl, q _ (I.hok.fresh (Nat.le_succ _))⟩
    have : (sortP xs ps).length = _ := rv2.length
    rw [this, PySem.W.sortVals_length false rfl]
    exact el
/-! over trees -/
theorem rls_sort {H : Hp} {μ : List Addr} {ds : List D} {vs : List V} (r : Rls K H μ ds vs) (ps : List PyData) : Rls K H μ (sortP ds ps) (sortP vs ps) := by
  have key : ∀ (ds : List D) (vs : List V) (ps : List PyData), Rls K H μ ds vs → PySem.W.EachIs (fun (x : D × PyData) (y : V × PyData) => Rl K H μ x.1 y.1 ∧ x.2 = y.2) (ds.zip ps) (vs.zip ps) := by
    intro ds
    induction ds with
    | nil => intro vs ps r; cases r; exact .nil
    | cons d ds ih =>
      intro vs ps r
      cases r with
      | cons r t =>
        cases ps with
        | nil => exact .nil
        | cons p ps => exact .cons ⟨r, rfl⟩ (ih _ ps t)
  have hk := key ds vs ps r
  have hs := PySem.W.sort_each (r := leP) (s := leP) hk fun p hp q hq => by
    have e1 := (hk.zip p hp).2
    have e2 := (hk.zip q hq).2
    show PySem.W.dataLe false Prod.snd p.1 q.1 = PySem.W.dataLe false Prod.snd p.2 q.2
    unfold PySem.W.dataLe PySem.W.sortLe
    simp only [e1, e2]
  have go : ∀ (l : List (D × PyData)) (m : List (V × PyData)), PySem.W.EachIs (fun (x : D × PyData) (y : V × PyData) => Rl K H μ x.1 y.1 ∧ x.2 = y.2) l m → Rls K H μ (l.map Prod.fst) (m.map Prod.fst) := by
    intro l
    induction l with
    | nil => intro m h; cases h; exact .nil
    | cons x l ih => intro m h; cases h with | cons h t => exact .cons h.1 (ih _ t)
  exact go _ _ hs
/-- sorted(xs) -/
noncomputable def fSortD : BF := fun xs st => match xs with
  | [d] => (litems st d).bind fun ds => (ds.mapM (toD st 60)).bind fun ps => if alikeB ps = true ∧ sortableB ps = true then some (.loc st.length, st ++ [.lst (sortP ds ps)]) else none
  | _ => none
theorem does_sortD : DoesN K (rSortD K) fSortD := fun xs st d st' vs H μ Q r S h q => by
  unfold fSortD at h
  split at h
  · obtain ⟨ds, h1, h⟩ := Option.bind_eq_some_iff.mp h
    obtain ⟨ps, h2, h⟩ := Option.bind_eq_some_iff.mp h
    split at h
    · rename_i hc
      cases h
      obtain ⟨v, rfl, rv⟩ := rls1 r
      obtain ⟨a, us, rfl, hq, q1⟩ := litems_seq (K := K) S h1 rv
      obtain ⟨b1, b2, b3⟩ := mapM_dp (toD_dp S 60) ds ps us h2 q1
      refine ⟨a, us, ps, rfl, hq, b1, alikeB_ok hc.1, sortableB_ok hc.2, fun p hp => ?_, fun l hl => q _ _ _ (ext_new hl _) (S.newL hl (rls_sort q1 ps)) (loc_new S)⟩
      have dm : ∀ (ps : List PyData) (p : PyData), p ∈ ps → p.depth ≤ PyData.depthAll ps := by
        intro ps
        induction ps with
        | nil => intro p h; cases h
        | cons x xs ih =>
          intro p h
          simp only [PyData.depthAll]
          rcases List.mem_cons.mp h with rfl | h
          · omega
          · have := ih p h; omega
      have := dm ps p hp
      omega
    · cases h
  · cases h
/-! ### sorted(d.items()) -/
def rItemsK : V → List V → Hp → VK → Prop := fun x xs H Q => ∃ (a : Addr) (kvs : List (Key × V)), x = .ref a ∧ xs = [] ∧ H a = some (.dK kvs) ∧ ∀ p, H p = none → Q (.ref p) (upd H p (L2.DX.itemsO p a))
theorem mt_itemsK {X : Cx} : MtR X "dict.items" rItemsK := by
  intro pins s σ H x xs v us Q I rx rxs h
  obtain ⟨a, kvs, rfl, rfl, ha, q⟩ := h
  cases rx
  cases rxs
  obtain ⟨z, hd, vs, rel, o, es, ep, ho, hx, hdat, _⟩ := dk_of I.hok ha
  refine DT.callItems (es := es) (ep := ep) hd ⟨o, ho, hx, hdat⟩ ?_
  have hf : H s.heap.objs.size = none := I.hok.fresh (Nat.le_refl _)
  exact ⟨.ref s.heap.objs.size, upd H s.heap.objs.size (L2.DX.itemsO s.heap.objs.size a), I.laid (t' := s.toks) (fun b u e => Heap.get?_push_of_some _ e) (Nat.le_refl _) (L2.DX.itemsO_ok (Heap.get?_push_size _ rfl)), rfl, q _ hf⟩
/-- the pairs as tuples: what is sorted -/
def kP : Key → PyData
  | .inl i => .int i
  | .inr x => .str x
def prD (l : List (Key × PyData)) : List PyData := l.map fun q => .tuple [kP q.1, q.2]
def rSortIt (K : PySem.W.Frag) : List V → Hp → VK → Prop := fun vs H Q => ∃ (p a : Addr) (kvs : List (Key × V)) (qs : List PyData), vs = [.ref p] ∧ H p = some (L2.DX.itemsO p a) ∧ H a = some (.dK kvs) ∧ DpAll K H (kvs.map (·.2)) qs ∧
  PySem.W.AllAlike (prD ((kvs.map (·.1)).zip qs)) ∧ PySem.W.Sortable (prD ((kvs.map (·.1)).zip qs)) ∧ (∀ p ∈ prD ((kvs.map (·.1)).zip qs), p.depth ≤ 61) ∧
  ∀ (H' : Hp) (l : Addr) (as : List Addr), (∀ b o, H b = some o → H' b = some o) → H l = none → as.length = kvs.length → H' l = some (.lst ((sortP as (prD ((kvs.map (·.1)).zip qs))).map V.ref)) →
    (∀ (j : Nat) (b : Addr) (kv : Key × V), as[j]? = some b → kvs[j]? = some kv → H' b = some (.tup [kV kv.1, kv.2])) → Q (.ref l) H'
theorem pairs_get {P : Program} {w : World} : ∀ {es : List DictEntry} {ws : List (Key × Value)} {j : Nat} {e : DictEntry}, Pairs (mixKind P w) es ws → es[j]? = some e → ∃ kv, ws[j]? = some kv ∧ (mixKind P w).is kv.1 e.key = true ∧ e.val = kv.2
  | _, _, _, _, .nil, h => by simp at h
  | _, _, 0, _, .cons h1 h2 t, h => by simp at h; subst h; exact ⟨_, rfl, h1, h2⟩
  | _, _, j + 1, _, .cons h1 h2 t, h => by
    obtain ⟨kv, a, b⟩ := pairs_get (j := j) t (by simpa using h)
    exact ⟨kv, by simpa using a, b⟩
theorem each_of_get {α β : Type} {R : α → β → Prop} : ∀ {as : List α} {bs : List β}, as.length = bs.length → (∀ (j : Nat) a b, as[j]? = some a → bs[j]? = some b → R a b) → PySem.W.EachIs R as bs
  | [], [], _, _ => .nil
  | [], _ :: _, h, _ => by simp at h
  | _ :: _, [], h, _ => by simp at h
  | a :: as, b :: bs, h, k => .cons (k 0 a b rfl rfl) (each_of_get (by simpa using h) fun j x y hx hy => k (j + 1) x y (by simpa using hx) (by simpa using hy))
theorem dpAll_get {H : Hp} : ∀ {xs : List V} {ps : List PyData} {j : Nat} {v : V}, DpAll K H xs ps → xs[j]? = some v → ∃ p, ps[j]? = some p ∧ Dp K H v p
  | _, _, _, _, .nil, h => by simp at h
  | _, _, 0, _, .cons d t, h => by simp at h; subst h; exact ⟨_, rfl, d⟩
  | _, _, j + 1, _, .cons d t, h => by
    obtain ⟨p, a, b⟩ := dpAll_get (j := j) t (by simpa using h)
    exact ⟨p, by simpa using a, b⟩
theorem prD_get {kvs : List (Key × V)} {qs : List PyData} {j : Nat} {kv : Key × V} {q : PyData} (h1 : kvs[j]? = some kv) (h2 : qs[j]? = some q) : (prD ((kvs.map (·.1)).zip qs))[j]? = some (.tuple [kP kv.1, q]) := by
  unfold prD
  have e : ((kvs.map (·.1)).zip qs)[j]? = some (kv.1, q) := List.getElem?_zip_eq_some.mpr ⟨by rw [List.getElem?_map, h1]; rfl, h2⟩
  rw [List.getElem?_map, e]
  rfl
theorem cr_sortIt {X : Cx} (hc : X.calm = true) (hu : X.A.units + 64 < cLine) : CallR X (.builtin "sorted") (rSortIt X.K) := by
  intro pins s σ H xs us Q I r h
  obtain ⟨p, a, kvs, qs, rfl, hp, ha, dp, al, so, dep, q⟩ := h
  obtain rfl := Vals.ref1 r
  have view : s.heap.IsItemsView p a := (show ObjOk X.prog X.w H s.heap p (L2.DX.itemsO p a) from I.hok p _ hp).1
  obtain ⟨z, hd, ws, rel, o, es, ep, ho, hx, hdat, hks, hps, hn⟩ := dk_of I.hok ha
  have l1 : kvs.length = ws.length := Paired.length rel
  have l2 : es.size = ws.length := by rw [← Array.length_toList]; exact Pairs.length hps
  have l3 : qs.length = kvs.length := by have := DpAll.len dp; rw [List.length_map] at this; exact this.symm
  have hh : X.A.handled = none := I.ok.hd hc
  generalize hds : prD ((kvs.map (·.1)).zip qs) = ds at *
  have l4 : ds.length = kvs.length := by rw [← hds]; unfold prD; rw [List.length_map, List.length_zip, List.length_map, l3, Nat.min_self]
  refine DT.sortedI (es := es) (ep := ep) hh view ⟨o, ho, hx, hdat⟩ (by rw [l2, ← l1]; exact z) fun h' tk as hk hlt hl hG => ?_
  have lak : as.length = kvs.length := by omega
  have nd : as.Nodup := List.Pairwise.imp (fun h => Nat.ne_of_lt h) hG.rise
  have pr : ∀ (j : Nat) (b : Addr), as[j]? = some b → ∃ (kv : Key × V) (q : PyData) (ku vu : Value), kvs[j]? = some kv ∧ ds[j]? = some (.tuple [kP kv.1, q]) ∧ RelV (kV kv.1) ku ∧ RelV kv.2 vu ∧ (∃ bs, Reads s.heap ku (kP kv.1) bs) ∧ (∃ bs, Reads s.heap vu q bs) ∧ h'.get? b = some { cls := .type "tuple", data := .seq #[ku, vu] } := by
    intro j b hj
    obtain ⟨en, he, hg⟩ := hG.pairs j b hj
    obtain ⟨w2, hw, hk1, hk2⟩ := pairs_get hps (j := j) (e := en) (by rw [Array.getElem?_toList]; exact he)
    have hj2 : j < kvs.length := by rw [l1]; exact (List.getElem?_eq_some_iff.mp hw).1
    have hkv : kvs[j]? = some kvs[j] := List.getElem?_eq_getElem hj2
    obtain ⟨kv0, g1, g2, g3⟩ := L2.DX.pget rel hw
    rw [hkv] at g1
    cases g1
    obtain ⟨q, hq, hdp⟩ := dpAll_get dp (j := j) (v := kvs[j].2) (by rw [List.getElem?_map, hkv]; rfl)
    refine ⟨kvs[j], q, en.key, en.val, hkv, by rw [← hds]; exact prD_get hkv hq, ?_, by rw [hk2]; exact g3, ?_, Dp.reads I _ _ _ hdp (by rw [hk2]; exact g3), hg⟩
    · rcases keyIs_shape hk1 with ⟨i, t, e1, e2⟩ | ⟨x, t, e1, e2⟩
      · rw [g2, e1, e2]; exact ⟨t, rfl⟩
      · rw [g2, e1, e2]; exact ⟨t, rfl⟩
    · rcases keyIs_shape hk1 with ⟨i, t, e1, e2⟩ | ⟨x, t, e1, e2⟩
      · rw [g2, e1, e2]; exact ⟨_, Reads.int i t⟩
      · rw [g2, e1, e2]; exact ⟨_, Reads.str x t⟩
  have hob : (h'.push { cls := .type "list", data := .seq (as.map Value.ref).toArray }).get? h'.objs.size = some (seqObj "list" (as.map Value.ref).toArray 0) := Heap.get?_push_size _ rfl
  have kb : ∀ b o, s.heap.get? b = some o → (h'.push { cls := .type "list", data := .seq (as.map Value.ref).toArray }).get? b = some o := fun b o e => Heap.get?_push_of_some _ (hk b o e)
  have ne0 : ∀ b o, h'.get? b = some o → b ≠ h'.objs.size := fun b o e => Nat.ne_of_lt (Heap.lt_size e)
  generalize hh2 : h'.push { cls := .type "list", data := .seq (as.map Value.ref).toArray } = h2 at hob kb ⊢
  have ka : ∀ b o, h'.get? b = some o → h2.get? b = some o := fun b o e => by rw [← hh2]; exact Heap.get?_push_of_some _ e
  have old : ∀ b o, h'.get? b = some o → (PySem.W.sortingHeap h2 h'.objs.size (as.map Value.ref)).get? b = some o := fun b o e => PySem.W.sortingHeap_old (ne0 _ _ e) (ka _ _ e)
  have er : PySem.W.EachIs (fun u (b : Addr × PyData) => u = Value.ref b.1 ∧ ∃ bs, Reads (PySem.W.sortingHeap h2 h'.objs.size (as.map Value.ref)) u b.2 bs) (as.map Value.ref) (as.zip ds) := by
    refine each_of_get (by rw [List.length_map, List.length_zip, lak, l4, Nat.min_self]) fun j u b hu hb => ?_
    obtain ⟨e1, e2⟩ := List.getElem?_zip_eq_some.mp hb
    rw [List.getElem?_map, e1] at hu
    cases hu
    refine ⟨rfl, ?_⟩
    obtain ⟨kv, q, ku, vu, g1, g2, g3, g4, ⟨as1, g5⟩, ⟨as2, g6⟩, g7⟩ := pr j _ e1
    rw [e2] at g2
    rw [Option.some.inj g2]
    have kp : ∀ b o, s.heap.get? b = some o → (PySem.W.sortingHeap h2 h'.objs.size (as.map Value.ref)).get? b = some o := fun b o e => old b o (hk b o e)
    exact ⟨_, Reads.tuple (old _ _ g7) rfl rfl (.cons (Reads.keeps kp g5) (.cons (Reads.keeps kp g6) .nil))⟩
  have ez : (as.zip ds).map Prod.snd = ds := by
    rw [List.map_snd_zip]; omega
  have el : (as.map Value.ref).length ≤ sizeLine := by rw [List.length_map, lak]; exact z
  refine wpAny_call_entry PyProof.Rows.slot_list_sort ⟨_, hob, rfl⟩ PyProof.Rows.entry_list_sort
    (PySem.W.list_sort_vals (κ := PySem.W.dataKind (PySem.W.sortingHeap h2 h'.objs.size (as.map Value.ref)) ds) hob (PySem.W.SortsAt.data ?_ al so fun d hd => ?_) el ⟨.none, rfl, ?_⟩) (PyProof.Rows.args_list_sort _)
  · rw [← ez]
    exact PySem.W.each_map (R := fun u d => ∃ bs, Reads (PySem.W.sortingHeap h2 h'.objs.size (as.map Value.ref)) u d bs) Prod.snd (each_imp (fun _ _ h => h.2) er)
  · have := dep d hd
    show X.A.units + 1 + 1 + d.depth < cLine
    omega
  · have sd := PySem.W.sortVals_data (R := fun u (b : Addr × PyData) => u = Value.ref b.1) (enc := Prod.snd) false (each_imp (fun _ _ h => h.1) er) (each_imp (fun _ _ h => h.2) er) (by rw [ez]; exact al)
    rw [ez] at sd
    generalize hsv : PySem.W.sortVals (PySem.W.dataKind (PySem.W.sortingHeap h2 h'.objs.size (as.map Value.ref)) ds) false (as.map Value.ref) (as.map Value.ref) = sv at sd ⊢
    have rv : Vals ((sortP as ds).map V.ref) sv := by
      have go : ∀ (us : List Value) (l : List (Addr × PyData)), PySem.W.EachIs (fun u (b : Addr × PyData) => u = Value.ref b.1) us l → Vals ((l.map Prod.fst).map V.ref) us := by
        intro us
        induction us with
        | nil => intro l h; cases h; exact .nil
        | cons u us ih => intro l h; cases h with | cons h t => exact .cons h (ih _ t)
      exact go _ _ sd
    have kF : ∀ b o, b ≠ h'.objs.size → h2.get? b = some o → (sortedHeap h2 h'.objs.size (as.map Value.ref) sv.toArray).get? b = some o := fun b o hb e => (PyProof.Rows.sortedHeap_old hb (Heap.lt_size e)).trans e
    have kS : ∀ b o, s.heap.get? b = some o → (sortedHeap h2 h'.objs.size (as.map Value.ref) sv.toArray).get? b = some o := fun b o e => kF b o (ne0 _ _ (hk b o e)) (kb b o e)
    obtain ⟨eF, heF⟩ := PyProof.Rows.sortedHeap_at (vs := as.map Value.ref) (out := sv.toArray) hob
    have I1 : L2.Inv X pins σ H { s with heap := sortedHeap h2 h'.objs.size (as.map Value.ref) sv.toArray, toks := tk } := I.kept (t' := tk) kS
    have hn0 : H h'.objs.size = none := I.hok.fresh (Nat.le_of_lt hlt)
    have hlen : ((sortP as ds).map V.ref).length ≤ sizeLine := by
      rw [rv.length, ← hsv, PySem.W.sortVals_length false rfl]; exact el
    have I2 : L2.Inv X pins σ (upd H h'.objs.size (.lst ((sortP as ds).map V.ref))) { s with heap := sortedHeap h2 h'.objs.size (as.map Value.ref) sv.toArray, toks := tk } :=
      I1.take (h' := sortedHeap h2 h'.objs.size (as.map Value.ref) sv.toArray) (t' := tk) (fun b ob _ e => e) (I.fpOk (Nat.le_of_lt hlt) hn0) ⟨hlen, sv, eF, rv, heF⟩
    obtain ⟨H2, I3, g, qt⟩ := L2.DX.takeT (P := fun b vs => ∃ (j : Nat) (kv : Key × V), as[j]? = some b ∧ kvs[j]? = some kv ∧ vs = [kV kv.1, kv.2]) I as _ I2 nd fun b hb => by
      obtain ⟨j, hj⟩ := List.mem_iff_getElem?.mp hb
      obtain ⟨kv, q, ku, vu, g1, g2, g3, g4, _, _, g7⟩ := pr j _ hj
      have hbl : s.heap.objs.size ≤ b := Nat.le_of_lt (hG.above b hb)
      refine ⟨hbl, ?_, [kV kv.1, kv.2], ⟨j, kv, hj, g1, rfl⟩, fun H3 => ⟨(by rw [sizeLine_eq]; show 2 ≤ 16777216; omega), [ku, vu], .cons g3 (.cons g4 .nil), ⟨_, kF _ _ (ne0 _ _ g7) (ka _ _ g7), rfl, 0, rfl⟩⟩⟩
      rw [upd_ne (ne0 _ _ g7)]
      exact I.hok.fresh hbl
    have gr : ∀ b o, H b = some o → H2 b = some o := fun b o e => g b o (by rw [upd_ne (ne_of_none e hn0)]; exact e)
    refine ⟨.ref h'.objs.size, H2, I3, rfl, q H2 h'.objs.size as gr hn0 lak (g _ _ upd_same) fun j b kv hj hkv => ?_⟩
    obtain ⟨vs, ⟨i, kv', h1, h2', h3⟩, hH⟩ := qt b (List.mem_of_getElem? hj)
    have eij : i = j := (List.getElem?_inj (List.getElem?_eq_some_iff.mp h1).1 nd).mp (h1.trans hj.symm)
    subst eij
    rw [hkv] at h2'
    cases h2'
    rw [h3] at hH
    exact hH
/-- sorted(d.items()) -/
noncomputable def sortItF (d : D) (st : Stt) : R D := match dctAt st d with
  | some p => (match (p.2.map (·.2)).mapM (toD st 59) with
    | some qs => if alikeB (prD ((p.2.map (·.1)).zip qs)) = true ∧ sortableB (prD ((p.2.map (·.1)).zip qs)) = true then .ok (.loc st.length) (st ++ [.lst (sortP (p.2.map fun kv => .tup [kD kv.1, kv.2]) (prD ((p.2.map (·.1)).zip qs)))]) else .no
    | none => .no)
  | none => .no
noncomputable def xSortIt (fa : XE) : XE := fun ρ st => (fa ρ st).bind sortItF
theorem kr_snd {H : Hp} {μ : List Addr} : ∀ {kd : List (Key × D)} {kv : List (Key × V)}, KR K H μ kd kv → Rls K H μ (kd.map (·.2)) (kv.map (·.2)) ∧ kd.map (·.1) = kv.map (·.1)
  | _, _, .nil => ⟨.nil, rfl⟩
  | _, _, .cons r t => by
    obtain ⟨a, b⟩ := kr_snd t
    exact ⟨.cons r.2 a, by rw [List.map_cons, List.map_cons, b, r.1]⟩
theorem ext_old {H H' : Hp} {μ : List Addr} {l : Addr} (k : ∀ b o, H b = some o → H' b = some o) : Ext K H μ H' (μ ++ [l]) := ⟨fun a vs h => by
  rcases h with (h | ⟨o, h⟩) | h
  · exact .inl (.inl (k _ _ h))
  · exact .inl (.inr ⟨o, k _ _ h⟩)
  · exact .inr h, fun a vs h => by
  rcases h with ⟨o, h⟩ | h
  · exact .inl ⟨o, k _ _ h⟩
  · exact .inr h, fun a vs h => k _ _ h, [l], rfl⟩
theorem SR.newOf {H H' : Hp} {μ : List Addr} {st : Stt} (S : SR K H μ st) {p : Addr} (hp : H p = none) (k : ∀ b o, H b = some o → H' b = some o) {o : O} (ho : OR K H' (μ ++ [p]) o p) : SR K H' (μ ++ [p]) (st ++ [o]) := by
  refine ⟨by simp [S.len], ?_, fun n o' h => ?_⟩
  · rw [List.nodup_append]
    refine ⟨S.nd, by simp, fun a ha b hb e => ?_⟩
    simp only [List.mem_singleton] at hb
    subst hb
    subst e
    exact S.fresh hp ha
  · by_cases hn : n < st.length
    · rw [List.getElem?_append_left hn] at h
      obtain ⟨a, ha, hq⟩ := S.obj n o' h
      obtain ⟨w, hw, _⟩ := hq.has
      exact ⟨a, (ext_old (K := K) (l := p) k).get ha, hq.keep (ext_old k) ((k _ _ hw).trans hw.symm)⟩
    · rw [List.getElem?_append_right (by omega)] at h
      have e : n - st.length = 0 := by
        have := (List.getElem?_eq_some_iff.mp h).1
        simp at this
        omega
      rw [e] at h
      have e2 : o = o' := by simpa using h
      subst e2
      refine ⟨p, ?_, ho⟩
      have e3 : n = μ.length := by
        rw [S.len]
        omega
      rw [e3]
      simp
/-- what lies in H' by the places of as -/
theorem rls_sortA {H' : Hp} {μ : List Addr} {ds : List D} {as : List Addr} (hl : as.length = ds.length) (ps : List PyData) (h : ∀ (j : Nat) (b : Addr) (d : D), as[j]? = some b → ds[j]? = some d → Rl K H' μ d (.ref b)) : Rls K H' μ (sortP ds ps) ((sortP as ps).map V.ref) := by
  have r : Rls K H' μ ds (as.map V.ref) := by
    induction as generalizing ds with
    | nil => cases ds with | nil => exact .nil | cons d ds => simp at hl
    | cons a as ih =>
      cases ds with
      | nil => simp at hl
      | cons d ds => exact .cons (h 0 a d rfl rfl) (ih (by simpa using hl) fun j b e hb he => h (j + 1) b e (by simpa using hb) (by simpa using he))
  have e : (sortP as ps).map V.ref = sortP (as.map V.ref) ps := by
    have hz : (as.map V.ref).zip ps = (as.zip ps).map fun z => (V.ref z.1, z.2) := by
      rw [List.zip_map_left]; rfl
    unfold sortP
    rw [hz, ← PySem.W.sort_maps (r := leP) (s := leP) (fun z : Addr × PyData => (V.ref z.1, z.2)) (fun _ _ _ _ => rfl), List.map_map, List.map_map]
    rfl
  rw [e]
  exact rls_sort r ps
section
variable {X : Cx} {o : Expr} {fo : XE} {apos cpos p pos : Pos} {W : WX}
theorem e_sortIt (hu : X.A.units + 64 < cLine) (hc : X.calm = true) (hm : X.mg "sorted" = none) (he : PE X o (tX X.K W fo)) (hg : Gl X "sorted" := by rfl)
    (hbase : attributeBase o "items" X.env (eval o X.env) = eval o X.env := by rfl) (hline : (apos.endLine == cpos.line) = true := by rfl)
    (hs : starEach [.Call (.Attribute o "items" apos) [] [] cpos] X.env = (false, eval (.Call (.Attribute o "items" apos) [] [] cpos) X.env) :: starEach [] X.env := by rfl) :
    PE X (.Call (.Name "sorted" p) [.Call (.Attribute o "items" apos) [] [] cpos] [] pos) (tX X.K W (xSortIt fo)) :=
  pe_imp (pe_callB (cr_sortIt hc hu) hg hm (by decide +kernel) (pa_cons (pe_bm0 PySem.F.plainAttrs_dict PySem.F.slot_dict_items PySem.F.type_dict_items mt_itemsK he hbase hline) pa_nil hs) (by decide) (by decide) hs (by rfl)) fun σ H Q ⟨ρ, st, μ, E, S, h⟩ => by
    refine tX_of E S h.bind fun d s1 H1 μ1 xv e1 E1 S1 r1 h1 => ?_
    unfold sortItF at h1
    cases hd : dctAt s1 d with
    | none => rw [hd] at h1; exact h1.elim
    | some pr =>
      rw [hd] at h1
      obtain ⟨n, kvs⟩ := pr
      dsimp only at h1
      obtain ⟨rfl, e9⟩ := dctAt_some hd
      obtain ⟨a, us, rfl, ha, t, q1⟩ := S1.dct e9 r1
      cases hq : (kvs.map (·.2)).mapM (toD s1 59) with
      | none => rw [hq] at h1; exact h1.elim
      | some qs =>
        rw [hq] at h1
        dsimp only at h1
        split at h1
        · rename_i hh
          obtain ⟨k1, k2⟩ := kr_snd q1
          refine ⟨.inr (.inr (.inl ⟨rfl, .inl ⟨us, t⟩⟩)), a, us, rfl, rfl, t, fun v hv => ?_⟩
          have t' : upd H1 v (L2.DX.itemsO v a) a = some (.dK us) := by rw [upd_ne (ne_of_none t hv)]; exact t
          have S1' := S1.side hv (L2.DX.itemsO v a)
          have k1' := k1.ext (ext_side (K := X.K) (μ := μ1) hv (L2.DX.itemsO v a))
          obtain ⟨b1, b2, b3⟩ := mapM_dp (toD_dp S1' 59) _ _ _ hq k1'
          refine ⟨v, a, us, qs, rfl, upd_same, t', b1, ?_, ?_, ?_, fun H' l as hk hl hlen hlist htup => ?_⟩
          · rw [← k2]; exact alikeB_ok hh.1
          · rw [← k2]; exact sortableB_ok hh.2
          · intro p hp
            unfold prD at hp
            obtain ⟨z, hz, rfl⟩ := List.mem_map.mp hp
            have dm : ∀ (ps : List PyData) (p : PyData), p ∈ ps → p.depth ≤ PyData.depthAll ps := by
              intro ps
              induction ps with
              | nil => intro p h; cases h
              | cons x xs ih =>
                intro p h
                simp only [PyData.depthAll]
                rcases List.mem_cons.mp h with rfl | h
                · omega
                · have := ih p h; omega
            have h2 := dm qs z.2 (List.of_mem_zip hz).2
            have h3 : (kP z.1).depth ≤ 1 := by cases z.1 <;> simp [kP, PyData.depth]
            simp only [PyData.depth, PyData.depthAll]
            omega
          · have hk' : ∀ b o, H1 b = some o → H' b = some o := fun b o e => hk b o (by rw [upd_ne (ne_of_none e hv)]; exact e)
            have hl' : H1 l = none := by
              by_cases e : l = v
              · rw [e]; exact hv
              · rw [upd_ne e] at hl; exact hl
            have ex := ext_old (K := X.K) (μ := μ1) (l := l) hk'
            have rs : Rls X.K H' (μ1 ++ [l]) (sortP (kvs.map fun kv => D.tup [kD kv.1, kv.2]) (prD ((kvs.map (·.1)).zip qs))) ((sortP as (prD ((us.map (·.1)).zip qs))).map V.ref) := by
              rw [← k2]
              refine rls_sortA (by rw [List.length_map, hlen]; exact (Paired.length q1).symm) _ fun j b d hb hd => ?_
              rw [List.getElem?_map] at hd
              obtain ⟨kv, hkv, rfl⟩ := Option.map_eq_some_iff.mp hd
              have hj : j < us.length := by rw [← Paired.length q1]; exact (List.getElem?_eq_some_iff.mp hkv).1
              have hus : us[j]? = some us[j] := List.getElem?_eq_getElem hj
              obtain ⟨kv0, g1, g2, g3⟩ := L2.DX.pget q1 hus
              rw [hkv] at g1
              cases g1
              refine .tup (.inl (.inl (htup j b _ hb hus))) (.cons ?_ (.cons (g3.ext ex) .nil))
              rw [← g2]
              exact kD_ok kv.1
            exact h1 H' (μ1 ++ [l]) ex (S1.newOf hl' hk' ⟨_, hlist, rs⟩) _ (.loc (by rw [← S1.len]; simp))
        · exact h1.elim
end
end Rg

set_option Elab.async false
set_option linter.all false
set_option maxRecDepth 100000
set_option maxHeartbeats 1000000
namespace Rg
open PySem PySem.Spec PyProof.Rows L2
/-! ### cells that nothing names are dropped where a def returns -/
mutual
/-- names no cell from n on -/
inductive Low (n : Nat) : D → Prop
  | non : Low n .non
  | bl (b : Bool) : Low n (.bl b)
  | int (i : Int) : Low n (.int i)
  | str (x : Str) : Low n (.str x)
  | tup {ds : List D} : Lows n ds → Low n (.tup ds)
  | loc {k : Nat} : k < n → Low n (.loc k)
  | cl {ds : List D} : Lows n ds → Low n (.cl ds)
  | opq (a : Addr) : Low n (.opq a)
  | exo (a dd : Addr) (ks : List Str) {ds : List D} : Lows n ds → Low n (.exo a dd ks ds)
inductive Lows (n : Nat) : List D → Prop
  | nil : Lows n []
  | cons {d : D} {ds : List D} : Low n d → Lows n ds → Lows n (d :: ds)
end
theorem lows_iff {n : Nat} : ∀ {ds : List D}, Lows n ds ↔ ∀ d ∈ ds, Low n d
  | [] => ⟨fun _ d h => (by cases h), fun _ => Lows.nil⟩
  | d :: ds => by
    refine ⟨fun h e he => ?_, fun h => Lows.cons (h d (by simp)) (lows_iff.mpr fun e he => h e (by simp [he]))⟩
    cases h with
    | cons a b =>
      rcases List.mem_cons.mp he with rfl | he
      · exact a
      · exact (lows_iff.mp b) e he
@[simp] theorem low_non (n : Nat) : Low n .non ↔ True := ⟨fun _ => trivial, fun _ => .non⟩
@[simp] theorem low_bl (n : Nat) (b : Bool) : Low n (.bl b) ↔ True := ⟨fun _ => trivial, fun _ => .bl b⟩
@[simp] theorem low_int (n : Nat) (i : Int) : Low n (.int i) ↔ True := ⟨fun _ => trivial, fun _ => .int i⟩
@[simp] theorem low_str (n : Nat) (x : Str) : Low n (.str x) ↔ True := ⟨fun _ => trivial, fun _ => .str x⟩
@[simp] theorem low_opq (n : Nat) (a : Addr) : Low n (.opq a) ↔ True := ⟨fun _ => trivial, fun _ => .opq a⟩
@[simp] theorem low_loc (n k : Nat) : Low n (.loc k) ↔ k < n := ⟨fun h => by cases h; assumption, fun h => .loc h⟩
@[simp] theorem low_tup (n : Nat) (ds : List D) : Low n (.tup ds) ↔ ∀ d ∈ ds, Low n d := ⟨fun h => by cases h with | tup h => exact lows_iff.mp h, fun h => .tup (lows_iff.mpr h)⟩
@[simp] theorem low_cl (n : Nat) (ds : List D) : Low n (.cl ds) ↔ ∀ d ∈ ds, Low n d := ⟨fun h => by cases h with | cl h => exact lows_iff.mp h, fun h => .cl (lows_iff.mpr h)⟩
def LowO (n : Nat) : O → Prop
  | .lst ds => ∀ d ∈ ds, Low n d
  | .dct kvs => ∀ p ∈ kvs, Low n p.2
  | .ins _ fs => ∀ p ∈ fs, Low n p.2
  | .dtt kvs => ∀ p ∈ kvs, Low n p.2
@[simp] theorem lowO_lst (n : Nat) (ds : List D) : LowO n (.lst ds) ↔ ∀ d ∈ ds, Low n d := .rfl
@[simp] theorem lowO_dct (n : Nat) (ds : List (Key × D)) : LowO n (.dct ds) ↔ ∀ p ∈ ds, Low n p.2 := .rfl
@[simp] theorem lowO_dtt (n : Nat) (ds : List (List Key × D)) : LowO n (.dtt ds) ↔ ∀ p ∈ ds, Low n p.2 := .rfl
@[simp] theorem lowO_ins (n : Nat) (C : Addr) (ds : List (Str × D)) : LowO n (.ins C ds) ↔ ∀ p ∈ ds, Low n p.2 := .rfl
section
variable {K : PySem.W.Frag} {H : Hp} {μ l : List Addr}
mutual
theorem Rl.low : ∀ {d : D} {v : V}, Rl K H μ d v → Low μ.length d
  | _, _, .non => .non
  | _, _, .bl b => .bl b
  | _, _, .int i => .int i
  | _, _, .str x => .str x
  | _, _, .tup _ r => .tup (Rls.low r)
  | _, _, .loc h => .loc (List.getElem?_eq_some_iff.mp h).1
  | _, _, .cl _ r => .cl (Rls.low r)
  | _, _, .opq a => .opq a
  | _, _, .exo _ r => .exo _ _ _ (Rls.low r)
theorem Rls.low : ∀ {ds : List D} {vs : List V}, Rls K H μ ds vs → Lows μ.length ds
  | _, _, .nil => .nil
  | _, _, .cons r t => .cons (Rl.low r) (Rls.low t)
end
mutual
theorem Rl.down : ∀ {d : D} {v : V}, Rl K H (μ ++ l) d v → Low μ.length d → Rl K H μ d v
  | _, _, .non, _ => .non
  | _, _, .bl b, _ => .bl b
  | _, _, .int i, _ => .int i
  | _, _, .str x, _ => .str x
  | _, _, .tup h r, w => .tup h (Rls.down r (by cases w; assumption))
  | _, _, .loc h, w => .loc (by cases w with | loc w => rw [List.getElem?_append_left w] at h; exact h)
  | _, _, .cl h r, w => .cl h (Rls.down r (by cases w; assumption))
  | _, _, .opq a, _ => .opq a
  | _, _, .exo h r, w => .exo h (Rls.down r (by cases w; assumption))
theorem Rls.down : ∀ {ds : List D} {vs : List V}, Rls K H (μ ++ l) ds vs → Lows μ.length ds → Rls K H μ ds vs
  | _, _, .nil, _ => .nil
  | _, _, .cons r t, w => by
    cases w with
    | cons a b => exact .cons (Rl.down r a) (Rls.down t b)
end
theorem KR.low : ∀ {kd : List (Key × D)} {kv : List (Key × V)}, KR K H μ kd kv → ∀ p ∈ kd, Low μ.length p.2
  | _, _, .nil, p, h => by cases h
  | _, _, .cons r t, p, h => by
    rcases List.mem_cons.mp h with rfl | h
    · exact r.2.low
    · exact KR.low t p h
theorem TR.low : ∀ {kd : List (List Key × D)} {kv : List (List Key × V)}, TR K H μ kd kv → ∀ p ∈ kd, Low μ.length p.2
  | _, _, .nil, p, h => by cases h
  | _, _, .cons r t, p, h => by
    rcases List.mem_cons.mp h with rfl | h
    · exact r.2.low
    · exact TR.low t p h
theorem FR.low : ∀ {kd : List (Str × D)} {kv : List (Str × V)}, FR K H μ kd kv → ∀ p ∈ kd, Low μ.length p.2
  | _, _, .nil, p, h => by cases h
  | _, _, .cons r t, p, h => by
    rcases List.mem_cons.mp h with rfl | h
    · exact r.2.low
    · exact FR.low t p h
theorem KR.down : ∀ {kd : List (Key × D)} {kv : List (Key × V)}, KR K H (μ ++ l) kd kv → (∀ p ∈ kd, Low μ.length p.2) → KR K H μ kd kv
  | _, _, .nil, _ => .nil
  | _, _, .cons r t, h => .cons ⟨r.1, r.2.down (h _ (by simp))⟩ (KR.down t fun p hp => h p (by simp [hp]))
theorem TR.down : ∀ {kd : List (List Key × D)} {kv : List (List Key × V)}, TR K H (μ ++ l) kd kv → (∀ p ∈ kd, Low μ.length p.2) → TR K H μ kd kv
  | _, _, .nil, _ => .nil
  | _, _, .cons r t, h => .cons ⟨r.1, r.2.down (h _ (by simp))⟩ (TR.down t fun p hp => h p (by simp [hp]))
theorem FR.down : ∀ {kd : List (Str × D)} {kv : List (Str × V)}, FR K H (μ ++ l) kd kv → (∀ p ∈ kd, Low μ.length p.2) → FR K H μ kd kv
  | _, _, .nil, _ => .nil
  | _, _, .cons r t, h => .cons ⟨r.1, r.2.down (h _ (by simp))⟩ (FR.down t fun p hp => h p (by simp [hp]))
theorem OR.low {o : O} {a : Addr} (h : OR K H μ o a) : LowO μ.length o := by
  cases o with
  | lst ds => obtain ⟨vs, _, r⟩ := h; exact lows_iff.mp r.low
  | dct ds => obtain ⟨vs, _, r⟩ := h; exact r.low
  | ins C ds => obtain ⟨_, vs, _, r⟩ := h; exact r.low
  | dtt ds => obtain ⟨vs, _, r⟩ := h; exact r.low
theorem OR.down {o : O} {a : Addr} (h : OR K H (μ ++ l) o a) (w : LowO μ.length o) : OR K H μ o a := by
  cases o with
  | lst ds => obtain ⟨vs, e, r⟩ := h; exact ⟨vs, e, r.down (lows_iff.mpr w)⟩
  | dct ds => obtain ⟨vs, e, r⟩ := h; exact ⟨vs, e, r.down w⟩
  | ins C ds => obtain ⟨dx, vs, e, r⟩ := h; exact ⟨dx, vs, e, r.down w⟩
  | dtt ds => obtain ⟨vs, e, r⟩ := h; exact ⟨vs, e, r.down w⟩
end
/-- of the old cells, those that changed name no new cell -/
def OldOk (st s : Stt) : Prop := st.length ≤ s.length ∧ ∀ k, k < st.length → s[k]? = st[k]? ∨ ∃ o, s[k]? = some o ∧ LowO st.length o
/-- the fields of an exception name no new cell -/
def LowX (n : Nat) (e : Exn) : Prop := ∀ fs, e.fs = some fs → ∀ p ∈ fs, Low n p.2
open Classical in
noncomputable def gcR (st : Stt) : R D → R D
  | .no => .no
  | .ex e s => if OldOk st s ∧ LowX st.length e then .ex e (s.take st.length) else .ex e s
  | .ok d s => if OldOk st s ∧ Low st.length d then .ok d (s.take st.length) else (match d with
    | .loc k => if OldOk st s ∧ st.length ≤ k ∧ ∃ o, s[k]? = some o ∧ LowO st.length o then .ok (.loc st.length) (s.take st.length ++ (s[k]?).toList) else .ok d s
    | _ => .ok d s)
open Classical in
theorem gcR_ex (st : Stt) (e : Exn) (s : Stt) : gcR st (.ex e s) = if OldOk st s ∧ LowX st.length e then .ex e (s.take st.length) else .ex e s := rfl
open Classical in
theorem gcR_ok (st : Stt) (d : D) (s : Stt) : gcR st (.ok d s) = if OldOk st s ∧ Low st.length d then .ok d (s.take st.length) else (match d with
    | .loc k => if OldOk st s ∧ st.length ≤ k ∧ ∃ o, s[k]? = some o ∧ LowO st.length o then .ok (.loc st.length) (s.take st.length ++ (s[k]?).toList) else .ok d s
    | _ => .ok d s) := rfl
noncomputable def gcB (g : Fn) : Fn := fun ds st => gcR st (g ds st)
theorem sr_take {K : PySem.W.Frag} {H H' : Hp} {μ l : List Addr} {st s : Stt} (S : SR K H μ st) (S' : SR K H' (μ ++ l) s) (ho : OldOk st s) : SR K H' μ (s.take st.length) ∧ ∀ (k : Nat) (o : O), s[k]? = some o → k < st.length → LowO μ.length o := by
  have hn := S.len
  have low : ∀ (k : Nat) (o : O), s[k]? = some o → k < st.length → LowO μ.length o := fun k o hk hlt => by
    rcases ho.2 k hlt with h | ⟨o', h, w⟩
    · rw [hk] at h
      obtain ⟨a, _, r⟩ := S.obj k o h.symm
      exact r.low
    · rw [hk] at h
      cases h
      rw [hn]
      exact w
  refine ⟨⟨by rw [List.length_take, hn, Nat.min_eq_left ho.1], S.nd, fun k o hk => ?_⟩, low⟩
  by_cases hlt : k < st.length
  · rw [List.getElem?_take_of_lt hlt] at hk
    obtain ⟨a, ha, r⟩ := S'.obj k o hk
    rw [List.getElem?_append_left (by rw [hn]; exact hlt)] at ha
    exact ⟨a, ha, r.down (low k o hk hlt)⟩
  · rw [List.getElem?_eq_none (by rw [List.length_take]; omega)] at hk
    cases hk
theorem xr_down {K : PySem.W.Frag} {H : Hp} {μ l : List Addr} {e : Exn} {d : Option Addr} (h : XR K H (μ ++ l) e d) (w : LowX μ.length e) : XR K H μ e d := by
  unfold XR at h ⊢
  cases e1 : e.fs with
  | none => rw [e1] at h; exact h
  | some fs =>
    rw [e1] at h
    obtain ⟨dd, vs, h1, h2, h3⟩ := h
    exact ⟨dd, vs, h1, h2, h3.down (w fs e1)⟩
theorem gc_ok {K : PySem.W.Frag} {Wd : Exn → Hp → List Addr → Prop} (hW : ∀ e H μ l, LowX μ.length e → Wd e H μ → Wd e H (μ ++ l)) {H : Hp} {μ : List Addr} {st : Stt} {Q : VK} (S : SR K H μ st) : ∀ {r : R D}, RO K Wd H μ (QD K Q) (gcR st r) → RO K Wd H μ (QD K Q) r
  | .no, h => h
  | .ex e s, h => by
    rw [gcR_ex] at h
    split at h
    · rename_i hc
      intro H' μ' ex S'
      obtain ⟨l, rfl⟩ := ex.more
      have ex' : Ext K H μ H' μ := ⟨ex.tups, ex.cls, ex.xds, [], by simp⟩
      exact hW _ _ _ _ (by rw [S.len]; exact hc.2) (h H' μ ex' (sr_take S S' hc.1).1)
    · exact h
  | .ok d s, h => by
    rw [gcR_ok] at h
    split at h
    · rename_i hc
      intro H' μ' ex S' v rv
      obtain ⟨l, rfl⟩ := ex.more
      have ex' : Ext K H μ H' μ := ⟨ex.tups, ex.cls, ex.xds, [], by simp⟩
      exact h H' μ ex' (sr_take S S' hc.1).1 v (rv.down (by rw [S.len]; exact hc.2))
    · split at h
      · rename_i k _
        split at h
        · rename_i hc
          obtain ⟨ho, hk, o, hs, hlo⟩ := hc
          intro H' μ' ex S' v rv
          obtain ⟨l, rfl⟩ := ex.more
          obtain ⟨T, low⟩ := sr_take S S' ho
          obtain ⟨a, ha, r⟩ := S'.obj k o hs
          cases rv with
          | loc hb =>
          rw [ha] at hb
          cases hb
          have hn := S.len
          have e2 : (s[k]?).toList = [o] := by rw [hs]; rfl
          have na : a ∉ μ := fun hm => by
            obtain ⟨i, hi⟩ := List.getElem?_of_mem hm
            have hlt : i < μ.length := (List.getElem?_eq_some_iff.mp hi).1
            have : (μ ++ l)[i]? = some a := by rw [List.getElem?_append_left hlt]; exact hi
            have := (List.getElem?_inj (by rw [List.length_append]; omega) S'.nd).mp (this.trans ha.symm)
            omega
          have ex' : Ext K H μ H' (μ ++ [a]) := ⟨ex.tups, ex.cls, ex.xds, [a], rfl⟩
          have ex2 : Ext K H' μ H' (μ ++ [a]) := ⟨fun _ _ h => h, fun _ _ h => h, fun _ _ h => h, [a], rfl⟩
          have r2 : OR K H' (μ ++ [a]) o a := (r.down (by rw [hn]; exact hlo)).keep ex2 rfl
          rw [e2] at h
          refine h H' (μ ++ [a]) ex' ⟨?_, ?_, fun i o' hi => ?_⟩ (.ref a) (.loc (by rw [← hn]; simp))
          · rw [List.length_append, List.length_append, T.len]; rfl
          · rw [List.nodup_append]
            refine ⟨S.nd, by simp, fun x hx y hy e => ?_⟩
            simp only [List.mem_singleton] at hy
            subst hy
            subst e
            exact na hx
          · by_cases hlt : i < (s.take st.length).length
            · rw [List.getElem?_append_left hlt] at hi
              obtain ⟨b, hb, q⟩ := T.obj i o' hi
              refine ⟨b, ?_, q.keep ex2 rfl⟩
              rw [List.getElem?_append_left (by rw [T.len]; exact hlt)]
              exact hb
            · rw [List.getElem?_append_right (by omega)] at hi
              have e : i - (s.take st.length).length = 0 := by
                have h1 := (List.getElem?_eq_some_iff.mp hi).1
                simp only [List.length_singleton] at h1
                omega
              rw [e] at hi
              have e2 : o = o' := by simpa using hi
              subst e2
              refine ⟨a, ?_, r2⟩
              have e3 : i = μ.length := by rw [T.len]; omega
              rw [e3]
              simp
        · exact h
      · exact h
section
variable {P : Program} {w : World} {K : PySem.W.Frag} {mg : Str → Option Value} {base : Heap}
theorem fnGc {CX : CXT} {k n : Nat} {f : Addr} {fd : FuncData} {ps : List Str} {g : Fn} (F : FnOk P w K mg base CX k f fd ps (spX K n g)) : FnOk P w K mg base CX k f fd ps (spX K n (gcB g)) :=
  F.imp fun vs H Q E ⟨hl, ds, st, μ, S, r, q⟩ => ⟨hl, ds, st, μ, S, r, gc_ok (fun e H μ l he h d hd => h d (xr_down hd he)) S q⟩
end
/-! what it does -/
theorem oldOk_app (st J : Stt) : OldOk st (st ++ J) := ⟨by simp, fun k hk => .inl (List.getElem?_append_left hk)⟩
theorem gc_low {g : Fn} {ds : List D} {st J : Stt} {d : D} (h : g ds st = .ok d (st ++ J)) (w : Low st.length d) : gcB g ds st = .ok d st := by
  unfold gcB
  rw [h]
  first | rw [gcR_ok] | rw [gcR_ex]
  rw [if_pos ⟨oldOk_app st J, w⟩]
  simp
theorem gc_new {g : Fn} {ds : List D} {st J : Stt} {k : Nat} {o : O} (h : g ds st = .ok (.loc k) (st ++ J)) (hk : st.length ≤ k) (ho : (st ++ J)[k]? = some o) (w : LowO st.length o) : gcB g ds st = .ok (.loc st.length) (st ++ [o]) := by
  unfold gcB
  rw [h]
  first | rw [gcR_ok] | rw [gcR_ex]
  rw [if_neg (by rw [low_loc]; omega)]
  simp only
  rw [if_pos ⟨oldOk_app st J, hk, o, ho, w⟩, ho]
  simp
theorem oldOk_set {st s : Stt} (hl : s.length = st.length) (J : Stt) (h : ∀ k, k < st.length → s[k]? = st[k]? ∨ ∃ o, s[k]? = some o ∧ LowO st.length o) : OldOk st (s ++ J) := ⟨by simp; omega, fun k hk => by
  rw [List.getElem?_append_left (by omega)]
  exact h k hk⟩
theorem gc_set {g : Fn} {ds : List D} {st s J : Stt} {d : D} (h : g ds st = .ok d (s ++ J)) (hl : s.length = st.length) (hs : ∀ k, k < st.length → s[k]? = st[k]? ∨ ∃ o, s[k]? = some o ∧ LowO st.length o) (w : Low st.length d) : gcB g ds st = .ok d s := by
  unfold gcB
  rw [h]
  first | rw [gcR_ok] | rw [gcR_ex]
  rw [if_pos ⟨oldOk_set hl J hs, w⟩, ← hl]
  simp
theorem gc_setN {g : Fn} {ds : List D} {st s J : Stt} {k : Nat} {o : O} (h : g ds st = .ok (.loc k) (s ++ J)) (hl : s.length = st.length) (hs : ∀ k, k < st.length → s[k]? = st[k]? ∨ ∃ o, s[k]? = some o ∧ LowO st.length o) (hk : st.length ≤ k) (ho : (s ++ J)[k]? = some o) (w : LowO st.length o) : gcB g ds st = .ok (.loc st.length) (s ++ [o]) := by
  unfold gcB
  rw [h]
  first | rw [gcR_ok] | rw [gcR_ex]
  rw [if_neg (by rw [low_loc]; omega)]
  simp only
  rw [if_pos ⟨oldOk_set hl J hs, hk, o, ho, w⟩, ho, ← hl]
  simp
theorem gc_exF {g : Fn} {ds : List D} {st J : Stt} {e : Exn} (h : g ds st = .ex e (st ++ J)) (w : LowX st.length e) : gcB g ds st = .ex e st := by
  unfold gcB
  rw [h, gcR_ex, if_pos ⟨oldOk_app st J, w⟩]
  simp
theorem gc_ex {g : Fn} {ds : List D} {st J : Stt} {C : Addr} (h : g ds st = .ex ⟨C, none⟩ (st ++ J)) : gcB g ds st = .ex ⟨C, none⟩ st := gc_exF h fun _ h => by cases h
theorem gc_no {g : Fn} {ds : List D} {st : Stt} (h : g ds st = .no) : gcB g ds st = .no := by unfold gcB; rw [h]; rfl
end Rg

set_option Elab.async false
set_option linter.all false
set_option maxRecDepth 100000
set_option maxHeartbeats 1000000
namespace Rg
open PySem PySem.Spec PyProof.Rows L2
theorem kit_own {K : PySem.W.Frag} {C D : Addr} {b : Bool} (hd : PySem.W.hasDictIn K C = true) (ht : PySem.W.typeIn K (.ref C) = some (.type "type")) (h : PySem.W.subIn K (.ref D) (.ref C) = some b) (hb : D = C → b = true) : PySem.W.kitOne K (.ref D) (.ref C) = some b := by
  unfold PySem.W.kitOne
  split
  · rename_i e
    have e : Value.ref D = Value.ref C := beq_iff_eq.mp e
    rw [hb (Value.ref.inj e)]
  · obtain ⟨cd, hc, _⟩ := PySem.W.any_some hd
    have e2 : ((PySem.W.clsIn K C).isSome && PySem.W.typeIn K (.ref C) == some (.type "type")) = true := by rw [hc, ht] <;> rfl
    show (if ((PySem.W.clsIn K C).isSome && PySem.W.typeIn K (.ref C) == some (.type "type")) = true then PySem.W.subIn K (.ref D) (.ref C) else none) = some b
    rw [if_pos e2]
    exact h
/-! ### helpers for the mathematics -/
abbrev tx (l : List Nat) : Str := ⟨l.toArray⟩
theorem gcE {g : Fn} {ds : List D} {st : Stt} {d : D} (h : ∃ J, g ds st = .ok d (st ++ J)) (w : Low st.length d) : gcB g ds st = .ok d st := by
  obtain ⟨J, h⟩ := h
  exact gc_low h w
theorem gcN {g : Fn} {ds : List D} {st : Stt} {o : O} (h : ∃ J k, g ds st = .ok (.loc k) (st ++ J) ∧ st.length ≤ k ∧ (st ++ J)[k]? = some o) (w : LowO st.length o) : gcB g ds st = .ok (.loc st.length) (st ++ [o]) := by
  obtain ⟨J, k, h, hk, ho⟩ := h
  exact gc_new h hk ho w
theorem gcX {g : Fn} {ds : List D} {st : Stt} {C : Addr} (h : ∃ J, g ds st = .ex ⟨C, none⟩ (st ++ J)) : gcB g ds st = .ex ⟨C, none⟩ st := by
  obtain ⟨J, h⟩ := h
  exact gc_ex h
theorem gcXF {g : Fn} {ds : List D} {st : Stt} {e : Exn} (h : ∃ J, g ds st = .ex e (st ++ J)) (w : LowX st.length e) : gcB g ds st = .ex e st := by
  obtain ⟨J, h⟩ := h
  exact gc_exF h w
theorem gcS {g : Fn} {ds : List D} {st s : Stt} {d : D} (h : ∃ J, g ds st = .ok d (s ++ J)) (hl : s.length = st.length) (hs : ∀ k, k < st.length → s[k]? = st[k]? ∨ ∃ o, s[k]? = some o ∧ LowO st.length o) (w : Low st.length d) : gcB g ds st = .ok d s := by
  obtain ⟨J, h⟩ := h
  exact gc_set h hl hs w
theorem gcSN {g : Fn} {ds : List D} {st s : Stt} {o : O} (h : ∃ J k, g ds st = .ok (.loc k) (s ++ J) ∧ st.length ≤ k ∧ (s ++ J)[k]? = some o) (hl : s.length = st.length) (hs : ∀ k, k < st.length → s[k]? = st[k]? ∨ ∃ o, s[k]? = some o ∧ LowO st.length o) (w : LowO st.length o) : gcB g ds st = .ok (.loc st.length) (s ++ [o]) := by
  obtain ⟨J, k, h, hk, ho⟩ := h
  exact gc_setN h hl hs hk ho w
theorem gc_bl {g : Fn} {ds : List D} {st s : Stt} {b : Bool} (h : g ds st = .ok (.bl b) s) : ∃ s', gcB g ds st = .ok (.bl b) s' := by
  unfold gcB
  rw [h, gcR_ok]
  split
  · exact ⟨_, rfl⟩
  · exact ⟨_, rfl⟩
@[simp] theorem noX_rt (d : D) (s : Stt) : noX (.rt d s) = .rt d s := (rfl)
@[simp] theorem noX_nx (d : En) (s : Stt) : noX (.nx d s) = .nx d s := (rfl)
@[simp] theorem clr_rt (i : Nat) (d : D) (s : Stt) : clr i (.rt d s) = .rt d s := (rfl)
@[simp] theorem clr_nx (i : Nat) (d : En) (s : Stt) : clr i (.nx d s) = .nx (d.set i none) s := (rfl)
@[simp] theorem sRaise_run (C : Addr) (ρ : En) (st : Stt) : sRaise C ρ st = .xx ρ ⟨C, none⟩ st := (rfl)
@[simp] theorem xIsE_run (sub : Option Bool) (a : Addr × Addr) (e : Exn) (i : Nat) (ρ : En) (st : Stt) : xIsE sub a e i ρ st = (xV i ρ st).bind (isE sub a e) := (rfl)
@[simp] theorem isE_run (b : Bool) (a : Addr × Addr) (C : Addr) (s : Stt) : isE (some b) a ⟨C, none⟩ (.opq a.1) s = .ok (.bl b) s := if_pos ⟨rfl, rfl⟩
@[simp] theorem isE_runF (b : Bool) (a : Addr × Addr) (C : Addr) (fs : List (Str × D)) (ks : List Str) (ds : List D) (s : Stt) : isE (some b) a ⟨C, some fs⟩ (.exo a.1 a.2 ks ds) s = .ok (.bl b) s := if_pos ⟨⟨rfl, rfl⟩, rfl⟩
@[simp] theorem excD_none (a dd C : Addr) : excD a dd ⟨C, none⟩ = .opq a := (rfl)
@[simp] theorem excD_some (a dd C : Addr) (fs : List (Str × D)) : excD a dd ⟨C, some fs⟩ = .exo a dd (fs.map (·.1)) (fs.map (·.2)) := (rfl)
@[simp] theorem xFldE_run (sub : Option Bool) (a : Addr × Addr) (e : Exn) (f : Str) (i : Nat) (ρ : En) (st : Stt) : xFldE sub a e f i ρ st = (xV i ρ st).bind fun x s => fldE sub a f x s e := (rfl)
@[simp] theorem fldE_run (b : Bool) (a : Addr × Addr) (C : Addr) (fs : List (Str × D)) (f : Str) (ks : List Str) (ds : List D) (s : Stt) : fldE (some b) a f (.exo a.1 a.2 ks ds) s ⟨C, some fs⟩ = match (ks.zip ds).lookup f with | some d => .ok d s | none => .no := if_pos ⟨⟨rfl, rfl⟩, rfl⟩
@[simp] theorem common_c (o : Out) : common (fun _ => o) = o := common_of fun _ => rfl
@[simp] theorem sTryA_run (ca : Addr → Option Bool) (i : Nat) (f : XS) (g : Addr × Addr → Exn → XS) (ρ : En) (st : Stt) : sTryA ca i f g ρ st = match f ρ st with
  | .xx ρ' e s => (match ca e.cls with
    | some true => common fun a => clr i (noX (g a e (ρ'.set i (some (excD a.1 a.2 e))) s))
    | some false => .xx ρ' e s
    | none => .no)
  | o => o := by unfold sTryA; rfl
@[simp] theorem sTry0_run (ca : Addr → Option Bool) (f g : XS) (ρ : En) (st : Stt) : sTry0 ca f g ρ st = match f ρ st with
  | .xx ρ' e s => (match ca e.cls with
    | some true => noX (g ρ' s)
    | some false => .xx ρ' e s
    | none => .no)
  | o => o := by unfold sTry0; rfl
@[simp] theorem xSortIt_run (fa : XE) (ρ : En) (st : Stt) : xSortIt fa ρ st = (fa ρ st).bind sortItF := (rfl)
@[simp] theorem xEnum_run (g : XA) (ρ : En) (st : Stt) : xEnum g ρ st = (g ρ st).bind wkEnum := (rfl)
@[simp] theorem xZip_run (g : XA) (ρ : En) (st : Stt) : xZip g ρ st = (g ρ st).bind wkZip := (rfl)
@[simp] theorem oSlA_at (st : Stt) (n : Nat) (lo hi : Option Int) : oSlA (.loc n) lo hi st = match st[n]? with | some (.lst ds) => some (.loc st.length, st ++ [.lst (cutD ds lo hi)]) | _ => none := by
  show (items st (.loc n)).map _ = _
  rw [items_at]
  cases h : st[n]? with
  | none => simp
  | some o => cases o <;> simp
@[simp] theorem wkEnum_at (st : Stt) (n : Nat) : wkEnum [.loc n] st = match st[n]? with | some (.lst ds) => .ok ⟨enumD ds, fun st => items st (.loc n) = some ds⟩ st | _ => .no := by
  unfold wkEnum
  simp only [items_at]
  cases h : st[n]? with
  | none => simp
  | some o => cases o <;> simp
@[simp] theorem wkZip_at (st : Stt) (n m : Nat) : wkZip [.loc n, .loc m] st = match st[n]? with | some (.lst ds) => (match st[m]? with | some (.lst es) => .ok ⟨zipD ds es, fun st => items st (.loc n) = some ds ∧ items st (.loc m) = some es⟩ st | _ => .no) | _ => .no := by
  unfold wkZip
  simp only [items_at]
  cases h : st[n]? with
  | none => simp
  | some o =>
    cases o with
    | lst ds =>
      cases h2 : st[m]? with
      | none => simp
      | some o => cases o <;> simp
    | _ => simp
theorem wkRange_i {i : Int} (h0 : 0 ≤ i) (h : i ≤ 1000000) (st : Stt) : wkRange [.int i] st = .ok ⟨intsD 0 i.toNat, fun _ => True⟩ st := if_pos ⟨by omega, by omega⟩
theorem wkRange_n {n : Nat} (h : n ≤ 1000000) (st : Stt) : wkRange [.int (n : Int)] st = .ok ⟨intsD 0 n, fun _ => True⟩ st := wkRange_i (by omega) (by omega) st
theorem cutD_from (ds : List D) (k : Nat) : cutD ds (some (k : Int)) none = ds.drop k := by
  rw [cutD_run]
  simp only [sIx_some', sIx_none']
  rw [if_neg (by omega), Int.toNat_natCast]
  by_cases h : k ≤ ds.length
  · rw [Nat.min_eq_left h, List.take_of_length_le (by simp)]
  · rw [Nat.min_eq_right (by omega), List.drop_length, List.drop_eq_nil_of_le (by omega)]; simp
theorem cutD_from1 (ds : List D) : cutD ds (some 1) none = ds.drop 1 := cutD_from ds 1
theorem cutD_to (ds : List D) (k : Nat) : cutD ds none (some (k : Int)) = ds.take k := by
  rw [cutD_run]
  simp only [sIx_some', sIx_none']
  rw [if_neg (by omega), Int.toNat_natCast, List.drop_zero, Nat.sub_zero]
  by_cases h : k ≤ ds.length
  · rw [Nat.min_eq_left h]
  · rw [Nat.min_eq_right (by omega), List.take_of_length_le (Nat.le_refl _), List.take_of_length_le (by omega)]
theorem cutD_neg1 (ds : List D) : cutD ds none (some (-1)) = ds.dropLast := by
  rw [cutD_run]
  simp only [sIx_some', sIx_none']
  rw [if_pos (by omega), List.drop_zero, Nat.sub_zero, List.dropLast_eq_take]
  congr 1
  omega
/-! comprehensions whose parts make nothing -/
theorem comp_map {L : Nat} {ok : Stt → Prop} {g : XG} {t : XT} {f : XE} {ρ : En} {φ : D → D} {st : Stt} (hL : L = st.length) (hok : ∀ l, ok (st ++ [.lst l])) : ∀ (ds acc : List D),
    (∀ d ∈ ds, ∃ ρ1, g d ρ = some ρ1 ∧ ∀ l, t ρ1 (st ++ [.lst l]) = .ok true (st ++ [.lst l]) ∧ f ρ1 (st ++ [.lst l]) = .ok (φ d) (st ++ [.lst l])) → acc.length + ds.length < 16777216 →
    compF L ok g t f ρ ds (st ++ [.lst acc]) = .ok () (st ++ [.lst (acc ++ ds.map φ)])
  | [], acc, _, _ => by unfold compF; rw [if_pos (hok _)]; simp
  | d :: ds, acc, h, hz => by
    obtain ⟨ρ1, h1, h2⟩ := h d (by simp)
    obtain ⟨h3, h4⟩ := h2 acc
    have ih := comp_map (φ := φ) hL hok ds (acc ++ [φ d]) (fun e he => h e (by simp [he])) (by simp at hz ⊢; omega)
    unfold compF
    rw [if_pos (hok _), h1]
    simp only [h3, h4]
    have e : lstAt (st ++ [.lst acc]) (.loc L) = some (L, acc) := lstAt_loc (by rw [hL]; simp)
    have hz2 : acc.length < sizeLine := by rw [sizeLine_eq]; simp at hz; omega
    simp only [e, if_pos hz2]
    have e2 : (st ++ [O.lst acc]).set L (.lst (acc ++ [φ d])) = st ++ [.lst (acc ++ [φ d])] := by rw [hL]; simp
    rw [e2, ih]
    simp
/-- .. with a test -/
theorem comp_fil {L : Nat} {ok : Stt → Prop} {g : XG} {t : XT} {f : XE} {ρ : En} {p : D → Bool} {φ : D → D} {st : Stt} (hL : L = st.length) (hok : ∀ l, ok (st ++ [.lst l])) : ∀ (ds acc : List D),
    (∀ d ∈ ds, ∃ ρ1, g d ρ = some ρ1 ∧ ∀ l, t ρ1 (st ++ [.lst l]) = .ok (p d) (st ++ [.lst l]) ∧ (p d = true → f ρ1 (st ++ [.lst l]) = .ok (φ d) (st ++ [.lst l]))) → acc.length + ds.length < 16777216 →
    compF L ok g t f ρ ds (st ++ [.lst acc]) = .ok () (st ++ [.lst (acc ++ (ds.filter p).map φ)])
  | [], acc, _, _ => by unfold compF; rw [if_pos (hok _)]; simp
  | d :: ds, acc, h, hz => by
    obtain ⟨ρ1, h1, h2⟩ := h d (by simp)
    obtain ⟨h3, h4⟩ := h2 acc
    unfold compF
    rw [if_pos (hok _), h1]
    simp only [h3]
    cases hp : p d with
    | false =>
      simp only [hp]
      have ih := comp_fil (p := p) (φ := φ) hL hok ds acc (fun e he => h e (by simp [he])) (by simp at hz ⊢; omega)
      rw [ih]
      simp [hp]
    | true =>
      simp only [hp]
      have ih := comp_fil (p := p) (φ := φ) hL hok ds (acc ++ [φ d]) (fun e he => h e (by simp [he])) (by simp at hz ⊢; omega)
      simp only [h4 hp]
      have e : lstAt (st ++ [.lst acc]) (.loc L) = some (L, acc) := lstAt_loc (by rw [hL]; simp)
      have hz2 : acc.length < sizeLine := by rw [sizeLine_eq]; simp at hz; omega
      simp only [e, if_pos hz2]
      have e2 : (st ++ [O.lst acc]).set L (.lst (acc ++ [φ d])) = st ++ [.lst (acc ++ [φ d])] := by rw [hL]; simp
      rw [e2, ih]
      simp [hp]
@[simp] theorem bools_map' {α : Type} (p : α → Bool) : ∀ l : List α, bools (l.map fun c => D.bl (p c)) = some (l.map p)
  | [] => rfl
  | c :: l => by rw [List.map_cons, bools_cons, bools_map' p l]; rfl
theorem forF_nil' {ok : Stt → Prop} {g : XG} {f : XS} {ρ : En} {st : Stt} (h : ok st) : forF ok g f [] ρ st = .nx ρ st := by unfold forF; exact if_pos h
theorem forF_cons' {ok : Stt → Prop} {g : XG} {f : XS} {d : D} {ds : List D} {ρ ρ1 : En} {st : Stt} (h : ok st) (hg : g d ρ = some ρ1) : forF ok g f (d :: ds) ρ st = match f ρ1 st with
    | .nx ρ' st' => forF ok g f ds ρ' st'
    | .ct ρ' st' => forF ok g f ds ρ' st'
    | .bk ρ' st' => .nx ρ' st'
    | r => r := by
  conv => lhs; unfold forF
  rw [if_pos h, hg]
  all_goals rfl
/-- while: so many turns lead there -/
def Turns (c : XT) (f : XS) (ρ : En) (st : Stt) (ρ' : En) (st' : Stt) (B : Nat) : Prop := ∃ k, k ≤ B ∧ ∀ m, whileF c f (m + k) ρ st = whileF c f m ρ' st'
theorem Turns.refl {c : XT} {f : XS} {ρ : En} {st : Stt} : Turns c f ρ st ρ st 0 := ⟨0, Nat.le_refl _, fun _ => rfl⟩
theorem Turns.trans {c : XT} {f : XS} {ρ ρ1 ρ2 : En} {st st1 st2 : Stt} {A B : Nat} (h : Turns c f ρ st ρ1 st1 A) (g : Turns c f ρ1 st1 ρ2 st2 B) : Turns c f ρ st ρ2 st2 (A + B) := by
  obtain ⟨k, h1, h2⟩ := h
  obtain ⟨l, g1, g2⟩ := g
  exact ⟨l + k, by omega, fun m => by rw [← Nat.add_assoc, h2, g2]⟩
theorem Turns.one {c : XT} {f : XS} {ρ ρ1 : En} {st s st1 : Stt} (h : c ρ st = .ok true s) (g : f ρ s = .nx ρ1 st1) : Turns c f ρ st ρ1 st1 1 := ⟨1, Nat.le_refl _, fun m => by
  rw [whileF_succ, h]
  simp only [R.out_ok, if_true, g]⟩
theorem Turns.le {c : XT} {f : XS} {ρ ρ1 : En} {st st1 : Stt} {A B : Nat} (h : Turns c f ρ st ρ1 st1 A) (hl : A ≤ B) : Turns c f ρ st ρ1 st1 B := by
  obtain ⟨k, h1, h2⟩ := h
  exact ⟨k, by omega, h2⟩
theorem Turns.run {c : XT} {f : XS} {ρ ρ1 : En} {st st1 s : Stt} {B : Nat} (h : Turns c f ρ st ρ1 st1 B) (hB : B < 1000000) (he : c ρ1 st1 = .ok false s) : sWhile c f ρ st = .nx ρ1 s := by
  obtain ⟨k, h1, h2⟩ := h
  have e : WN = (WN - k - 1 + 1) + k := by unfold WN; omega
  show whileF c f WN ρ st = _
  rw [e, h2, whileF_succ, he]
  simp
/-- .. and the next turn returns -/
theorem Turns.ret {c : XT} {f : XS} {ρ ρ1 : En} {st st1 s s2 : Stt} {d : D} {B : Nat} (h : Turns c f ρ st ρ1 st1 B) (hB : B < 1000000) (he : c ρ1 st1 = .ok true s) (hf : f ρ1 s = .rt d s2) : sWhile c f ρ st = .rt d s2 := by
  obtain ⟨k, h1, h2⟩ := h
  have e : WN = (WN - k - 1 + 1) + k := by unfold WN; omega
  show whileF c f WN ρ st = _
  rw [e, h2, whileF_succ, he]
  simp [hf]
/-- for: a step that keeps the slots' form -/
theorem forF_step {ok : Stt → Prop} {g : XG} {f : XS} {its : List D} {α : Type} (E : α → En) (S : α → Stt) (nx : α → D → α) (hok : ∀ x, ok (S x))
    (step : ∀ x d, d ∈ its → ∃ ρ1, g d (E x) = some ρ1 ∧ (f ρ1 (S x) = .nx (E (nx x d)) (S (nx x d)) ∨ f ρ1 (S x) = .ct (E (nx x d)) (S (nx x d)))) : ∀ (x : α), forF ok g f its (E x) (S x) = .nx (E (its.foldl nx x)) (S (its.foldl nx x)) := by
  induction its with
  | nil => intro x; unfold forF; rw [if_pos (hok x)]; rfl
  | cons d ds ih =>
    intro x
    obtain ⟨ρ1, h1, h2⟩ := step x d (by simp)
    unfold forF
    rw [if_pos (hok x), h1]
    have := ih (fun x e he => step x e (by simp [he])) (nx x d)
    rcases h2 with h2 | h2 <;> (simp only [h2]; exact this)
/-! data that equals itself -/
theorem eqv_refl_toD {st : Stt} : ∀ (n : Nat) (d : D) (p : PyData), toD st n d = some p → PyData.eqv p p = true := by
  have all : ∀ (n : Nat), (∀ d p, toD st n d = some p → PyData.eqv p p = true) → ∀ (ds : List D) (ps : List PyData), ds.mapM (toD st n) = some ps → PyData.eqvAll ps ps = true := by
    intro n hn ds
    induction ds with
    | nil => intro ps h; rw [List.mapM_nil] at h; cases h; simp [PyData.eqvAll]
    | cons d ds ih =>
      intro ps h
      rw [List.mapM_cons] at h
      obtain ⟨p, h1, h⟩ := Option.bind_eq_some_iff.mp h
      obtain ⟨qs, h2, h⟩ := Option.bind_eq_some_iff.mp h
      cases h
      rw [PySem.W.eqv_all_cons, hn d p h1, ih qs h2]
      rfl
  intro n
  induction n with
  | zero => intro d p h; cases h
  | succ n ih =>
    intro d p h
    cases d with
    | non => cases h; simp [PyData.eqv]
    | bl b => cases h; simp [PyData.eqv]
    | int i => cases h; simp [PyData.eqv]
    | opq _ => cases h
    | exo _ _ _ _ => cases h
    | str x =>
      have h : (if PyData.strOk x = true then some (PyData.str x) else none) = some p := h
      split at h
      · cases h; simp [PyData.eqv]
      · cases h
    | tup ds =>
      obtain ⟨qs, h1, h2⟩ := Option.map_eq_some_iff.mp (show (ds.mapM (toD st n)).map PyData.tuple = some p from h)
      subst h2
      rw [PyData.eqv]; exact all n ih ds qs h1
    | cl ds =>
      obtain ⟨qs, h1, h2⟩ := Option.map_eq_some_iff.mp (show (ds.mapM (toD st n)).map PyData.list = some p from h)
      subst h2
      rw [PyData.eqv]; exact all n ih ds qs h1
    | loc k =>
      have h : (match st[k]? with
        | some (.lst ds) => (ds.mapM (toD st n)).map PyData.list
        | _ => none) = some p := h
      split at h
      · obtain ⟨qs, h1, h2⟩ := Option.map_eq_some_iff.mp h
        subst h2
        rw [PyData.eqv]; exact all n ih _ qs h1
      · cases h
theorem deq_self {st : Stt} {x : D} {p : PyData} (h : toD st 60 x = some p) : deq st x x = some true := by
  unfold deq
  rw [h]
  simp [eqv_refl_toD 60 x p h]
/-- two lists with the same data -/
theorem deq_lists {st : Stt} {m n : Nat} {ds : List D} {ps : List PyData} (h1 : st[m]? = some (.lst ds)) (h2 : st[n]? = some (.lst ds)) (h : ds.mapM (toD st 59) = some ps) : deq st (.loc m) (.loc n) = some true := by
  have e : ∀ k, st[k]? = some (.lst ds) → toD st 60 (.loc k) = some (.list ps) := fun k hk => by
    show (match st[k]? with | some (.lst ds) => (ds.mapM (toD st 59)).map PyData.list | _ => none) = _
    rw [hk]
    show (ds.mapM (toD st 59)).map PyData.list = _
    rw [h]; rfl
  have r := eqv_refl_toD 60 _ _ (e m h1)
  unfold deq
  rw [e m h1, e n h2]
  simp [r]
theorem oNe_same {st : Stt} {x y : D} (h : deq st x y = some true) : oNe x y st = some (.bl false, st) := by unfold oNe; rw [h]; rfl
theorem oEq_same {st : Stt} {x y : D} (h : deq st x y = some true) : oEq x y st = some (.bl true, st) := by unfold oEq; rw [h]; rfl
/-- plain data: no places, not too deep, texts that are some -/
def okD : Nat → D → Bool
  | 0, _ => false
  | n + 1, d => match d with
    | .non => true
    | .bl _ => true
    | .int _ => true
    | .str x => PyData.strOk x
    | .tup ds => ds.all (okD n)
    | .cl ds => ds.all (okD n)
    | _ => false
def datD : Nat → D → PyData
  | 0, _ => .none
  | n + 1, d => match d with
    | .non => .none
    | .bl b => .bool b
    | .int i => .int i
    | .str x => .str x
    | .tup ds => .tuple (ds.map (datD n))
    | .cl ds => .list (ds.map (datD n))
    | _ => .none
theorem mapM_ok {st : Stt} {n : Nat} (h : ∀ d, okD n d = true → toD st n d = some (datD n d)) : ∀ ds : List D, ds.all (okD n) = true → ds.mapM (toD st n) = some (ds.map (datD n))
  | [], _ => rfl
  | d :: ds, k => by
    rw [List.all_cons, Bool.and_eq_true] at k
    rw [List.mapM_cons, h d k.1, mapM_ok h ds k.2]
    rfl
theorem toD_ok {st : Stt} : ∀ (n : Nat) (d : D), okD n d = true → toD st n d = some (datD n d)
  | 0, _, h => by cases h
  | n + 1, d, h => by
    cases d with
    | non => rfl
    | bl _ => rfl
    | int _ => rfl
    | str x => exact if_pos h
    | tup ds =>
      show (ds.mapM (toD st n)).map PyData.tuple = _
      rw [mapM_ok (toD_ok n) ds h]; rfl
    | cl ds =>
      show (ds.mapM (toD st n)).map PyData.list = _
      rw [mapM_ok (toD_ok n) ds h]; rfl
    | loc _ => cases h
    | opq _ => cases h
    | exo _ _ _ _ => cases h
theorem okD_mono : ∀ (n : Nat) (d : D), okD n d = true → okD (n + 1) d = true
  | 0, _, h => by cases h
  | n + 1, d, h => by
    cases d with
    | non => rfl
    | bl _ => rfl
    | int _ => rfl
    | str x => exact h
    | tup ds => exact List.all_eq_true.mpr fun d hd => okD_mono n d (List.all_eq_true.mp h d hd)
    | cl ds => exact List.all_eq_true.mpr fun d hd => okD_mono n d (List.all_eq_true.mp h d hd)
    | loc _ => cases h
    | opq _ => cases h
    | exo _ _ _ _ => cases h
theorem okD_le {m n : Nat} {d : D} (hmn : m ≤ n) (h : okD m d = true) : okD n d = true := by
  induction hmn with
  | refl => exact h
  | step _ ih => exact okD_mono _ _ ih
theorem okD_low : ∀ (n : Nat) (d : D) (k : Nat), okD n d = true → Low k d
  | 0, _, _, h => by cases h
  | n + 1, d, k, h => by
    cases d with
    | non => exact .non
    | bl b => exact .bl b
    | int i => exact .int i
    | str x => exact .str x
    | tup ds => exact (low_tup k ds).mpr fun d hd => okD_low n d k (List.all_eq_true.mp h d hd)
    | cl ds => exact (low_cl k ds).mpr fun d hd => okD_low n d k (List.all_eq_true.mp h d hd)
    | loc _ => cases h
    | opq _ => cases h
    | exo _ _ _ _ => cases h
end Rg

set_option Elab.async false
set_option linter.all false
set_option maxRecDepth 100000
set_option maxHeartbeats 1000000
/-! ### t[::-1], t a tuple -/
namespace RgT
open PySem PySem.Calls PyProof.Rows PySem.W HT
section
variable {pg : Program} {wd : World} {Ar : Around} {Er : Value → Shared → Prop} {sh : Shared}
theorem adj_rev (n : Nat) : Builtin.Slice.sliceAdjust none none (-1) (n : Int) = ((n : Int) - 1, -1) := by
  unfold Builtin.Slice.sliceAdjust
  simp
theorem pl_rev (n : Nat) : Builtin.Slice.slicePlaces ((n : Int) - 1) (-1) (-1) = n := by
  unfold Builtin.Slice.slicePlaces
  have z : ¬ ((-1 : Int) > 0) := by omega
  rw [if_neg z]
  split <;> simp <;> omega
theorem app_rev {c : Addr} {v3 : Value} {n : Nat} {Qr : Int × Int × Nat → Shared → Prop} (hs : sh.heap.IsSliceOf c .none .none v3) (p3 : IsPart v3 (some (-1))) (hq : Qr ((n : Int) - 1, -1, n) sh) :
    wpAny (model pg wd) Ar (Builtin.Slice.sliceApplied (.ref c) (pure (n : Int))) Qr Er sh := by
  obtain ⟨oc, h1, h2, h3⟩ := id hs
  unfold Builtin.Slice.sliceApplied Builtin.Slice.sliceFields
  have f1 := fun {Q} (q : Q Value.none sh) => wpAny_field (M := model pg wd) (A := Ar) (E := Er) h1 h3 (x := .none) (i := 0) (Q := Q) rfl q
  refine wpAny_bind (wpAny_bind (f1 (wpAny_bind (wpAny_field h1 h3 (x := .none) rfl (wpAny_bind (wpAny_field h1 h3 (x := v3) rfl (wpAny_pure ?_)))))))
  refine wpAny_bind (slicePart_ p3 ?_)
  show wpAny _ _ (if ((-1 : Int) == 0) = true then _ else _) _ _ sh
  rw [if_neg (by decide)]
  refine wpAny_bind (slicePart_none (wpAny_bind (slicePart_none (wpAny_bind (wpAny_pure ?_)))))
  show wpAny _ _ (match Builtin.Slice.sliceAdjust none none (-1) (n : Int) with | (x, y) => pure (x, (-1 : Int), Builtin.Slice.slicePlaces x y (-1))) _ _ sh
  rw [adj_rev]
  show wpAny _ _ (pure ((n : Int) - 1, (-1 : Int), Builtin.Slice.slicePlaces ((n : Int) - 1) (-1) (-1))) _ _ sh
  rw [pl_rev]
  exact wpAny_pure hq
theorem fm_some {α β : Type} {f : α → Option β} {g : α → β} : ∀ l : List α, (∀ x ∈ l, f x = some (g x)) → l.filterMap f = l.map g
  | [], _ => rfl
  | x :: l, h => by rw [List.filterMap_cons, h x (by simp), fm_some l fun y hy => h y (by simp [hy])]; rfl
theorem pick_rev (xs : Array Value) : ((List.range xs.size).filterMap fun (m : Nat) => xs[((xs.size : Int) - 1 + (m : Int) * (-1)).toNat]?) = xs.toList.reverse := by
  apply List.ext_getElem?
  intro i
  have e : ((List.range xs.size).filterMap fun (m : Nat) => xs[((xs.size : Int) - 1 + (m : Int) * (-1)).toNat]?) = (List.range xs.size).map fun m => xs.toList.reverse.getD m .none := by
    refine fm_some _ fun m hm => ?_
    have hm := List.mem_range.mp hm
    have e1 : ((xs.size : Int) - 1 + (m : Int) * (-1)).toNat = xs.size - 1 - m := by omega
    rw [e1, List.getD_eq_getElem?_getD, List.getElem?_reverse (by simpa using hm), Array.length_toList, Array.getElem?_toList]
    have : xs.size - 1 - m < xs.size := by omega
    rw [Array.getElem?_eq_getElem this]
    rfl
  rw [e, List.getElem?_map]
  by_cases h : i < xs.size
  · rw [List.getElem?_range h, Option.map_some, List.getD_eq_getElem?_getD]
    have : i < xs.toList.reverse.length := by simpa using h
    rw [List.getElem?_eq_getElem this]
    rfl
  · rw [List.getElem?_eq_none (by simpa using h), List.getElem?_eq_none (by simpa using h)]
    rfl
theorem item_rev {t c : Addr} {xs : Array Value} {v3 : Value} {Qr : Value → Shared → Prop} (ht : IsTup sh.heap t xs) (hs : sh.heap.IsSliceOf c .none .none v3) (p3 : IsPart v3 (some (-1)))
    (hq : Qr (.ref sh.heap.objs.size) { sh with heap := sh.heap.push { cls := .type "tuple", data := .seq xs.toList.reverse.toArray } }) (hz : xs.size ≤ sizeLine) : wpAny (model pg wd) Ar (getItem (.ref t) (.ref c)) Qr Er sh := by
  have hok : sizeOk (.seq xs.toList.reverse.toArray) := by
    show xs.toList.reverse.toArray.size ≤ sizeLine
    simpa using hz
  obtain ⟨oc, h1, h2, h3⟩ := id hs
  have hT : sh.TypeIs (.ref c) "slice" := ⟨oc, h1, h2⟩
  unfold getItem
  try with_reducible refine wpAny_holding ?_
  first | refine wpAny_bind (wpAny_pure ?_) | skip
  refine wpAny_bind (wpAny_sequenceKey ht.typeIs (by decide) ?_)
  have sl := PyProof.Rows.slot_tuple_getitem
  refine wpAny_bind (wpAny_callSpecial?_slot (name := Str.ofString "__getitem__") ht.typeIs sl (wpAny_call_entry sl ht.typeIs entry_tuple_getitem ?_ (args_tuple_getitem _ _)))
  show wpAny _ _ (Builtin.Tuple.tupleItemsOf (.ref t) >>= _) _ _ sh
  refine wpAny_bind (tupleItemsOf_ ht (wpAny_bind (wpAny_typeOf hT ?_)))
  rw [if_pos (by decide)]
  refine wpAny_bind (app_rev hs p3 ?_)
  have hno : ¬ ((((xs.size : Int) - 1 == 0 && (-1 : Int) == 1 && xs.size == xs.size)) = true) := by simp
  show wpAny _ _ (if (((xs.size : Int) - 1 == 0 && (-1 : Int) == 1 && xs.size == xs.size)) = true then _ else _) _ _ sh
  rw [if_neg hno, pick_rev]
  first
    | exact wpAny_bind (m := Builtin.Tuple.tupleExact _) (wpAny_newObj_type (wpAny_pure ⟨_, rfl, wpAny_pure hq⟩) hok)
    | exact wpAny_bind (m := Builtin.Tuple.tupleExact _) (wpAny_newObj_type (wpAny_bind (wpAny_pure (wpAny_pure ⟨_, rfl, wpAny_pure hq⟩))) hok)
    | exact wpAny_bind (wpAny_bind (m := Builtin.Tuple.tupleExact _) (wpAny_newObj_type (wpAny_pure (wpAny_pure ⟨_, rfl, wpAny_pure hq⟩)) hok))
    | exact wpAny_bind (wpAny_bind (m := Builtin.Tuple.tupleExact _) (wpAny_newObj_type (wpAny_pure ⟨_, rfl, wpAny_pure hq⟩) hok))
end
end RgT
namespace Rg
open PySem PySem.Spec PyProof.Rows L2
def tRevT (K : PySem.W.Frag) (te : TE) : TE := fun σ H Q => te σ H fun x H1 => ∃ a xs, x = .ref a ∧ SqT K H1 a xs ∧ ∀ p, H1 p = none → Q (.ref p) (upd H1 p (.tup xs.reverse))
section
variable {X : Cx} {W : WX}
theorem pe_revT {ex : Expr} {te : TE} {k : Nat} {q1 q2 q3 pos : Pos} (he : PE X ex te) : PE X (.Subscript ex (.Slice none none (some (.UnaryOp .USub (.Constant (.int 1) k q1) q2)) q3) pos) (tRevT X.K te) := by
  refine ⟨fun pins s σ H Q I h => ?_⟩
  refine Subscript_ (thn (he.run pins s σ H _ I h) fun v s1 ⟨x, H1, I1, r1, a, xs, ex', hx, q⟩ => ?_)
  subst ex'
  cases r1
  have hst : PO X (some (.UnaryOp .USub (.Constant (.int 1) k q1) q2)) (tPart (tUn (rU fun i => .int (-i)) (tC (.int 1)))) := po_some (pe_un un_neg pe_int)
  refine wpAny_Slice (thn (po_none.run pins s1 σ H1 (fun o G => o = none ∧ G = H1) I1 ⟨rfl, rfl⟩) fun vl s2 ⟨l, H2, I2, pl, el, e2⟩ => ?_)
  subst el e2
  refine thn (po_none.run pins s2 σ H2 (fun o G => o = none ∧ G = H2) I2 ⟨rfl, rfl⟩) fun vu s3 ⟨u, H3, I3, pu, eu, e3⟩ => ?_
  subst eu e3
  refine thn (hst.run pins s3 σ H3 (fun o G => o = some (-1) ∧ G = H3) I3 ⟨1, rfl, -1, rfl, rfl, rfl⟩) fun vs s4 ⟨o, H4, I4, pt, eo, e4⟩ => ?_
  subst eo e4
  cases pl
  cases pu
  have I5 : L2.Inv X pins σ H4 { s4 with heap := s4.heap.push { cls := .type "slice", data := .fields #[.none, .none, vs] } } := I4.kept (t' := s4.toks) fun b ob g => Heap.get?_push_of_some _ g
  obtain ⟨its, r, ht, hz⟩ := I5.tuple hx
  have hlen := r.length
  refine tail_any (ops := [.ref a, .ref s4.heap.objs.size]) ht.typeIs PyProof.Rows.slot_tuple_getitem.lookup ?_ (by with_unfolding_all rfl)
  refine RgT.item_rev ht (Heap.IsSliceOf.new _ .none .none vs) pt ?_ (by rw [List.size_toArray]; omega)
  refine ⟨.ref _, _, I5.laid (t' := s4.toks) (o := .tup xs.reverse) (fun b ob g => Heap.get?_push_of_some _ g) (Nat.le_refl _) ?_, rfl, q _ (I5.hok.fresh (Nat.le_refl _))⟩
  exact ⟨by rw [List.length_reverse]; omega, its.reverse, r.reverse, ⟨_, Heap.get?_push_size _ rfl, rfl, 0, rfl⟩⟩
theorem pe_or {e : Expr} {t t' : TE} (h : PE X e t) (h' : PE X e t') : PE X e (fun σ H Q => t σ H Q ∨ t' σ H Q) := ⟨fun pins s σ H Q I q => by
  rcases q with q | q
  · exact h.run pins s σ H Q I q
  · exact h'.run pins s σ H Q I q⟩
/-- xs[::-1], a list or a tuple -/
def oRev2 : Op1 := fun d st => match d with
  | .tup ds => some (.tup ds.reverse, st)
  | d => oRev d st
theorem e_rev2 {e : Expr} {fa : XE} {k : Nat} {p1 p2 p3 pos : Pos} (he : PE X e (tX X.K W fa)) : PE X (.Subscript e (.Slice none none (some (.UnaryOp .USub (.Constant (.int 1) k p1) p2)) p3) pos) (tX X.K W (x1 oRev2 fa)) :=
  pe_imp (pe_or (pe_revL he) (pe_revT he)) fun σ H Q ⟨ρ, st, μ, E, S, h⟩ => by
    cases hf : fa ρ st with
    | no => 
      have h : RO X.K (wx X.K W σ) H μ (QD X.K Q) ((fa ρ st).bind fun x s1 => R.of (oRev2 x s1)) := h
      rw [hf] at h
      exact h.elim
    | ex e s =>
      have h : RO X.K (wx X.K W σ) H μ (QD X.K Q) ((fa ρ st).bind fun x s1 => R.of (oRev2 x s1)) := h
      rw [hf] at h
      exact .inl ⟨ρ, st, μ, E, S, by rw [hf]; exact h⟩
    | ok d s =>
      have h : RO X.K (wx X.K W σ) H μ (QD X.K Q) ((fa ρ st).bind fun x s1 => R.of (oRev2 x s1)) := h
      rw [hf] at h
      have h : RO X.K (wx X.K W σ) H μ (QD X.K Q) (R.of (oRev2 d s)) := h
      obtain ⟨z, s3, h3, k⟩ := h.of
      have hc : (∃ ds, d = .tup ds) ∨ oRev2 d s = oRev d s := by
        cases d with
        | tup ds => exact .inl ⟨ds, rfl⟩
        | _ => exact .inr rfl
      rcases hc with ⟨ds, rfl⟩ | hc
      · right
        cases h3
        refine ⟨ρ, st, μ, E, S, ?_⟩
        rw [hf]
        intro H1 μ1 e1 S1 v r
        obtain ⟨a, vs, rfl, hq, q⟩ := seqT (K := X.K) r
        refine ⟨a, vs, rfl, hq, fun p hp => ?_⟩
        exact k _ μ1 (e1.trans (ext_tup hp _)) (S1.tup hp _) _ (.tup (.inl (.inl upd_same)) (q.reverse.ext (ext_tup hp _)))
      · left
        rw [hc] at h3
        unfold oRev at h3
        obtain ⟨ds, h4, h3⟩ := Option.map_eq_some_iff.mp h3
        cases h3
        refine ⟨ρ, st, μ, E, S, ?_⟩
        rw [hf]
        intro H1 μ1 e1 S1 v r
        obtain ⟨l, vs, rfl, hq, q⟩ := litems_seq S1 h4 r
        exact ⟨l, vs, rfl, hq, fun p hp => k _ _ (e1.trans (ext_new hp _)) (S1.newL hp q.reverse) _ (loc_new S1)⟩
end
@[simp] theorem oRev2_tup (ds : List D) (st : Stt) : oRev2 (.tup ds) st = some (.tup ds.reverse, st) := (rfl)
@[simp] theorem oRev2_at (st : Stt) (n : Nat) : oRev2 (.loc n) st = match st[n]? with | some (.lst ds) => some (.loc st.length, st ++ [.lst ds.reverse]) | _ => none := oRev_at st n
end Rg

set_option Elab.async false
set_option linter.all false
set_option maxRecDepth 100000
set_option maxHeartbeats 1000000
namespace Rg
open PySem PySem.Spec PyProof.Rows L2
/-! ### sorted(d.items()), the keys texts -/
theorem mapM_mem {α β : Type} {f : α → Option β} : ∀ {ds : List α} {qs : List β}, ds.mapM f = some qs → ∀ q ∈ qs, ∃ d ∈ ds, f d = some q
  | [], qs, h, q, hq => by rw [List.mapM_nil] at h; cases h; cases hq
  | d :: ds, qs, h, q, hq => by
    rw [List.mapM_cons] at h
    obtain ⟨p, h1, h⟩ := Option.bind_eq_some_iff.mp h
    obtain ⟨ps, h2, h⟩ := Option.bind_eq_some_iff.mp h
    cases h
    rcases List.mem_cons.mp hq with rfl | hq
    · exact ⟨d, by simp, h1⟩
    · obtain ⟨e, he, h3⟩ := mapM_mem h2 q hq
      exact ⟨e, by simp [he], h3⟩
theorem mapM_len {α β : Type} {f : α → Option β} : ∀ {ds : List α} {qs : List β}, ds.mapM f = some qs → ds.length = qs.length
  | [], qs, h => by rw [List.mapM_nil] at h; cases h; rfl
  | d :: ds, qs, h => by
    rw [List.mapM_cons] at h
    obtain ⟨p, h1, h⟩ := Option.bind_eq_some_iff.mp h
    obtain ⟨ps, h2, h⟩ := Option.bind_eq_some_iff.mp h
    cases h
    simp [mapM_len h2]
theorem nodup_inj {α β : Type} {f : α → β} : ∀ {l : List α}, (l.map f).Nodup → ∀ x ∈ l, ∀ y ∈ l, f x = f y → x = y
  | [], _, x, h, _, _, _ => by cases h
  | a :: l, hn, x, hx, y, hy, e => by
    rw [List.map_cons, List.nodup_cons] at hn
    rcases List.mem_cons.mp hx with h1 | h1 <;> rcases List.mem_cons.mp hy with h2 | h2
    · rw [h1, h2]
    · rw [h1] at e
      exact absurd (List.mem_map.mpr ⟨y, h2, e.symm⟩) hn.1
    · rw [h2] at e
      exact absurd (List.mem_map.mpr ⟨x, h1, e⟩) hn.1
    · exact nodup_inj hn.2 x h1 y h2 e
abbrev sdI (kvs : List (List Nat × D)) : List (Key × D) := kvs.map fun p => (Sum.inr (tx p.1), p.2)
theorem sortIt_ok {st : Stt} {n : Nat} {kvs : List (List Nat × D)} {qs : List PyData} (hst : st[n]? = some (.dct (sdI kvs))) (hq : (kvs.map (·.2)).mapM (toD st 59) = some qs) (hal : ∀ p ∈ qs, ∀ q ∈ qs, PySem.W.alike p q = true) (nd : (kvs.map (·.1)).Nodup) :
    ∃ out : List (List Nat × D), out.Perm kvs ∧ out.Pairwise (fun p q => p.1 < q.1) ∧ sortItF (.loc n) st = .ok (.loc st.length) (st ++ [.lst (out.map fun p => .tup [.str (tx p.1), p.2])]) := by
  have hlen : kvs.length = qs.length := by have := mapM_len hq; simpa using this
  have e1 : (sdI kvs).map (·.2) = kvs.map (·.2) := by simp [sdI, Function.comp_def]
  have e2 : prD (((sdI kvs).map (·.1)).zip qs) = (kvs.zip qs).map fun z => PyData.tuple [.str (tx z.1.1), z.2] := by
    unfold prD
    have : (sdI kvs).map (·.1) = kvs.map fun p => Sum.inr (tx p.1) := by simp [sdI, Function.comp_def]
    rw [this, List.zip_map_left, List.map_map]
    rfl
  have hz1 : (kvs.zip qs).map (·.1) = kvs := List.map_fst_zip (by omega)
  have al : ∀ z ∈ kvs.zip qs, ∀ w ∈ kvs.zip qs, PySem.W.alike z.2 w.2 = true := fun z hz w hw => hal _ (List.of_mem_zip hz).2 _ (List.of_mem_zip hw).2
  have hA : alikeB (prD (((sdI kvs).map (·.1)).zip qs)) = true := by
    rw [e2]
    unfold alikeB
    refine List.all_eq_true.mpr fun d hd => List.all_eq_true.mpr fun e he => ?_
    obtain ⟨z, hz, rfl⟩ := List.mem_map.mp hd
    obtain ⟨w, hw, rfl⟩ := List.mem_map.mp he
    have := al z hz w hw
    simp [PySem.W.alike, PySem.W.alikeAll, this]
  have hS : sortableB (prD (((sdI kvs).map (·.1)).zip qs)) = true := by
    rw [e2]
    unfold sortableB
    rw [Bool.or_eq_true]
    refine .inl (List.all_eq_true.mpr fun d hd => ?_)
    obtain ⟨z, hz, rfl⟩ := List.mem_map.mp hd
    rfl
  have inj : ∀ z ∈ kvs.zip qs, ∀ w ∈ kvs.zip qs, z.1.1 = w.1.1 → z = w := by
    refine nodup_inj (f := fun z : (List Nat × D) × PyData => z.1.1) ?_
    have : (kvs.zip qs).map (fun z => z.1.1) = kvs.map (·.1) := by
      conv => rhs; rw [← hz1]
      rw [List.map_map]; rfl
    rw [this]; exact nd
  have rf : ∀ z ∈ kvs.zip qs, PyData.eqv z.2 z.2 = true := fun z hz => by
    obtain ⟨d, _, hd⟩ := mapM_mem hq z.2 (List.of_mem_zip hz).2
    exact eqv_refl_toD 59 d _ hd
  have key := PySem.W.sort_maps (r := fun z w : (List Nat × D) × PyData => decide (z.1.1 ≤ w.1.1)) (s := leP) (fun z => (D.tup [.str (tx z.1.1), z.1.2], PyData.tuple [.str (tx z.1.1), z.2])) (l := kvs.zip qs) (fun z hz w hw => by
    show _ = !PySem.W.dataLt (.tuple [.str (tx w.1.1), w.2]) (.tuple [.str (tx z.1.1), z.2])
    rw [PySem.W.dataLt_pair (by simp [PySem.W.alike]) (al w hw z hz)]
    by_cases h : w.1.1 = z.1.1
    · have := inj w hw z hz h
      subst this
      simp [PyData.eqv, rf w hw]
    · have h2 : ¬ PyData.eqv (.str (tx w.1.1)) (.str (tx z.1.1)) = true := by
        simp only [PyData.eqv]
        simpa using h
      rw [if_neg h2, PySem.W.dataLt_str, cps_l, cps_l, PySem.W.not_lt_str])
  generalize hm : (kvs.zip qs).mergeSort (fun z w : (List Nat × D) × PyData => decide (z.1.1 ≤ w.1.1)) = m at key
  have pm : m.Perm (kvs.zip qs) := by rw [← hm]; exact List.mergeSort_perm _ _
  have sm : m.Pairwise fun z w => decide (z.1.1 ≤ w.1.1) = true := by
    rw [← hm]
    refine List.pairwise_mergeSort (fun x y z h1 h2 => ?_) (fun x y => ?_) _
    · exact decide_eq_true (List.le_trans (of_decide_eq_true h1) (of_decide_eq_true h2))
    · rw [Bool.or_eq_true]
      rcases List.le_total x.1.1 y.1.1 with h | h
      · exact .inl (decide_eq_true h)
      · exact .inr (decide_eq_true h)
  have po : (m.map (·.1)).Perm kvs := by
    have := pm.map (·.1)
    rwa [hz1] at this
  refine ⟨m.map (·.1), po, ?_, ?_⟩
  · have n2 : ((m.map (·.1)).map (·.1)).Nodup := (po.map (·.1)).nodup_iff.mpr nd
    have n3 : (m.map (·.1)).Pairwise fun p q => p.1 ≠ q.1 := List.pairwise_map.mp n2
    have s2 : (m.map (·.1)).Pairwise fun p q => p.1 ≤ q.1 := List.pairwise_map.mpr (sm.imp fun h => of_decide_eq_true h)
    exact (s2.and n3).imp fun h => by
      rcases List.le_iff_lt_or_eq.mp h.1 with g | g
      · exact g
      · exact absurd g h.2
  · unfold sortItF
    rw [dctAt_loc hst]
    dsimp only
    rw [e1, hq]
    dsimp only
    rw [if_pos ⟨hA, hS⟩]
    congr 4
    unfold sortP
    rw [e2]
    have e3 : ((sdI kvs).map fun kv => D.tup [kD kv.1, kv.2]).zip ((kvs.zip qs).map fun z => PyData.tuple [.str (tx z.1.1), z.2]) = (kvs.zip qs).map fun z => (D.tup [.str (tx z.1.1), z.1.2], PyData.tuple [.str (tx z.1.1), z.2]) := by
      have : ((sdI kvs).map fun kv => D.tup [kD kv.1, kv.2]) = (kvs.zip qs).map fun z => D.tup [.str (tx z.1.1), z.1.2] := by
        conv => lhs; rw [← hz1]
        simp [sdI, Function.comp_def]
        intros; rfl
      rw [this, ← List.zip_map']
    rw [e3, ← key, List.map_map, List.map_map]
    rfl
theorem put_sd {kvs : List (List Nat × D)} (k : List Nat) (v : D) (nd : (kvs.map (·.1)).Nodup) : ∃ kvs', putD (sdI kvs) (.inr (tx k)) v = sdI kvs' ∧ (kvs'.map (·.1)).Nodup ∧ kvs'.length ≤ kvs.length + 1 ∧ ∀ p ∈ kvs', p ∈ kvs ∨ p = (k, v) := by
  unfold putD
  split
  · refine ⟨kvs.map fun p => if p.1 = k then (p.1, v) else p, ?_, ?_, by simp, ?_⟩
    · simp only [sdI, List.map_map]
      refine List.map_congr_left fun p _ => ?_
      show (if (Sum.inr (tx p.1) : Key) = Sum.inr (tx k) then _ else _) = _
      by_cases h : p.1 = k
      · simp [h]
      · have : ¬ (Sum.inr (tx p.1) : Key) = Sum.inr (tx k) := by simpa using h
        simp [h]
    · rw [List.map_map]
      have : (kvs.map ((·.1) ∘ fun p : List Nat × D => if p.1 = k then (p.1, v) else p)) = kvs.map (·.1) := List.map_congr_left fun p _ => by
        show (if p.1 = k then (p.1, v) else p).1 = p.1
        split <;> rfl
      rw [this]; exact nd
    · intro p hp
      obtain ⟨q, hq, rfl⟩ := List.mem_map.mp hp
      by_cases h : q.1 = k
      · right; simp [h]
      · left; simpa [h] using hq
  · rename_i hn
    refine ⟨kvs ++ [(k, v)], by simp [sdI], ?_, by simp, ?_⟩
    · rw [List.map_append, List.nodup_append]
      refine ⟨nd, by simp, fun x hx y hy e => hn ?_⟩
      simp only [List.map_cons, List.map_nil, List.mem_singleton] at hy
      subst hy
      subst e
      obtain ⟨p, hp, hpx⟩ := List.mem_map.mp hx
      rw [List.any_eq_true]
      refine ⟨(.inr (tx p.1), p.2), List.mem_map.mpr ⟨p, hp, rfl⟩, ?_⟩
      rw [← hpx]
      exact decide_eq_true rfl
    · intro p hp
      rcases List.mem_append.mp hp with h | h
      · exact .inl h
      · exact .inr (by simpa using h)
@[simp] theorem fListE_str (x : Str) (st : Stt) : fListE [.str x] st = if x.length ≤ sizeLine then some (.loc st.length, st ++ [.lst (signs x)]) else none := (rfl)
@[simp] theorem fMin2_i (i j : Int) (st : Stt) : fMin2 [.int i, .int j] st = some (.int (if j < i then j else i), st) := (rfl)
end Rg

set_option Elab.async false
set_option linter.all false
set_option maxRecDepth 100000
set_option maxHeartbeats 1000000
namespace Rg
open PySem PySem.Spec PyProof.Rows L2
/-! ### raise C(e): the class's own __init__ keeps the value in a field -/
/-- what __init__ does with a new exception -/
def spI1 (K : PySem.W.Frag) (C : Addr) (f : Str) : Sp := fun vs H Q _ => ∃ a v, vs = [.ref a, v] ∧ OexC K C ∧ PySem.W.findIn K (.ref C) f = some none ∧ H a = some (exo a C none) ∧
  ∀ dx, H dx = none → dx ≠ a → Q .non (upd (upd H dx (exd dx [(f, v)])) a (exo a C (some dx)))
section
variable {P : Program} {w : World} {K : PySem.W.Frag} {mg : Str → Option Value} {base : Heap}
theorem ok_init1 {x qual fld prm : Str} {st : Stmt} {f C : Addr} {fd : FuncData} {k : Nat} (F : Fun K x qual st f fd) (S : FnScope ["self", prm] ["self", prm] (defScope st))
    (hb : ∀ (cdv : Value) (A : Around) (outer : List Env) (s : Shared) (H : Hp) (E : XK), PSs (cxOf (L2.CX P w) P w K mg base ["self", prm] qual (defScope st) f cdv A outer s H E) (defBody st) (tSeq (tOst K fld (tVar 0) (tVar 1)) tNext)) :
    FnOk P w K mg base (L2.CX P w) (k + 1) f fd ["self", prm] (spI1 K C fld) := by
  refine F.okX S (fun vs H Q E h => by obtain ⟨_, _, e, _⟩ := h; rw [e]; rfl) (fun cdv A outer s H vs Q E hr h => ⟨_, hb cdv A outer s H E, ?_⟩)
  obtain ⟨a, v, rfl, T, hn, ha, q⟩ := h
  exact ⟨v, rfl, .ref a, rfl, a, C, rfl, T, hn, .inl ⟨ha, fun dx h1 h2 => q dx h1 h2⟩⟩
end
def sRaise1 (C : Addr) (f : Str) (g : XA) : XS := fun ρ st => (g ρ st).out ρ fun ds s => match ds with
  | [d] => .xx ρ ⟨C, some [(f, d)]⟩ s
  | _ => .no
@[simp] theorem sRaise1_run (C : Addr) (f : Str) (g : XA) (ρ : En) (st : Stt) : sRaise1 C f g ρ st = (g ρ st).out ρ fun ds s => match ds with
  | [d] => .xx ρ ⟨C, some [(f, d)]⟩ s
  | _ => .no := (rfl)
section
variable {X : Cx} {x : Str} {p pos pos' : Pos} {W : WX} {C fI : Addr} {e : Expr} {g : XA} {fld prm : Str} {k : Nat} {fd : FuncData}
theorem s_raise1 (T : OexC X.K C) (iC : PySem.W.findIn X.K (.ref C) "__init__" = some (some (.ref fI))) (tI : PySem.W.typeIn X.K (.ref fI) = some (.type "function")) (hn : PySem.W.findIn X.K (.ref C) fld = some none)
    (F1 : FnOk X.prog X.w X.K X.mg X.base (L2.CX X.prog X.w) k fI fd ["self", prm] (spI1 X.K C fld)) (hr : Room (k + 1) X.A) (hb : Binds X.K fd ["self", prm] []) (hc : X.calm = true) (tk : L2.Takes X W) (hm : X.mg x = some (.ref C))
    (ha : PA X [e] (tXA X.K W g)) (hg : Gl X x := by rfl) (hdb : (x == ("__debug__" : Str)) = false := by decide) (he : starEach [e] X.env = (false, eval e X.env) :: starEach [] X.env := by rfl) (hpl : (backTo pos (starEach [] X.env)).any (·.1) = false := by rfl) :
    PS X (.Raise (some (.Call (.Name x p) [e] [] pos)) none pos') (tXS X.K W (sRaise1 C fld g)) := by
  refine ps_imp (ps_raise hc tk (pmk_oex T iC tI F1 hr hb .nil passL hg hm ha hdb he hpl)) fun D' σ H ⟨ρ, s, μ, E, S, h⟩ => ?_
  refine tXA_of E S (h.out E) fun ds s1 H1 μ1 vs e1 E1 S1 r q => ?_
  cases r with
  | nil => exact q.elim
  | cons rd rt =>
    cases rt with
    | cons _ _ => exact q.elim
    | nil =>
      rename_i d v
      refine ⟨(by show 1 ≤ 1000; decide), fun a hna => ⟨a, v, rfl, T, hn, upd_same, fun dx hdx hne => ⟨rfl, dx, [(fld, v)], upd_same, (by rw [upd_ne hne, upd_same]), (by rw [upd_ne hne] at hdx; exact hdx), ?_⟩⟩⟩
      rw [upd_ne hne] at hdx
      have eh : upd (del (upd (upd (upd H1 a (exo a C none)) dx (exd dx [(fld, v)])) a (exo a C (some dx))) a) dx (.xd [(fld, v)]) = upd H1 dx (.xd [(fld, v)]) := by
        funext b
        by_cases h1 : b = dx
        · subst h1; rw [upd_same, upd_same]
        · rw [upd_ne h1, upd_ne h1]
          by_cases h2 : b = a
          · subst h2; rw [del_same]; exact hna.symm
          · rw [del_ne h2, upd_ne h2, upd_ne h1, upd_ne h2]
      rw [eh]
      have ex : Ext X.K H1 μ1 (upd H1 dx (.xd [(fld, v)])) μ1 := ext_side hdx _
      exact q σ _ μ1 ex (E1.ext ex) (S1.side hdx _) (some dx) ⟨dx, [(fld, v)], rfl, upd_same, .cons ⟨rfl, rd.ext ex⟩ .nil⟩
end
/-! ### int(x) of an int, a bool or a text -/
def fInt3 : BF := fun xs st => match xs with
  | [.int i] => some (.int i, st)
  | [.bl k] => some (.int (if k then 1 else 0), st)
  | [.str a] => if a.length ≤ 640 then (PySem.intText? a).map fun n => (.int n, st) else none
  | _ => none
@[simp] theorem fInt3_i (i : Int) (st : Stt) : fInt3 [.int i] st = some (.int i, st) := (rfl)
@[simp] theorem fInt3_b (k : Bool) (st : Stt) : fInt3 [.bl k] st = some (.int (if k then 1 else 0), st) := (rfl)
theorem fInt3_s (a : Str) (st : Stt) : fInt3 [.str a] st = if a.length ≤ 640 then (PySem.intText? a).map fun n => (.int n, st) else none := (rfl)
def rInt3 : List V → Hp → VK → Prop := fun xs H Q => ((∃ i, xs = [.int i] ∧ Q (.int i) H) ∨ ∃ k, xs = [.bl k] ∧ Q (.int (if k then 1 else 0)) H) ∨ ∃ a n, xs = [.str a] ∧ PySem.intText? a = some n ∧ a.length ≤ 640 ∧ Q (.int n) H
theorem call_int3 {X : Cx} : CallR X (.type "int") rInt3 := fun pins s σ H xs us Q I r h => h.elim (fun h => call_int1 pins s σ H xs us Q I r h) (fun h => call_int_str pins s σ H xs us Q I r h)
theorem does_int3 {K : PySem.W.Frag} : DoesN K rInt3 fInt3 := fun xs st d st' vs H μ Q r S h q => by
  unfold fInt3 at h
  split at h
  · cases h
    obtain ⟨v, rfl, rv⟩ := rls1 r
    cases rv
    exact .inl (.inl ⟨_, rfl, q _ H μ (Ext.refl _ _) S (.int _)⟩)
  · cases h
    obtain ⟨v, rfl, rv⟩ := rls1 r
    cases rv
    exact .inl (.inr ⟨_, rfl, q _ H μ (Ext.refl _ _) S (.int _)⟩)
  · split at h
    · rename_i hz
      obtain ⟨n, hn, h⟩ := Option.map_eq_some_iff.mp h
      cases h
      obtain ⟨v, rfl, rv⟩ := rls1 r
      cases rv
      exact .inr ⟨_, n, rfl, hn, hz, q _ H μ (Ext.refl _ _) S (.int _)⟩
    · cases h
  · cases h
/-! ### str(i) -/
def fStr : BF := fun xs st => match xs with
  | [.int i] => if i.natAbs.log2 < 1920 then some (.str (toString i), st) else none
  | _ => none
@[simp] theorem fStr_i (i : Int) (st : Stt) : fStr [.int i] st = if i.natAbs.log2 < 1920 then some (.str (toString i), st) else none := (rfl)
theorem does_str {K : PySem.W.Frag} : DoesN K (fun xs H Q => ∃ i, xs = [.int i] ∧ i.natAbs.log2 < 1920 ∧ Q (.str (toString i)) H) fStr := fun xs st d st' vs H μ Q r S h q => by
  unfold fStr at h
  split at h
  · split at h
    · rename_i hz
      cases h
      obtain ⟨v, rfl, rv⟩ := rls1 r
      cases rv
      exact ⟨_, rfl, hz, q _ H μ (Ext.refl _ _) S (.str _)⟩
    · cases h
  · cases h
/-! ### += on ints and texts -/
def oAug : Op2 := fun x y st => match x, y with
  | .int i, .int j => some (.int (i + j), st)
  | .str i, .str j => if i.length + j.length ≤ sizeLine then some (.str (i ++ j), st) else none
  | _, _ => none
@[simp] theorem oAug_i (i j : Int) (st : Stt) : oAug (.int i) (.int j) st = some (.int (i + j), st) := (rfl)
@[simp] theorem oAug_s (i j : Str) (st : Stt) : oAug (.str i) (.str j) st = if i.length + j.length ≤ sizeLine then some (.str (i ++ j), st) else none := (rfl)
def rAug : V → V → Hp → VK → Prop := fun x y H Q => (∃ i j, x = .int i ∧ y = .int j ∧ Q (.int (i + j)) H) ∨ ∃ i j, x = .str i ∧ y = .str j ∧ i.length + j.length ≤ sizeLine ∧ Q (.str (i ++ j)) H
theorem ip_aug {X : Cx} : PIp X .Add rAug := fun pins s σ H x y v u Q I r1 r2 h => h.elim (fun h => ip_add pins s σ H x y v u Q I r1 r2 h) (fun h => iop_add_str pins s σ H x y v u Q I r1 r2 h)
theorem in_aug {X : Cx} : InOp X .Add rAug := fun pins s σ H x y v u Q I r1 r2 h => ip_aug pins s σ H x y v u Q I r1 r2 h
theorem ip_A0 {K : PySem.W.Frag} : Does K rAug oAug := fun x y st d st' xv yv H μ Q rx ry S h q => by
  unfold oAug at h
  split at h
  · cases h; cases rx; cases ry
    exact .inl ⟨_, _, rfl, rfl, q _ H μ (Ext.refl _ _) S (.int _)⟩
  · split at h
    · rename_i hz
      cases h; cases rx; cases ry
      exact .inr ⟨_, _, rfl, rfl, hz, q _ H μ (Ext.refl _ _) S (.str _)⟩
    · cases h
  · cases h
/-- o.f += e -/
def sAugF (C : Addr) (f : Str) (fop : Op2) (fo fe : XE) : XS := fun ρ st => (fo ρ st).out ρ fun o s => (R.of (oFld C f o s)).out ρ fun x s => (fe ρ s).out ρ fun y s => (R.of (fop x y s)).out ρ fun z s => setF C f o z ρ s
@[simp] theorem sAugF_run (C : Addr) (f : Str) (fop : Op2) (fo fe : XE) (ρ : En) (st : Stt) : sAugF C f fop fo fe ρ st = (fo ρ st).out ρ fun o s => (R.of (oFld C f o s)).out ρ fun x s => (fe ρ s).out ρ fun y s => (R.of (fop x y s)).out ρ fun z s => setF C f o z ρ s := (rfl)
section
variable {X : Cx} {o value : Expr} {fo fv : XE} {pos tpos : Pos} {W : WX} {C : Addr} {f : Str}
theorem s_augF (c : Cls X.K C) (n : NoAttr X.K C f) (ho : PE X o (tX X.K W fo)) (hv : PE X value (tX X.K W fv)) : PS X (.AugAssign (.Attribute o f tpos) .Add value pos) (tXS X.K W (sAugF C f oAug fo fv)) :=
  ps_imp (ps_fldaug ho hv in_aug) fun D' σ H ⟨ρ, s, μ, E, S, h⟩ => by
    refine tX_of E S (h.out E) fun v s1 H1 μ1 vv e1 E1 S1 r1 hA => ?_
    obtain ⟨d, s2, h2, k⟩ := (hA.out E1).of
    obtain ⟨⟨m, fs⟩, h3, h2⟩ := Option.bind_eq_some_iff.mp h2
    obtain ⟨y, h4, h2⟩ := Option.map_eq_some_iff.mp h2
    cases h2
    obtain ⟨rfl, h5⟩ := insAt_some h3
    have r1' := r1
    obtain ⟨a, dx, vs, rfl, ha, t, q⟩ := S1.ins h5 r1
    obtain ⟨u, h6, r⟩ := q.look h4
    refine ⟨a, C, dx, vs, u, rfl, t, c, n, h6, ?_⟩
    have k2 := k H1 μ1 (Ext.refl _ _) S1
    refine tX_of E1 S1 (k2.out E1) fun w s3 H3 μ3 wv e3 E3 S3 r3 hC => ?_
    obtain ⟨z, s4, h7, k4⟩ := (hC.out E3).of
    refine ip_A0 d w s3 z s4 u wv H3 μ3 _ (r.ext e3) r3 S3 h7 fun zv H4 μ4 e4 S4 rz => ?_
    have k5 := k4 H4 μ4 e4 S4
    obtain ⟨a2, dx2, fs2, e5, t2, l2, q2⟩ := setF_ok (E3.ext e4) S4 (r1'.ext (e3.trans e4)) rz k5
    cases e5
    exact ⟨dx2, fs2, t2, l2, q2⟩
end
end Rg

set_option Elab.async false
set_option linter.all false
set_option maxRecDepth 100000
set_option maxHeartbeats 4000000
namespace Law
open PySem PySem.Spec PyProof.Rows L2 Rg
theorem hu64 {k : Nat} {A : Around} (hr : Room k A) : A.units + 64 < cLine := by have := hr.un; omega
theorem takesW0 {X : Cx} : L2.Takes X W0 := fun _ _ x => takes0 _ _ x
def top (i : Nat) : Stmt := PySem.Challenge.pw_hewstream_k11_words.main.body.getD i (.Pass ⟨0, 0, 0, 0⟩)
def inCls (i j : Nat) : Stmt := match top i with
  | .ClassDef (body := b) .. => b.getD j (.Pass ⟨0, 0, 0, 0⟩)
  | s => s
abbrev s_sign_of : Stmt := top 7
abbrev s_is_integer : Stmt := top 8
abbrev s_write_word : Stmt := top 12
abbrev s_sign_at : Stmt := top 14
abbrev s_read_number : Stmt := top 16
abbrev s_read_simple : Stmt := top 15
abbrev s_read_word : Stmt := top 13
abbrev s_law_tape : Stmt := top 18
abbrev s_law_at : Stmt := top 19
abbrev s_law_pick : Stmt := top 20
abbrev s_law_value : Stmt := top 21
abbrev s_law_text : Stmt := top 22
abbrev s_law_fault : Stmt := top 23
abbrev s_law_told : Stmt := top 24
abbrev s_law : Stmt := top 25
abbrev s_BadByte_init : Stmt := inCls 3 0
structure Ads where
  a_sign_of : Addr
  d_sign_of : FuncData
  a_is_integer : Addr
  d_is_integer : FuncData
  a_write_word : Addr
  d_write_word : FuncData
  a_sign_at : Addr
  d_sign_at : FuncData
  a_read_number : Addr
  d_read_number : FuncData
  a_read_simple : Addr
  d_read_simple : FuncData
  a_read_word : Addr
  d_read_word : FuncData
  a_law_tape : Addr
  d_law_tape : FuncData
  a_law_at : Addr
  d_law_at : FuncData
  a_law_pick : Addr
  d_law_pick : FuncData
  a_law_value : Addr
  d_law_value : FuncData
  a_law_text : Addr
  d_law_text : FuncData
  a_law_fault : Addr
  d_law_fault : FuncData
  a_law_told : Addr
  d_law_told : FuncData
  a_law : Addr
  d_law : FuncData
  c_StreamError : Addr
  c_NotValid : Addr
  c_BadByte : Addr
  a_BadByte_init : Addr
  d_BadByte_init : FuncData
  q_StreamError_NotValid : c_StreamError ≠ c_NotValid
  q_StreamError_BadByte : c_StreamError ≠ c_BadByte
  q_NotValid_BadByte : c_NotValid ≠ c_BadByte
def ca_StreamError (a : Ads) (y : Addr) : Option Bool := if y = a.c_NotValid then some true else if y = a.c_BadByte then some true else none
def ca_BadByte (a : Ads) (y : Addr) : Option Bool := if y = a.c_NotValid then some false else if y = a.c_BadByte then some true else none
def ca_NotValid (a : Ads) (y : Addr) : Option Bool := if y = a.c_NotValid then some true else if y = a.c_BadByte then some false else none
def fa_place (a : Ads) (y : Addr) : Option Bool := if y = a.c_BadByte then some true else none
noncomputable def sign_of_i1 (a : Ads) : XS :=
 sIf (xOr (xB (x2 oLt (xV 0) (xC (.int 32)))) (xOr (xB (x2 oGt (xV 0) (xC (.int 126)))) (xB (x2 oEq (xV 0) (xC (.int 37))))))
 (sCons (sRet (xC (.str "")))
 (sNil))
 (sNil)
noncomputable def sign_of_i2 (a : Ads) : XS :=
 sIf (xB (x2 oEq (xV 0) (xC (.int 10))))
 (sCons (sRet (xC (.str "\n")))
 (sNil))
 (sNil)
noncomputable def sign_of_i3 (a : Ads) : XS :=
 sIf (xB (x2 oEq (xV 0) (xC (.int 9))))
 (sCons (sRet (xC (.str "\t")))
 (sNil))
 (sNil)
noncomputable def f_sign_of (a : Ads) : XS :=
 sCons (sign_of_i3 a)
 (sCons (sign_of_i2 a)
 (sCons (sign_of_i1 a)
 (sCons (sRet (x2 oIx (xC (.str " !\"#$ &'()*+,-./0123456789:;<=>?@ABCDEFGHIJKLMNOPQRSTUVWXYZ[\\]^_`abcdefghijklmnopqrstuvwxyz{|}~")) (x2 oSub (xV 0) (xC (.int 32)))))
 (sNil))))
noncomputable def m_sign_of (a : Ads) : Fn := gcB (runB 1 (f_sign_of a))
noncomputable def f_is_integer (a : Ads) : XS :=
 sCons (sRet (xAndV (x1 (oIsi "int") (xV 0)) (xNotV (x1 (oIsi "bool") (xV 0)))))
 (sNil)
noncomputable def m_is_integer (a : Ads) : Fn := gcB (runB 1 (f_is_integer a))
noncomputable def write_word_i1 (a : Ads) : XS :=
 sIf (xTr (x1 (oIsi "int") (xV 4)))
 (sCons (sExpr (xMt isLst mAppend (xV 1) (xCons (x2 oAdd (x2 oAdd (xC (.str "n")) (xCall fStr (xCons (xV 4) (xNil)))) (xC (.str ";"))) (xNil))))
 (sNil))
 (sCons (sExpr (xMt isLst mAppend (xV 1) (xCons (xC (.str "(")) (xNil))))
 (sCons (sExpr (xMt isLst mAppend (xV 2) (xCons (xTup (xCons (xC (.bl true)) (xCons (xC (.str ")")) (xNil)))) (xNil))))
 (sCons (sExpr (xMt isLst mExtend (xV 2) (xCons (xLc (xIt (x1 oRev2 (xV 4))) (gN 6) (xYes) (xTup (xCons (xC (.bl false)) (xCons (xV 6) (xNil)))) [6]) (xNil))))
 (sNil))))
noncomputable def write_word_i2 (a : Ads) : XS :=
 sIf (xTr (x1 (oIsi "str") (xV 4)))
 (sCons (sExpr (xMt isLst mAppend (xV 1) (xCons (x2 oAdd (x2 oAdd (x2 oAdd (xC (.str "t")) (xCall fStr (xCons (xCall fLen (xCons (xV 4) (xNil))) (xNil)))) (xC (.str ":"))) (xV 4)) (xNil))))
 (sNil))
 (sCons (write_word_i1 a)
 (sNil))
noncomputable def write_word_i3 (a : Ads) : XS :=
 sIf (xB (x2 oIsN (xV 4) (xC .non)))
 (sCons (sExpr (xMt isLst mAppend (xV 1) (xCons (xC (.str "o")) (xNil))))
 (sNil))
 (sCons (write_word_i2 a)
 (sNil))
noncomputable def write_word_i4 (a : Ads) : XS :=
 sIf (xTr (xV 3))
 (sCons (sExpr (xMt isLst mAppend (xV 1) (xCons (xV 4) (xNil))))
 (sNil))
 (sCons (write_word_i3 a)
 (sNil))
noncomputable def write_word_wb1 (a : Ads) : XS :=
 sCons (sAsg (xMt isLst mPop (xV 2) xNil) (gT [3, 4]))
 (sCons (write_word_i4 a)
 (sNil))
noncomputable def write_word_wt1 (a : Ads) : XT :=
 xTr (xV 2)
noncomputable def write_word_w1 (a : Ads) : XS :=
 sWhile (write_word_wt1 a) (write_word_wb1 a)
noncomputable def f_write_word (a : Ads) : XS :=
 sCons (sSet 1 (xLst (xNil)))
 (sCons (sSet 2 (xLst (xCons (xTup (xCons (xC (.bl false)) (xCons (xV 0) (xNil)))) (xNil))))
 (sCons (write_word_w1 a)
 (sCons (sRet (xLc (xIt (xMt isStr mJoin (xC (.str "")) (xCons (xV 1) (xNil)))) (gN 5) (xYes) (xCall fOrd (xCons (xV 5) (xNil))) [5]))
 (sNil))))
noncomputable def m_write_word (a : Ads) : Fn := gcB (runB 7 (f_write_word a))
noncomputable def sign_at_i1 (a : Ads) : XS :=
 sIf (xB (x2 oGe (xV 1) (xCall fLen (xCons (xV 0) (xNil)))))
 (sCons (sRaise1 a.c_BadByte "place" (xCons (xV 1) (xNil)))
 (sNil))
 (sNil)
noncomputable def f_sign_at (a : Ads) : XS :=
 sCons (sign_at_i1 a)
 (sCons (sRet (xFn (m_sign_of a) (xCons (x2 oIx (xV 0) (xV 1)) (xNil))))
 (sNil))
noncomputable def m_sign_at (a : Ads) : Fn := gcB (runB 2 (f_sign_at a))
noncomputable def read_number_i1 (a : Ads) : XS :=
 sIf (xOr (xB (x2 oEq (xV 4) (xC (.str "")))) (xOr (xB (x2 oNotIn (xV 4) (xC (.str "0123456789")))) (xOr (xB (x2 oEq (xV 3) (xC (.str "0")))) (xB (x2 oEq (xCall fLen (xCons (xV 3) (xNil))) (xC (.int 9)))))))
 (sCons (sRaise1 a.c_BadByte "place" (xCons (xV 1) (xNil)))
 (sNil))
 (sNil)
noncomputable def read_number_i2 (a : Ads) : XS :=
 sIf (xAnd (xB (x2 oEq (xV 4) (xV 2))) (xB (x2 oNe (xV 3) (xC (.str "")))))
 (sCons (sRet (xTup (xCons (xCall fInt3 (xCons (xV 3) (xNil))) (xCons (x2 oAdd (xV 1) (xC (.int 1))) (xNil)))))
 (sNil))
 (sNil)
noncomputable def read_number_wb1 (a : Ads) : XS :=
 sCons (sSet 4 (xFn (m_sign_at a) (xCons (xV 0) (xCons (xV 1) (xNil)))))
 (sCons (read_number_i2 a)
 (sCons (read_number_i1 a)
 (sCons (sAug 3 oAug (xV 4))
 (sCons (sAug 1 oAug (xC (.int 1)))
 (sNil)))))
noncomputable def read_number_wt1 (a : Ads) : XT :=
 xTr (xC (.bl true))
noncomputable def read_number_w1 (a : Ads) : XS :=
 sWhile (read_number_wt1 a) (read_number_wb1 a)
noncomputable def f_read_number (a : Ads) : XS :=
 sCons (sSet 3 (xC (.str "")))
 (sCons (read_number_w1 a)
 (sNil))
noncomputable def m_read_number (a : Ads) : Fn := gcB (runB 5 (f_read_number a))
noncomputable def read_simple_i1 (a : Ads) : XS :=
 sIf (xB (x2 oEq (xV 2) (xC (.str ""))))
 (sCons (sRaise1 a.c_BadByte "place" (xCons (xV 1) (xNil)))
 (sNil))
 (sNil)
noncomputable def read_simple_wb1 (a : Ads) : XS :=
 sCons (sSet 2 (xFn (m_sign_at a) (xCons (xV 0) (xCons (xV 1) (xNil)))))
 (sCons (read_simple_i1 a)
 (sCons (sExpr (xMt isLst mAppend (xV 3) (xCons (xV 2) (xNil))))
 (sCons (sAug 1 oAug (xC (.int 1)))
 (sNil))))
noncomputable def read_simple_wt1 (a : Ads) : XT :=
 xB (x2 oLt (xCall fLen (xCons (xV 3) (xNil))) (xV 4))
noncomputable def read_simple_w1 (a : Ads) : XS :=
 sWhile (read_simple_wt1 a) (read_simple_wb1 a)
noncomputable def read_simple_i2 (a : Ads) : XS :=
 sIf (xB (x2 oNe (xV 2) (xC (.str "t"))))
 (sCons (sRaise1 a.c_BadByte "place" (xCons (xV 1) (xNil)))
 (sNil))
 (sNil)
noncomputable def read_simple_i3 (a : Ads) : XS :=
 sIf (xB (x2 oEq (xV 2) (xC (.str "n"))))
 (sCons (sRet (xFn (m_read_number a) (xCons (xV 0) (xCons (x2 oAdd (xV 1) (xC (.int 1))) (xCons (xC (.str ";")) (xNil))))))
 (sNil))
 (sNil)
noncomputable def read_simple_i4 (a : Ads) : XS :=
 sIf (xB (x2 oEq (xV 2) (xC (.str "o"))))
 (sCons (sRet (xTup (xCons (xC .non) (xCons (x2 oAdd (xV 1) (xC (.int 1))) (xNil)))))
 (sNil))
 (sNil)
noncomputable def f_read_simple (a : Ads) : XS :=
 sCons (read_simple_i4 a)
 (sCons (read_simple_i3 a)
 (sCons (read_simple_i2 a)
 (sCons (sAsg (xFn (m_read_number a) (xCons (xV 0) (xCons (x2 oAdd (xV 1) (xC (.int 1))) (xCons (xC (.str ":")) (xNil))))) (gT [4, 1]))
 (sCons (sSet 3 (xLst (xNil)))
 (sCons (read_simple_w1 a)
 (sCons (sRet (xTup (xCons (xMt isStr mJoin (xC (.str "")) (xCons (xV 3) (xNil))) (xCons (xV 1) (xNil)))))
 (sNil)))))))
noncomputable def m_read_simple (a : Ads) : Fn := gcB (runB 5 (f_read_simple a))
noncomputable def read_word_i1 (a : Ads) : XS :=
 sIf (xB (x2 oLt (xV 2) (xCall fLen (xCons (xV 0) (xNil)))))
 (sCons (sRaise1 a.c_BadByte "place" (xCons (xV 2) (xNil)))
 (sNil))
 (sNil)
noncomputable def read_word_i2 (a : Ads) : XS :=
 sIf (xAnd (xB (x2 oEq (xV 3) (xC (.str ")")))) (xB (x2 oGt (xCall fLen (xCons (xV 1) (xNil))) (xC (.int 1)))))
 (sCons (sSet 4 (xCall fTuple (xCons (xMt isLst mPop (xV 1) xNil) (xNil))))
 (sCons (sExpr (xMt isLst mAppend (x2 oIx (xV 1) (x1 oNeg (xC (.int 1)))) (xCons (xV 4) (xNil))))
 (sCons (sAug 2 oAug (xC (.int 1)))
 (sNil))))
 (sCons (sAsg (xFn (m_read_simple a) (xCons (xV 0) (xCons (xV 2) (xCons (xV 3) (xNil))))) (gT [5, 2]))
 (sCons (sExpr (xMt isLst mAppend (x2 oIx (xV 1) (x1 oNeg (xC (.int 1)))) (xCons (xV 5) (xNil))))
 (sNil)))
noncomputable def read_word_i3 (a : Ads) : XS :=
 sIf (xB (x2 oEq (xV 3) (xC (.str "("))))
 (sCons (sExpr (xMt isLst mAppend (xV 1) (xCons (xLst (xNil)) (xNil))))
 (sCons (sAug 2 oAug (xC (.int 1)))
 (sNil)))
 (sCons (read_word_i2 a)
 (sNil))
noncomputable def read_word_wb1 (a : Ads) : XS :=
 sCons (sSet 3 (xFn (m_sign_at a) (xCons (xV 0) (xCons (xV 2) (xNil)))))
 (sCons (read_word_i3 a)
 (sNil))
noncomputable def read_word_wt1 (a : Ads) : XT :=
 xOr (xB (x2 oGt (xCall fLen (xCons (xV 1) (xNil))) (xC (.int 1)))) (xNot (xTr (x2 oIx (xV 1) (xC (.int 0)))))
noncomputable def read_word_w1 (a : Ads) : XS :=
 sWhile (read_word_wt1 a) (read_word_wb1 a)
noncomputable def read_word_i4 (a : Ads) : XS :=
 sIf (xOr (xNot (xTr (x1 (oIsi "list") (xV 0)))) (xNot (xTr (xCall fAll (xCons (xLc (xIt (xV 0)) (gN 6) (xYes) (xFn (m_is_integer a) (xCons (xV 6) (xNil))) [6]) (xNil))))))
 (sCons (sRaise a.c_NotValid)
 (sNil))
 (sNil)
noncomputable def f_read_word (a : Ads) : XS :=
 sCons (read_word_i4 a)
 (sCons (sSet 1 (xLst (xCons (xLst (xNil)) (xNil))))
 (sCons (sSet 2 (xC (.int 0)))
 (sCons (read_word_w1 a)
 (sCons (read_word_i1 a)
 (sCons (sRet (x2 oIx (x2 oIx (xV 1) (xC (.int 0))) (xC (.int 0))))
 (sNil))))))
noncomputable def m_read_word (a : Ads) : Fn := gcB (runB 7 (f_read_word a))
noncomputable def law_tape_i1 (a : Ads) : XS :=
 sIf (xB (x2 oGt (xV 3) (xC (.int 0))))
 (sCons (sExpr (xMt isLst mAppend (xV 1) (xCons (x2 oMod (xV 3) (xC (.int 1000))) (xNil))))
 (sCons (sSet 3 (x2 oDiv (xV 3) (xC (.int 1000))))
 (sNil)))
 (sNil)
noncomputable def law_tape_fb1 (a : Ads) : XS :=
 sCons (law_tape_i1 a)
 (sNil)
noncomputable def law_tape_f1 (a : Ads) : XS :=
 sFor (xRange (xCons (xC (.int 60)) (xNil))) (gN 4) (law_tape_fb1 a)
noncomputable def law_tape_fb2 (a : Ads) : XS :=
 sCons (sSet 3 (x2 oMod (x2 oAdd (x2 oAdd (x2 oMulA (xV 3) (xC (.int 48271))) (x2 oMulA (xC (.int 69621)) (x2 oAdd (xV 2) (xC (.int 1))))) (x2 oMulA (xC (.int 7)) (xV 4))) (xC (.int 2147483647))))
 (sCons (sSet 3 (x2 oMod (x2 oMulA (xV 3) (xC (.int 16807))) (xC (.int 2147483647))))
 (sCons (sExpr (xMt isLst mAppend (xV 1) (xCons (x2 oMod (x2 oDiv (xV 3) (xC (.int 1000))) (xC (.int 1000))) (xNil))))
 (sNil)))
noncomputable def law_tape_f2 (a : Ads) : XS :=
 sFor (xRange (xCons (xC (.int 4)) (xNil))) (gN 4) (law_tape_fb2 a)
noncomputable def law_tape_i2 (a : Ads) : XS :=
 sIf (xB (x2 oGe (xV 3) (x2 oPow (xC (.int 10)) (xC (.int 18)))))
 (sCons (law_tape_f1 a)
 (sNil))
 (sCons (law_tape_f2 a)
 (sNil))
noncomputable def law_tape_fb3 (a : Ads) : XS :=
 sCons (sSet 3 (xCall fAbs (xCons (xCall fInt3 (xCons (x2 oIx (xV 0) (xV 2)) (xNil))) (xNil))))
 (sCons (law_tape_i2 a)
 (sNil))
noncomputable def law_tape_f3 (a : Ads) : XS :=
 sFor (xRange (xCons (xCall fLen (xCons (xV 0) (xNil))) (xNil))) (gN 2) (law_tape_fb3 a)
noncomputable def f_law_tape (a : Ads) : XS :=
 sCons (sSet 1 (xLst (xNil)))
 (sCons (law_tape_f3 a)
 (sCons (sRet (xV 1))
 (sNil)))
noncomputable def m_law_tape (a : Ads) : Fn := gcB (runB 5 (f_law_tape a))
noncomputable def law_at_i1 (a : Ads) : XS :=
 sIf (xB (x2 oLt (xV 1) (xCall fLen (xCons (xV 0) (xNil)))))
 (sCons (sRet (x2 oIx (xV 0) (xV 1)))
 (sNil))
 (sNil)
noncomputable def f_law_at (a : Ads) : XS :=
 sCons (law_at_i1 a)
 (sCons (sRet (xC (.int 0)))
 (sNil))
noncomputable def m_law_at (a : Ads) : Fn := gcB (runB 2 (f_law_at a))
noncomputable def f_law_pick (a : Ads) : XS :=
 sCons (sSubL (xV 0) (xC (.int 1)) (x2 oAdd (x2 oIx (xV 0) (xC (.int 1))) (xC (.int 1))))
 (sCons (sRet (x2 oMod (x2 oAdd (x2 oAdd (x2 oMulA (xFn (m_law_at a) (xCons (x2 oIx (xV 0) (xC (.int 0))) (xCons (x2 oMod (x2 oIx (xV 0) (xC (.int 1))) (xC (.int 200))) (xNil)))) (xC (.int 31))) (x2 oMulA (x2 oIx (xV 0) (xC (.int 1))) (x2 oIx (xV 0) (xC (.int 1))))) (xFn (m_law_at a) (xCons (x2 oIx (xV 0) (xC (.int 0))) (xCons (xC (.int 1)) (xNil))))) (xV 1)))
 (sNil))
noncomputable def m_law_pick (a : Ads) : Fn := gcB (runB 2 (f_law_pick a))
noncomputable def law_value_i1 (a : Ads) (self : Fn) : XS :=
 sIf (xOr (xB (x2 oEq (xV 2) (xC (.int 2)))) (xB (x2 oGt (xV 1) (xC (.int 3)))))
 (sCons (sRet (xMt isStr mJoin (xC (.str "")) (xCons (xLc (xRange (xCons (xFn (m_law_pick a) (xCons (xV 0) (xCons (xC (.int 13)) (xNil)))) (xNil))) (gN 3) (xYes) (x2 oIx (xC (.str "a1;:()to<\n \"")) (xFn (m_law_pick a) (xCons (xV 0) (xCons (xC (.int 12)) (xNil))))) [3]) (xNil))))
 (sNil))
 (sNil)
noncomputable def law_value_i2 (a : Ads) (self : Fn) : XS :=
 sIf (xB (x2 oEq (xV 2) (xC (.int 1))))
 (sCons (sRet (x2 oIx (xLst (xCons (xC (.int 0)) (xCons (xC (.int 7)) (xCons (xC (.int 10)) (xCons (xC (.int 123456789)) (xCons (xFn (m_law_pick a) (xCons (xV 0) (xCons (xC (.int 100)) (xNil)))) (xNil))))))) (xFn (m_law_pick a) (xCons (xV 0) (xCons (xC (.int 5)) (xNil))))))
 (sNil))
 (sNil)
noncomputable def law_value_i3 (a : Ads) (self : Fn) : XS :=
 sIf (xB (x2 oEq (xV 2) (xC (.int 0))))
 (sCons (sRet (xC .non))
 (sNil))
 (sNil)
noncomputable def f_law_value (a : Ads) (self : Fn) : XS :=
 sCons (sSet 2 (xFn (m_law_pick a) (xCons (xV 0) (xCons (xC (.int 5)) (xNil)))))
 (sCons (law_value_i3 a self)
 (sCons (law_value_i2 a self)
 (sCons (law_value_i1 a self)
 (sCons (sRet (xCall fTuple (xCons (xLc (xRange (xCons (xFn (m_law_pick a) (xCons (xV 0) (xCons (xC (.int 4)) (xNil)))) (xNil))) (gN 3) (xYes) (xFn (self) (xCons (xV 0) (xCons (x2 oAdd (xV 1) (xC (.int 1))) (xNil)))) [3]) (xNil))))
 (sNil)))))
noncomputable def m_law_value (a : Ads) : Nat → Fn
  | 0 => fun _ _ => .no
  | n + 1 => gcB (runB 4 (f_law_value a (m_law_value a n)))
noncomputable def law_text_i1 (a : Ads) (self : Fn) : XS :=
 sIf (xTr (x1 (oIsi "str") (xV 0)))
 (sCons (sRet (x2 oAdd (x2 oAdd (x2 oAdd (xC (.str "t")) (xCall fStr (xCons (xCall fLen (xCons (xV 0) (xNil))) (xNil)))) (xC (.str ":"))) (xV 0)))
 (sNil))
 (sNil)
noncomputable def law_text_i2 (a : Ads) (self : Fn) : XS :=
 sIf (xTr (x1 (oIsi "int") (xV 0)))
 (sCons (sRet (x2 oAdd (x2 oAdd (xC (.str "n")) (xCall fStr (xCons (xV 0) (xNil)))) (xC (.str ";"))))
 (sNil))
 (sNil)
noncomputable def law_text_i3 (a : Ads) (self : Fn) : XS :=
 sIf (xB (x2 oIsN (xV 0) (xC .non)))
 (sCons (sRet (xC (.str "o")))
 (sNil))
 (sNil)
noncomputable def f_law_text (a : Ads) (self : Fn) : XS :=
 sCons (law_text_i3 a self)
 (sCons (law_text_i2 a self)
 (sCons (law_text_i1 a self)
 (sCons (sRet (x2 oAdd (x2 oAdd (xC (.str "(")) (xMt isStr mJoin (xC (.str "")) (xCons (xLc (xIt (xV 0)) (gN 1) (xYes) (xFn (self) (xCons (xV 1) (xNil))) [1]) (xNil)))) (xC (.str ")"))))
 (sNil))))
noncomputable def m_law_text (a : Ads) : Nat → Fn
  | 0 => fun _ _ => .no
  | n + 1 => gcB (runB 2 (f_law_text a (m_law_text a n)))
noncomputable def law_fault_i1 (a : Ads) : XS :=
 sIf (xB (x2 oNe (xV 2) (xC (.str "over"))))
 (sCons (sRet (xCall fLen (xCons (xV 0) (xNil))))
 (sNil))
 (sNil)
noncomputable def law_fault_i2 (a : Ads) : XS :=
 sIf (xB (x2 oEq (xV 4) (xC (.int 0))))
 (sCons (sSet 2 (x2 oIx (xLst (xCons (xC (.str "value")) (xCons (xC (.str "over")) (xNil)))) (xCall fInt3 (xCons (x2 oEq (xV 1) (xC (.int 0))) (xNil)))))
 (sNil))
 (sNil)
noncomputable def law_fault_i3 (a : Ads) : XS :=
 sIf (xB (x2 oIn (xV 6) (xTup (xCons (xC (.int 110)) (xCons (xC (.int 116)) (xNil))))))
 (sCons (sSet 2 (x2 oIx (xLst (xCons (xC (.str "n")) (xCons (xC (.str "t")) (xNil)))) (xCall fInt3 (xCons (x2 oEq (xV 6) (xC (.int 116))) (xNil)))))
 (sCons (sSet 3 (xC (.str "")))
 (sNil)))
 (sCons (sRet (xV 5))
 (sNil))
noncomputable def law_fault_i4 (a : Ads) : XS :=
 sIf (xB (x2 oEq (xV 6) (xC (.int 111))))
 (sCons (sSet 2 (x2 oIx (xLst (xCons (xC (.str "value")) (xCons (xC (.str "over")) (xNil)))) (xCall fInt3 (xCons (x2 oEq (xV 1) (xC (.int 0))) (xNil)))))
 (sNil))
 (sCons (law_fault_i3 a)
 (sNil))
noncomputable def law_fault_i5 (a : Ads) : XS :=
 sIf (xAnd (xB (x2 oEq (xV 6) (xC (.int 41)))) (xB (x2 oGt (xV 1) (xC (.int 0)))))
 (sCons (sSet 1 (x2 oSub (xV 1) (xC (.int 1))))
 (sCons (sSet 2 (x2 oIx (xLst (xCons (xC (.str "value")) (xCons (xC (.str "over")) (xNil)))) (xCall fInt3 (xCons (x2 oEq (xV 1) (xC (.int 0))) (xNil)))))
 (sNil)))
 (sCons (law_fault_i4 a)
 (sNil))
noncomputable def law_fault_i6 (a : Ads) : XS :=
 sIf (xB (x2 oEq (xV 6) (xC (.int 40))))
 (sCons (sSet 1 (x2 oAdd (xV 1) (xC (.int 1))))
 (sNil))
 (sCons (law_fault_i5 a)
 (sNil))
noncomputable def law_fault_i7 (a : Ads) : XS :=
 sIf (xB (x2 oGt (xV 4) (xC (.int 0))))
 (sCons (sSet 2 (xC (.str "text")))
 (sNil))
 (sNil)
noncomputable def law_fault_i8 (a : Ads) : XS :=
 sIf (xB (x2 oEq (xV 2) (xC (.str "t"))))
 (sCons (sSet 4 (xCall fInt3 (xCons (xV 3) (xNil))))
 (sNil))
 (sNil)
noncomputable def law_fault_i9 (a : Ads) : XS :=
 sIf (xAnd (xB (xCh oLe oLe (xC (.int 48)) (xV 6) (xC (.int 57)))) (xAnd (xB (x2 oNe (xV 3) (xC (.str "0")))) (xB (x2 oLt (xCall fLen (xCons (xV 3) (xNil))) (xC (.int 9))))))
 (sCons (sSet 3 (x2 oAdd (xV 3) (x2 oIx (xC (.str "0123456789")) (x2 oSub (xV 6) (xC (.int 48))))))
 (sNil))
 (sCons (sRet (xV 5))
 (sNil))
noncomputable def law_fault_i10 (a : Ads) : XS :=
 sIf (xAnd (xB (x2 oEq (xV 6) (x2 oIx (xLst (xCons (xC (.int 59)) (xCons (xC (.int 58)) (xNil)))) (xCall fInt3 (xCons (x2 oEq (xV 2) (xC (.str "t"))) (xNil)))))) (xB (x2 oNe (xV 3) (xC (.str "")))))
 (sCons (sSet 4 (xC (.int 0)))
 (sCons (law_fault_i8 a)
 (sCons (sSet 2 (x2 oIx (xLst (xCons (xC (.str "value")) (xCons (xC (.str "over")) (xNil)))) (xCall fInt3 (xCons (x2 oEq (xV 1) (xC (.int 0))) (xNil)))))
 (sCons (law_fault_i7 a)
 (sNil)))))
 (sCons (law_fault_i9 a)
 (sNil))
noncomputable def law_fault_i11 (a : Ads) : XS :=
 sIf (xB (x2 oEq (xV 2) (xC (.str "value"))))
 (sCons (law_fault_i6 a)
 (sNil))
 (sCons (law_fault_i10 a)
 (sNil))
noncomputable def law_fault_i12 (a : Ads) : XS :=
 sIf (xB (x2 oEq (xV 2) (xC (.str "text"))))
 (sCons (sSet 4 (x2 oSub (xV 4) (xC (.int 1))))
 (sCons (law_fault_i2 a)
 (sNil)))
 (sCons (law_fault_i11 a)
 (sNil))
noncomputable def law_fault_i13 (a : Ads) : XS :=
 sIf (xOr (xAnd (xB (x2 oNotIn (xV 6) (xTup (xCons (xC (.int 9)) (xCons (xC (.int 10)) (xNil)))))) (xOr (xB (x2 oLt (xV 6) (xC (.int 32)))) (xOr (xB (x2 oGt (xV 6) (xC (.int 126)))) (xB (x2 oEq (xV 6) (xC (.int 37))))))) (xB (x2 oEq (xV 2) (xC (.str "over")))))
 (sCons (sRet (xV 5))
 (sNil))
 (sNil)
noncomputable def law_fault_fb1 (a : Ads) : XS :=
 sCons (sSet 6 (x2 oIx (xV 0) (xV 5)))
 (sCons (law_fault_i13 a)
 (sCons (law_fault_i12 a)
 (sNil)))
noncomputable def law_fault_f1 (a : Ads) : XS :=
 sFor (xRange (xCons (xCall fLen (xCons (xV 0) (xNil))) (xNil))) (gN 5) (law_fault_fb1 a)
noncomputable def f_law_fault (a : Ads) : XS :=
 sCons (sSet 1 (xC (.int 0)))
 (sCons (sSet 2 (xC (.str "value")))
 (sCons (sSet 3 (xC (.str "")))
 (sCons (sSet 4 (xC (.int 0)))
 (sCons (law_fault_f1 a)
 (sCons (law_fault_i1 a)
 (sCons (sRet (x1 oNeg (xC (.int 1))))
 (sNil)))))))
noncomputable def m_law_fault (a : Ads) : Fn := gcB (runB 7 (f_law_fault a))
noncomputable def law_told_i1 (a : Ads) (x : Addr × Addr) (e : Exn) : XS :=
 sIf (xTr (xIsE (ca_BadByte a e.cls) x e 1))
 (sCons (sRet (xTup (xCons (xC (.str "byte")) (xCons (xFldE (fa_place a e.cls) x e "place" 1) (xNil)))))
 (sNil))
 (sNil)
noncomputable def law_told_t1 (a : Ads) : XS :=
 sTryA (ca_StreamError a) 1 (sCons (sRet (xTup (xCons (xC (.str "value")) (xCons (xFn (m_read_word a) (xCons (xV 0) (xNil))) (xNil)))))
 (sNil))
 (fun x e => sCons (law_told_i1 a x e)
 (sCons (sRet (xTup (xCons (xC (.str "refused")) (xCons (xIsE (ca_NotValid a e.cls) x e 1) (xNil)))))
 (sNil)))
noncomputable def f_law_told (a : Ads) : XS :=
 sCons (law_told_t1 a)
 (sNil)
noncomputable def m_law_told (a : Ads) : Fn := gcB (runB 2 (f_law_told a))
noncomputable def law_i1 (a : Ads) : XS :=
 sIf (xB (x2 oNe (xFn (m_law_told a) (xCons (xV 5) (xNil))) (xTup (xCons (xC (.str "refused")) (xCons (xC (.bl true)) (xNil))))))
 (sCons (sRet (xC (.bl false)))
 (sNil))
 (sNil)
noncomputable def law_fb1 (a : Ads) : XS :=
 sCons (law_i1 a)
 (sNil)
noncomputable def law_f1 (a : Ads) : XS :=
 sFor (xIt (xTup (xCons (xC .non) (xCons (xC (.str "o")) (xCons (xTup (xCons (xC (.int 111)) (xNil))) (xCons (xLst (xCons (xC .non) (xNil))) (xCons (xLst (xCons (xC (.bl true)) (xNil))) (xNil)))))))) (gN 5) (law_fb1 a)
noncomputable def law_i2 (a : Ads) : XS :=
 sIf (xOr (xAnd (xB (x2 oGe (xV 9) (xC (.int 0)))) (xB (x2 oNe (xV 10) (xTup (xCons (xC (.str "byte")) (xCons (xV 9) (xNil))))))) (xAnd (xB (x2 oLt (xV 9) (xC (.int 0)))) (xOr (xB (x2 oNe (x2 oIx (xV 10) (xC (.int 0))) (xC (.str "value")))) (xB (x2 oNe (xFn (m_write_word a) (xCons (x2 oIx (xV 10) (xC (.int 1))) (xNil))) (xV 8))))))
 (sCons (sRet (xC (.bl false)))
 (sNil))
 (sNil)
noncomputable def law_fb2 (a : Ads) : XS :=
 sCons (sSet 6 (xFn (m_law_pick a) (xCons (xV 1) (xCons (x2 oAdd (xCall fLen (xCons (xV 3) (xNil))) (xC (.int 1))) (xNil)))))
 (sCons (sSet 7 (x2 oIx (xLst (xCons (xC (.int 40)) (xCons (xC (.int 41)) (xCons (xC (.int 48)) (xCons (xC (.int 49)) (xCons (xC (.int 57)) (xCons (xC (.int 58)) (xCons (xC (.int 59)) (xCons (xC (.int 110)) (xCons (xC (.int 111)) (xCons (xC (.int 116)) (xCons (xC (.int 97)) (xCons (xC (.int 37)) (xCons (xC (.int 200)) (xCons (x1 oNeg (xC (.int 1))) (xCons (xC (.int 10)) (xNil))))))))))))))))) (xFn (m_law_pick a) (xCons (xV 1) (xCons (xC (.int 15)) (xNil))))))
 (sCons (sSet 8 (x2 oIx (xLst (xCons (xSl oSlA (xV 3) (xON) (xOS (xV 6))) (xCons (x2 oAdd (x2 oAdd (xSl oSlA (xV 3) (xON) (xOS (xV 6))) (xLst (xCons (xV 7) (xNil)))) (xSl oSlA (xV 3) (xOS (xV 6)) (xON))) (xCons (x2 oAdd (x2 oAdd (xSl oSlA (xV 3) (xON) (xOS (xV 6))) (xLst (xCons (xV 7) (xNil)))) (xSl oSlA (xV 3) (xOS (x2 oAdd (xV 6) (xC (.int 1)))) (xON))) (xNil))))) (xFn (m_law_pick a) (xCons (xV 1) (xCons (xC (.int 3)) (xNil))))))
 (sCons (sSet 9 (xFn (m_law_fault a) (xCons (xV 8) (xNil))))
 (sCons (sSet 10 (xFn (m_law_told a) (xCons (xV 8) (xNil))))
 (sCons (law_i2 a)
 (sNil))))))
noncomputable def law_f2 (a : Ads) : XS :=
 sFor (xRange (xCons (xC (.int 8)) (xNil))) (gN 4) (law_fb2 a)
noncomputable def law_i3 (a : Ads) : XS :=
 sIf (xOr (xB (x2 oNe (xFn (m_write_word a) (xCons (xV 2) (xNil))) (xV 3))) (xOr (xB (x2 oNe (xFn (m_law_told a) (xCons (xV 3) (xNil))) (xTup (xCons (xC (.str "value")) (xCons (xV 2) (xNil)))))) (xB (x2 oNe (xFn (m_law_fault a) (xCons (xV 3) (xNil))) (x1 oNeg (xC (.int 1)))))))
 (sCons (sRet (xC (.bl false)))
 (sNil))
 (sNil)
noncomputable def f_law (a : Ads) : XS :=
 sCons (sSet 1 (xLst (xCons (xFn (m_law_tape a) (xCons (xV 0) (xNil))) (xCons (xC (.int 0)) (xNil)))))
 (sCons (sSet 2 (xFn (m_law_value a 7) (xCons (xV 1) (xCons (xC (.int 0)) (xNil)))))
 (sCons (sSet 3 (xLc (xIt (xFn (m_law_text a 7) (xCons (xV 2) (xNil)))) (gN 11) (xYes) (xCall fOrd (xCons (xV 11) (xNil))) [11]))
 (sCons (law_i3 a)
 (sCons (law_f2 a)
 (sCons (law_f1 a)
 (sCons (sRet (xC (.bl true)))
 (sNil)))))))
noncomputable def m_law (a : Ads) : Fn := gcB (runB 12 (f_law a))
structure Txt (K : PySem.W.Frag) (w : World) (mg : Str → Option Value) (a : Ads) : Prop where
  F_sign_of : Fun K "sign_of" "sign_of" s_sign_of a.a_sign_of a.d_sign_of
  b_sign_of : Binds K a.d_sign_of ["byte"] []
  g_sign_of : mg "sign_of" = some (.ref a.a_sign_of)
  F_is_integer : Fun K "is_integer" "is_integer" s_is_integer a.a_is_integer a.d_is_integer
  b_is_integer : Binds K a.d_is_integer ["value"] []
  g_is_integer : mg "is_integer" = some (.ref a.a_is_integer)
  F_write_word : Fun K "write_word" "write_word" s_write_word a.a_write_word a.d_write_word
  b_write_word : Binds K a.d_write_word ["value"] []
  g_write_word : mg "write_word" = some (.ref a.a_write_word)
  F_sign_at : Fun K "sign_at" "sign_at" s_sign_at a.a_sign_at a.d_sign_at
  b_sign_at : Binds K a.d_sign_at ["data", "at"] []
  g_sign_at : mg "sign_at" = some (.ref a.a_sign_at)
  F_read_number : Fun K "read_number" "read_number" s_read_number a.a_read_number a.d_read_number
  b_read_number : Binds K a.d_read_number ["data", "at", "end"] []
  g_read_number : mg "read_number" = some (.ref a.a_read_number)
  F_read_simple : Fun K "read_simple" "read_simple" s_read_simple a.a_read_simple a.d_read_simple
  b_read_simple : Binds K a.d_read_simple ["data", "at", "sign"] []
  g_read_simple : mg "read_simple" = some (.ref a.a_read_simple)
  F_read_word : Fun K "read_word" "read_word" s_read_word a.a_read_word a.d_read_word
  b_read_word : Binds K a.d_read_word ["data"] []
  g_read_word : mg "read_word" = some (.ref a.a_read_word)
  F_law_tape : Fun K "_law_tape" "_law_tape" s_law_tape a.a_law_tape a.d_law_tape
  b_law_tape : Binds K a.d_law_tape ["script"] []
  g_law_tape : mg "_law_tape" = some (.ref a.a_law_tape)
  F_law_at : Fun K "_law_at" "_law_at" s_law_at a.a_law_at a.d_law_at
  b_law_at : Binds K a.d_law_at ["tape", "k"] []
  g_law_at : mg "_law_at" = some (.ref a.a_law_at)
  F_law_pick : Fun K "_law_pick" "_law_pick" s_law_pick a.a_law_pick a.d_law_pick
  b_law_pick : Binds K a.d_law_pick ["w", "many"] []
  g_law_pick : mg "_law_pick" = some (.ref a.a_law_pick)
  F_law_value : Fun K "_law_value" "_law_value" s_law_value a.a_law_value a.d_law_value
  b_law_value : Binds K a.d_law_value ["w", "level"] []
  g_law_value : mg "_law_value" = some (.ref a.a_law_value)
  F_law_text : Fun K "_law_text" "_law_text" s_law_text a.a_law_text a.d_law_text
  b_law_text : Binds K a.d_law_text ["value"] []
  g_law_text : mg "_law_text" = some (.ref a.a_law_text)
  F_law_fault : Fun K "_law_fault" "_law_fault" s_law_fault a.a_law_fault a.d_law_fault
  b_law_fault : Binds K a.d_law_fault ["data"] []
  g_law_fault : mg "_law_fault" = some (.ref a.a_law_fault)
  F_law_told : Fun K "_law_told" "_law_told" s_law_told a.a_law_told a.d_law_told
  b_law_told : Binds K a.d_law_told ["data"] []
  g_law_told : mg "_law_told" = some (.ref a.a_law_told)
  F_law : Fun K "law" "law" s_law a.a_law a.d_law
  b_law : Binds K a.d_law ["script"] []
  g_law : mg "law" = some (.ref a.a_law)
  z_abs : mg "abs" = none
  z_all : mg "all" = none
  z_bool : mg "bool" = none
  z_int : mg "int" = none
  z_isinstance : mg "isinstance" = none
  z_len : mg "len" = none
  z_list : mg "list" = none
  z_ord : mg "ord" = none
  z_range : mg "range" = none
  z_str : mg "str" = none
  z_tuple : mg "tuple" = none
  c_PRINTED : ∃ t, mg "PRINTED" = some (.str " !\"#$ &'()*+,-./0123456789:;<=>?@ABCDEFGHIJKLMNOPQRSTUVWXYZ[\\]^_`abcdefghijklmnopqrstuvwxyz{|}~" t)
  c_PER_CENT : ∃ t, mg "PER_CENT" = some (.int 37 t)
  c_MOST_DIGITS : ∃ t, mg "MOST_DIGITS" = some (.int 9 t)
  c_DIGITS : ∃ t, mg "DIGITS" = some (.str "0123456789" t)
  gc_StreamError : mg "StreamError" = some (.ref a.c_StreamError)
  gc_NotValid : mg "NotValid" = some (.ref a.c_NotValid)
  gc_BadByte : mg "BadByte" = some (.ref a.c_BadByte)
  e_NotValid : ExK K a.c_NotValid
  o_BadByte : OexC K a.c_BadByte
  i_BadByte : PySem.W.findIn K (.ref a.c_BadByte) "__init__" = some (some (.ref a.a_BadByte_init))
  j_BadByte : PySem.W.typeIn K (.ref a.a_BadByte_init) = some (.type "function")
  n_BadByte : PySem.W.findIn K (.ref a.c_BadByte) "place" = some none
  F_BadByte_init : Fun K "__init__" "BadByte.__init__" s_BadByte_init a.a_BadByte_init a.d_BadByte_init
  b_BadByte_init : Binds K a.d_BadByte_init ["self", "place"] []
  yf_place : ∀ D b, fa_place a D = some b → L2.XfC K D ∧ PySem.W.findIn K (.ref D) "place" = some none
  x_StreamError : ∀ D b, ca_StreamError a D = some b → PySem.W.exmOne K (.ref D) (.ref a.c_StreamError) = some b
  y_BadByte : ∀ D b, ca_BadByte a D = some b → L2.ExcC K D ∧ PySem.W.kitOne K (.ref D) (.ref a.c_BadByte) = some b
  y_NotValid : ∀ D b, ca_NotValid a D = some b → L2.ExcC K D ∧ PySem.W.kitOne K (.ref D) (.ref a.c_NotValid) = some b
@[simp] theorem lit_0 : Str.ofString "" = ⟨#[]⟩ := by decide +kernel
@[simp] theorem lit_1 : Str.ofString "\t" = ⟨#[9]⟩ := by decide +kernel
@[simp] theorem lit_2 : Str.ofString "\n" = ⟨#[10]⟩ := by decide +kernel
def L_pri : List Nat := [32, 33, 34, 35, 36, 32, 38, 39, 40, 41, 42, 43, 44, 45, 46, 47, 48, 49, 50, 51, 52, 53, 54, 55, 56, 57, 58, 59, 60, 61, 62, 63, 64, 65, 66, 67, 68, 69, 70, 71, 72, 73, 74, 75, 76, 77, 78, 79, 80, 81, 82, 83, 84, 85, 86, 87, 88, 89, 90, 91, 92, 93, 94, 95, 96, 97, 98, 99, 100, 101, 102, 103, 104, 105, 106, 107, 108, 109, 110, 111, 112, 113, 114, 115, 116, 117, 118, 119, 120, 121, 122, 123, 124, 125, 126]
@[simp] theorem lit_3 : Str.ofString " !\"#$ &'()*+,-./0123456789:;<=>?@ABCDEFGHIJKLMNOPQRSTUVWXYZ[\\]^_`abcdefghijklmnopqrstuvwxyz{|}~" = ⟨L_pri.toArray⟩ := by decide +kernel
@[simp] theorem okL_pri : okL L_pri = true := by decide +kernel
@[simp] theorem len_pri : L_pri.length = 95 := by decide +kernel
@[simp] theorem lit_4 : Str.ofString "(" = ⟨#[40]⟩ := by decide +kernel
@[simp] theorem lit_5 : Str.ofString ")" = ⟨#[41]⟩ := by decide +kernel
@[simp] theorem lit_6 : Str.ofString "0" = ⟨#[48]⟩ := by decide +kernel
@[simp] theorem lit_7 : Str.ofString "0123456789" = ⟨#[48, 49, 50, 51, 52, 53, 54, 55, 56, 57]⟩ := by decide +kernel
@[simp] theorem lit_8 : Str.ofString ":" = ⟨#[58]⟩ := by decide +kernel
@[simp] theorem lit_9 : Str.ofString ";" = ⟨#[59]⟩ := by decide +kernel
@[simp] theorem lit_10 : Str.ofString "a1;:()to<\n \"" = ⟨#[97, 49, 59, 58, 40, 41, 116, 111, 60, 10, 32, 34]⟩ := by decide +kernel
@[simp] theorem lit_11 : Str.ofString "byte" = ⟨#[98, 121, 116, 101]⟩ := by decide +kernel
def L_fbe7a545 : List Nat := [104, 101, 119, 115, 116, 114, 101, 97, 109, 46, 101, 114, 114, 111, 114, 115]
@[simp] theorem lit_12 : Str.ofString "hewstream.errors" = ⟨L_fbe7a545.toArray⟩ := by decide +kernel
@[simp] theorem okL_fbe7a545 : okL L_fbe7a545 = true := by decide +kernel
@[simp] theorem len_fbe7a545 : L_fbe7a545.length = 16 := by decide +kernel
def L_274e200f : List Nat := [104, 101, 119, 115, 116, 114, 101, 97, 109, 46, 104, 101, 108, 100]
@[simp] theorem lit_13 : Str.ofString "hewstream.held" = ⟨L_274e200f.toArray⟩ := by decide +kernel
@[simp] theorem okL_274e200f : okL L_274e200f = true := by decide +kernel
@[simp] theorem len_274e200f : L_274e200f.length = 14 := by decide +kernel
def L_6dece7d6 : List Nat := [104, 101, 119, 115, 116, 114, 101, 97, 109, 46, 116, 111, 107, 101, 110, 115]
@[simp] theorem lit_14 : Str.ofString "hewstream.tokens" = ⟨L_6dece7d6.toArray⟩ := by decide +kernel
@[simp] theorem okL_6dece7d6 : okL L_6dece7d6 = true := by decide +kernel
@[simp] theorem len_6dece7d6 : L_6dece7d6.length = 16 := by decide +kernel
def L_3c1b2cf7 : List Nat := [108, 97, 119, 95, 104, 101, 119, 115, 116, 114, 101, 97, 109, 95, 107, 49, 49, 95, 119, 111, 114, 100, 115]
@[simp] theorem lit_15 : Str.ofString "law_hewstream_k11_words" = ⟨L_3c1b2cf7.toArray⟩ := by decide +kernel
@[simp] theorem okL_3c1b2cf7 : okL L_3c1b2cf7 = true := by decide +kernel
@[simp] theorem len_3c1b2cf7 : L_3c1b2cf7.length = 23 := by decide +kernel
@[simp] theorem lit_16 : Str.ofString "n" = ⟨#[110]⟩ := by decide +kernel
@[simp] theorem lit_17 : Str.ofString "o" = ⟨#[111]⟩ := by decide +kernel
@[simp] theorem lit_18 : Str.ofString "over" = ⟨#[111, 118, 101, 114]⟩ := by decide +kernel
@[simp] theorem lit_19 : Str.ofString "refused" = ⟨#[114, 101, 102, 117, 115, 101, 100]⟩ := by decide +kernel
@[simp] theorem lit_20 : Str.ofString "t" = ⟨#[116]⟩ := by decide +kernel
@[simp] theorem lit_21 : Str.ofString "text" = ⟨#[116, 101, 120, 116]⟩ := by decide +kernel
@[simp] theorem lit_22 : Str.ofString "value" = ⟨#[118, 97, 108, 117, 101]⟩ := by decide +kernel
theorem lits : True := trivial
section
variable {P : Program} {w : World} {K : PySem.W.Frag} {mg : Str → Option Value} {base : Heap} {a : Ads}
theorem sc_BadByte_init : FnScope ["self", "place"] ["self", "place"] (defScope s_BadByte_init) := ⟨rfl, rfl, rfl, by decide +kernel, rfl, by decide +kernel, by decide +kernel⟩
theorem ok_BadByte_init (T : Txt K w mg a) : FnOk P w K mg base (L2.CX P w) 1 a.a_BadByte_init a.d_BadByte_init ["self", "place"] (spI1 K a.c_BadByte "place") :=
  ok_init1 (k := 0) T.F_BadByte_init sc_BadByte_init fun cdv A outer s H E => pss_cons (ps_ost (pe_var (i := 0) rfl (Or.inl rfl)) (pe_var (i := 1) rfl (Or.inl rfl))) pss_nil
theorem sc_sign_of : FnScope ["byte"] ["byte"] (defScope s_sign_of) := ⟨rfl, rfl, rfl, by decide +kernel, rfl, by decide +kernel, by decide +kernel⟩
theorem ok_sign_of (T : Txt K w mg a) : FnOk P w K mg base (L2.CX P w) 1 a.a_sign_of a.d_sign_of ["byte"] (spX K 1 (m_sign_of a)) :=
  fnGc (ok_def (k := 0) T.F_sign_of sc_sign_of fun cdv A outer s H E hr cx =>
 (ss_cons (s_if (t_cmp (op_eqD (hu64 hr)) does_eq (e_v 0) (e_int) (nomark _))
 (ss_cons (s_ret (e_str))
 (ss_nil))
 (ss_nil))
 (ss_cons (s_if (t_cmp (op_eqD (hu64 hr)) does_eq (e_v 0) (e_int) (nomark _))
 (ss_cons (s_ret (e_str))
 (ss_nil))
 (ss_nil))
 (ss_cons (s_if (PW.pt (w_or (t_cmp op_ltD does_ltD (e_v 0) (e_int) (nomark _)) (w_or (t_cmp op_gt does_gt (e_v 0) (e_int) (nomark _)) (w_1 (t_cmp (op_eqD (hu64 hr)) does_eq (e_v 0) (e_gint T.c_PER_CENT.choose_spec) (nomark _))))))
 (ss_cons (s_ret (e_str))
 (ss_nil))
 (ss_nil))
 (ss_cons (s_ret (e_ix (e_gstr T.c_PRINTED.choose_spec) (e_op op_sub does_sub (e_v 0) (e_int))))
 (ss_nil))))))
theorem sc_is_integer : FnScope ["value"] ["value"] (defScope s_is_integer) := ⟨rfl, rfl, rfl, by decide +kernel, rfl, by decide +kernel, by decide +kernel⟩
theorem ok_is_integer (T : Txt K w mg a) : FnOk P w K mg base (L2.CX P w) 1 a.a_is_integer a.d_is_integer ["value"] (spX K 1 (m_is_integer a)) :=
  fnGc (ok_def (k := 0) T.F_is_integer sc_is_integer fun cdv A outer s H E hr cx =>
 (ss_cons (s_ret (e_and (e_isi (e_v 0) T.z_isinstance T.z_int) (e_1 (e_not (e_isi (e_v 0) T.z_isinstance T.z_bool)))))
 (ss_nil)))
theorem sc_write_word : FnScope ["value", "words", "todo", "is_written", "part", "sign", "inner"] ["value"] (defScope s_write_word) := ⟨rfl, rfl, rfl, by decide +kernel, rfl, by decide +kernel, by decide +kernel⟩
theorem ok_write_word (T : Txt K w mg a) : FnOk P w K mg base (L2.CX P w) 1 a.a_write_word a.d_write_word ["value"] (spX K 1 (m_write_word a)) :=
  fnGc (ok_def (k := 0) T.F_write_word sc_write_word fun cdv A outer s H E hr cx =>
 (ss_cons (s_set 1 sc_write_word.nd (e_lst (a_nil)))
 (ss_cons (s_set 2 sc_write_word.nd (e_lst (a_cons (e_tup (a_cons (e_bl) (a_cons (e_v 0) (a_nil)))) (a_nil))))
 (ss_cons (s_while cx.own (t_tr (e_v 2))
 (ss_cons (s_asg (e_mt0 PySem.F.plainAttrs_list PySem.F.slot_list_pop PySem.F.type_list_pop mt_pop does_pop recv_lst (e_v 2)) (g_tup rfl (gs_cons (g_name 3 sc_write_word.nd) (gs_cons (g_name 4 sc_write_word.nd) (gs_nil)))))
 (ss_cons (s_if (t_tr (e_v 3))
 (ss_cons (s_expr (e_mt PySem.F.plainAttrs_list PySem.F.slot_list_append PySem.F.type_list_append mt_append does_append recv_lst (e_v 1) (a_cons (e_v 4) (a_nil))))
 (ss_nil))
 (ss_cons (s_if (t_cmp op_isN1 does_isN (e_v 4) (e_non) (nomark _))
 (ss_cons (s_expr (e_mt PySem.F.plainAttrs_list PySem.F.slot_list_append PySem.F.type_list_append mt_append does_append recv_lst (e_v 1) (a_cons (e_str) (a_nil))))
 (ss_nil))
 (ss_cons (s_if (t_tr (e_isi (e_v 4) T.z_isinstance T.z_str))
 (ss_cons (s_expr (e_mt PySem.F.plainAttrs_list PySem.F.slot_list_append PySem.F.type_list_append mt_append does_append recv_lst (e_v 1) (a_cons (e_op op_addD does_addD (e_op op_addD does_addD (e_op op_addD does_addD (e_str) (e_ct call_str_int does_str T.z_str (a_cons (e_cb call_len does_len T.z_len (a_cons (e_v 4) (a_nil))) (a_nil)))) (e_str)) (e_v 4)) (a_nil))))
 (ss_nil))
 (ss_cons (s_if (t_tr (e_isi (e_v 4) T.z_isinstance T.z_int))
 (ss_cons (s_expr (e_mt PySem.F.plainAttrs_list PySem.F.slot_list_append PySem.F.type_list_append mt_append does_append recv_lst (e_v 1) (a_cons (e_op op_addD does_addD (e_op op_addD does_addD (e_str) (e_ct call_str_int does_str T.z_str (a_cons (e_v 4) (a_nil)))) (e_str)) (a_nil))))
 (ss_nil))
 (ss_cons (s_expr (e_mt PySem.F.plainAttrs_list PySem.F.slot_list_append PySem.F.type_list_append mt_append does_append recv_lst (e_v 1) (a_cons (e_str) (a_nil))))
 (ss_cons (s_expr (e_mt PySem.F.plainAttrs_list PySem.F.slot_list_append PySem.F.type_list_append mt_append does_append recv_lst (e_v 2) (a_cons (e_tup (a_cons (e_bl) (a_cons (e_str) (a_nil)))) (a_nil))))
 (ss_cons (s_expr (e_mt PySem.F.plainAttrs_list PySem.F.slot_list_extend PySem.F.type_list_extend mt_extendD does_extend recv_lst (e_v 2) (a_cons (e_lc (own := [("inner", 6)]) rfl sc_write_word.nd (blkOk_by (N := ["value", "words", "todo", "is_written", "part", "sign", "inner"]) (sc := defScope s_write_word) (by decide +kernel)) (i_it (e_rev2 (e_v 4))) (fun _ _ _ _ _ => g_name 6 sc_write_word.nd) (fun _ _ _ _ _ => ts_nil) (fun _ _ _ _ _ => e_tup (a_cons (e_bl) (a_cons (e_v 6) (a_nil))))) (a_nil))))
 (ss_nil)))))
 (ss_nil)))
 (ss_nil)))
 (ss_nil)))
 (ss_nil))))
 (ss_cons (s_ret (e_lc (own := [("sign", 5)]) rfl sc_write_word.nd (blkOk_by (N := ["value", "words", "todo", "is_written", "part", "sign", "inner"]) (sc := defScope s_write_word) (by decide +kernel)) (i_it (e_mt PySem.F.plainAttrs_str PySem.F.slot_str_join PySem.F.type_str_join mt_joinR does_join recv_str (e_str) (a_cons (e_v 1) (a_nil)))) (fun _ _ _ _ _ => g_name 5 sc_write_word.nd) (fun _ _ _ _ _ => ts_nil) (fun _ _ _ _ _ => e_cb call_ord does_ord T.z_ord (a_cons (e_v 5) (a_nil)))))
 (ss_nil))))))
theorem sc_sign_at : FnScope ["data", "at"] ["data", "at"] (defScope s_sign_at) := ⟨rfl, rfl, rfl, by decide +kernel, rfl, by decide +kernel, by decide +kernel⟩
theorem ok_sign_at (T : Txt K w mg a) : FnOk P w K mg base (L2.CX P w) 3 a.a_sign_at a.d_sign_at ["data", "at"] (spX K 2 (m_sign_at a)) :=
  fnGc (ok_def (k := 2) T.F_sign_at sc_sign_at fun cdv A outer s H E hr cx =>
 (ss_cons (s_if (t_cmp op_ge does_ge (e_v 1) (e_cb call_len does_len T.z_len (a_cons (e_v 0) (a_nil))) (nomark _))
 (ss_cons (s_raise1 T.o_BadByte T.i_BadByte T.j_BadByte T.n_BadByte (ok_BadByte_init T) (hr.mono (by omega)) T.b_BadByte_init rfl cx.tk T.gc_BadByte (a_cons (e_v 1) (a_nil)))
 (ss_nil))
 (ss_nil))
 (ss_cons (s_ret (e_call (ok_sign_of T) cx.tk (hr.mono (by omega)) T.g_sign_of T.F_sign_of.kp T.b_sign_of (a_cons (e_ix (e_v 0) (e_v 1)) (a_nil))))
 (ss_nil))))
theorem sc_read_number : FnScope ["data", "at", "end", "digits", "sign"] ["data", "at", "end"] (defScope s_read_number) := ⟨rfl, rfl, rfl, by decide +kernel, rfl, by decide +kernel, by decide +kernel⟩
theorem ok_read_number (T : Txt K w mg a) : FnOk P w K mg base (L2.CX P w) 4 a.a_read_number a.d_read_number ["data", "at", "end"] (spX K 3 (m_read_number a)) :=
  fnGc (ok_def (k := 3) T.F_read_number sc_read_number fun cdv A outer s H E hr cx =>
 (ss_cons (s_set 3 sc_read_number.nd (e_str))
 (ss_cons (s_while cx.own (t_tr (e_bl))
 (ss_cons (s_set 4 sc_read_number.nd (e_call (ok_sign_at T) cx.tk (hr.mono (by omega)) T.g_sign_at T.F_sign_at.kp T.b_sign_at (a_cons (e_v 0) (a_cons (e_v 1) (a_nil)))))
 (ss_cons (s_if (PW.pt (w_and (t_cmp (op_eqD (hu64 hr)) does_eq (e_v 4) (e_v 2) (nomark _)) (w_1 (t_cmp (op_neD (hu64 hr)) does_ne (e_v 3) (e_str) (nomark _)))))
 (ss_cons (s_ret (e_tup (a_cons (e_ct call_int3 does_int3 T.z_int (a_cons (e_v 3) (a_nil))) (a_cons (e_op op_addD does_addD (e_v 1) (e_int)) (a_nil)))))
 (ss_nil))
 (ss_nil))
 (ss_cons (s_if (PW.pt (w_or (t_cmp (op_eqD (hu64 hr)) does_eq (e_v 4) (e_str) (nomark _)) (w_or (t_cmp op_notInAny does_notIn (e_v 4) (e_gstr T.c_DIGITS.choose_spec) (by rfl)) (w_or (t_cmp (op_eqD (hu64 hr)) does_eq (e_v 3) (e_str) (nomark _)) (w_1 (t_cmp (op_eqD (hu64 hr)) does_eq (e_cb call_len does_len T.z_len (a_cons (e_v 3) (a_nil))) (e_gint T.c_MOST_DIGITS.choose_spec) (nomark _)))))))
 (ss_cons (s_raise1 T.o_BadByte T.i_BadByte T.j_BadByte T.n_BadByte (ok_BadByte_init T) (hr.mono (by omega)) T.b_BadByte_init rfl cx.tk T.gc_BadByte (a_cons (e_v 1) (a_nil)))
 (ss_nil))
 (ss_nil))
 (ss_cons (s_aug 3 ip_aug ip_A0 sc_read_number.nd (e_v 4))
 (ss_cons (s_aug 1 ip_aug ip_A0 sc_read_number.nd (e_int))
 (ss_nil)))))))
 (ss_nil))))
theorem sc_read_simple : FnScope ["data", "at", "sign", "signs", "many"] ["data", "at", "sign"] (defScope s_read_simple) := ⟨rfl, rfl, rfl, by decide +kernel, rfl, by decide +kernel, by decide +kernel⟩
theorem ok_read_simple (T : Txt K w mg a) : FnOk P w K mg base (L2.CX P w) 5 a.a_read_simple a.d_read_simple ["data", "at", "sign"] (spX K 3 (m_read_simple a)) :=
  fnGc (ok_def (k := 4) T.F_read_simple sc_read_simple fun cdv A outer s H E hr cx =>
 (ss_cons (s_if (t_cmp (op_eqD (hu64 hr)) does_eq (e_v 2) (e_str) (nomark _))
 (ss_cons (s_ret (e_tup (a_cons (e_non) (a_cons (e_op op_addD does_addD (e_v 1) (e_int)) (a_nil)))))
 (ss_nil))
 (ss_nil))
 (ss_cons (s_if (t_cmp (op_eqD (hu64 hr)) does_eq (e_v 2) (e_str) (nomark _))
 (ss_cons (s_ret (e_call (ok_read_number T) cx.tk (hr.mono (by omega)) T.g_read_number T.F_read_number.kp T.b_read_number (a_cons (e_v 0) (a_cons (e_op op_addD does_addD (e_v 1) (e_int)) (a_cons (e_str) (a_nil))))))
 (ss_nil))
 (ss_nil))
 (ss_cons (s_if (t_cmp (op_neD (hu64 hr)) does_ne (e_v 2) (e_str) (nomark _))
 (ss_cons (s_raise1 T.o_BadByte T.i_BadByte T.j_BadByte T.n_BadByte (ok_BadByte_init T) (hr.mono (by omega)) T.b_BadByte_init rfl cx.tk T.gc_BadByte (a_cons (e_v 1) (a_nil)))
 (ss_nil))
 (ss_nil))
 (ss_cons (s_asg (e_call (ok_read_number T) cx.tk (hr.mono (by omega)) T.g_read_number T.F_read_number.kp T.b_read_number (a_cons (e_v 0) (a_cons (e_op op_addD does_addD (e_v 1) (e_int)) (a_cons (e_str) (a_nil))))) (g_tup rfl (gs_cons (g_name 4 sc_read_simple.nd) (gs_cons (g_name 1 sc_read_simple.nd) (gs_nil)))))
 (ss_cons (s_set 3 sc_read_simple.nd (e_lst (a_nil)))
 (ss_cons (s_while cx.own (t_cmp op_ltD does_ltD (e_cb call_len does_len T.z_len (a_cons (e_v 3) (a_nil))) (e_v 4) (nomark _))
 (ss_cons (s_set 2 sc_read_simple.nd (e_call (ok_sign_at T) cx.tk (hr.mono (by omega)) T.g_sign_at T.F_sign_at.kp T.b_sign_at (a_cons (e_v 0) (a_cons (e_v 1) (a_nil)))))
 (ss_cons (s_if (t_cmp (op_eqD (hu64 hr)) does_eq (e_v 2) (e_str) (nomark _))
 (ss_cons (s_raise1 T.o_BadByte T.i_BadByte T.j_BadByte T.n_BadByte (ok_BadByte_init T) (hr.mono (by omega)) T.b_BadByte_init rfl cx.tk T.gc_BadByte (a_cons (e_v 1) (a_nil)))
 (ss_nil))
 (ss_nil))
 (ss_cons (s_expr (e_mt PySem.F.plainAttrs_list PySem.F.slot_list_append PySem.F.type_list_append mt_append does_append recv_lst (e_v 3) (a_cons (e_v 2) (a_nil))))
 (ss_cons (s_aug 1 ip_aug ip_A0 sc_read_simple.nd (e_int))
 (ss_nil))))))
 (ss_cons (s_ret (e_tup (a_cons (e_mt PySem.F.plainAttrs_str PySem.F.slot_str_join PySem.F.type_str_join mt_joinR does_join recv_str (e_str) (a_cons (e_v 3) (a_nil))) (a_cons (e_v 1) (a_nil)))))
 (ss_nil)))))))))
theorem sc_read_word : FnScope ["data", "rows", "at", "sign", "part", "value", "byte"] ["data"] (defScope s_read_word) := ⟨rfl, rfl, rfl, by decide +kernel, rfl, by decide +kernel, by decide +kernel⟩
theorem ok_read_word (T : Txt K w mg a) : FnOk P w K mg base (L2.CX P w) 6 a.a_read_word a.d_read_word ["data"] (spX K 1 (m_read_word a)) :=
  fnGc (ok_def (k := 5) T.F_read_word sc_read_word fun cdv A outer s H E hr cx =>
 (ss_cons (s_if (PW.pt (w_or (t_not (t_tr (e_isi (e_v 0) T.z_isinstance T.z_list))) (w_1 (t_not (t_tr (e_cb (cr_all rfl) does_all T.z_all (a_cons (e_lc (own := [("byte", 6)]) rfl sc_read_word.nd (blkOk_by (N := ["data", "rows", "at", "sign", "part", "value", "byte"]) (sc := defScope s_read_word) (by decide +kernel)) (i_it (e_v 0)) (fun _ _ _ _ _ => g_name 6 sc_read_word.nd) (fun _ _ _ _ _ => ts_nil) (fun _ _ _ _ _ => e_call (ok_is_integer T) takesW0 (hr.mono (by omega)) T.g_is_integer T.F_is_integer.kp T.b_is_integer (a_cons (e_v 6) (a_nil)))) (a_nil))))))))
 (ss_cons (s_raise0 T.e_NotValid rfl cx.tk T.gc_NotValid)
 (ss_nil))
 (ss_nil))
 (ss_cons (s_set 1 sc_read_word.nd (e_lst (a_cons (e_lst (a_nil)) (a_nil))))
 (ss_cons (s_set 2 sc_read_word.nd (e_int))
 (ss_cons (s_while cx.own (PW.pt (w_or (t_cmp op_gt does_gt (e_cb call_len does_len T.z_len (a_cons (e_v 1) (a_nil))) (e_int) (nomark _)) (w_1 (t_not (t_tr (e_ix (e_v 1) (e_int)))))))
 (ss_cons (s_set 3 sc_read_word.nd (e_call (ok_sign_at T) cx.tk (hr.mono (by omega)) T.g_sign_at T.F_sign_at.kp T.b_sign_at (a_cons (e_v 0) (a_cons (e_v 2) (a_nil)))))
 (ss_cons (s_if (t_cmp (op_eqD (hu64 hr)) does_eq (e_v 3) (e_str) (nomark _))
 (ss_cons (s_expr (e_mt PySem.F.plainAttrs_list PySem.F.slot_list_append PySem.F.type_list_append mt_append does_append recv_lst (e_v 1) (a_cons (e_lst (a_nil)) (a_nil))))
 (ss_cons (s_aug 2 ip_aug ip_A0 sc_read_word.nd (e_int))
 (ss_nil)))
 (ss_cons (s_if (PW.pt (w_and (t_cmp (op_eqD (hu64 hr)) does_eq (e_v 3) (e_str) (nomark _)) (w_1 (t_cmp op_gt does_gt (e_cb call_len does_len T.z_len (a_cons (e_v 1) (a_nil))) (e_int) (nomark _)))))
 (ss_cons (s_set 4 sc_read_word.nd (e_ct call_tuple_of does_tuple T.z_tuple (a_cons (e_mt0 PySem.F.plainAttrs_list PySem.F.slot_list_pop PySem.F.type_list_pop mt_pop does_pop recv_lst (e_v 1)) (a_nil))))
 (ss_cons (s_expr (e_mt PySem.F.plainAttrs_list PySem.F.slot_list_append PySem.F.type_list_append mt_append does_append recv_lst (e_ix (e_v 1) (e_un un_neg does_neg (e_int) (fun _ h => pe_un un_neg h))) (a_cons (e_v 4) (a_nil))))
 (ss_cons (s_aug 2 ip_aug ip_A0 sc_read_word.nd (e_int))
 (ss_nil))))
 (ss_cons (s_asg (e_call (ok_read_simple T) cx.tk (hr.mono (by omega)) T.g_read_simple T.F_read_simple.kp T.b_read_simple (a_cons (e_v 0) (a_cons (e_v 2) (a_cons (e_v 3) (a_nil))))) (g_tup rfl (gs_cons (g_name 5 sc_read_word.nd) (gs_cons (g_name 2 sc_read_word.nd) (gs_nil)))))
 (ss_cons (s_expr (e_mt PySem.F.plainAttrs_list PySem.F.slot_list_append PySem.F.type_list_append mt_append does_append recv_lst (e_ix (e_v 1) (e_un un_neg does_neg (e_int) (fun _ h => pe_un un_neg h))) (a_cons (e_v 5) (a_nil))))
 (ss_nil))))
 (ss_nil)))
 (ss_nil))))
 (ss_cons (s_if (t_cmp op_ltD does_ltD (e_v 2) (e_cb call_len does_len T.z_len (a_cons (e_v 0) (a_nil))) (nomark _))
 (ss_cons (s_raise1 T.o_BadByte T.i_BadByte T.j_BadByte T.n_BadByte (ok_BadByte_init T) (hr.mono (by omega)) T.b_BadByte_init rfl cx.tk T.gc_BadByte (a_cons (e_v 2) (a_nil)))
 (ss_nil))
 (ss_nil))
 (ss_cons (s_ret (e_ix (e_ix (e_v 1) (e_int)) (e_int)))
 (ss_nil))))))))
theorem sc_law_tape : FnScope ["script", "tape", "k", "value", "step"] ["script"] (defScope s_law_tape) := ⟨rfl, rfl, rfl, by decide +kernel, rfl, by decide +kernel, by decide +kernel⟩
theorem ok_law_tape (T : Txt K w mg a) : FnOk P w K mg base (L2.CX P w) 1 a.a_law_tape a.d_law_tape ["script"] (spX K 1 (m_law_tape a)) :=
  fnGc (ok_def (k := 0) T.F_law_tape sc_law_tape fun cdv A outer s H E hr cx =>
 (ss_cons (s_set 1 sc_law_tape.nd (e_lst (a_nil)))
 (ss_cons (s_for cx.own rfl (i_range T.z_range (a_cons (e_cb call_len does_len T.z_len (a_cons (e_v 0) (a_nil))) (a_nil))) (g_name 2 sc_law_tape.nd)
 (ss_cons (s_set 3 sc_law_tape.nd (e_cb call_abs does_abs T.z_abs (a_cons (e_ct call_int3 does_int3 T.z_int (a_cons (e_ix (e_v 0) (e_v 2)) (a_nil))) (a_nil))))
 (ss_cons (s_if (t_cmp op_ge does_ge (e_v 3) (e_op op_pow does_pow (e_int) (e_int)) (nomark _))
 (ss_cons (s_for cx.own rfl (i_range T.z_range (a_cons (e_int) (a_nil))) (g_name 4 sc_law_tape.nd)
 (ss_cons (s_if (t_cmp op_gt does_gt (e_v 3) (e_int) (nomark _))
 (ss_cons (s_expr (e_mt PySem.F.plainAttrs_list PySem.F.slot_list_append PySem.F.type_list_append mt_append does_append recv_lst (e_v 1) (a_cons (e_op op_mod does_mod (e_v 3) (e_int)) (a_nil))))
 (ss_cons (s_set 3 sc_law_tape.nd (e_op op_fdiv does_div (e_v 3) (e_int)))
 (ss_nil)))
 (ss_nil))
 (ss_nil)))
 (ss_nil))
 (ss_cons (s_for cx.own rfl (i_range T.z_range (a_cons (e_int) (a_nil))) (g_name 4 sc_law_tape.nd)
 (ss_cons (s_set 3 sc_law_tape.nd (e_op op_mod does_mod (e_op op_addD does_addD (e_op op_addD does_addD (e_op op_mulA does_mulA (e_v 3) (e_int)) (e_op op_mulA does_mulA (e_int) (e_op op_addD does_addD (e_v 2) (e_int)))) (e_op op_mulA does_mulA (e_int) (e_v 4))) (e_int)))
 (ss_cons (s_set 3 sc_law_tape.nd (e_op op_mod does_mod (e_op op_mulA does_mulA (e_v 3) (e_int)) (e_int)))
 (ss_cons (s_expr (e_mt PySem.F.plainAttrs_list PySem.F.slot_list_append PySem.F.type_list_append mt_append does_append recv_lst (e_v 1) (a_cons (e_op op_mod does_mod (e_op op_fdiv does_div (e_v 3) (e_int)) (e_int)) (a_nil))))
 (ss_nil)))))
 (ss_nil)))
 (ss_nil))))
 (ss_cons (s_ret (e_v 1))
 (ss_nil)))))
theorem sc_law_at : FnScope ["tape", "k"] ["tape", "k"] (defScope s_law_at) := ⟨rfl, rfl, rfl, by decide +kernel, rfl, by decide +kernel, by decide +kernel⟩
theorem ok_law_at (T : Txt K w mg a) : FnOk P w K mg base (L2.CX P w) 1 a.a_law_at a.d_law_at ["tape", "k"] (spX K 2 (m_law_at a)) :=
  fnGc (ok_def (k := 0) T.F_law_at sc_law_at fun cdv A outer s H E hr cx =>
 (ss_cons (s_if (t_cmp op_ltD does_ltD (e_v 1) (e_cb call_len does_len T.z_len (a_cons (e_v 0) (a_nil))) (nomark _))
 (ss_cons (s_ret (e_ix (e_v 0) (e_v 1)))
 (ss_nil))
 (ss_nil))
 (ss_cons (s_ret (e_int))
 (ss_nil))))
theorem sc_law_pick : FnScope ["w", "many"] ["w", "many"] (defScope s_law_pick) := ⟨rfl, rfl, rfl, by decide +kernel, rfl, by decide +kernel, by decide +kernel⟩
theorem ok_law_pick (T : Txt K w mg a) : FnOk P w K mg base (L2.CX P w) 2 a.a_law_pick a.d_law_pick ["w", "many"] (spX K 2 (m_law_pick a)) :=
  fnGc (ok_def (k := 1) T.F_law_pick sc_law_pick fun cdv A outer s H E hr cx =>
 (ss_cons (s_subL (e_v 0) (e_int) (e_op op_addD does_addD (e_ix (e_v 0) (e_int)) (e_int)))
 (ss_cons (s_ret (e_op op_mod does_mod (e_op op_addD does_addD (e_op op_addD does_addD (e_op op_mulA does_mulA (e_call (ok_law_at T) cx.tk (hr.mono (by omega)) T.g_law_at T.F_law_at.kp T.b_law_at (a_cons (e_ix (e_v 0) (e_int)) (a_cons (e_op op_mod does_mod (e_ix (e_v 0) (e_int)) (e_int)) (a_nil)))) (e_int)) (e_op op_mulA does_mulA (e_ix (e_v 0) (e_int)) (e_ix (e_v 0) (e_int)))) (e_call (ok_law_at T) cx.tk (hr.mono (by omega)) T.g_law_at T.F_law_at.kp T.b_law_at (a_cons (e_ix (e_v 0) (e_int)) (a_cons (e_int) (a_nil))))) (e_v 1)))
 (ss_nil))))
theorem sc_law_value : FnScope ["w", "level", "kind", "k"] ["w", "level"] (defScope s_law_value) := ⟨rfl, rfl, rfl, by decide +kernel, rfl, by decide +kernel, by decide +kernel⟩
theorem ok_law_value (T : Txt K w mg a) : ∀ n : Nat, FnOk P w K mg base (L2.CX P w) (2 + n) a.a_law_value a.d_law_value ["w", "level"] (spX K 2 (m_law_value a n))
  | 0 => FnOk.none
  | n + 1 => by
    have ih := ok_law_value T n
    exact fnGc (ok_def (k := 2 + n) T.F_law_value sc_law_value fun cdv A outer s H E hr cx =>
 (ss_cons (s_set 2 sc_law_value.nd (e_call (ok_law_pick T) cx.tk (hr.mono (by omega)) T.g_law_pick T.F_law_pick.kp T.b_law_pick (a_cons (e_v 0) (a_cons (e_int) (a_nil)))))
 (ss_cons (s_if (t_cmp (op_eqD (hu64 hr)) does_eq (e_v 2) (e_int) (nomark _))
 (ss_cons (s_ret (e_non))
 (ss_nil))
 (ss_nil))
 (ss_cons (s_if (t_cmp (op_eqD (hu64 hr)) does_eq (e_v 2) (e_int) (nomark _))
 (ss_cons (s_ret (e_ix (e_lst (a_cons (e_int) (a_cons (e_int) (a_cons (e_int) (a_cons (e_int) (a_cons (e_call (ok_law_pick T) cx.tk (hr.mono (by omega)) T.g_law_pick T.F_law_pick.kp T.b_law_pick (a_cons (e_v 0) (a_cons (e_int) (a_nil)))) (a_nil))))))) (e_call (ok_law_pick T) cx.tk (hr.mono (by omega)) T.g_law_pick T.F_law_pick.kp T.b_law_pick (a_cons (e_v 0) (a_cons (e_int) (a_nil))))))
 (ss_nil))
 (ss_nil))
 (ss_cons (s_if (PW.pt (w_or (t_cmp (op_eqD (hu64 hr)) does_eq (e_v 2) (e_int) (nomark _)) (w_1 (t_cmp op_gt does_gt (e_v 1) (e_int) (nomark _)))))
 (ss_cons (s_ret (e_mt PySem.F.plainAttrs_str PySem.F.slot_str_join PySem.F.type_str_join mt_joinR does_join recv_str (e_str) (a_cons (e_lc (own := [("k", 3)]) rfl sc_law_value.nd (blkOk_by (N := ["w", "level", "kind", "k"]) (sc := defScope s_law_value) (by decide +kernel)) (i_range T.z_range (a_cons (e_call (ok_law_pick T) cx.tk (hr.mono (by omega)) T.g_law_pick T.F_law_pick.kp T.b_law_pick (a_cons (e_v 0) (a_cons (e_int) (a_nil)))) (a_nil))) (fun _ _ _ _ _ => g_name 3 sc_law_value.nd) (fun _ _ _ _ _ => ts_nil) (fun _ _ _ _ _ => e_ix (e_str) (e_call (ok_law_pick T) takesW0 (hr.mono (by omega)) T.g_law_pick T.F_law_pick.kp T.b_law_pick (a_cons (e_v 0) (a_cons (e_int) (a_nil)))))) (a_nil))))
 (ss_nil))
 (ss_nil))
 (ss_cons (s_ret (e_ct call_tuple_of does_tuple T.z_tuple (a_cons (e_lc (own := [("k", 3)]) rfl sc_law_value.nd (blkOk_by (N := ["w", "level", "kind", "k"]) (sc := defScope s_law_value) (by decide +kernel)) (i_range T.z_range (a_cons (e_call (ok_law_pick T) cx.tk (hr.mono (by omega)) T.g_law_pick T.F_law_pick.kp T.b_law_pick (a_cons (e_v 0) (a_cons (e_int) (a_nil)))) (a_nil))) (fun _ _ _ _ _ => g_name 3 sc_law_value.nd) (fun _ _ _ _ _ => ts_nil) (fun _ _ _ _ _ => e_call (ih) takesW0 (hr.mono (by omega)) T.g_law_value T.F_law_value.kp T.b_law_value (a_cons (e_v 0) (a_cons (e_op op_addD does_addD (e_v 1) (e_int)) (a_nil))))) (a_nil))))
 (ss_nil)))))))
theorem sc_law_text : FnScope ["value", "part"] ["value"] (defScope s_law_text) := ⟨rfl, rfl, rfl, by decide +kernel, rfl, by decide +kernel, by decide +kernel⟩
theorem ok_law_text (T : Txt K w mg a) : ∀ n : Nat, FnOk P w K mg base (L2.CX P w) (0 + n) a.a_law_text a.d_law_text ["value"] (spX K 1 (m_law_text a n))
  | 0 => FnOk.none
  | n + 1 => by
    have ih := ok_law_text T n
    exact fnGc (ok_def (k := 0 + n) T.F_law_text sc_law_text fun cdv A outer s H E hr cx =>
 (ss_cons (s_if (t_cmp op_isN1 does_isN (e_v 0) (e_non) (nomark _))
 (ss_cons (s_ret (e_str))
 (ss_nil))
 (ss_nil))
 (ss_cons (s_if (t_tr (e_isi (e_v 0) T.z_isinstance T.z_int))
 (ss_cons (s_ret (e_op op_addD does_addD (e_op op_addD does_addD (e_str) (e_ct call_str_int does_str T.z_str (a_cons (e_v 0) (a_nil)))) (e_str)))
 (ss_nil))
 (ss_nil))
 (ss_cons (s_if (t_tr (e_isi (e_v 0) T.z_isinstance T.z_str))
 (ss_cons (s_ret (e_op op_addD does_addD (e_op op_addD does_addD (e_op op_addD does_addD (e_str) (e_ct call_str_int does_str T.z_str (a_cons (e_cb call_len does_len T.z_len (a_cons (e_v 0) (a_nil))) (a_nil)))) (e_str)) (e_v 0)))
 (ss_nil))
 (ss_nil))
 (ss_cons (s_ret (e_op op_addD does_addD (e_op op_addD does_addD (e_str) (e_mt PySem.F.plainAttrs_str PySem.F.slot_str_join PySem.F.type_str_join mt_joinR does_join recv_str (e_str) (a_cons (e_lc (own := [("part", 1)]) rfl sc_law_text.nd (blkOk_by (N := ["value", "part"]) (sc := defScope s_law_text) (by decide +kernel)) (i_it (e_v 0)) (fun _ _ _ _ _ => g_name 1 sc_law_text.nd) (fun _ _ _ _ _ => ts_nil) (fun _ _ _ _ _ => e_call (ih) takesW0 (hr.mono (by omega)) T.g_law_text T.F_law_text.kp T.b_law_text (a_cons (e_v 1) (a_nil)))) (a_nil)))) (e_str)))
 (ss_nil))))))
theorem sc_law_fault : FnScope ["data", "depth", "state", "digits", "left", "place", "byte"] ["data"] (defScope s_law_fault) := ⟨rfl, rfl, rfl, by decide +kernel, rfl, by decide +kernel, by decide +kernel⟩
theorem ok_law_fault (T : Txt K w mg a) : FnOk P w K mg base (L2.CX P w) 1 a.a_law_fault a.d_law_fault ["data"] (spX K 1 (m_law_fault a)) :=
  fnGc (ok_def (k := 0) T.F_law_fault sc_law_fault fun cdv A outer s H E hr cx =>
 (ss_cons (s_set 1 sc_law_fault.nd (e_int))
 (ss_cons (s_set 2 sc_law_fault.nd (e_str))
 (ss_cons (s_set 3 sc_law_fault.nd (e_str))
 (ss_cons (s_set 4 sc_law_fault.nd (e_int))
 (ss_cons (s_for cx.own rfl (i_range T.z_range (a_cons (e_cb call_len does_len T.z_len (a_cons (e_v 0) (a_nil))) (a_nil))) (g_name 5 sc_law_fault.nd)
 (ss_cons (s_set 6 sc_law_fault.nd (e_ix (e_v 0) (e_v 5)))
 (ss_cons (s_if (PW.pt (w_or (PW.pt (w_and (t_cmp op_notInAny does_notIn (e_v 6) (e_tup (a_cons (e_int) (a_cons (e_int) (a_nil)))) (by rfl)) (w_1 (PW.pt (w_or (t_cmp op_ltD does_ltD (e_v 6) (e_int) (nomark _)) (w_or (t_cmp op_gt does_gt (e_v 6) (e_int) (nomark _)) (w_1 (t_cmp (op_eqD (hu64 hr)) does_eq (e_v 6) (e_int) (nomark _))))))))) (w_1 (t_cmp (op_eqD (hu64 hr)) does_eq (e_v 2) (e_str) (nomark _)))))
 (ss_cons (s_ret (e_v 5))
 (ss_nil))
 (ss_nil))
 (ss_cons (s_if (t_cmp (op_eqD (hu64 hr)) does_eq (e_v 2) (e_str) (nomark _))
 (ss_cons (s_set 4 sc_law_fault.nd (e_op op_sub does_sub (e_v 4) (e_int)))
 (ss_cons (s_if (t_cmp (op_eqD (hu64 hr)) does_eq (e_v 4) (e_int) (nomark _))
 (ss_cons (s_set 2 sc_law_fault.nd (e_ix (e_lst (a_cons (e_str) (a_cons (e_str) (a_nil)))) (e_ct call_int3 does_int3 T.z_int (a_cons (e_cmp (op_eqD (hu64 hr)) does_eq (e_v 1) (e_int) (nomark _)) (a_nil)))))
 (ss_nil))
 (ss_nil))
 (ss_nil)))
 (ss_cons (s_if (t_cmp (op_eqD (hu64 hr)) does_eq (e_v 2) (e_str) (nomark _))
 (ss_cons (s_if (t_cmp (op_eqD (hu64 hr)) does_eq (e_v 6) (e_int) (nomark _))
 (ss_cons (s_set 1 sc_law_fault.nd (e_op op_addD does_addD (e_v 1) (e_int)))
 (ss_nil))
 (ss_cons (s_if (PW.pt (w_and (t_cmp (op_eqD (hu64 hr)) does_eq (e_v 6) (e_int) (nomark _)) (w_1 (t_cmp op_gt does_gt (e_v 1) (e_int) (nomark _)))))
 (ss_cons (s_set 1 sc_law_fault.nd (e_op op_sub does_sub (e_v 1) (e_int)))
 (ss_cons (s_set 2 sc_law_fault.nd (e_ix (e_lst (a_cons (e_str) (a_cons (e_str) (a_nil)))) (e_ct call_int3 does_int3 T.z_int (a_cons (e_cmp (op_eqD (hu64 hr)) does_eq (e_v 1) (e_int) (nomark _)) (a_nil)))))
 (ss_nil)))
 (ss_cons (s_if (t_cmp (op_eqD (hu64 hr)) does_eq (e_v 6) (e_int) (nomark _))
 (ss_cons (s_set 2 sc_law_fault.nd (e_ix (e_lst (a_cons (e_str) (a_cons (e_str) (a_nil)))) (e_ct call_int3 does_int3 T.z_int (a_cons (e_cmp (op_eqD (hu64 hr)) does_eq (e_v 1) (e_int) (nomark _)) (a_nil)))))
 (ss_nil))
 (ss_cons (s_if (t_cmp op_inAny does_in (e_v 6) (e_tup (a_cons (e_int) (a_cons (e_int) (a_nil)))) (by rfl))
 (ss_cons (s_set 2 sc_law_fault.nd (e_ix (e_lst (a_cons (e_str) (a_cons (e_str) (a_nil)))) (e_ct call_int3 does_int3 T.z_int (a_cons (e_cmp (op_eqD (hu64 hr)) does_eq (e_v 6) (e_int) (nomark _)) (a_nil)))))
 (ss_cons (s_set 3 sc_law_fault.nd (e_str))
 (ss_nil)))
 (ss_cons (s_ret (e_v 5))
 (ss_nil)))
 (ss_nil)))
 (ss_nil)))
 (ss_nil)))
 (ss_nil))
 (ss_cons (s_if (PW.pt (w_and (t_cmp (op_eqD (hu64 hr)) does_eq (e_v 6) (e_ix (e_lst (a_cons (e_int) (a_cons (e_int) (a_nil)))) (e_ct call_int3 does_int3 T.z_int (a_cons (e_cmp (op_eqD (hu64 hr)) does_eq (e_v 2) (e_str) (nomark _)) (a_nil)))) (nomark _)) (w_1 (t_cmp (op_neD (hu64 hr)) does_ne (e_v 3) (e_str) (nomark _)))))
 (ss_cons (s_set 4 sc_law_fault.nd (e_int))
 (ss_cons (s_if (t_cmp (op_eqD (hu64 hr)) does_eq (e_v 2) (e_str) (nomark _))
 (ss_cons (s_set 4 sc_law_fault.nd (e_ct call_int3 does_int3 T.z_int (a_cons (e_v 3) (a_nil))))
 (ss_nil))
 (ss_nil))
 (ss_cons (s_set 2 sc_law_fault.nd (e_ix (e_lst (a_cons (e_str) (a_cons (e_str) (a_nil)))) (e_ct call_int3 does_int3 T.z_int (a_cons (e_cmp (op_eqD (hu64 hr)) does_eq (e_v 1) (e_int) (nomark _)) (a_nil)))))
 (ss_cons (s_if (t_cmp op_gt does_gt (e_v 4) (e_int) (nomark _))
 (ss_cons (s_set 2 sc_law_fault.nd (e_str))
 (ss_nil))
 (ss_nil))
 (ss_nil)))))
 (ss_cons (s_if (PW.pt (w_and (t_chain op_le does_le op_le does_le (e_int) (e_v 6) (e_int)) (w_and (t_cmp (op_neD (hu64 hr)) does_ne (e_v 3) (e_str) (nomark _)) (w_1 (t_cmp op_ltD does_ltD (e_cb call_len does_len T.z_len (a_cons (e_v 3) (a_nil))) (e_int) (nomark _))))))
 (ss_cons (s_set 3 sc_law_fault.nd (e_op op_addD does_addD (e_v 3) (e_ix (e_str) (e_op op_sub does_sub (e_v 6) (e_int)))))
 (ss_nil))
 (ss_cons (s_ret (e_v 5))
 (ss_nil)))
 (ss_nil)))
 (ss_nil)))
 (ss_nil)))
 (ss_nil)))))
 (ss_cons (s_if (t_cmp (op_neD (hu64 hr)) does_ne (e_v 2) (e_str) (nomark _))
 (ss_cons (s_ret (e_cb call_len does_len T.z_len (a_cons (e_v 0) (a_nil))))
 (ss_nil))
 (ss_nil))
 (ss_cons (s_ret (e_un un_neg does_neg (e_int) (fun _ h => pe_un un_neg h)))
 (ss_nil)))))))))
theorem sc_law_told : FnScope ["data", "e"] ["data"] (defScope s_law_told) := ⟨rfl, rfl, rfl, by decide +kernel, rfl, by decide +kernel, by decide +kernel⟩
theorem ok_law_told (T : Txt K w mg a) : FnOk P w K mg base (L2.CX P w) 7 a.a_law_told a.d_law_told ["data"] (spX K 1 (m_law_told a)) :=
  fnGc (ok_def (k := 6) T.F_law_told sc_law_told fun cdv A outer s H E hr cx =>
 (ss_cons (s_tryA 1 sc_law_told.nd rfl rfl rfl rfl ⟨rfl, by decide, .inl T.gc_StreamError⟩ (fun D b hb => T.x_StreamError D b hb) cx.tk (fun W pn xe tk own =>
 ss_cons (s_ret (e_tup (a_cons (e_str) (a_cons (e_call (ok_read_word T) tk (hr.mono (by omega)) T.g_read_word T.F_read_word.kp T.b_read_word (a_cons (e_v 0) (a_nil))) (a_nil)))))
 (ss_nil))
 (fun x xd oe d pn e hz hf hd => ss_cons (s_if (t_tr (e_isE rfl hz hf hd (fun b hb => T.y_BadByte _ b hb) (e_v 1) T.z_isinstance T.gc_BadByte))
 (ss_cons (s_ret (e_tup (a_cons (e_str) (a_cons (e_fldE rfl hz hf hd (fun b hb => T.yf_place _ b hb) (e_v 1)) (a_nil)))))
 (ss_nil))
 (ss_nil))
 (ss_cons (s_ret (e_tup (a_cons (e_str) (a_cons (e_isE rfl hz hf hd (fun b hb => T.y_NotValid _ b hb) (e_v 1) T.z_isinstance T.gc_NotValid) (a_nil)))))
 (ss_nil))))
 (ss_nil)))
theorem sc_law : FnScope ["script", "w", "value", "data", "k", "wrong", "at", "byte", "bent", "fault", "told", "sign"] ["script"] (defScope s_law) := ⟨rfl, rfl, rfl, by decide +kernel, rfl, by decide +kernel, by decide +kernel⟩
theorem ok_law (T : Txt K w mg a) : FnOk P w K mg base (L2.CX P w) 11 a.a_law a.d_law ["script"] (spX K 1 (m_law a)) :=
  fnGc (ok_def (k := 10) T.F_law sc_law fun cdv A outer s H E hr cx =>
 (ss_cons (s_set 1 sc_law.nd (e_lst (a_cons (e_call (ok_law_tape T) cx.tk (hr.mono (by omega)) T.g_law_tape T.F_law_tape.kp T.b_law_tape (a_cons (e_v 0) (a_nil))) (a_cons (e_int) (a_nil)))))
 (ss_cons (s_set 2 sc_law.nd (e_call (ok_law_value T 7) cx.tk (hr.mono (by omega)) T.g_law_value T.F_law_value.kp T.b_law_value (a_cons (e_v 1) (a_cons (e_int) (a_nil)))))
 (ss_cons (s_setLc 3 (own := [("sign", 11)]) rfl sc_law.nd (blkOk_by (N := ["script", "w", "value", "data", "k", "wrong", "at", "byte", "bent", "fault", "told", "sign"]) (sc := defScope s_law) (by decide +kernel)) (i_it (e_call (ok_law_text T 7) cx.tk (hr.mono (by omega)) T.g_law_text T.F_law_text.kp T.b_law_text (a_cons (e_v 2) (a_nil)))) (fun _ _ _ _ _ => g_name 11 sc_law.nd) (fun _ _ _ _ _ => ts_nil) (fun _ _ _ _ _ => e_cb call_ord does_ord T.z_ord (a_cons (e_v 11) (a_nil))) (sw_true rfl rfl rfl (by decide +kernel)))
 (ss_cons (s_if (PW.pt (w_or (t_cmp (op_neD (hu64 hr)) does_ne (e_call (ok_write_word T) cx.tk (hr.mono (by omega)) T.g_write_word T.F_write_word.kp T.b_write_word (a_cons (e_v 2) (a_nil))) (e_v 3) (nomark _)) (w_or (t_cmp (op_neD (hu64 hr)) does_ne (e_call (ok_law_told T) cx.tk (hr.mono (by omega)) T.g_law_told T.F_law_told.kp T.b_law_told (a_cons (e_v 3) (a_nil))) (e_tup (a_cons (e_str) (a_cons (e_v 2) (a_nil)))) (nomark _)) (w_1 (t_cmp (op_neD (hu64 hr)) does_ne (e_call (ok_law_fault T) cx.tk (hr.mono (by omega)) T.g_law_fault T.F_law_fault.kp T.b_law_fault (a_cons (e_v 3) (a_nil))) (e_un un_neg does_neg (e_int) (fun _ h => pe_un un_neg h)) (nomark _))))))
 (ss_cons (s_ret (e_bl))
 (ss_nil))
 (ss_nil))
 (ss_cons (s_for cx.own rfl (i_range T.z_range (a_cons (e_int) (a_nil))) (g_name 4 sc_law.nd)
 (ss_cons (s_set 6 sc_law.nd (e_call (ok_law_pick T) cx.tk (hr.mono (by omega)) T.g_law_pick T.F_law_pick.kp T.b_law_pick (a_cons (e_v 1) (a_cons (e_op op_addD does_addD (e_cb call_len does_len T.z_len (a_cons (e_v 3) (a_nil))) (e_int)) (a_nil)))))
 (ss_cons (s_set 7 sc_law.nd (e_ix (e_lst (a_cons (e_int) (a_cons (e_int) (a_cons (e_int) (a_cons (e_int) (a_cons (e_int) (a_cons (e_int) (a_cons (e_int) (a_cons (e_int) (a_cons (e_int) (a_cons (e_int) (a_cons (e_int) (a_cons (e_int) (a_cons (e_int) (a_cons (e_un un_neg does_neg (e_int) (fun _ h => pe_un un_neg h)) (a_cons (e_int) (a_nil))))))))))))))))) (e_call (ok_law_pick T) cx.tk (hr.mono (by omega)) T.g_law_pick T.F_law_pick.kp T.b_law_pick (a_cons (e_v 1) (a_cons (e_int) (a_nil))))))
 (ss_cons (s_set 8 sc_law.nd (e_ix (e_lst (a_cons (e_slA (e_v 3) (o_none) (o_some (e_v 6))) (a_cons (e_op op_addD does_addD (e_op op_addD does_addD (e_slA (e_v 3) (o_none) (o_some (e_v 6))) (e_lst (a_cons (e_v 7) (a_nil)))) (e_slA (e_v 3) (o_some (e_v 6)) (o_none))) (a_cons (e_op op_addD does_addD (e_op op_addD does_addD (e_slA (e_v 3) (o_none) (o_some (e_v 6))) (e_lst (a_cons (e_v 7) (a_nil)))) (e_slA (e_v 3) (o_some (e_op op_addD does_addD (e_v 6) (e_int))) (o_none))) (a_nil))))) (e_call (ok_law_pick T) cx.tk (hr.mono (by omega)) T.g_law_pick T.F_law_pick.kp T.b_law_pick (a_cons (e_v 1) (a_cons (e_int) (a_nil))))))
 (ss_cons (s_set 9 sc_law.nd (e_call (ok_law_fault T) cx.tk (hr.mono (by omega)) T.g_law_fault T.F_law_fault.kp T.b_law_fault (a_cons (e_v 8) (a_nil))))
 (ss_cons (s_set 10 sc_law.nd (e_call (ok_law_told T) cx.tk (hr.mono (by omega)) T.g_law_told T.F_law_told.kp T.b_law_told (a_cons (e_v 8) (a_nil))))
 (ss_cons (s_if (PW.pt (w_or (PW.pt (w_and (t_cmp op_ge does_ge (e_v 9) (e_int) (nomark _)) (w_1 (t_cmp (op_neD (hu64 hr)) does_ne (e_v 10) (e_tup (a_cons (e_str) (a_cons (e_v 9) (a_nil)))) (nomark _))))) (w_1 (PW.pt (w_and (t_cmp op_ltD does_ltD (e_v 9) (e_int) (nomark _)) (w_1 (PW.pt (w_or (t_cmp (op_neD (hu64 hr)) does_ne (e_ix (e_v 10) (e_int)) (e_str) (nomark _)) (w_1 (t_cmp (op_neD (hu64 hr)) does_ne (e_call (ok_write_word T) cx.tk (hr.mono (by omega)) T.g_write_word T.F_write_word.kp T.b_write_word (a_cons (e_ix (e_v 10) (e_int)) (a_nil))) (e_v 8) (nomark _)))))))))))
 (ss_cons (s_ret (e_bl))
 (ss_nil))
 (ss_nil))
 (ss_nil))))))))
 (ss_cons (s_for cx.own rfl (i_it (e_tup (a_cons (e_non) (a_cons (e_str) (a_cons (e_tup (a_cons (e_int) (a_nil))) (a_cons (e_lst (a_cons (e_non) (a_nil))) (a_cons (e_lst (a_cons (e_bl) (a_nil))) (a_nil)))))))) (g_name 5 sc_law.nd)
 (ss_cons (s_if (t_cmp (op_neD (hu64 hr)) does_ne (e_call (ok_law_told T) cx.tk (hr.mono (by omega)) T.g_law_told T.F_law_told.kp T.b_law_told (a_cons (e_v 5) (a_nil))) (e_tup (a_cons (e_str) (a_cons (e_bl) (a_nil)))) (nomark _))
 (ss_cons (s_ret (e_bl))
 (ss_nil))
 (ss_nil))
 (ss_nil)))
 (ss_cons (s_ret (e_bl))
 (ss_nil)))))))))
end
end Law

set_option Elab.async false
set_option linter.all false
set_option maxRecDepth 100000
set_option maxHeartbeats 1000000
namespace Law
open PySem PySem.Spec PyProof.Rows L2 Rg
/-! ### words: rows of values, and their text -/
inductive F where
  | nil | non (r : F) | int (n : Nat) (r : F) | str (l : List Nat) (r : F) | tup (c r : F)
abbrev nL : Nat → List Nat := TL.numL
def wf : F → List Nat
  | .nil => []
  | .non r => 111 :: wf r
  | .int n r => 110 :: (nL n ++ 59 :: wf r)
  | .str l r => 116 :: (nL l.length ++ 58 :: (l ++ wf r))
  | .tup c r => 40 :: (wf c ++ 41 :: wf r)
def dsF : F → List D
  | .nil => []
  | .non r => .non :: dsF r
  | .int n r => .int (n : Int) :: dsF r
  | .str l r => .str (tx l) :: dsF r
  | .tup c r => .tup (dsF c) :: dsF r
def app : F → F → F
  | .nil, g => g
  | .non r, g => .non (app r g)
  | .int n r, g => .int n (app r g)
  | .str l r, g => .str l (app r g)
  | .tup c r, g => .tup c (app r g)
theorem wf_app : ∀ f g : F, wf (app f g) = wf f ++ wf g
  | .nil, g => rfl
  | .non r, g => by simp [app, wf, wf_app r g]
  | .int n r, g => by simp [app, wf, wf_app r g]
  | .str l r, g => by simp [app, wf, wf_app r g]
  | .tup c r, g => by simp [app, wf, wf_app r g]
theorem ds_app : ∀ f g : F, dsF (app f g) = dsF f ++ dsF g
  | .nil, g => rfl
  | .non r, g => by simp [app, dsF, ds_app r g]
  | .int n r, g => by simp [app, dsF, ds_app r g]
  | .str l r, g => by simp [app, dsF, ds_app r g]
  | .tup c r, g => by simp [app, dsF, ds_app r g]
theorem app_nil : ∀ f : F, app f .nil = f
  | .nil => rfl
  | .non r => by simp [app, app_nil r]
  | .int n r => by simp [app, app_nil r]
  | .str l r => by simp [app, app_nil r]
  | .tup c r => by simp [app, app_nil r]
theorem app_assoc : ∀ f g h : F, app (app f g) h = app f (app g h)
  | .nil, g, h => rfl
  | .non r, g, h => by simp [app, app_assoc r g h]
  | .int n r, g, h => by simp [app, app_assoc r g h]
  | .str l r, g, h => by simp [app, app_assoc r g h]
  | .tup c r, g, h => by simp [app, app_assoc r g h]
/-- what a value may hold -/
def okF : F → Bool
  | .nil => true
  | .non r => okF r
  | .int n r => decide (n < 1000000000) && okF r
  | .str l r => decide (l.length < 1000000000) && okF r
  | .tup c r => okF c && okF r
theorem ok_app : ∀ f g : F, okF f = true → okF g = true → okF (app f g) = true
  | .nil, g, _, h => h
  | .non r, g, h1, h => ok_app r g h1 h
  | .int n r, g, h1, h => by simp only [okF, app, Bool.and_eq_true] at h1 ⊢; exact ⟨h1.1, ok_app r g h1.2 h⟩
  | .str l r, g, h1, h => by simp only [okF, app, Bool.and_eq_true] at h1 ⊢; exact ⟨h1.1, ok_app r g h1.2 h⟩
  | .tup c r, g, h1, h => by simp only [okF, app, Bool.and_eq_true] at h1 ⊢; exact ⟨h1.1, ok_app r g h1.2 h⟩
/-! ### numbers -/
def dig (c : Nat) : Bool := decide (48 ≤ c) && decide (c ≤ 57)
abbrev dv : List Nat → Nat := NumText.digitsVal
/-- digits without a zero ahead, at most nine -/
def Can (l : List Nat) : Prop := l.all dig = true ∧ l.length ≤ 9 ∧ (l = [48] ∨ l.head? ≠ some 48)
theorem dv_snoc (a : List Nat) (c : Nat) : dv (a ++ [c]) = dv a * 10 + (c - 48) := by
  unfold dv NumText.digitsVal
  rw [List.foldl_append]; rfl
theorem fold_ge : ∀ (r : List Nat) (x : Nat), x ≤ r.foldl (fun acc c => acc * 10 + (c - 48)) x
  | [], x => Nat.le_refl _
  | c :: r, x => Nat.le_trans (by omega) (fold_ge r (x * 10 + (c - 48)))
theorem dv_pos {a : List Nat} (hn : a ≠ []) (hd : a.all dig = true) (hh : a.head? ≠ some 48) : 0 < dv a := by
  cases a with
  | nil => exact absurd rfl hn
  | cons c r =>
    have hc : dig c = true := by rw [List.all_cons, Bool.and_eq_true] at hd; exact hd.1
    have hc2 : c ≠ 48 := fun e => hh (by rw [e]; rfl)
    unfold dig at hc
    rw [Bool.and_eq_true, decide_eq_true_eq, decide_eq_true_eq] at hc
    have := fold_ge r (0 * 10 + (c - 48))
    show 0 < List.foldl (fun acc c => acc * 10 + (c - 48)) 0 (c :: r)
    rw [List.foldl_cons]
    omega
theorem num_can : ∀ (k : Nat) (a : List Nat), a.length = k → a ≠ [] → Can a → nL (dv a) = a
  | 0, a, hk, hn, _ => absurd (List.length_eq_zero_iff.mp hk) hn
  | k + 1, a, hk, hn, h => by
    obtain ⟨hd, hl, hh⟩ := h
    rcases List.eq_nil_or_concat a with e | ⟨b, c, e⟩
    · exact absurd e hn
    · rw [List.concat_eq_append] at e
      subst e
      have hd' := hd
      rw [List.all_append, Bool.and_eq_true] at hd
      have hc : dig c = true := by have := hd.2; simpa using this
      unfold dig at hc
      rw [Bool.and_eq_true, decide_eq_true_eq, decide_eq_true_eq] at hc
      rw [dv_snoc]
      by_cases hb : b = []
      · subst hb
        show nL (0 * 10 + (c - 48)) = [c]
        rw [show 0 * 10 + (c - 48) = c - 48 by omega, show nL (c - 48) = [48 + (c - 48)] from TL.numL_lt (by omega)]
        congr 1
        omega
      · have hbh : b.head? ≠ some 48 := by
          rcases hh with e | e
          · have := congrArg List.length e
            simp at this
            exact absurd this hb
          · cases b with
            | nil => exact absurd rfl hb
            | cons x r => exact e
        have hp := dv_pos hb hd.1 hbh
        have ih := num_can k b (by simp at hk; exact hk) hb ⟨hd.1, by simp at hl; omega, .inr hbh⟩
        rw [show nL (dv b * 10 + (c - 48)) = nL ((dv b * 10 + (c - 48)) / 10) ++ [48 + (dv b * 10 + (c - 48)) % 10] from TL.numL_step (by omega)]
        rw [show (dv b * 10 + (c - 48)) / 10 = dv b by omega, show (dv b * 10 + (c - 48)) % 10 = c - 48 by omega]
        rw [ih]
        congr 2
        omega
theorem dv_lt {k : Nat} : ∀ (a : List Nat), a.all dig = true → a.length ≤ k → dv a < 10 ^ k := by
  have key : ∀ (a : List Nat) (x : Nat), a.all dig = true → a.foldl (fun acc c => acc * 10 + (c - 48)) x < (x + 1) * 10 ^ a.length := by
    intro a
    induction a with
    | nil => intro x _; simp
    | cons c r ih =>
      intro x h
      rw [List.all_cons, Bool.and_eq_true] at h
      have hc := h.1
      unfold dig at hc
      rw [Bool.and_eq_true, decide_eq_true_eq, decide_eq_true_eq] at hc
      have := ih (x * 10 + (c - 48)) h.2
      rw [List.foldl_cons, List.length_cons, Nat.pow_succ]
      refine Nat.lt_of_lt_of_le this ?_
      rw [show (x + 1) * (10 ^ r.length * 10) = (x * 10 + 10) * 10 ^ r.length by rw [Nat.mul_comm (10 ^ r.length) 10, ← Nat.mul_assoc]; congr 1; omega]
      exact Nat.mul_le_mul_right _ (by omega)
  intro a h hl
  have := key a 0 h
  have h2 : 10 ^ a.length ≤ 10 ^ k := Nat.pow_le_pow_right (by omega) hl
  unfold dv NumText.digitsVal
  omega
theorem nL_dig (n : Nat) : (nL n).all dig = true := List.all_eq_true.mpr fun c hc => by
  have := TL.numL_digits n c hc
  unfold dig
  rw [Bool.and_eq_true, decide_eq_true_eq, decide_eq_true_eq]
  exact this
theorem nL_head : ∀ (k n : Nat), n < k → 0 < n → (nL n).head? ≠ some 48
  | 0, n, h, _ => by omega
  | k + 1, n, h, hp => by
    by_cases h10 : n < 10
    · rw [show nL n = [48 + n] from TL.numL_lt h10]
      simp
      omega
    · rw [show nL n = nL (n / 10) ++ [48 + n % 10] from TL.numL_step (by omega)]
      have ih := nL_head k (n / 10) (by omega) (by omega)
      have hne := TL.numL_ne (n / 10)
      cases e : nL (n / 10) with
      | nil => exact absurd e hne
      | cons x r => rw [e] at ih; exact ih
theorem nL_can {n : Nat} (h : n < 1000000000) : Can (nL n) := by
  refine ⟨nL_dig n, TL.numL_len (by omega) (by omega), ?_⟩
  by_cases h0 : n = 0
  · subst h0
    exact .inl (TL.numL_lt (by omega))
  · exact .inr (nL_head (n + 1) n (by omega) (by omega))
/-! ### bytes and signs -/
def sg (b : Int) : Option Nat := if b = 9 ∨ b = 10 ∨ (32 ≤ b ∧ b ≤ 126 ∧ b ≠ 37) then some b.toNat else none
theorem sg_some {b : Int} {c : Nat} (h : sg b = some c) : b = (c : Int) ∧ c < 127 := by
  unfold sg at h
  split at h
  · cases h
    omega
  · cases h
/-! ### the reader -/
inductive NR where
  | bad (p : Nat) | ok (a : List Nat) (at_ : Nat) (rest : List Int)
def numS (e : Nat) : List Nat → Nat → List Int → NR
  | _, p, [] => .bad p
  | a, p, b :: r => match sg b with
    | none => .bad p
    | some c => if c = e ∧ a ≠ [] then .ok a (p + 1) r else if dig c = false ∨ a = [48] ∨ a.length = 9 then .bad p else numS e (a ++ [c]) (p + 1) r
def txtS : Nat → List Nat → Nat → List Int → NR
  | 0, a, p, r => .ok a p r
  | _ + 1, _, p, [] => .bad p
  | k + 1, a, p, b :: r => match sg b with
    | none => .bad p
    | some c => txtS k (a ++ [c]) (p + 1) r
inductive Res where
  | bad (p : Nat) | ok (f : F)
def isNil : F → Bool
  | .nil => true
  | _ => false
/-- rows, the innermost first -/
def fin : List F → Bool
  | [f] => !isNil f
  | _ => false
def push (v : F) : List F → List F
  | [] => []
  | f :: fs => app f v :: fs
def rd : Nat → List F → Nat → List Int → Res
  | 0, _, _, _ => .bad 0
  | m + 1, st, p, rest => if fin st = true then (match rest with
      | [] => .ok (st.headD .nil)
      | _ :: _ => .bad p) else match rest with
    | [] => .bad p
    | b :: r => if sg b = some 40 then rd m (.nil :: st) (p + 1) r
      else if sg b = some 41 ∧ 1 < st.length then (match st with
        | c :: st' => rd m (push (.tup c .nil) st') (p + 1) r
        | [] => .bad 0)
      else if sg b = some 111 then rd m (push (.non .nil) st) (p + 1) r
      else if sg b = some 110 then (match numS 59 [] (p + 1) r with
        | .bad q => .bad q
        | .ok a q r' => rd m (push (.int (dv a) .nil) st) q r')
      else if sg b = some 116 then (match numS 58 [] (p + 1) r with
        | .bad q => .bad q
        | .ok a q r' => (match txtS (dv a) [] q r' with
          | .bad q => .bad q
          | .ok l q r'' => rd m (push (.str l .nil) st) q r''))
      else .bad p
/-! ### the law's own reading -/
inductive Md where
  | value | over | num (t : Bool) | text
  deriving DecidableEq
def aft (dep : Nat) : Md := if dep = 0 then .over else .value
def fl (dep : Nat) (md : Md) (dg : List Nat) (left : Nat) (p : Nat) : List Int → Option Nat
  | [] => if md = .over then none else some p
  | b :: r => match sg b with
    | none => some p
    | some c => match md with
      | .over => some p
      | .text => if left - 1 = 0 then fl dep (aft dep) dg (left - 1) (p + 1) r else fl dep .text dg (left - 1) (p + 1) r
      | .value => if c = 40 then fl (dep + 1) .value dg left (p + 1) r
        else if c = 41 ∧ 0 < dep then fl (dep - 1) (aft (dep - 1)) dg left (p + 1) r
        else if c = 111 then fl dep (aft dep) dg left (p + 1) r
        else if c = 110 then fl dep (.num false) [] left (p + 1) r
        else if c = 116 then fl dep (.num true) [] left (p + 1) r
        else some p
      | .num t => if c = (if t then 58 else 59) ∧ dg ≠ [] then
          (if t = true ∧ 0 < dv dg then fl dep .text dg (dv dg) (p + 1) r else fl dep (aft dep) dg 0 (p + 1) r)
        else if dig c = true ∧ dg ≠ [48] ∧ dg.length < 9 then fl dep (.num t) (dg ++ [c]) left (p + 1) r
        else some p
end Law

set_option Elab.async false
set_option linter.all false
set_option maxRecDepth 100000
set_option maxHeartbeats 1000000
namespace Law
open PySem PySem.Spec PyProof.Rows L2 Rg
abbrev izs (l : List Nat) : List Int := List.map (fun (c : Nat) => (c : Int)) l
theorem can_nil : Can [] := ⟨rfl, by simp, .inr (by simp)⟩
theorem can_snoc {a : List Nat} {c : Nat} (h : Can a) (h1 : dig c = true) (h2 : a ≠ [48]) (h3 : a.length < 9) : Can (a ++ [c]) := by
  obtain ⟨k1, k2, k3⟩ := h
  refine ⟨by rw [List.all_append, k1]; simp [h1], by simp; omega, ?_⟩
  cases a with
  | nil =>
    by_cases hc : c = 48
    · subst hc; exact .inl rfl
    · exact .inr (by simp; exact hc)
  | cons x r =>
    rcases k3 with k3 | k3
    · exact absurd k3 h2
    · exact .inr (by simpa using k3)
theorem numS_sound {e : Nat} : ∀ (rest : List Int) (a : List Nat) (p : Nat) {a' : List Nat} {q : Nat} {r' : List Int}, Can a → numS e a p rest = .ok a' q r' → ∃ l, a' = a ++ l ∧ rest = izs l ++ (e : Int) :: r' ∧ a' ≠ [] ∧ Can a' ∧ q = p + l.length + 1
  | [], a, p, a', q, r', _, h => by simp [numS] at h
  | b :: r, a, p, a', q, r', hc, h => by
    unfold numS at h
    split at h
    · cases h
    · rename_i c hs
      obtain ⟨hb, _⟩ := sg_some hs
      split at h
      · rename_i h1
        cases h
        exact ⟨[], by simp, by rw [hb, h1.1]; rfl, h1.2, hc, by simp⟩
      · split at h
        · cases h
        · rename_i h2
          have hd : dig c = true := by
            cases hx : dig c with
            | true => rfl
            | false => exact absurd (.inl hx) h2
          have h48 : a ≠ [48] := fun z => h2 (.inr (.inl z))
          have h9 : a.length ≠ 9 := fun z => h2 (.inr (.inr z))
          have hl := hc.2.1
          obtain ⟨l, k1, k2, k3, k4, k5⟩ := numS_sound r (a ++ [c]) (p + 1) (can_snoc hc hd h48 (by omega)) h
          exact ⟨c :: l, by rw [k1]; simp, by rw [k2, hb]; rfl, k3, k4, by simp; omega⟩
theorem txtS_sound : ∀ (k : Nat) (rest : List Int) (a : List Nat) (p : Nat) {a' : List Nat} {q : Nat} {r' : List Int}, txtS k a p rest = .ok a' q r' → ∃ l, a' = a ++ l ∧ l.length = k ∧ rest = izs l ++ r' ∧ q = p + l.length
  | 0, rest, a, p, a', q, r', h => by
    unfold txtS at h
    cases h
    exact ⟨[], by simp, rfl, rfl, by simp⟩
  | k + 1, [], a, p, a', q, r', h => by simp [txtS] at h
  | k + 1, b :: r, a, p, a', q, r', h => by
    unfold txtS at h
    split at h
    · cases h
    · rename_i c hs
      obtain ⟨hb, _⟩ := sg_some hs
      obtain ⟨l, k1, k2, k3, k4⟩ := txtS_sound k r (a ++ [c]) (p + 1) h
      exact ⟨c :: l, by rw [k1]; simp, by simp [k2], by rw [k3, hb]; rfl, by simp; omega⟩
theorem numS_fl (dep : Nat) (t : Bool) (left : Nat) : ∀ (rest : List Int) (a : List Nat) (p : Nat), a.length ≤ 9 → fl dep (.num t) a left p rest = match numS (if t then 58 else 59) a p rest with
    | .bad q => some q
    | .ok a' q r' => if t = true ∧ 0 < dv a' then fl dep .text a' (dv a') q r' else fl dep (aft dep) a' 0 q r'
  | [], a, p, hl => by simp [fl, numS]
  | b :: r, a, p, hl => by
    rw [fl, numS]
    cases hs : sg b with
    | none => rfl
    | some c =>
      simp only
      by_cases h1 : c = (if t then 58 else 59) ∧ a ≠ []
      · rw [if_pos h1, if_pos h1]
      · rw [if_neg h1, if_neg h1]
        by_cases h2 : dig c = true ∧ a ≠ [48] ∧ a.length < 9
        · have h3 : ¬ (dig c = false ∨ a = [48] ∨ a.length = 9) := by
            rintro (z | z | z)
            · rw [h2.1] at z; cases z
            · exact h2.2.1 z
            · omega
          rw [if_pos h2, if_neg h3]
          exact numS_fl dep t left r (a ++ [c]) (p + 1) (by simp; omega)
        · have h3 : dig c = false ∨ a = [48] ∨ a.length = 9 := by
            cases hx : dig c with
            | false => exact .inl rfl
            | true =>
              by_cases hy : a = [48]
              · exact .inr (.inl hy)
              · by_cases hz : a.length < 9
                · exact absurd ⟨hx, hy, hz⟩ h2
                · exact .inr (.inr (by omega))
          rw [if_neg h2, if_pos h3]
theorem txtS_fl (dep : Nat) (dg : List Nat) : ∀ (k : Nat) (rest : List Int) (a : List Nat) (p : Nat), fl dep .text dg (k + 1) p rest = match txtS (k + 1) a p rest with
    | .bad q => some q
    | .ok _ q r' => fl dep (aft dep) dg 0 q r'
  | k, [], a, p => by simp [fl, txtS]
  | 0, b :: r, a, p => by
    rw [fl, txtS]
    cases hs : sg b with
    | none => rfl
    | some c => simp [txtS]
  | k + 1, b :: r, a, p => by
    rw [fl, txtS]
    cases hs : sg b with
    | none => rfl
    | some c =>
      simp only
      rw [if_neg (by omega)]
      exact txtS_fl dep dg k r (a ++ [c]) (p + 1)
/-! ### the stack -/
def one : F → Bool
  | .nil => false
  | .non r => isNil r
  | .int _ r => isNil r
  | .str _ r => isNil r
  | .tup _ r => isNil r
structure Okst (st : List F) : Prop where
  ne : st ≠ []
  root : 1 < st.length → st.getLast? = some .nil
  sole : ∀ f, st = [f] → f = .nil ∨ one f = true
theorem nil_of {f : F} (h : isNil f = true) : f = .nil := by cases f <;> first | rfl | cases h
theorem push_ok {st : List F} {v : F} (h : Okst st) (hf : fin st = false) (hv : one v = true) : Okst (push v st) ∧ (if fin (push v st) = true then Md.over else Md.value) = aft (st.length - 1) ∧ (push v st).length = st.length := by
  have hv0 : isNil v = false := by cases v <;> first | rfl | cases hv
  cases st with
  | nil => exact absurd rfl h.ne
  | cons f fs =>
    cases fs with
    | nil =>
      have e : f = .nil := by
        rcases h.sole f rfl with e | e
        · exact e
        · exfalso
          have : isNil f = false := by cases f <;> first | rfl | cases e
          simp [fin, this] at hf
      subst e
      refine ⟨⟨by simp [push], by simp [push], fun g hg => ?_⟩, ?_, rfl⟩
      · simp only [push, app, List.cons.injEq, and_true] at hg
        subst hg
        exact .inr hv
      · simp [push, app, fin, hv0, aft]
    | cons g gs =>
      refine ⟨⟨by simp [push], fun _ => ?_, fun x hx => by simp [push] at hx⟩, ?_, rfl⟩
      · have := h.root (by simp)
        rw [List.getLast?_cons_cons] at this
        unfold push
        rw [List.getLast?_cons_cons]
        exact this
      · simp [push, fin, aft]
theorem open_ok {st : List F} (h : Okst st) (hf : fin st = false) : Okst (.nil :: st) ∧ fin (.nil :: st) = false := by
  cases st with
  | nil => exact absurd rfl h.ne
  | cons f fs =>
    refine ⟨⟨by simp, fun _ => ?_, fun g hg => by simp at hg⟩, rfl⟩
    rw [List.getLast?_cons_cons]
    cases fs with
    | nil =>
      rcases h.sole f rfl with e | e
      · rw [e]; rfl
      · exfalso
        have : isNil f = false := by cases f <;> first | rfl | cases e
        simp [fin, this] at hf
    | cons g gs => exact h.root (by simp)
theorem close_ok {c : F} {st : List F} (h : Okst (c :: st)) (hl : 1 < (c :: st).length) : Okst st ∧ fin st = false := by
  cases st with
  | nil => simp at hl
  | cons g gs =>
    have hr := h.root hl
    rw [List.getLast?_cons_cons] at hr
    cases gs with
    | nil =>
      have e : g = .nil := by simpa using hr
      subst e
      exact ⟨⟨by simp, fun _ => rfl, fun f hf => by simp at hf; exact .inl hf.symm⟩, rfl⟩
    | cons k ks => exact ⟨⟨by simp, fun _ => hr, fun f hf => by simp at hf⟩, rfl⟩
def res : Res → Option Nat
  | .bad q => some q
  | .ok _ => none
theorem rd_fl : ∀ (m : Nat) (st : List F) (p : Nat) (rest : List Int) (dg : List Nat) (left : Nat), rest.length < m → Okst st → fl (st.length - 1) (if fin st = true then .over else .value) dg left p rest = res (rd m st p rest)
  | 0, _, _, _, _, _, h, _ => by omega
  | m + 1, st, p, rest, dg, left, hm, ho => by
    unfold rd
    cases hf : fin st with
    | true =>
      rw [if_pos rfl, if_pos rfl]
      cases rest with
      | nil => rfl
      | cons b r =>
        rw [fl]
        cases hs : sg b <;> rfl
    | false =>
      rw [if_neg Bool.false_ne_true, if_neg Bool.false_ne_true]
      cases rest with
      | nil => rfl
      | cons b r =>
        have hr : r.length < m := by simp at hm; omega
        have h1 : 1 ≤ st.length := by cases st with | nil => exact absurd rfl ho.ne | cons _ _ => simp
        rw [fl]
        cases hs : sg b with
        | none => simp [res, hs]
        | some c =>
          simp only [hs, Option.some.injEq]
          by_cases h40 : c = 40
          · rw [if_pos h40, if_pos h40]
            obtain ⟨k1, k2⟩ := open_ok ho hf
            have ih := rd_fl m (.nil :: st) (p + 1) r dg left hr k1
            rw [k2, if_neg Bool.false_ne_true] at ih
            rw [← ih]
            congr 1
            simp; omega
          · rw [if_neg h40, if_neg h40]
            by_cases h41 : c = 41 ∧ 1 < st.length
            · rw [if_pos (show c = 41 ∧ 0 < st.length - 1 by omega), if_pos h41]
              cases st with
              | nil => simp at h41
              | cons f fs =>
                obtain ⟨k1, k2⟩ := close_ok ho h41.2
                obtain ⟨q1, q2, q3⟩ := push_ok (v := .tup f .nil) k1 k2 rfl
                have ih := rd_fl m (push (.tup f .nil) fs) (p + 1) r dg left hr q1
                rw [q2, q3] at ih
                simp only
                rw [← ih]
                simp
            · rw [if_neg (show ¬ (c = 41 ∧ 0 < st.length - 1) by omega), if_neg h41]
              by_cases h111 : c = 111
              · rw [if_pos h111, if_pos h111]
                obtain ⟨q1, q2, q3⟩ := push_ok (v := .non .nil) ho hf rfl
                have ih := rd_fl m (push (.non .nil) st) (p + 1) r dg left hr q1
                rw [q2, q3] at ih
                exact ih
              · rw [if_neg h111, if_neg h111]
                by_cases h110 : c = 110
                · rw [if_pos h110, if_pos h110, numS_fl _ _ _ _ _ _ (by simp)]
                  rw [if_neg Bool.false_ne_true]
                  cases hn : numS 59 [] (p + 1) r with
                  | bad q => rfl
                  | ok a q r' =>
                    obtain ⟨l, k1, k2, _⟩ := numS_sound r [] (p + 1) can_nil hn
                    simp only
                    rw [if_neg (by simp)]
                    obtain ⟨q1, q2, q3⟩ := push_ok (v := .int (dv a) .nil) ho hf rfl
                    have ih := rd_fl m (push (.int (dv a) .nil) st) q r' a 0 (by rw [k2] at hr; simp at hr; omega) q1
                    rw [q2, q3] at ih
                    exact ih
                · rw [if_neg h110, if_neg h110]
                  by_cases h116 : c = 116
                  · rw [if_pos h116, if_pos h116, numS_fl _ _ _ _ _ _ (by simp)]
                    rw [if_pos rfl]
                    cases hn : numS 58 [] (p + 1) r with
                    | bad q => rfl
                    | ok a q r' =>
                      obtain ⟨l, k1, k2, _⟩ := numS_sound r [] (p + 1) can_nil hn
                      have hr' : r'.length < m := by rw [k2] at hr; simp at hr; omega
                      simp only
                      cases hd : dv a with
                      | zero =>
                        rw [if_neg (by simp)]
                        simp only [txtS]
                        obtain ⟨q1, q2, q3⟩ := push_ok (v := .str [] .nil) ho hf rfl
                        have ih := rd_fl m (push (.str [] .nil) st) q r' a 0 hr' q1
                        rw [q2, q3] at ih
                        exact ih
                      | succ k =>
                        rw [if_pos (by simp), txtS_fl _ _ k r' [] q]
                        cases ht : txtS (k + 1) [] q r' with
                        | bad q' => rfl
                        | ok l' q' r'' =>
                          obtain ⟨l2, j1, j2, j3, _⟩ := txtS_sound _ _ _ _ ht
                          simp only
                          obtain ⟨q1, q2, q3⟩ := push_ok (v := .str l' .nil) ho hf rfl
                          have ih := rd_fl m (push (.str l' .nil) st) q' r'' a 0 (by rw [j3] at hr'; simp at hr'; omega) q1
                          rw [q2, q3] at ih
                          exact ih
                  · rw [if_neg h116, if_neg h116]
                    rfl
end Law

set_option Elab.async false
set_option linter.all false
set_option maxRecDepth 100000
set_option maxHeartbeats 1000000
namespace Law
open PySem PySem.Spec PyProof.Rows L2 Rg
/-! ### what was read is the text of the value -/
def stT : List F → List Nat
  | [] => []
  | [f] => wf f
  | f :: g :: gs => stT (g :: gs) ++ 40 :: wf f
theorem stT_push {st : List F} (v : F) (h : st ≠ []) : stT (push v st) = stT st ++ wf v := by
  cases st with
  | nil => exact absurd rfl h
  | cons f fs => cases fs <;> simp [push, stT, wf_app]
theorem stT_open {st : List F} (h : st ≠ []) : stT (.nil :: st) = stT st ++ [40] := by
  cases st with
  | nil => exact absurd rfl h
  | cons f fs => simp [stT, wf]
theorem stT_close {st : List F} (c : F) (h : st ≠ []) : stT (push (.tup c .nil) st) = stT (c :: st) ++ [41] := by
  rw [stT_push _ h]
  cases st with
  | nil => exact absurd rfl h
  | cons f fs => simp [stT, wf]
theorem okF_push {st : List F} {v : F} (h : ∀ g ∈ st, okF g = true) (hv : okF v = true) : ∀ g ∈ push v st, okF g = true := by
  cases st with
  | nil => intro g hg; cases hg
  | cons f fs =>
    intro g hg
    rcases List.mem_cons.mp hg with e | hg
    · rw [e]; exact ok_app _ _ (h f (by simp)) hv
    · exact h g (by simp [hg])
theorem izs_app (a b : List Nat) : izs a ++ izs b = izs (a ++ b) := by simp
theorem rd_sound : ∀ (m : Nat) (st : List F) (p : Nat) (rest : List Int) {f : F}, Okst st → (∀ g ∈ st, okF g = true) → rd m st p rest = .ok f → ∃ l, rest = izs l ∧ stT st ++ l = wf f ∧ okF f = true ∧ one f = true
  | 0, _, _, _, _, _, _, h => by simp [rd] at h
  | m + 1, st, p, rest, f, ho, hk, h => by
    unfold rd at h
    cases hf : fin st with
    | true =>
      rw [if_pos hf] at h
      cases rest with
      | cons b r => cases h
      | nil =>
        cases h
        cases st with
        | nil => exact absurd rfl ho.ne
        | cons g gs =>
          cases gs with
          | cons _ _ => cases hf
          | nil =>
            refine ⟨[], rfl, by simp [stT], hk g (by simp), ?_⟩
            rcases ho.sole g rfl with e | e
            · subst e; cases hf
            · exact e
    | false =>
      rw [if_neg (by rw [hf]; exact Bool.false_ne_true)] at h
      cases rest with
      | nil => cases h
      | cons b r =>
        simp only at h
        split at h
        · rename_i hs
          obtain ⟨hb, _⟩ := sg_some hs
          obtain ⟨k1, _⟩ := open_ok ho hf
          obtain ⟨l, q1, q2, q3⟩ := rd_sound m (.nil :: st) (p + 1) r k1 (fun g hg => by rcases List.mem_cons.mp hg with e | hg; rw [e]; rfl; exact hk g hg) h
          rw [stT_open ho.ne] at q2
          exact ⟨40 :: l, by rw [hb, q1]; rfl, by rw [← q2]; simp, q3⟩
        · split at h
          · rename_i hs
            obtain ⟨hb, _⟩ := sg_some hs.1
            cases st with
            | nil => cases h
            | cons c cs =>
              obtain ⟨k1, k2⟩ := close_ok ho hs.2
              obtain ⟨j1, _, _⟩ := push_ok (v := .tup c .nil) k1 k2 rfl
              obtain ⟨l, q1, q2, q3⟩ := rd_sound m (push (.tup c .nil) cs) (p + 1) r j1 (okF_push (fun g hg => hk g (by simp [hg])) (by simp [okF, hk c (by simp)])) h
              rw [stT_close c k1.ne] at q2
              exact ⟨41 :: l, by rw [hb, q1]; rfl, by rw [← q2]; simp, q3⟩
          · split at h
            · rename_i hs
              obtain ⟨hb, _⟩ := sg_some hs
              obtain ⟨j1, _, _⟩ := push_ok (v := .non .nil) ho hf rfl
              obtain ⟨l, q1, q2, q3⟩ := rd_sound m (push (.non .nil) st) (p + 1) r j1 (okF_push hk rfl) h
              rw [stT_push _ ho.ne] at q2
              exact ⟨111 :: l, by rw [hb, q1]; rfl, by rw [← q2]; simp [wf], q3⟩
            · split at h
              · rename_i hs
                obtain ⟨hb, _⟩ := sg_some hs
                cases hn : numS 59 [] (p + 1) r with
                | bad q => rw [hn] at h; cases h
                | ok a q r' =>
                  rw [hn] at h
                  obtain ⟨l0, i1, i2, i3, i4, _⟩ := numS_sound r [] (p + 1) can_nil hn
                  have i1 : a = l0 := i1
                  subst i1
                  obtain ⟨j1, _, _⟩ := push_ok (v := .int (dv a) .nil) ho hf rfl
                  have hlt : dv a < 1000000000 := dv_lt (k := 9) a i4.1 i4.2.1
                  obtain ⟨l, q1, q2, q3⟩ := rd_sound m (push (.int (dv a) .nil) st) q r' j1 (okF_push hk (by simp [okF, hlt])) h
                  rw [stT_push _ ho.ne] at q2
                  refine ⟨110 :: (a ++ 59 :: l), ?_, ?_, q3⟩
                  · rw [hb, i2, q1]; simp
                  · rw [← q2]; simp [wf, num_can _ a rfl i3 i4]
              · split at h
                · rename_i hs
                  obtain ⟨hb, _⟩ := sg_some hs
                  cases hn : numS 58 [] (p + 1) r with
                  | bad q => rw [hn] at h; cases h
                  | ok a q r' =>
                    rw [hn] at h
                    simp only at h
                    obtain ⟨l0, i1, i2, i3, i4, _⟩ := numS_sound r [] (p + 1) can_nil hn
                    have i1 : a = l0 := i1
                    subst i1
                    cases ht : txtS (dv a) [] q r' with
                    | bad q' => rw [ht] at h; cases h
                    | ok t q' r'' =>
                      rw [ht] at h
                      obtain ⟨t0, g1, g2, g3, _⟩ := txtS_sound _ _ _ _ ht
                      have g1 : t = t0 := g1
                      subst g1
                      obtain ⟨j1, _, _⟩ := push_ok (v := .str t .nil) ho hf rfl
                      have hlt : dv a < 1000000000 := dv_lt (k := 9) a i4.1 i4.2.1
                      obtain ⟨l, q1, q2, q3⟩ := rd_sound m (push (.str t .nil) st) q' r'' j1 (okF_push hk (by simp [okF]; omega)) h
                      rw [stT_push _ ho.ne] at q2
                      refine ⟨116 :: (a ++ 58 :: (t ++ l)), ?_, ?_, q3⟩
                      · rw [hb, i2, g3, q1]; simp
                      · rw [← q2]; simp [wf, g2, num_can _ a rfl i3 i4]
                · cases h
/-! ### each word is read -/
theorem sg_nat {c : Nat} (h : c = 9 ∨ c = 10 ∨ (32 ≤ c ∧ c ≤ 126 ∧ c ≠ 37)) : sg (c : Int) = some c := by
  unfold sg
  rw [if_pos (by omega)]
  simp
def isSgn (c : Nat) : Bool := decide (c = 9 ∨ c = 10 ∨ (32 ≤ c ∧ c ≤ 126 ∧ c ≠ 37))
theorem sg_isSgn {c : Nat} (h : isSgn c = true) : sg (c : Int) = some c := sg_nat (of_decide_eq_true h)
theorem dig_sg {c : Nat} (h : dig c = true) : sg (c : Int) = some c := by
  unfold dig at h
  rw [Bool.and_eq_true, decide_eq_true_eq, decide_eq_true_eq] at h
  exact sg_nat (by omega)
theorem numS_of {e : Nat} (he : dig e = false) (hs : sg (e : Int) = some e) (rest : List Int) : ∀ (l a : List Nat) (p : Nat), Can (a ++ l) → a ++ l ≠ [] → numS e a p (izs l ++ (e : Int) :: rest) = .ok (a ++ l) (p + l.length + 1) rest
  | [], a, p, hc, hn => by
    rw [List.append_nil] at hc hn ⊢
    show numS e a p ((e : Int) :: rest) = _
    rw [numS, hs]
    simp only
    rw [if_pos (by simpa using hn)]
    simp
  | c :: l, a, p, hc, hn => by
    obtain ⟨h1, h2, h3⟩ := hc
    have hd : dig c = true := by
      rw [List.all_append, List.all_cons, Bool.and_eq_true, Bool.and_eq_true] at h1
      exact h1.2.1
    have hce : c ≠ e := fun z => by rw [z, he] at hd; cases hd
    have h48 : a ≠ [48] := fun z => by
      subst z
      rcases h3 with h3 | h3
      · simp at h3
      · simp at h3
    have h9 : a.length < 9 := by simp at h2; omega
    show numS e a p ((c : Int) :: (izs l ++ (e : Int) :: rest)) = _
    rw [numS, dig_sg hd]
    simp only
    rw [if_neg (fun z => hce z.1), if_neg (by rintro (z | z | z); rw [hd] at z; cases z; exact h48 z; omega)]
    have ih := numS_of he hs rest l (a ++ [c]) (p + 1) (by rw [List.append_assoc]; exact ⟨h1, h2, h3⟩) (by simp)
    rw [ih]
    simp
    omega
theorem txtS_of (rest : List Int) : ∀ (l a : List Nat) (p : Nat), l.all isSgn = true → txtS l.length a p (izs l ++ rest) = .ok (a ++ l) (p + l.length) rest
  | [], a, p, _ => by simp [txtS]
  | c :: l, a, p, h => by
    rw [List.all_cons, Bool.and_eq_true] at h
    show txtS (l.length + 1) a p ((c : Int) :: (izs l ++ rest)) = _
    rw [txtS, sg_isSgn h.1]
    simp only
    rw [txtS_of rest l (a ++ [c]) (p + 1) h.2]
    simp
    omega
/-- values as the law draws them -/
def okW : F → Bool
  | .nil => true
  | .non r => okW r
  | .int n r => decide (n < 1000000000) && okW r
  | .str l r => decide (l.length < 1000000000) && l.all isSgn && okW r
  | .tup c r => okW c && okW r
theorem okW_okF : ∀ f : F, okW f = true → okF f = true
  | .nil, h => rfl
  | .non r, h => okW_okF r h
  | .int n r, h => by simp only [okW, okF, Bool.and_eq_true] at h ⊢; exact ⟨h.1, okW_okF r h.2⟩
  | .str l r, h => by simp only [okW, okF, Bool.and_eq_true] at h ⊢; exact ⟨h.1.1, okW_okF r h.2⟩
  | .tup c r, h => by simp only [okW, okF, Bool.and_eq_true] at h ⊢; exact ⟨okW_okF c h.1, okW_okF r h.2⟩
section
variable {m : Nat} {st : List F} {p : Nat} {r : List Int}
theorem rd_40 (h : fin st = false) : rd (m + 1) st p (40 :: r) = rd m (.nil :: st) (p + 1) r := by
  conv => lhs; unfold rd
  rw [if_neg (by rw [h]; exact Bool.false_ne_true)]
  simp [show sg 40 = some 40 by decide]
theorem rd_41 {c : F} (h1 : st ≠ []) : rd (m + 1) (c :: st) p (41 :: r) = rd m (push (.tup c .nil) st) (p + 1) r := by
  have h : fin (c :: st) = false := by cases st with | nil => exact absurd rfl h1 | cons _ _ => rfl
  have h2 : 1 < (c :: st).length := by cases st with | nil => exact absurd rfl h1 | cons _ _ => simp
  conv => lhs; unfold rd
  rw [if_neg (by rw [h]; exact Bool.false_ne_true)]
  simp [show sg 41 = some 41 by decide, List.length_pos_iff, h1]
theorem rd_111 (h : fin st = false) : rd (m + 1) st p (111 :: r) = rd m (push (.non .nil) st) (p + 1) r := by
  conv => lhs; unfold rd
  rw [if_neg (by rw [h]; exact Bool.false_ne_true)]
  simp [show sg 111 = some 111 by decide]
theorem rd_110 (h : fin st = false) {a : List Nat} {q : Nat} {r' : List Int} (hn : numS 59 [] (p + 1) r = .ok a q r') : rd (m + 1) st p (110 :: r) = rd m (push (.int (dv a) .nil) st) q r' := by
  conv => lhs; unfold rd
  rw [if_neg (by rw [h]; exact Bool.false_ne_true)]
  simp [show sg 110 = some 110 by decide, hn]
theorem rd_116 (h : fin st = false) {a l : List Nat} {q q' : Nat} {r' r'' : List Int} (hn : numS 58 [] (p + 1) r = .ok a q r') (ht : txtS (dv a) [] q r' = .ok l q' r'') : rd (m + 1) st p (116 :: r) = rd m (push (.str l .nil) st) q' r'' := by
  conv => lhs; unfold rd
  rw [if_neg (by rw [h]; exact Bool.false_ne_true)]
  simp [show sg 116 = some 116 by decide, hn, ht]
end
theorem fin_of {row : F} {bel : List F} (h : bel ≠ [] ∨ row = .nil) : fin (row :: bel) = false := by
  rcases h with h | h
  · cases bel with
    | nil => exact absurd rfl h
    | cons _ _ => rfl
  · rw [h]; cases bel <;> rfl
theorem rdw : ∀ (f : F), okW f = true → ∀ (row : F) (bel : List F), (bel ≠ [] ∨ (row = .nil ∧ one f = true) ∨ f = .nil) → ∀ (p : Nat) (rest : List Int), ∃ k, k ≤ (wf f).length ∧ ∀ m, rd (m + k) (row :: bel) p (izs (wf f) ++ rest) = rd m (app row f :: bel) (p + (wf f).length) rest
  | .nil, _, row, bel, _, p, rest => ⟨0, Nat.zero_le _, fun m => by rw [app_nil]; rfl⟩
  | .non r, hk, row, bel, h, p, rest => by
    have hf : fin (row :: bel) = false := fin_of (by rcases h with h | h | h; exact .inl h; exact .inr h.1; cases h)
    obtain ⟨k, kl, e⟩ := rdw r hk (app row (.non .nil)) bel (by rcases h with h | h | h; exact .inl h; exact .inr (.inr (nil_of h.2)); cases h) (p + 1) rest
    refine ⟨k + 1, by simp [wf]; omega, fun m => ?_⟩
    show rd (m + k + 1) (row :: bel) p (111 :: (izs (wf r) ++ rest)) = _
    rw [rd_111 hf]
    show rd (m + k) (app row (.non .nil) :: bel) (p + 1) _ = _
    rw [e m, app_assoc]
    show rd m (app row (.non r) :: bel) _ _ = _
    congr 1
    simp [wf]; omega
  | .int n r, hk, row, bel, h, p, rest => by
    have hf : fin (row :: bel) = false := fin_of (by rcases h with h | h | h; exact .inl h; exact .inr h.1; cases h)
    simp only [okW, Bool.and_eq_true, decide_eq_true_eq] at hk
    have hn : numS 59 [] (p + 1) (izs (nL n) ++ (59 : Int) :: (izs (wf r) ++ rest)) = .ok (nL n) (p + 1 + (nL n).length + 1) (izs (wf r) ++ rest) := numS_of (e := 59) (by decide) (by decide) (izs (wf r) ++ rest) (nL n) [] (p + 1) (nL_can hk.1) (TL.numL_ne n)
    obtain ⟨k, kl, e⟩ := rdw r hk.2 (app row (.int n .nil)) bel (by rcases h with h | h | h; exact .inl h; exact .inr (.inr (nil_of h.2)); cases h) (p + 1 + (nL n).length + 1) rest
    refine ⟨k + 1, by simp [wf]; omega, fun m => ?_⟩
    have e0 : izs (wf (.int n r)) ++ rest = 110 :: (izs (nL n) ++ (59 : Int) :: (izs (wf r) ++ rest)) := by simp [wf]
    rw [e0]
    show rd (m + k + 1) (row :: bel) p _ = _
    rw [rd_110 hf hn]
    show rd (m + k) (app row (.int (dv (nL n)) .nil) :: bel) _ _ = _
    rw [show dv (nL n) = n from TL.numL_val n, e m, app_assoc]
    show rd m (app row (.int n r) :: bel) _ _ = _
    congr 1
    simp [wf]; omega
  | .str l r, hk, row, bel, h, p, rest => by
    have hf : fin (row :: bel) = false := fin_of (by rcases h with h | h | h; exact .inl h; exact .inr h.1; cases h)
    simp only [okW, Bool.and_eq_true, decide_eq_true_eq] at hk
    have hn : numS 58 [] (p + 1) (izs (nL l.length) ++ (58 : Int) :: (izs l ++ (izs (wf r) ++ rest))) = .ok (nL l.length) (p + 1 + (nL l.length).length + 1) (izs l ++ (izs (wf r) ++ rest)) := numS_of (e := 58) (by decide) (by decide) (izs l ++ (izs (wf r) ++ rest)) (nL l.length) [] (p + 1) (nL_can hk.1.1) (TL.numL_ne _)
    have ht := txtS_of (izs (wf r) ++ rest) l [] (p + 1 + (nL l.length).length + 1) hk.1.2
    rw [List.nil_append] at ht
    obtain ⟨k, kl, e⟩ := rdw r hk.2 (app row (.str l .nil)) bel (by rcases h with h | h | h; exact .inl h; exact .inr (.inr (nil_of h.2)); cases h) (p + 1 + (nL l.length).length + 1 + l.length) rest
    refine ⟨k + 1, by simp [wf]; omega, fun m => ?_⟩
    have e0 : izs (wf (.str l r)) ++ rest = 116 :: (izs (nL l.length) ++ (58 : Int) :: (izs l ++ (izs (wf r) ++ rest))) := by simp [wf]
    rw [e0]
    show rd (m + k + 1) (row :: bel) p _ = _
    rw [rd_116 hf hn (by rw [show dv (nL l.length) = l.length from TL.numL_val _]; exact ht)]
    show rd (m + k) (app row (.str l .nil) :: bel) _ _ = _
    rw [e m, app_assoc]
    show rd m (app row (.str l r) :: bel) _ _ = _
    congr 1
    simp [wf]; omega
  | .tup c r, hk, row, bel, h, p, rest => by
    have hf : fin (row :: bel) = false := fin_of (by rcases h with h | h | h; exact .inl h; exact .inr h.1; cases h)
    simp only [okW, Bool.and_eq_true] at hk
    obtain ⟨k1, kl1, e1⟩ := rdw c hk.1 .nil (row :: bel) (.inl (by simp)) (p + 1) (41 :: (izs (wf r) ++ rest))
    obtain ⟨k, kl, e⟩ := rdw r hk.2 (app row (.tup c .nil)) bel (by rcases h with h | h | h; exact .inl h; exact .inr (.inr (nil_of h.2)); cases h) (p + 1 + (wf c).length + 1) rest
    refine ⟨k + 1 + k1 + 1, by simp [wf]; omega, fun m => ?_⟩
    have e0 : izs (wf (.tup c r)) ++ rest = 40 :: (izs (wf c) ++ (41 : Int) :: (izs (wf r) ++ rest)) := by simp [wf]
    rw [e0, show m + (k + 1 + k1 + 1) = m + k + 1 + k1 + 1 by omega]
    rw [rd_40 hf, e1 (m + k + 1)]
    show rd (m + k + 1) (c :: row :: bel) _ _ = _
    rw [rd_41 (by simp)]
    show rd (m + k) (app row (.tup c .nil) :: bel) _ _ = _
    rw [e m, app_assoc]
    show rd m (app row (.tup c r) :: bel) _ _ = _
    congr 1
    simp [wf]; omega
/-- more turns change nothing -/
theorem rd_mono : ∀ (m : Nat) (st : List F) (p : Nat) (rest : List Int) {f : F}, rd m st p rest = .ok f → rd (m + 1) st p rest = .ok f
  | 0, _, _, _, _, h => by simp [rd] at h
  | m + 1, st, p, rest, f, h => by
    unfold rd at h ⊢
    split at h
    · rename_i hf
      rw [if_pos hf]; exact h
    · rename_i hf
      rw [if_neg hf]
      cases rest with
      | nil => exact h
      | cons b r =>
        simp only at h ⊢
        split at h
        · rename_i hs
          rw [if_pos hs]; exact rd_mono m _ _ _ h
        · rename_i hs
          rw [if_neg hs]
          split at h
          · rename_i hs2
            rw [if_pos hs2]
            cases st with
            | nil => exact h
            | cons c cs => exact rd_mono m _ _ _ h
          · rename_i hs2
            rw [if_neg hs2]
            split at h
            · rename_i hs3
              rw [if_pos hs3]; exact rd_mono m _ _ _ h
            · rename_i hs3
              rw [if_neg hs3]
              split at h
              · rename_i hs4
                rw [if_pos hs4]
                cases hn : numS 59 [] (p + 1) r with
                | bad q => rw [hn] at h; cases h
                | ok a q r' => rw [hn] at h; exact rd_mono m _ _ _ h
              · rename_i hs4
                rw [if_neg hs4]
                split at h
                · rename_i hs5
                  rw [if_pos hs5]
                  cases hn : numS 58 [] (p + 1) r with
                  | bad q => rw [hn] at h; cases h
                  | ok a q r' =>
                    rw [hn] at h
                    simp only at h ⊢
                    cases ht : txtS (dv a) [] q r' with
                    | bad q' => rw [ht] at h; cases h
                    | ok l q' r'' => rw [ht] at h; exact rd_mono m _ _ _ h
                · cases h
theorem rd_le {m k : Nat} {st : List F} {p : Nat} {rest : List Int} {f : F} (hl : m ≤ k) (h : rd m st p rest = .ok f) : rd k st p rest = .ok f := by
  induction hl with
  | refl => exact h
  | step _ ih => exact rd_mono _ _ _ _ ih
/-- the whole word -/
theorem rd_wd {f : F} (hk : okW f = true) (h1 : one f = true) {m : Nat} (hm : (wf f).length < m) : rd m [.nil] 0 (izs (wf f)) = .ok f := by
  obtain ⟨k, kl, e⟩ := rdw f hk .nil [] (.inr (.inl ⟨rfl, h1⟩)) 0 []
  have h := e 1
  rw [List.append_nil] at h
  refine rd_le (m := 1 + k) (by omega) (h.trans ?_)
  have hn : isNil f = false := by cases f <;> first | rfl | cases h1
  show rd 1 [f] _ [] = _
  unfold rd
  rw [if_pos (by simp [fin, hn])]
  rfl
end Law

set_option Elab.async false
set_option linter.all false
set_option maxRecDepth 100000
set_option maxHeartbeats 2000000
namespace Law
open PySem PySem.Spec PyProof.Rows L2 Rg
def sgL (b : Int) : List Nat := match sg b with
  | some c => [c]
  | none => []
theorem sgL_none {b : Int} (h : sg b = none) : sgL b = [] := by unfold sgL; rw [h]
theorem sgL_some {b : Int} {c : Nat} (h : sg b = some c) : sgL b = [c] := by unfold sgL; rw [h]
theorem pri_at : ∀ i, i < 95 → i ≠ 5 → L_pri[i]? = some (i + 32) := by decide +kernel
section
variable (a : Ads)
theorem sign_ok (b : Int) (st : Stt) : m_sign_of a [.int b] st = .ok (.str (tx (sgL b))) st := by
  refine gcE ⟨[], ?_⟩ (by simp)
  by_cases h9 : b = 9
  · subst h9; simp [f_sign_of, sign_of_i3, sgL, sg]
  · by_cases h10 : b = 10
    · subst h10; simp [f_sign_of, sign_of_i3, sign_of_i2, sgL, sg]
    · by_cases hv : 32 ≤ b ∧ b ≤ 126 ∧ b ≠ 37
      · have hs : sg b = some b.toNat := by unfold sg; rw [if_pos (by omega)]
        have hp := pri_at (b.toNat - 32) (by omega) (by omega)
        have hat : atI L_pri (b - 32) = some b.toNat := by
          refine atI_of (by omega) ?_
          rw [show (b - 32).toNat = b.toNat - 32 by omega, hp]
          congr 1
          omega
        have e1 : ¬ b < 32 := by omega
        have e2 : ¬ 126 < b := by omega
        simp [f_sign_of, sign_of_i3, sign_of_i2, sign_of_i1, sgL, hs, h9, h10, e1, e2, hv.2.2, hat]
      · have hs : sg b = none := by unfold sg; rw [if_neg (by omega)]
        by_cases e1 : b < 32
        · simp [f_sign_of, sign_of_i3, sign_of_i2, sign_of_i1, sgL, hs, h9, h10, e1]
        · by_cases e2 : 126 < b
          · simp [f_sign_of, sign_of_i3, sign_of_i2, sign_of_i1, sgL, hs, h9, h10, e1, e2]
          · have e3 : b = 37 := by omega
            subst e3
            simp [f_sign_of, sign_of_i3, sign_of_i2, sign_of_i1, sgL, hs]
abbrev BB (q : Nat) : Exn := ⟨a.c_BadByte, some [("place", .int (q : Int))]⟩
theorem lowBB (n q : Nat) : LowX n (BB a q) := fun fs h p hp => by
  cases h
  rw [List.mem_singleton.mp hp]
  simp
theorem drop_nil {bs : List Int} {p : Nat} (h : bs.drop p = []) : bs.length ≤ p := by simpa using h
theorem drop_cons {bs r : List Int} {p : Nat} {b : Int} (h : bs.drop p = b :: r) : bs[p]? = some b ∧ bs.drop (p + 1) = r ∧ p < bs.length := by
  have hl : p < bs.length := by
    by_cases hc : p < bs.length
    · exact hc
    · rw [List.drop_eq_nil_of_le (by omega)] at h; cases h
  rw [List.drop_eq_getElem_cons hl] at h
  injection h with h1 h2
  exact ⟨by rw [← h1]; exact List.getElem?_eq_getElem hl, h2, hl⟩
variable {n : Nat} {bs : List Int} {st : Stt}
theorem sat_bad {p : Nat} (hd : st[n]? = some (.lst (bs.map D.int))) (h : bs.drop p = []) : m_sign_at a [.loc n, .int (p : Int)] st = .ex (BB a p) st := by
  have hl := drop_nil h
  have hl' : (bs.length : Int) ≤ (p : Int) := by omega
  refine gcXF ⟨[], ?_⟩ (lowBB a _ _)
  simp [f_sign_at, sign_at_i1, hd, hl']
theorem sat_ok {p : Nat} {b : Int} {r : List Int} (hd : st[n]? = some (.lst (bs.map D.int))) (h : bs.drop p = b :: r) : m_sign_at a [.loc n, .int (p : Int)] st = .ok (.str (tx (sgL b))) st := by
  obtain ⟨h1, h2, h3⟩ := drop_cons h
  have hl' : ¬ (bs.length : Int) ≤ (p : Int) := by omega
  have hat : atI (bs.map D.int) (p : Int) = some (.int b) := atI_lit (by rw [List.getElem?_map, h1]; rfl)
  refine gcE ⟨[], ?_⟩ (by simp)
  simp [f_sign_at, sign_at_i1, hd, hl', hat, sign_ok]
theorem dig_mem {c : Nat} : dig c = true ↔ c ∈ [48, 49, 50, 51, 52, 53, 54, 55, 56, 57] := by
  unfold dig
  rw [Bool.and_eq_true, decide_eq_true_eq, decide_eq_true_eq]
  simp only [List.mem_cons, List.not_mem_nil, or_false]
  omega
theorem okL_dig {l : List Nat} (h : l.all dig = true) : okL l = true := List.all_eq_true.mpr fun c hc => by
  have := List.all_eq_true.mp h c hc
  unfold dig at this
  rw [Bool.and_eq_true, decide_eq_true_eq, decide_eq_true_eq] at this
  exact decide_eq_true (by omega)
theorem int_ok {l : List Nat} (h : Can l) (hn : l ≠ []) (st : Stt) : fInt3 [.str (tx l)] st = some (.int (dv l : Nat), st) := by
  have h9 := h.2.1
  rw [fInt3_s, if_pos (by rw [show (tx l).length = l.length from len_l l]; omega)]
  have := SX.int_S (a := l) h.1 hn (by omega)
  rw [show intText? (tx l) = _ from this]
  rfl
theorem num_loop {e : Nat} (he : e < 127) (hd : st[n]? = some (.lst (bs.map D.int))) : ∀ (rest : List Int) (acc : List Nat) (p : Nat) (x4 : Option D) (m : Nat), rest.length < m → Can acc → bs.drop p = rest → match numS e acc p rest with
    | .bad q => ∃ ρ', whileF (read_number_wt1 a) (read_number_wb1 a) m [some (.loc n), some (.int (p : Int)), some (.str (tx [e])), some (.str (tx acc)), x4] st = .xx ρ' (BB a q) st
    | .ok a' q _ => whileF (read_number_wt1 a) (read_number_wb1 a) m [some (.loc n), some (.int (p : Int)), some (.str (tx [e])), some (.str (tx acc)), x4] st = .rt (.tup [.int (dv a' : Nat), .int (q : Int)]) st
  | [], acc, p, x4, m, hm, hc, h => by
    obtain ⟨m, rfl⟩ : ∃ k, m = k + 1 := ⟨m - 1, by omega⟩
    rw [numS]
    show ∃ ρ', _ = Out.xx ρ' (BB a p) st
    rw [whileF_succ]
    simp [read_number_wt1, read_number_wb1, sat_bad a hd h]
  | b :: r, acc, p, x4, m, hm, hc, h => by
    obtain ⟨m, rfl⟩ : ∃ k, m = k + 1 := ⟨m - 1, by omega⟩
    have hk : okL acc = true := okL_dig hc.1
    have h9 := hc.2.1
    have sa := sat_ok a hd h
    obtain ⟨_, h2, _⟩ := drop_cons h
    rw [numS]
    cases hs : sg b with
    | none =>
      rw [sgL_none hs] at sa
      show ∃ ρ', _ = Out.xx ρ' (BB a p) st
      rw [whileF_succ]
      simp [read_number_wt1, read_number_wb1, read_number_i2, read_number_i1, sa, hk, show e < 1114112 by omega]
    | some c =>
      rw [sgL_some hs] at sa
      have hc127 := (sg_some hs).2
      have c1 : c < 1114112 := by omega
      have e1 : e < 1114112 := by omega
      have hin : inTxt ⟨#[c]⟩ ⟨#[48, 49, 50, 51, 52, 53, 54, 55, 56, 57]⟩ = dig c := by
        rw [inTxt_1, Bool.eq_iff_iff, decide_eq_true_eq]
        exact dig_mem.symm
      have l16 : acc.length ≤ 16777216 := by omega
      simp only
      by_cases h1 : c = e ∧ acc ≠ []
      · rw [if_pos h1]
        obtain ⟨rfl, hne⟩ := h1
        rw [whileF_succ]
        simp [read_number_wt1, read_number_wb1, read_number_i2, sa, hk, hne, c1, int_ok hc hne]
      · rw [if_neg h1]
        have i2 : read_number_i2 a [some (.loc n), some (.int (p : Int)), some (.str (tx [e])), some (.str (tx acc)), some (.str (tx [c]))] st = .nx [some (.loc n), some (.int (p : Int)), some (.str (tx [e])), some (.str (tx acc)), some (.str (tx [c]))] st := by
          by_cases hce : c = e
          · have hn : acc = [] := by
              by_cases hn : acc = []
              · exact hn
              · exact absurd ⟨hce, hn⟩ h1
            subst hn
            simp [read_number_i2, hce, e1]
          · simp [read_number_i2, hce, e1, c1]
        by_cases h3 : dig c = false ∨ acc = [48] ∨ acc.length = 9
        · rw [if_pos h3]
          show ∃ ρ', _ = Out.xx ρ' (BB a p) st
          have i1 : read_number_i1 a [some (.loc n), some (.int (p : Int)), some (.str (tx [e])), some (.str (tx acc)), some (.str (tx [c]))] st = .xx [some (.loc n), some (.int (p : Int)), some (.str (tx [e])), some (.str (tx acc)), some (.str (tx [c]))] (BB a p) st := by
            cases hx : dig c with
            | false => simp [-inTxt_1, read_number_i1, hin, c1, hx]
            | true =>
              by_cases hy : acc = [48]
              · subst hy; simp [-inTxt_1, read_number_i1, hin, c1, hx]
              · have hz : acc.length = 9 := by
                  rcases h3 with z | z | z
                  · rw [hx] at z; cases z
                  · exact absurd z hy
                  · exact z
                simp [-inTxt_1, read_number_i1, hin, c1, hx, hy, hk, hz]
          rw [whileF_succ]
          simp [read_number_wt1, read_number_wb1, i2, i1, sa]
        · rw [if_neg h3]
          have hx : dig c = true := by
            cases hx : dig c with
            | true => rfl
            | false => exact absurd (.inl hx) h3
          have hy : ¬ acc = [48] := fun z => h3 (.inr (.inl z))
          have hz : ¬ acc.length = 9 := fun z => h3 (.inr (.inr z))
          have hz' : ¬ (acc.length : Int) = 9 := by omega
          have i1 : read_number_i1 a [some (.loc n), some (.int (p : Int)), some (.str (tx [e])), some (.str (tx acc)), some (.str (tx [c]))] st = .nx [some (.loc n), some (.int (p : Int)), some (.str (tx [e])), some (.str (tx acc)), some (.str (tx [c]))] st := by
            simp [-inTxt_1, read_number_i1, hin, c1, hx, hy, hk, hz', l16]
          have ih := num_loop he hd r (acc ++ [c]) (p + 1) (some (.str (tx [c]))) m (by simp at hm; omega) (can_snoc hc hx hy (by omega)) h2
          have step : whileF (read_number_wt1 a) (read_number_wb1 a) (m + 1) [some (.loc n), some (.int (p : Int)), some (.str (tx [e])), some (.str (tx acc)), x4] st = whileF (read_number_wt1 a) (read_number_wb1 a) m [some (.loc n), some (.int ((p + 1 : Nat) : Int)), some (.str (tx [e])), some (.str (tx (acc ++ [c]))), some (.str (tx [c]))] st := by
            rw [whileF_succ]
            have l17 : acc.length + 1 ≤ 16777216 := by omega
            simp [read_number_wt1, read_number_wb1, i2, i1, sa, l17]
          rw [step]
          exact ih
theorem num_ok {e : Nat} (he : e < 127) (hd : st[n]? = some (.lst (bs.map D.int))) (hl : bs.length < 1000000) {rest : List Int} {p : Nat} (h : bs.drop p = rest) : m_read_number a [.loc n, .int (p : Int), .str (tx [e])] st = match numS e [] p rest with
    | .bad q => .ex (BB a q) st
    | .ok a' q _ => .ok (.tup [.int (dv a' : Nat), .int (q : Int)]) st := by
  have hr : rest.length < WN := by rw [← h, List.length_drop]; unfold WN; omega
  have k := num_loop a he hd rest [] p none WN hr can_nil h
  cases hn : numS e [] p rest with
  | bad q =>
    rw [hn] at k
    obtain ⟨ρ', k⟩ := k
    refine gcXF ⟨[], ?_⟩ (lowBB a _ _)
    simp [f_read_number, read_number_w1, sWhile, k]
  | ok a' q r' =>
    rw [hn] at k
    refine gcE ⟨[], ?_⟩ (by simp)
    simp only at k
    simp [f_read_number, read_number_w1, sWhile, k]
end
end Law

set_option Elab.async false
set_option linter.all false
set_option maxRecDepth 100000
set_option maxHeartbeats 2000000
namespace Law
open PySem PySem.Spec PyProof.Rows L2 Rg
/-! ### texts that are put together sign by sign -/
abbrev chD (l : List Nat) : List D := l.map fun c => D.str ⟨#[c]⟩
theorem inter_nil : ∀ l : List (List Nat), (l.intersperse []).flatten = l.flatten
  | [] => rfl
  | [x] => by simp
  | x :: y :: r => by
    have := inter_nil (y :: r)
    simp only [List.intersperse_cons₂, List.flatten_cons, List.nil_append, this]
theorem join_1 (l : List Nat) : Txt.join ⟨#[]⟩ (l.map fun c => (⟨#[c]⟩ : Str)) = tx l := by
  have := join_l [] (l.map fun c => [c])
  rw [List.map_map] at this
  show Txt.join ⟨([] : List Nat).toArray⟩ _ = _
  rw [inter_nil] at this
  have e : (l.map fun c => [c]).flatten = l := by
    clear this
    induction l with
    | nil => rfl
    | cons c l ih => simp [ih]
  rw [e] at this
  exact this
theorem txts_1 (l : List Nat) : txts (l.map fun c => D.str ⟨#[c]⟩) = some (l.map fun c => (⟨#[c]⟩ : Str)) := by
  have := txts_l (l.map fun c => [c])
  simpa [List.map_map, Function.comp_def] using this
theorem sum_1 (l : List Nat) : (List.map ((fun x : Str => x.length) ∘ fun c => (⟨#[c]⟩ : Str)) l).sum = l.length := by
  induction l with
  | nil => rfl
  | cons c l ih => rw [List.map_cons, List.sum_cons, ih, List.length_cons]; show 1 + _ = _; omega
section
variable (a : Ads) {n : Nat} {bs : List Int} {st : Stt}
theorem txt_loop (hd : st[n]? = some (.lst (bs.map D.int))) (hz : bs.length < 1000000) (many : Nat) : ∀ (k : Nat) (rest : List Int) (acc : List Nat) (p : Nat) (x2 : Option D) (m : Nat), rest.length < m → acc.length + k = many → acc.length ≤ p → p ≤ bs.length → bs.drop p = rest → match txtS k acc p rest with
    | .bad q => ∃ ρ' J, whileF (read_simple_wt1 a) (read_simple_wb1 a) m [some (.loc n), some (.int (p : Int)), x2, some (.loc st.length), some (.int (many : Int))] (st ++ [.lst (chD acc)]) = .xx ρ' (BB a q) (st ++ J)
    | .ok l q _ => l.length ≤ q ∧ q ≤ bs.length ∧ ∃ x2', whileF (read_simple_wt1 a) (read_simple_wb1 a) m [some (.loc n), some (.int (p : Int)), x2, some (.loc st.length), some (.int (many : Int))] (st ++ [.lst (chD acc)]) = .nx [some (.loc n), some (.int (q : Int)), x2', some (.loc st.length), some (.int (many : Int))] (st ++ [.lst (chD l)])
  | 0, rest, acc, p, x2, m, hm, hk, hp, hpl, h => by
    obtain ⟨m, rfl⟩ : ∃ k, m = k + 1 := ⟨m - 1, by omega⟩
    have h1 : ¬ (acc.length : Int) < (many : Int) := by omega
    simp only [txtS]
    refine ⟨hp, hpl, x2, ?_⟩
    rw [whileF_succ]
    simp only [chD]
    simp [read_simple_wt1, h1]
  | k + 1, [], acc, p, x2, m, hm, hk, hp, hpl, h => by
    obtain ⟨m, rfl⟩ : ∃ k, m = k + 1 := ⟨m - 1, by omega⟩
    rw [txtS]
    have sa := sat_bad a (at_old hd [.lst (chD acc)]) h
    have h1 : (acc.length : Int) < (many : Int) := by omega
    refine ⟨[some (.loc n), some (.int (p : Int)), x2, some (.loc st.length), some (.int (many : Int))], [.lst (chD acc)], ?_⟩
    rw [whileF_succ]
    simp only [chD] at sa ⊢
    simp [read_simple_wt1, read_simple_wb1, sa, h1]
  | k + 1, b :: r, acc, p, x2, m, hm, hk, hp, hpl, h => by
    obtain ⟨m, rfl⟩ : ∃ k, m = k + 1 := ⟨m - 1, by omega⟩
    rw [txtS]
    have sa := sat_ok a (at_old hd [.lst (chD acc)]) h
    have h1 : (acc.length : Int) < (many : Int) := by omega
    obtain ⟨_, h2, h3⟩ := drop_cons h
    cases hs : sg b with
    | none =>
      rw [sgL_none hs] at sa
      refine ⟨[some (.loc n), some (.int (p : Int)), some (.str (tx [])), some (.loc st.length), some (.int (many : Int))], [.lst (chD acc)], ?_⟩
      rw [whileF_succ]
      simp only [chD] at sa ⊢
      simp [read_simple_wt1, read_simple_wb1, read_simple_i1, sa, h1]
    | some c =>
      rw [sgL_some hs] at sa
      have hc127 := (sg_some hs).2
      have c1 : c < 1114112 := by omega
      have l16 : acc.length < 16777216 := by omega
      have ih := txt_loop hd hz many k r (acc ++ [c]) (p + 1) (some (.str (tx [c]))) m (by simp at hm; omega) (by simp; omega) (by simp; omega) (by omega) h2
      have step : whileF (read_simple_wt1 a) (read_simple_wb1 a) (m + 1) [some (.loc n), some (.int (p : Int)), x2, some (.loc st.length), some (.int (many : Int))] (st ++ [.lst (chD acc)]) = whileF (read_simple_wt1 a) (read_simple_wb1 a) m [some (.loc n), some (.int ((p + 1 : Nat) : Int)), some (.str (tx [c])), some (.loc st.length), some (.int (many : Int))] (st ++ [.lst (chD (acc ++ [c]))]) := by
        rw [whileF_succ]
        simp only [chD] at sa ⊢
        simp [read_simple_wt1, read_simple_wb1, read_simple_i1, sa, h1, c1, l16]
      simp only
      rw [step]
      exact ih
theorem simple_111 (p : Nat) : m_read_simple a [.loc n, .int (p : Int), .str (tx [111])] st = .ok (.tup [.non, .int ((p + 1 : Nat) : Int)]) st := by
  refine gcE ⟨[], ?_⟩ (by simp)
  simp [f_read_simple, read_simple_i4]
theorem simple_110 (hd : st[n]? = some (.lst (bs.map D.int))) (hz : bs.length < 1000000) {p : Nat} {r : List Int} (h : bs.drop (p + 1) = r) : m_read_simple a [.loc n, .int (p : Int), .str (tx [110])] st = match numS 59 [] (p + 1) r with
    | .bad q => .ex (BB a q) st
    | .ok a' q _ => .ok (.tup [.int (dv a' : Nat), .int (q : Int)]) st := by
  have k := num_ok a (e := 59) (by omega) hd hz h
  rw [Int.natCast_add] at k
  cases hn : numS 59 [] (p + 1) r with
  | bad q =>
    rw [hn] at k
    refine gcXF ⟨[], ?_⟩ (lowBB a _ _)
    simp only at k
    simp [f_read_simple, read_simple_i4, read_simple_i3, show ((1 : Nat) : Int) = 1 from rfl] at k ⊢
    simp [k]
  | ok a' q r' =>
    rw [hn] at k
    refine gcE ⟨[], ?_⟩ (by simp)
    simp only at k
    simp [f_read_simple, read_simple_i4, read_simple_i3] at k ⊢
    simp [k]
theorem simple_bad (p : Nat) {l : List Nat} (hk : okL l = true) (h1 : l ≠ [111]) (h2 : l ≠ [110]) (h3 : l ≠ [116]) : m_read_simple a [.loc n, .int (p : Int), .str (tx l)] st = .ex (BB a p) st := by
  refine gcXF ⟨[], ?_⟩ (lowBB a _ _)
  simp [f_read_simple, read_simple_i4, read_simple_i3, read_simple_i2, hk, h1, h2, h3]
theorem simple_116 (hd : st[n]? = some (.lst (bs.map D.int))) (hz : bs.length < 1000000) {p : Nat} {r : List Int} (h : bs.drop (p + 1) = r) : m_read_simple a [.loc n, .int (p : Int), .str (tx [116])] st = match numS 58 [] (p + 1) r with
    | .bad q => .ex (BB a q) st
    | .ok a' q r' => match txtS (dv a') [] q r' with
      | .bad q' => .ex (BB a q') st
      | .ok l q' _ => .ok (.tup [.str (tx l), .int (q' : Int)]) st := by
  have k := num_ok a (e := 58) (by omega) hd hz h
  rw [Int.natCast_add] at k
  cases hn : numS 58 [] (p + 1) r with
  | bad q =>
    rw [hn] at k
    refine gcXF ⟨[], ?_⟩ (lowBB a _ _)
    simp only at k
    simp [f_read_simple, read_simple_i4, read_simple_i3, read_simple_i2] at k ⊢
    simp [k]
  | ok a' q r' =>
    rw [hn] at k
    obtain ⟨l0, i1, i2, i3, i4, i5⟩ := numS_sound r [] (p + 1) can_nil hn
    have hdr : bs.drop q = r' := by
      have : bs.drop (p + 1 + (l0.length + 1)) = r' := by
        rw [← List.drop_drop, h, i2]
        rw [show izs l0 ++ ((58 : Nat) : Int) :: r' = (izs l0 ++ [((58 : Nat) : Int)]) ++ r' by simp]
        rw [List.drop_append_of_le_length (by simp)]
        rw [List.drop_of_length_le (by simp)]
        simp
      rw [i5, show p + 1 + l0.length + 1 = p + 1 + (l0.length + 1) by omega]
      exact this
    have hr : r'.length < WN := by rw [← hdr, List.length_drop]; unfold WN; omega
    have t := txt_loop a hd hz (dv a') (dv a') r' [] q (some (.str (tx [116]))) WN hr (by simp) (by simp) (by
      have e1 : r.length = bs.length - (p + 1) := by rw [← h, List.length_drop]
      have e2 : r.length = l0.length + (r'.length + 1) := by rw [i2]; simp
      omega) hdr
    simp only at k ⊢
    cases ht : txtS (dv a') [] q r' with
    | bad q' =>
      rw [ht] at t
      obtain ⟨ρ', J, t⟩ := t
      refine gcXF ⟨J, ?_⟩ (lowBB a _ _)
      simp [f_read_simple, read_simple_i4, read_simple_i3, read_simple_i2, read_simple_w1, sWhile, gT_run] at k t ⊢
      simp [k, t, gT_run, sWhile]
    | ok l q' r'' =>
      rw [ht] at t
      obtain ⟨t1, t2, x2, t⟩ := t
      refine gcE ⟨[.lst (chD l)], ?_⟩ (by simp)
      have hsum : (List.map ((fun x : Str => x.length) ∘ fun c => (⟨#[c]⟩ : Str)) l).sum ≤ 16777216 := by rw [sum_1]; omega
      simp only [chD] at t ⊢
      simp [f_read_simple, read_simple_i4, read_simple_i3, read_simple_i2, read_simple_w1, sWhile, gT_run] at k t ⊢
      simp [k, t, gT_run, sWhile, txts_1, join_1, hsum]
end
end Law

set_option Elab.async false
set_option linter.all false
set_option maxRecDepth 100000
set_option maxHeartbeats 2000000
namespace Law
open PySem PySem.Spec PyProof.Rows L2 Rg
/-! ### the rows of read_word -/
structure RI (s0 : Stt) (R : Nat) (cs : List Nat) (fs : List F) (s : Stt) : Prop where
  rows : s[R]? = some (.lst (cs.reverse.map D.loc))
  cell : ∀ (i c : Nat) (f : F), cs[i]? = some c → fs[i]? = some f → s[c]? = some (.lst (dsF f))
  len : cs.length = fs.length
  nd : cs.Nodup
  big : ∀ c ∈ cs, s0.length ≤ c ∧ c ≠ R ∧ c < s.length
  bigR : s0.length ≤ R ∧ R < s.length
  old : ∃ J, s = s0 ++ J
theorem set_ge {s0 J : Stt} {k : Nat} (h : s0.length ≤ k) (x : O) : (s0 ++ J).set k x = s0 ++ J.set (k - s0.length) x := List.set_append_right _ _ h
section
variable {s0 s : Stt} {R : Nat} {cs : List Nat} {fs : List F} {c : Nat} {f : F}
theorem RI.top (h : RI s0 R (c :: cs) (f :: fs) s) : s[c]? = some (.lst (dsF f)) := h.cell 0 c f rfl rfl
theorem RI.rowsC (h : RI s0 R (c :: cs) (f :: fs) s) : s[R]? = some (.lst (cs.reverse.map D.loc ++ [.loc c])) := by rw [h.rows]; simp
theorem RI.push (h : RI s0 R (c :: cs) (f :: fs) s) {g : F} {ds : List D} (hd : ds = dsF g) : RI s0 R (c :: cs) (g :: fs) (s.set c (.lst ds)) := by
  subst hd
  obtain ⟨h1, h2, h3⟩ := h.big c (by simp)
  have hn := List.nodup_cons.mp h.nd
  refine ⟨by rw [List.getElem?_set_ne h2]; exact h.rows, fun i d e hi he => ?_, by simpa using h.len, h.nd, fun d hd => by rw [List.length_set]; exact h.big d hd, by rw [List.length_set]; exact h.bigR, ?_⟩
  · cases i with
    | zero =>
      cases hi
      cases he
      exact List.getElem?_set_self h3
    | succ i =>
      have hi' : cs[i]? = some d := hi
      have hne : c ≠ d := fun z => hn.1 (by rw [z]; exact List.mem_of_getElem? hi')
      rw [List.getElem?_set_ne hne]
      exact h.cell (i + 1) d e hi he
  · obtain ⟨J, rfl⟩ := h.old
    exact ⟨_, set_ge h1 _⟩
theorem RI.opn (h : RI s0 R cs fs s) {ds : List D} (hd : ds = cs.reverse.map D.loc ++ [.loc s.length]) : RI s0 R (s.length :: cs) (.nil :: fs) ((s ++ [O.lst []]).set R (.lst ds)) := by
  subst hd
  have hR := h.bigR
  refine ⟨?_, fun i d e hi he => ?_, by simpa using h.len, ?_, fun d hd => ?_, by simp; omega, ?_⟩
  · rw [List.getElem?_set_self (by simp; omega)]; simp
  · cases i with
    | zero =>
      cases hi
      cases he
      rw [List.getElem?_set_ne (by omega)]
      exact at_0 s _ []
    | succ i =>
      have hi' : cs[i]? = some d := hi
      have hb := h.big d (List.mem_of_getElem? hi')
      rw [List.getElem?_set_ne hb.2.1.symm]
      exact at_old (h.cell i d e hi' he) _
  · refine List.nodup_cons.mpr ⟨fun hm => ?_, h.nd⟩
    have := (h.big _ hm).2.2
    omega
  · rw [List.length_set, List.length_append]
    rcases List.mem_cons.mp hd with e | hd
    · subst e; simp; omega
    · have := h.big d hd
      simp; omega
  · obtain ⟨J, rfl⟩ := h.old
    exact ⟨_, by rw [List.append_assoc]; exact set_ge hR.1 _⟩
theorem RI.pop (h : RI s0 R (c :: cs) (f :: fs) s) {ds : List D} (hd : ds = cs.reverse.map D.loc) : RI s0 R cs fs (s.set R (.lst ds)) := by
  subst hd
  have hR := h.bigR
  refine ⟨List.getElem?_set_self hR.2, fun i d e hi he => ?_, by simpa using h.len, (List.nodup_cons.mp h.nd).2, fun d hd => by rw [List.length_set]; exact h.big d (by simp [hd]), by rw [List.length_set]; exact hR, ?_⟩
  · have hb := h.big d (by simp [List.mem_of_getElem? hi])
    rw [List.getElem?_set_ne hb.2.1.symm]
    exact h.cell (i + 1) d e hi he
  · obtain ⟨J, rfl⟩ := h.old
    exact ⟨_, set_ge hR.1 _⟩
theorem isNil_ds (f : F) : (dsF f).isEmpty = isNil f := by cases f <;> rfl
variable (a : Ads) {n : Nat} {bs : List Int}
theorem wt_ok (h : RI s0 R cs fs s) (hne : fs ≠ []) (hz : cs.length < 1000000) (x0 x2 x3 x4 x5 x6 : Option D) : read_word_wt1 a [x0, some (.loc R), x2, x3, x4, x5, x6] s = .ok (!fin fs) s := by
  cases fs with
  | nil => exact absurd rfl hne
  | cons f fs =>
    have hl := h.len
    cases cs with
    | nil => simp at hl
    | cons c cs =>
      have h1 := h.rowsC
      cases fs with
      | nil =>
        have e : cs = [] := by simpa using hl
        subst e
        have h2 := h.top
        have h3 : (dsF f).isEmpty = isNil f := isNil_ds f
        simp only [List.reverse_nil, List.map_nil, List.nil_append] at h1
        simp [read_word_wt1, h1, h2, h3, fin]
      | cons g gs =>
        have h4 : (1 : Int) < (cs.length : Int) + 1 := by simp at hl; omega
        simp [read_word_wt1, h1, fin, h4]
/-- behind the loop -/
noncomputable def rwT (a : Ads) : XS := sCons (read_word_i1 a) (sCons (sRet (x2 oIx (x2 oIx (xV 1) (xC (.int 0))) (xC (.int 0)))) sNil)
theorem low_ds (k : Nat) : ∀ f : F, ∀ d ∈ dsF f, Low k d
  | .nil, d, h => by cases h
  | .non r, d, h => by
    rcases List.mem_cons.mp h with e | h
    · rw [e]; exact .non
    · exact low_ds k r d h
  | .int n r, d, h => by
    rcases List.mem_cons.mp h with e | h
    · rw [e]; exact .int _
    · exact low_ds k r d h
  | .str l r, d, h => by
    rcases List.mem_cons.mp h with e | h
    · rw [e]; exact .str _
    · exact low_ds k r d h
  | .tup c r, d, h => by
    rcases List.mem_cons.mp h with e | h
    · rw [e]; exact (low_tup k _).mpr fun x hx => low_ds k c x hx
    · exact low_ds k r d h
theorem one_ds {f : F} (h : one f = true) : ∃ d, dsF f = [d] := by
  cases f with
  | nil => cases h
  | non r => exact ⟨_, by rw [nil_of h]; rfl⟩
  | int n r => exact ⟨_, by rw [nil_of h]; rfl⟩
  | str l r => exact ⟨_, by rw [nil_of h]; rfl⟩
  | tup c r => exact ⟨_, by rw [nil_of h]; rfl⟩
section
variable {p q : Nat} {x3 x4 x5 x6 : Option D} {d : D} {l : List Nat}
theorem wb_40 (sa : m_sign_at a [.loc n, .int (p : Int)] s = .ok (.str (tx [40])) s) {L : List D} (hR : s[R]? = some (.lst L)) (hz : L.length < 16777216) :
    read_word_wb1 a [some (.loc n), some (.loc R), some (.int (p : Int)), x3, x4, x5, x6] s = .nx [some (.loc n), some (.loc R), some (.int ((p + 1 : Nat) : Int)), some (.str (tx [40])), x4, x5, x6] ((s ++ [O.lst []]).set R (.lst (L ++ [.loc s.length]))) := by
  have h2 := at_old hR [O.lst []]
  simp [read_word_wb1, read_word_i3, sa, hR, h2, hz]
theorem wb_41 (sa : m_sign_at a [.loc n, .int (p : Int)] s = .ok (.str (tx [41])) s) {X : List D} {c2 : Nat} {df dg : List D} (hR : s[R]? = some (.lst (X ++ [.loc c2] ++ [.loc c]))) (hc : s[c]? = some (.lst df)) (hg : s[c2]? = some (.lst dg)) (n1 : c ≠ R) (n2 : c2 ≠ R) (hz : X.length < 1000000) (hz2 : dg.length < 16777216) :
    read_word_wb1 a [some (.loc n), some (.loc R), some (.int (p : Int)), x3, x4, x5, x6] s = .nx [some (.loc n), some (.loc R), some (.int ((p + 1 : Nat) : Int)), some (.str (tx [41])), some (.tup df), x5, x6] ((s.set R (.lst (X ++ [.loc c2]))).set c2 (.lst (dg ++ [.tup df]))) := by
  have hlt : R < s.length := (List.getElem?_eq_some_iff.mp hR).1
  have h1 : (1 : Int) < (X.length : Int) + 1 + 1 := by omega
  have hR2 : (s.set R (.lst (X ++ [.loc c2])))[R]? = some (.lst (X ++ [.loc c2])) := List.getElem?_set_self hlt
  have hc2 : (s.set R (.lst (X ++ [.loc c2])))[c]? = some (.lst df) := by rw [List.getElem?_set_ne n1.symm]; exact hc
  have hg2 : (s.set R (.lst (X ++ [.loc c2])))[c2]? = some (.lst dg) := by rw [List.getElem?_set_ne n2.symm]; exact hg
  have hd : (X ++ [D.loc c2] ++ [D.loc c]).dropLast = X ++ [.loc c2] := List.dropLast_concat
  have hi : (X ++ [D.loc c2] ++ [D.loc c])[(X ++ [D.loc c2] ++ [D.loc c]).length - 1]? = some (.loc c) := by simp
  have pop : mPop (.loc R) [] s = some (.loc c, s.set R (.lst (X ++ [.loc c2]))) := by
    rw [mPop_at, hR]
    simp only [hi, hd, Option.map_some]
  have ln : fLen [.loc R] s = some (.int ((X.length : Int) + 1 + 1), s) := by
    rw [fLen_at, hR]
    simp
    omega
  simp [-mPop_at, -fLen_at, read_word_wb1, read_word_i3, read_word_i2, sa, hR, pop, ln, h1, hR2, hc2, hg2, hz2]
theorem wb_val (hk : okL l = true) (n40 : l ≠ [40]) {L : List D} (hR : s[R]? = some (.lst (L ++ [.loc c]))) (n41 : ¬ (l = [41] ∧ 0 < L.length)) (hL : L.length < 1000000) (sa : m_sign_at a [.loc n, .int (p : Int)] s = .ok (.str (tx l)) s)
    (sp : m_read_simple a [.loc n, .int (p : Int), .str (tx l)] s = .ok (.tup [d, .int (q : Int)]) s) {df : List D} (hc : s[c]? = some (.lst df)) (hz : df.length < 16777216) :
    read_word_wb1 a [some (.loc n), some (.loc R), some (.int (p : Int)), x3, x4, x5, x6] s = .nx [some (.loc n), some (.loc R), some (.int (q : Int)), some (.str (tx l)), x4, some d, x6] (s.set c (.lst (df ++ [d]))) := by
  have ln : fLen [.loc R] s = some (.int ((L.length : Int) + 1), s) := by
    rw [fLen_at, hR]
    simp
  by_cases h41 : l = [41]
  · have h0 : ¬ 0 < L.length := fun z => n41 ⟨h41, z⟩
    have h1 : ¬ (1 : Int) < (L.length : Int) + 1 := by omega
    subst h41
    simp [-fLen_at, read_word_wb1, read_word_i3, read_word_i2, sa, sp, hR, ln, h1, hc, hz, gT_run]
  · simp [-fLen_at, read_word_wb1, read_word_i3, read_word_i2, sa, sp, hR, hk, n40, h41, hc, hz, gT_run]
theorem wb_ex (hk : okL l = true) (n40 : l ≠ [40]) {L : List D} (hR : s[R]? = some (.lst (L ++ [.loc c]))) (n41 : ¬ (l = [41] ∧ 0 < L.length)) (hL : L.length < 1000000) (sa : m_sign_at a [.loc n, .int (p : Int)] s = .ok (.str (tx l)) s)
    {e : Exn} (sp : m_read_simple a [.loc n, .int (p : Int), .str (tx l)] s = .ex e s) :
    ∃ ρ', read_word_wb1 a [some (.loc n), some (.loc R), some (.int (p : Int)), x3, x4, x5, x6] s = .xx ρ' e s := by
  have ln : fLen [.loc R] s = some (.int ((L.length : Int) + 1), s) := by
    rw [fLen_at, hR]
    simp
  by_cases h41 : l = [41]
  · have h0 : ¬ 0 < L.length := fun z => n41 ⟨h41, z⟩
    have h1 : ¬ (1 : Int) < (L.length : Int) + 1 := by omega
    subst h41
    simp [-fLen_at, read_word_wb1, read_word_i3, read_word_i2, sa, sp, hR, ln, h1]
  · simp [-fLen_at, read_word_wb1, read_word_i3, read_word_i2, sa, sp, hR, hk, n40, h41]
end
end
end Law

set_option Elab.async false
set_option linter.all false
set_option maxRecDepth 100000
set_option maxHeartbeats 4000000
namespace Law
open PySem PySem.Spec PyProof.Rows L2 Rg
theorem ds_len : ∀ f : F, (dsF f).length ≤ (wf f).length
  | .nil => Nat.le_refl _
  | .non r => by have := ds_len r; simp [dsF, wf]; exact this
  | .int n r => by have := ds_len r; simp [dsF, wf]; omega
  | .str l r => by have := ds_len r; simp [dsF, wf]; omega
  | .tup c r => by have := ds_len r; simp [dsF, wf]; omega
section
variable (a : Ads) {n R : Nat} {bs : List Int} {s0 : Stt}
theorem whileF_nx {c : XT} {f : XS} {m : Nat} {ρ ρ' : En} {st s st' : Stt} (h : c ρ st = .ok true s) (g : f ρ s = .nx ρ' st') : whileF c f (m + 1) ρ st = whileF c f m ρ' st' := by
  rw [whileF_succ, h]; simp [g]
theorem whileF_xx {c : XT} {f : XS} {m : Nat} {ρ ρ' : En} {st s st' : Stt} {e : Exn} (h : c ρ st = .ok true s) (g : f ρ s = .xx ρ' e st') : whileF c f (m + 1) ρ st = .xx ρ' e st' := by
  rw [whileF_succ, h]; simp [g]
theorem whileF_end {c : XT} {f : XS} {m : Nat} {ρ : En} {st s : Stt} (h : c ρ st = .ok false s) : whileF c f (m + 1) ρ st = .nx ρ s := by
  rw [whileF_succ, h]; simp
/-- rows are not longer than what was read -/
def small (N : Nat) (fs : List F) : Prop := ∀ f ∈ fs, (dsF f).length ≤ N
theorem small_push {N : Nat} {f v : F} {fs : List F} (h : small N (f :: fs)) (hv : (dsF v).length = 1) : small (N + 1) (app f v :: fs) := fun g hg => by
  rcases List.mem_cons.mp hg with e | hg
  · rw [e, ds_app, List.length_append, hv]
    have := h f (by simp)
    omega
  · have := h g (by simp [hg]); omega
theorem rw_loop (hd : s0[n]? = some (.lst (bs.map D.int))) (hz : bs.length < 900000) : ∀ (m : Nat) (fs : List F) (p : Nat) (rest : List Int) (cs : List Nat) (s : Stt) (x3 x4 x5 x6 : Option D), rest.length < m → RI s0 R cs fs s → Okst fs → bs.drop p = rest → p ≤ bs.length → cs.length ≤ p + 1 → small p fs → match rd m fs p rest with
    | .bad q => ∃ ρ' J, (whileF (read_word_wt1 a) (read_word_wb1 a) m [some (.loc n), some (.loc R), some (.int (p : Int)), x3, x4, x5, x6] s).seq (rwT a) = .xx ρ' (BB a q) (s0 ++ J)
    | .ok f => ∃ J d, dsF f = [d] ∧ (whileF (read_word_wt1 a) (read_word_wb1 a) m [some (.loc n), some (.loc R), some (.int (p : Int)), x3, x4, x5, x6] s).seq (rwT a) = .rt d (s0 ++ J)
  | 0, fs, p, rest, cs, s, x3, x4, x5, x6, hm, _, _, _, _, _, _ => by omega
  | m + 1, fs, p, rest, cs, s, x3, x4, x5, x6, hm, hi, ho, h, hp, hcp, hsm => by
    have hwt := wt_ok a hi ho.ne (by omega) (some (.loc n)) (some (.int (p : Int))) x3 x4 x5 x6
    obtain ⟨J0, hJ0⟩ := hi.old
    have hds : s[n]? = some (.lst (bs.map D.int)) := by rw [hJ0]; exact at_old hd _
    cases fs with
    | nil => exact absurd rfl ho.ne
    | cons f fs =>
    cases cs with
    | nil => have := hi.len; simp at this
    | cons c cs =>
    have hlen : cs.length = fs.length := by have := hi.len; simpa using this
    have hcl : cs.length ≤ p := by rw [List.length_cons] at hcp; omega
    have hRs := hi.rowsC
    have htop := hi.top
    have hbig := hi.big c (by simp)
    unfold rd
    cases hf : fin (f :: fs) with
    | true =>
      rw [hf] at hwt
      rw [if_pos rfl]
      cases fs with
      | cons _ _ => cases hf
      | nil =>
        have e : cs = [] := by simpa using hlen
        subst e
        have ho1 : one f = true := by
          rcases ho.sole f rfl with e | e
          · subst e; cases hf
          · exact e
        obtain ⟨d, hdd⟩ := one_ds ho1
        simp only [List.reverse_nil, List.map_nil, List.nil_append] at hRs
        rw [hdd] at htop
        cases rest with
        | nil =>
          have hl := drop_nil h
          have h1 : ¬ (p : Int) < (bs.length : Int) := by omega
          refine ⟨J0, d, hdd, ?_⟩
          rw [whileF_end hwt, ← hJ0]
          simp [rwT, read_word_i1, hds, h1, hRs, htop]
        | cons b r =>
          obtain ⟨_, _, hl⟩ := drop_cons h
          have h1 : (p : Int) < (bs.length : Int) := by omega
          refine ⟨[some (.loc n), some (.loc R), some (.int (p : Int)), x3, x4, x5, x6], J0, ?_⟩
          rw [whileF_end hwt, ← hJ0]
          simp [rwT, read_word_i1, hds, h1]
    | false =>
      rw [hf] at hwt
      rw [if_neg Bool.false_ne_true]
      cases rest with
      | nil =>
        have sa := sat_bad a hds h
        refine ⟨[some (.loc n), some (.loc R), some (.int (p : Int)), x3, x4, x5, x6], J0, ?_⟩
        rw [← hJ0]
        have g : read_word_wb1 a [some (.loc n), some (.loc R), some (.int (p : Int)), x3, x4, x5, x6] s = .xx [some (.loc n), some (.loc R), some (.int (p : Int)), x3, x4, x5, x6] (BB a p) s := by simp [read_word_wb1, sa]
        rw [whileF_xx hwt g]
        rfl
      | cons b r =>
        have hr : r.length < m := by simp at hm; omega
        obtain ⟨_, h2, hpl⟩ := drop_cons h
        have sa := sat_ok a hds h
        have hXl : (cs.reverse.map D.loc).length = cs.length := by simp
        have hdf : (dsF f).length ≤ p := hsm f (by simp)
        simp only
        -- one value more
        have vals : ∀ (v : F) (l : List Nat) (q : Nat) (r' : List Int) (d : D), dsF v = [d] → one v = true → okL l = true → l ≠ [40] → ¬ (l = [41] ∧ 0 < cs.length) → m_sign_at a [.loc n, .int (p : Int)] s = .ok (.str (tx l)) s → m_read_simple a [.loc n, .int (p : Int), .str (tx l)] s = .ok (.tup [d, .int (q : Int)]) s → p < q → q ≤ bs.length → bs.drop q = r' → r'.length < m →
            match rd m (push v (f :: fs)) q r' with
            | .bad q => ∃ ρ' J, (whileF (read_word_wt1 a) (read_word_wb1 a) (m + 1) [some (.loc n), some (.loc R), some (.int (p : Int)), x3, x4, x5, x6] s).seq (rwT a) = .xx ρ' (BB a q) (s0 ++ J)
            | .ok f => ∃ J d, dsF f = [d] ∧ (whileF (read_word_wt1 a) (read_word_wb1 a) (m + 1) [some (.loc n), some (.loc R), some (.int (p : Int)), x3, x4, x5, x6] s).seq (rwT a) = .rt d (s0 ++ J) := by
          intro v l q r' d hv hov hk n40 n41 hsa hsp hpq hql hdr hrm
          have g := wb_val a (x3 := x3) (x4 := x4) (x5 := x5) (x6 := x6) hk n40 hRs (by rw [hXl]; exact n41) (by rw [hXl]; omega) hsa hsp htop (by omega)
          rw [whileF_nx hwt g]
          have hi2 := hi.push (g := app f v) (ds := dsF f ++ [d]) (by rw [ds_app, hv])
          obtain ⟨po, _, _⟩ := push_ok (v := v) ho hf hov
          have hsm2 : small q (app f v :: fs) := fun g hg => by
            have := small_push hsm (by rw [hv]; rfl) g hg
            omega
          exact rw_loop hd hz m (app f v :: fs) q r' (c :: cs) _ _ _ _ _ hrm hi2 po hdr hql (by omega) hsm2
        have excs : ∀ (l : List Nat) (q : Nat), okL l = true → l ≠ [40] → ¬ (l = [41] ∧ 0 < cs.length) → m_sign_at a [.loc n, .int (p : Int)] s = .ok (.str (tx l)) s → m_read_simple a [.loc n, .int (p : Int), .str (tx l)] s = .ex (BB a q) s → ∃ ρ' J, (whileF (read_word_wt1 a) (read_word_wb1 a) (m + 1) [some (.loc n), some (.loc R), some (.int (p : Int)), x3, x4, x5, x6] s).seq (rwT a) = .xx ρ' (BB a q) (s0 ++ J) := by
          intro l q hk n40 n41 hsa hsp
          obtain ⟨ρ', g⟩ := wb_ex a (x3 := x3) (x4 := x4) (x5 := x5) (x6 := x6) hk n40 hRs (by rw [hXl]; exact n41) (by rw [hXl]; omega) hsa hsp
          refine ⟨ρ', J0, ?_⟩
          rw [whileF_xx hwt g, ← hJ0]
          rfl
        cases hs : sg b with
        | none =>
          rw [sgL_none hs] at sa
          simp only [reduceCtorEq, if_false, false_and]
          exact excs [] p rfl (by simp) (by simp) sa (simple_bad a p rfl (by simp) (by simp) (by simp))
        | some k =>
          rw [sgL_some hs] at sa
          have hk127 := (sg_some hs).2
          have hk : okL [k] = true := by simp; omega
          simp only [Option.some.injEq]
          by_cases h40 : k = 40
          · rw [if_pos h40]
            subst h40
            have g := wb_40 a (x3 := x3) (x4 := x4) (x5 := x5) (x6 := x6) sa hRs (by rw [List.length_append, hXl, List.length_singleton]; omega)
            rw [whileF_nx hwt g]
            obtain ⟨k1, _⟩ := open_ok ho hf
            have hi2 := hi.opn (ds := cs.reverse.map D.loc ++ [.loc c] ++ [.loc s.length]) (by simp)
            exact rw_loop hd hz m (.nil :: f :: fs) (p + 1) r (s.length :: c :: cs) _ _ _ _ _ hr hi2 k1 h2 (by omega) (by simp at hcp ⊢; omega) (fun g hg => by
              rcases List.mem_cons.mp hg with e | hg
              · rw [e]; simp [dsF]
              · have := hsm g hg; omega)
          · rw [if_neg h40]
            by_cases h41 : k = 41 ∧ 1 < (f :: fs).length
            · rw [if_pos h41]
              obtain ⟨rfl, hl2⟩ := h41
              cases fs with
              | nil => simp at hl2
              | cons f2 fs =>
              cases cs with
              | nil => simp at hlen
              | cons c2 cs =>
              have hc2 := hi.cell 1 c2 f2 rfl rfl
              have hb2 := hi.big c2 (by simp)
              have hRs' : s[R]? = some (.lst (cs.reverse.map D.loc ++ [.loc c2] ++ [.loc c])) := by rw [hRs]; simp
              have hdg : (dsF f2).length ≤ p := hsm f2 (by simp)
              have g := wb_41 a (x3 := x3) (x4 := x4) (x5 := x5) (x6 := x6) sa hRs' htop hc2 hbig.2.1 hb2.2.1 (by simp at hcp ⊢; omega) (by omega)
              rw [whileF_nx hwt g]
              obtain ⟨k1, k2⟩ := close_ok ho hl2
              obtain ⟨po, _, _⟩ := push_ok (v := .tup f .nil) k1 k2 rfl
              have hi1 := hi.pop (ds := cs.reverse.map D.loc ++ [.loc c2]) (by simp)
              have hi2 := hi1.push (g := app f2 (.tup f .nil)) (ds := dsF f2 ++ [.tup (dsF f)]) (by rw [ds_app]; rfl)
              exact rw_loop hd hz m (push (.tup f .nil) (f2 :: fs)) (p + 1) r (c2 :: cs) _ _ _ _ _ hr hi2 po h2 (by omega) (by simp at hcp ⊢; omega) (small_push (fun g hg => hsm g (by simp [hg])) rfl)
            · rw [if_neg h41]
              have n41 : ¬ ([k] = [41] ∧ 0 < cs.length) := fun z => h41 ⟨by simpa using z.1, by simp; omega⟩
              have n40 : [k] ≠ [40] := by simpa using h40
              by_cases h111 : k = 111
              · rw [if_pos h111]
                subst h111
                exact vals (.non .nil) [111] (p + 1) r .non rfl rfl hk n40 n41 sa (simple_111 a p) (by omega) (by omega) h2 hr
              · rw [if_neg h111]
                by_cases h110 : k = 110
                · rw [if_pos h110]
                  subst h110
                  have sp := simple_110 a hds (by omega) h2
                  cases hn : numS 59 [] (p + 1) r with
                  | bad q =>
                    rw [hn] at sp
                    exact excs [110] q hk n40 n41 sa sp
                  | ok a' q r' =>
                    rw [hn] at sp
                    obtain ⟨l0, i1, i2, i3, i4, i5⟩ := numS_sound r [] (p + 1) can_nil hn
                    have e1 : r.length = bs.length - (p + 1) := by rw [← h2, List.length_drop]
                    have e2 : r.length = l0.length + (r'.length + 1) := by rw [i2]; simp
                    have hdr : bs.drop q = r' := by
                      rw [i5, show p + 1 + l0.length + 1 = p + 1 + (l0.length + 1) by omega, ← List.drop_drop, h2, i2]
                      rw [show izs l0 ++ ((59 : Nat) : Int) :: r' = (izs l0 ++ [((59 : Nat) : Int)]) ++ r' by simp]
                      rw [List.drop_append_of_le_length (by simp), List.drop_of_length_le (by simp)]
                      simp
                    exact vals (.int (dv a') .nil) [110] q r' _ rfl rfl hk n40 n41 sa sp (by omega) (by omega) hdr (by omega)
                · rw [if_neg h110]
                  by_cases h116 : k = 116
                  · rw [if_pos h116]
                    subst h116
                    have sp := simple_116 a hds (by omega) h2
                    cases hn : numS 58 [] (p + 1) r with
                    | bad q =>
                      rw [hn] at sp
                      exact excs [116] q hk n40 n41 sa sp
                    | ok a' q r' =>
                      rw [hn] at sp
                      simp only at sp ⊢
                      obtain ⟨l0, i1, i2, i3, i4, i5⟩ := numS_sound r [] (p + 1) can_nil hn
                      have e1 : r.length = bs.length - (p + 1) := by rw [← h2, List.length_drop]
                      have e2 : r.length = l0.length + (r'.length + 1) := by rw [i2]; simp
                      have hdr : bs.drop q = r' := by
                        rw [i5, show p + 1 + l0.length + 1 = p + 1 + (l0.length + 1) by omega, ← List.drop_drop, h2, i2]
                        rw [show izs l0 ++ ((58 : Nat) : Int) :: r' = (izs l0 ++ [((58 : Nat) : Int)]) ++ r' by simp]
                        rw [List.drop_append_of_le_length (by simp), List.drop_of_length_le (by simp)]
                        simp
                      cases ht : txtS (dv a') [] q r' with
                      | bad q' =>
                        rw [ht] at sp
                        exact excs [116] q' hk n40 n41 sa sp
                      | ok t q' r'' =>
                        rw [ht] at sp
                        obtain ⟨t0, j1, j2, j3, j4⟩ := txtS_sound _ _ _ _ ht
                        have e3 : r'.length = t0.length + r''.length := by rw [j3]; simp
                        have hdr2 : bs.drop q' = r'' := by
                          rw [j4, ← List.drop_drop, hdr, j3, List.drop_append_of_le_length (by simp), List.drop_of_length_le (by simp)]
                          simp
                        exact vals (.str t .nil) [116] q' r'' _ rfl rfl hk n40 n41 sa sp (by omega) (by omega) hdr2 (by omega)
                  · rw [if_neg h116]
                    exact excs [k] p hk n40 n41 sa (simple_bad a p hk (by simpa using h111) (by simpa using h110) (by simpa using h116))
end
end Law

set_option Elab.async false
set_option linter.all false
set_option maxRecDepth 100000
set_option maxHeartbeats 2000000
namespace Law
open PySem PySem.Spec PyProof.Rows L2 Rg
section
variable (a : Ads) {n : Nat} {bs : List Int} {st : Stt}
theorem isint_i (b : Int) (st : Stt) : m_is_integer a [.int b] st = .ok (.bl true) st := by
  refine gcE ⟨[], ?_⟩ (by simp)
  simp [f_is_integer]
theorem isint_b (b : Bool) (st : Stt) : m_is_integer a [.bl b] st = .ok (.bl false) st := by
  refine gcE ⟨[], ?_⟩ (by simp)
  simp [f_is_integer]
theorem isint_n (st : Stt) : m_is_integer a [.non] st = .ok (.bl false) st := by
  refine gcE ⟨[], ?_⟩ (by simp)
  simp [f_is_integer]
theorem wn_big : (1000000 : Nat) < WN := by unfold WN; omega
theorem read_ok (hd : st[n]? = some (.lst (bs.map D.int))) (hz : bs.length < 900000) : match rd WN [.nil] 0 bs with
    | .bad q => m_read_word a [.loc n] st = .ex (BB a q) st
    | .ok f => ∃ d, dsF f = [d] ∧ m_read_word a [.loc n] st = .ok d st := by
  have hn : n < st.length := (List.getElem?_eq_some_iff.mp hd).1
  have cmp := comp_map (L := st.length) (ok := fun s => items s (.loc n) = some (bs.map D.int)) (g := gN 6) (t := xYes) (f := xFn (m_is_integer a) (xCons (xV 6) xNil)) (ρ := [some (.loc n), none, none, none, none, none, none]) (φ := fun _ => .bl true) (st := st) rfl
    (fun l => items_loc (at_old hd _)) (bs.map D.int) [] (fun d hd => by
      obtain ⟨b, _, rfl⟩ := List.mem_map.mp hd
      exact ⟨_, rfl, fun l => ⟨rfl, by simp [isint_i]⟩⟩) (by simp; omega)
  have hall : bools (List.map (fun _ => D.bl true) (bs.map D.int)) = some (List.map (fun _ => true) (bs.map D.int)) := bools_map' (fun _ => true) _
  have i4 : read_word_i4 a [some (.loc n), none, none, none, none, none, none] st = .nx [some (.loc n), none, none, none, none, none, none] (st ++ [.lst (List.map (fun _ => D.bl true) (bs.map D.int))]) := by
    have hw : wkOf (.loc n) st = .ok ⟨bs.map D.int, fun s => items s (.loc n) = some (bs.map D.int)⟩ st := by
      rw [wkOf_at, hd]
    simp only [List.nil_append] at cmp
    simp [-wkOf_at, -items_at, -List.map_map, read_word_i4, hd, hw, cmp, hall]
  have hds2 : (st ++ [O.lst (List.map (fun _ => D.bl true) (bs.map D.int))])[n]? = some (.lst (bs.map D.int)) := at_old hd _
  generalize hB : O.lst (List.map (fun _ => D.bl true) (bs.map D.int)) = B at i4 hds2
  have ri : RI st (st.length + 2) [st.length + 1] [.nil] (st ++ [B, .lst [], .lst [.loc (st.length + 1)]]) := by
    refine ⟨at_add st _ 2, fun i c f hi hf => ?_, rfl, by simp, fun c hc => ?_, by simp, ⟨_, rfl⟩⟩
    · cases i with
      | zero => cases hi; cases hf; exact at_add st _ 1
      | succ i => cases hi
    · rw [List.mem_singleton.mp hc]; simp
  have ok0 : Okst [F.nil] := ⟨by simp, by simp, fun f hf => .inl (by simpa using hf.symm)⟩
  have k := rw_loop a hd hz WN [.nil] 0 bs [st.length + 1] _ none none none none (by have := wn_big; omega) ri ok0 rfl (by omega) (by simp) (fun f hf => by rw [List.mem_singleton.mp hf]; exact Nat.zero_le _)
  have body : f_read_word a ([D.loc n].map some ++ List.replicate (7 - [D.loc n].length) none) st = (whileF (read_word_wt1 a) (read_word_wb1 a) WN [some (.loc n), some (.loc (st.length + 2)), some (.int ((0 : Nat) : Int)), none, none, none, none] (st ++ [B, .lst [], .lst [.loc (st.length + 1)]])).seq (rwT a) := by
    simp [f_read_word, i4, read_word_w1, sWhile, rwT, Nat.add_assoc]
  cases hr : rd WN [.nil] 0 bs with
  | bad q =>
    rw [hr] at k
    obtain ⟨ρ', J, k⟩ := k
    refine gcXF ⟨J, ?_⟩ (lowBB a _ _)
    show (f_read_word a _ st).ret = _
    rw [body, k]
    rfl
  | ok f =>
    rw [hr] at k
    obtain ⟨J, d, hdd, k⟩ := k
    refine ⟨d, hdd, gcE ⟨J, ?_⟩ (low_ds _ f d (by rw [hdd]; simp))⟩
    show (f_read_word a _ st).ret = _
    rw [body, k]
    rfl
/-! what is no list of integers -/
abbrev NV : Exn := ⟨a.c_NotValid, none⟩
theorem read_n {d : D} {T : String} (h : tyD st d = some T) (hk : kitB T "list" = some false) : m_read_word a [d] st = .ex (NV a) st := by
  refine gcX ⟨[], ?_⟩
  simp [f_read_word, read_word_i4, h, hk]
theorem read_b {d : D} (hd : st[n]? = some (.lst [d])) (h : ∀ s, m_is_integer a [d] s = .ok (.bl false) s) : m_read_word a [.loc n] st = .ex (NV a) st := by
  have hn : n < st.length := (List.getElem?_eq_some_iff.mp hd).1
  have hw : wkOf (.loc n) st = .ok ⟨[d], fun s => items s (.loc n) = some [d]⟩ st := by
    rw [wkOf_at, hd]
  have cmp := comp_map (L := st.length) (ok := fun s => items s (.loc n) = some [d]) (g := gN 6) (t := xYes) (f := xFn (m_is_integer a) (xCons (xV 6) xNil)) (ρ := [some (.loc n), none, none, none, none, none, none]) (φ := fun _ => .bl false) (st := st) rfl
    (fun l => items_loc (at_old hd _)) [d] [] (fun e he => by
      rw [List.mem_singleton.mp he]
      exact ⟨_, rfl, fun l => ⟨rfl, by simp [h]⟩⟩) (by simp)
  refine gcX ⟨[.lst [.bl false]], ?_⟩
  simp only [List.nil_append, List.map_cons, List.map_nil] at cmp
  simp [-wkOf_at, -items_at, f_read_word, read_word_i4, hd, hw, cmp]
end
end Law

set_option Elab.async false
set_option linter.all false
set_option maxRecDepth 100000
set_option maxHeartbeats 2000000
namespace Law
open PySem PySem.Spec PyProof.Rows L2 Rg
/-! ### write_word -/
/-- what is still to be written, the next thing first -/
def TD : List F → List D
  | [] => []
  | [f] => (dsF f).map fun d => .tup [.bl false, d]
  | f :: g :: r => ((dsF f).map fun d => .tup [.bl false, d]) ++ .tup [.bl true, .str (tx [41])] :: TD (g :: r)
def TX : List F → List Nat
  | [] => []
  | [f] => wf f
  | f :: g :: r => wf f ++ 41 :: TX (g :: r)
theorem TD_cons (f : F) (ds : List D) (d : D) (h : dsF f = d :: ds) : ∀ r : List F, ∃ R, TD (f :: r) = .tup [.bl false, d] :: R ∧ ∀ g, dsF g = ds → TD (g :: r) = R
  | [] => ⟨ds.map fun d => .tup [.bl false, d], by simp [TD, h], fun g hg => by simp [TD, hg]⟩
  | k :: r => ⟨(ds.map fun d => .tup [.bl false, d]) ++ .tup [.bl true, .str (tx [41])] :: TD (k :: r), by simp [TD, h], fun g hg => by simp [TD, hg]⟩
theorem TX_cons (w : List Nat) (f g : F) (h : wf f = w ++ wf g) : ∀ r : List F, TX (f :: r) = w ++ TX (g :: r)
  | [] => h
  | k :: r => by simp [TX, h]
theorem TD_len : ∀ fs : List F, (TD fs).length ≤ (TX fs).length
  | [] => Nat.le_refl _
  | [f] => by simp [TD, TX]; exact ds_len f
  | f :: g :: r => by
    have h1 := ds_len f
    have h2 := TD_len (g :: r)
    simp [TD, TX]; omega
theorem txs_l (W : List (List Nat)) : txts (W.map fun w => D.str (tx w)) = some (W.map fun w => tx w) := txts_l W
theorem sumW (W : List (List Nat)) : (List.map ((fun x : Str => x.length) ∘ fun w => tx w) W).sum = W.flatten.length := by
  induction W with
  | nil => rfl
  | cons w W ih =>
    rw [List.map_cons, List.sum_cons, ih, List.flatten_cons, List.length_append]
    show (tx w).length + _ = _
    rw [len_l]
theorem joinW (W : List (List Nat)) : Txt.join ⟨#[]⟩ (W.map fun w => tx w) = tx W.flatten := by
  have := join_l [] W
  rw [inter_nil] at this
  exact this
theorem lg {n : Nat} (h : n < 1000000000) : n.log2 < 1920 := by
  by_cases h0 : n = 0
  · subst h0; decide
  · rw [Nat.log2_lt h0]
    exact Nat.lt_of_lt_of_le h (by decide +kernel)
theorem str_num (n : Nat) : (toString ((n : Nat) : Int) : Str) = tx (nL n) := SX.num_S n
section
variable (a : Ads) {st : Stt}
/-- the words so far, what is to do, garbage -/
abbrev WS (st : Stt) (W : List (List Nat)) (fs : List F) (J : Stt) : Stt := st ++ (.lst (W.map fun w => D.str (tx w)) :: .lst (TD fs).reverse :: J)
theorem ws_0 (W : List (List Nat)) (T : List D) (J : Stt) : (st ++ (O.lst (W.map fun w => D.str (tx w)) :: .lst T :: J))[st.length]? = some (.lst (W.map fun w => D.str (tx w))) := at_0 _ _ _
theorem ws_1 (x : O) (T : List D) (J : Stt) : (st ++ (x :: .lst T :: J))[st.length + 1]? = some (.lst T) := at_add st _ 1
theorem ws_s0 (x y z : O) (J : Stt) : (st ++ (x :: y :: J)).set st.length z = st ++ (z :: y :: J) := set_0 _ _ _ _
theorem ws_s1 (x y z : O) (J : Stt) : (st ++ (x :: y :: J)).set (st.length + 1) z = st ++ (x :: z :: J) := set_add st _ 1 z
theorem pop_of {n : Nat} {s : Stt} {T : List D} {d : D} (h : s[n]? = some (.lst (T ++ [d]))) : mPop (.loc n) [] s = some (d, s.set n (.lst T)) := by
  rw [mPop_at, h]
  simp
variable {x0 x3 x4 x5 x6 : Option D} {W : List (List Nat)} {J : Stt} {R : List D} {d : D}
theorem ww_app (w : List Nat) (T : List D) (hz : W.length < 16777216) : mAppend (.loc st.length) [.str (tx w)] (st ++ (O.lst (W.map fun w => D.str (tx w)) :: .lst T :: J)) = some (.non, st ++ (O.lst ((W ++ [w]).map fun w => D.str (tx w)) :: .lst T :: J)) := by
  rw [mAppend_at, ws_0]
  simp [hz]
theorem ww_rc (T : List D) (x : O) : isRc isLst (.loc st.length) (st ++ (O.lst (W.map fun w => D.str (tx w)) :: x :: J)) = .ok () (st ++ (O.lst (W.map fun w => D.str (tx w)) :: x :: J)) := by
  rw [isRc_lst, at_0]
theorem wb_of {p q : D} {ρ' : En} {s' : Stt} (h : write_word_i4 a [x0, some (.loc st.length), some (.loc (st.length + 1)), some p, some q, x5, x6] (st ++ (O.lst (W.map fun w => D.str (tx w)) :: .lst R.reverse :: J)) = .nx ρ' s') :
    write_word_wb1 a [x0, some (.loc st.length), some (.loc (st.length + 1)), x3, x4, x5, x6] (st ++ (O.lst (W.map fun w => D.str (tx w)) :: .lst (.tup [p, q] :: R).reverse :: J)) = .nx ρ' s' := by
  have e : (D.tup [p, q] :: R).reverse = R.reverse ++ [.tup [p, q]] := by simp
  have pop := pop_of (ws_1 (O.lst (W.map fun w => D.str (tx w))) (R.reverse ++ [D.tup [p, q]]) J (st := st))
  rw [ws_s1] at pop
  have h1 := ws_1 (O.lst (W.map fun w => D.str (tx w))) (R.reverse ++ [D.tup [p, q]]) J (st := st)
  rw [e]
  simp only [write_word_wb1]
  simp [-mPop_at, -isRc_lst, gT_run, pop, h1, h, isRc_lst (st ++ (O.lst (W.map fun w => D.str (tx w)) :: .lst (R.reverse ++ [D.tup [p, q]]) :: J)) (st.length + 1)]
abbrev WE_ (x0 : Option D) (st : Stt) (p q : D) (x5 x6 : Option D) : En := [x0, some (.loc st.length), some (.loc (st.length + 1)), some p, some q, x5, x6]
theorem i4_close (hz : W.length < 16777216) : write_word_i4 a (WE_ x0 st (.bl true) (.str (tx [41])) x5 x6) (st ++ (O.lst (W.map fun w => D.str (tx w)) :: .lst R.reverse :: J)) = .nx (WE_ x0 st (.bl true) (.str (tx [41])) x5 x6) (st ++ (O.lst ((W ++ [[41]]).map fun w => D.str (tx w)) :: .lst R.reverse :: J)) := by
  have ap := ww_app (st := st) (W := W) (J := J) [41] R.reverse hz
  have rc := ww_rc (st := st) (W := W) (J := J) R.reverse (.lst R.reverse)
  simp [-isRc_lst, -mAppend_at, -List.map_append, write_word_i4, ap, rc]
theorem i4_non (hz : W.length < 16777216) : write_word_i4 a (WE_ x0 st (.bl false) .non x5 x6) (st ++ (O.lst (W.map fun w => D.str (tx w)) :: .lst R.reverse :: J)) = .nx (WE_ x0 st (.bl false) .non x5 x6) (st ++ (O.lst ((W ++ [[111]]).map fun w => D.str (tx w)) :: .lst R.reverse :: J)) := by
  have ap := ww_app (st := st) (W := W) (J := J) [111] R.reverse hz
  have rc := ww_rc (st := st) (W := W) (J := J) R.reverse (.lst R.reverse)
  simp [-isRc_lst, -mAppend_at, -List.map_append, write_word_i4, write_word_i3, ap, rc]
theorem i4_int {n : Nat} (hn : n < 1000000000) (hz : W.length < 16777216) : write_word_i4 a (WE_ x0 st (.bl false) (.int (n : Int)) x5 x6) (st ++ (O.lst (W.map fun w => D.str (tx w)) :: .lst R.reverse :: J)) = .nx (WE_ x0 st (.bl false) (.int (n : Int)) x5 x6) (st ++ (O.lst ((W ++ [110 :: (nL n ++ [59])]).map fun w => D.str (tx w)) :: .lst R.reverse :: J)) := by
  have ap := ww_app (st := st) (W := W) (J := J) (110 :: (nL n ++ [59])) R.reverse hz
  have rc := ww_rc (st := st) (W := W) (J := J) R.reverse (.lst R.reverse)
  have hl := (nL_can hn).2.1
  have l1 : 1 + (nL n).length ≤ 16777216 := by omega
  have l2 : (nL n).length + 1 + 1 ≤ 16777216 := by omega
  have hg := lg hn
  have hs : fStr [.int (n : Int)] (st ++ (O.lst (W.map fun w => D.str (tx w)) :: .lst R.reverse :: J)) = some (.str (tx (nL n)), st ++ (O.lst (W.map fun w => D.str (tx w)) :: .lst R.reverse :: J)) := by
    rw [fStr_i, if_pos (by simpa using hg), str_num]
  simp [-isRc_lst, -mAppend_at, -List.map_append, -fStr_i, write_word_i4, write_word_i3, write_word_i2, write_word_i1, hs, l1, l2, ap, rc]
theorem i4_str {l : List Nat} (hn : l.length < 1000000) (hz : W.length < 16777216) : write_word_i4 a (WE_ x0 st (.bl false) (.str (tx l)) x5 x6) (st ++ (O.lst (W.map fun w => D.str (tx w)) :: .lst R.reverse :: J)) = .nx (WE_ x0 st (.bl false) (.str (tx l)) x5 x6) (st ++ (O.lst ((W ++ [116 :: (nL l.length ++ 58 :: l)]).map fun w => D.str (tx w)) :: .lst R.reverse :: J)) := by
  have ap := ww_app (st := st) (W := W) (J := J) (116 :: (nL l.length ++ 58 :: l)) R.reverse hz
  have rc := ww_rc (st := st) (W := W) (J := J) R.reverse (.lst R.reverse)
  have hl := (nL_can (n := l.length) (by omega)).2.1
  have l0 : l.length ≤ 16777216 := by omega
  have l1 : 1 + (nL l.length).length ≤ 16777216 := by omega
  have l2 : (nL l.length).length + 1 + 1 ≤ 16777216 := by omega
  have l3 : (nL l.length).length + 1 + 1 + l.length ≤ 16777216 := by omega
  have hg := lg (n := l.length) (by omega)
  have hs : fStr [.int (l.length : Int)] (st ++ (O.lst (W.map fun w => D.str (tx w)) :: .lst R.reverse :: J)) = some (.str (tx (nL l.length)), st ++ (O.lst (W.map fun w => D.str (tx w)) :: .lst R.reverse :: J)) := by
    rw [fStr_i, if_pos (by simpa using hg), str_num]
  simp [-isRc_lst, -mAppend_at, -List.map_append, -fStr_i, write_word_i4, write_word_i3, write_word_i2, hs, l0, l1, l2, l3, ap, rc]
theorem i4_tup {ds : List D} (hd : ds.length < 1000000) (hR : R.length < 1000000) (hz : W.length < 16777216) : ∃ J' x6', write_word_i4 a (WE_ x0 st (.bl false) (.tup ds) x5 x6) (st ++ (O.lst (W.map fun w => D.str (tx w)) :: .lst R.reverse :: J)) = .nx (WE_ x0 st (.bl false) (.tup ds) x5 x6') (st ++ (O.lst ((W ++ [[40]]).map fun w => D.str (tx w)) :: .lst ((ds.map fun d => D.tup [.bl false, d]) ++ .tup [.bl true, .str (tx [41])] :: R).reverse :: J')) := by
  have ap := ww_app (st := st) (W := W) (J := J) [40] R.reverse hz
  have rc := ww_rc (st := st) (W := W) (J := J) R.reverse (.lst R.reverse)
  have h1 := ws_1 (st := st) (O.lst ((W ++ [[40]]).map fun w => D.str (tx w))) R.reverse J
  have rc2 : isRc isLst (.loc (st.length + 1)) (st ++ (O.lst ((W ++ [[40]]).map fun w => D.str (tx w)) :: .lst R.reverse :: J)) = .ok () (st ++ (O.lst ((W ++ [[40]]).map fun w => D.str (tx w)) :: .lst R.reverse :: J)) := by
    rw [isRc_lst, h1]
  have ap2 : mAppend (.loc (st.length + 1)) [.tup [.bl true, .str (tx [41])]] (st ++ (O.lst ((W ++ [[40]]).map fun w => D.str (tx w)) :: .lst R.reverse :: J)) = some (.non, st ++ (O.lst ((W ++ [[40]]).map fun w => D.str (tx w)) :: .lst (R.reverse ++ [.tup [.bl true, .str (tx [41])]]) :: J)) := by
    rw [mAppend_at, h1]
    have : R.length < 16777216 := by omega
    simp [-List.map_append, this]
  have h3 := ws_1 (st := st) (O.lst ((W ++ [[40]]).map fun w => D.str (tx w))) (R.reverse ++ [.tup [.bl true, .str (tx [41])]]) J
  have rc3 : isRc isLst (.loc (st.length + 1)) (st ++ (O.lst ((W ++ [[40]]).map fun w => D.str (tx w)) :: .lst (R.reverse ++ [.tup [.bl true, .str (tx [41])]]) :: J)) = .ok () (st ++ (O.lst ((W ++ [[40]]).map fun w => D.str (tx w)) :: .lst (R.reverse ++ [.tup [.bl true, .str (tx [41])]]) :: J)) := by
    rw [isRc_lst, h3]
  have cmp := comp_map (L := (st ++ (O.lst ((W ++ [[40]]).map fun w => D.str (tx w)) :: .lst (R.reverse ++ [.tup [.bl true, .str (tx [41])]]) :: J)).length) (ok := fun _ => True) (g := gN 6) (t := xYes) (f := xTup (xCons (xC (.bl false)) (xCons (xV 6) xNil))) (ρ := [x0, some (.loc st.length), some (.loc (st.length + 1)), some (.bl false), some (.tup ds), x5, none]) (φ := fun d => .tup [.bl false, d]) (st := st ++ (O.lst ((W ++ [[40]]).map fun w => D.str (tx w)) :: .lst (R.reverse ++ [.tup [.bl true, .str (tx [41])]]) :: J)) rfl
    (fun _ => trivial) ds.reverse [] (fun d _ => ⟨_, rfl, fun l => ⟨rfl, by simp⟩⟩) (by simp; omega)
  have h4 : ∀ x, ((st ++ (O.lst ((W ++ [[40]]).map fun w => D.str (tx w)) :: .lst (R.reverse ++ [.tup [.bl true, .str (tx [41])]]) :: J)) ++ [x])[st.length + 1]? = some (.lst (R.reverse ++ [.tup [.bl true, .str (tx [41])]])) := fun x => at_old h3 _
  refine ⟨J ++ [.lst ([] ++ ds.reverse.map fun d => .tup [.bl false, d])], x6, ?_⟩
  have ex : mExtend (.loc (st.length + 1)) [.loc (st ++ (O.lst ((W ++ [[40]]).map fun w => D.str (tx w)) :: .lst (R.reverse ++ [.tup [.bl true, .str (tx [41])]]) :: J)).length] ((st ++ (O.lst ((W ++ [[40]]).map fun w => D.str (tx w)) :: .lst (R.reverse ++ [.tup [.bl true, .str (tx [41])]]) :: J)) ++ [.lst ([] ++ ds.reverse.map fun d => .tup [.bl false, d])]) = some (.non, st ++ (O.lst ((W ++ [[40]]).map fun w => D.str (tx w)) :: .lst ((ds.map fun d => D.tup [.bl false, d]) ++ .tup [.bl true, .str (tx [41])] :: R).reverse :: (J ++ [.lst ([] ++ ds.reverse.map fun d => .tup [.bl false, d])]))) := by
    rw [mExtL_at, h4, at_0]
    have l1 : R.length + 1 + ds.length ≤ 16777216 := by omega
    simp only [List.length_append, List.length_reverse, List.length_map, List.length_nil, List.length_singleton, szl, Nat.zero_add]
    rw [if_pos l1]
    rw [List.append_assoc st, List.cons_append, List.cons_append]
    rw [ws_s1]
    simp
  clear h1 h3 h4
  simp only [List.nil_append] at cmp ex ⊢
  generalize hS : (st ++ (O.lst ((W ++ [[40]]).map fun w => D.str (tx w)) :: .lst (R.reverse ++ [.tup [.bl true, .str (tx [41])]]) :: J)) = S3 at ap2 rc3 cmp ex
  simp [-isRc_lst, -mAppend_at, -mExtL_at, -List.map_append, -List.map_reverse, -List.reverse_append, write_word_i4, write_word_i3, write_word_i2, write_word_i1, ap, rc, rc2, rc3, ap2, cmp, ex]
/-! the loop -/
theorem ww_loop : ∀ (m : Nat) (fs : List F) (W : List (List Nat)) (J : Stt) (x3 x4 x5 x6 : Option D), (∀ f ∈ fs, okF f = true) → W.length + (TX fs).length < 900000 → (TX fs).length < m →
    ∃ (W' : List (List Nat)) (J' : Stt) (x3' x4' x6' : Option D), W'.flatten = W.flatten ++ TX fs ∧ W'.length ≤ W.length + (TX fs).length ∧ whileF (write_word_wt1 a) (write_word_wb1 a) m [x0, some (.loc st.length), some (.loc (st.length + 1)), x3, x4, x5, x6] (st ++ (O.lst (W.map fun w => D.str (tx w)) :: .lst (TD fs).reverse :: J)) = .nx [x0, some (.loc st.length), some (.loc (st.length + 1)), x3', x4', x5, x6'] (st ++ (O.lst (W'.map fun w => D.str (tx w)) :: .lst [] :: J'))
  | 0, fs, W, J, x3, x4, x5, x6, _, _, h => by omega
  | m + 1, fs, W, J, x3, x4, x5, x6, hk, hz, hm => by
    have hT := TD_len fs
    have h1 := ws_1 (st := st) (O.lst (W.map fun w => D.str (tx w))) (TD fs).reverse J
    have wt : write_word_wt1 a [x0, some (.loc st.length), some (.loc (st.length + 1)), x3, x4, x5, x6] (st ++ (O.lst (W.map fun w => D.str (tx w)) :: .lst (TD fs).reverse :: J)) = .ok (!(TD fs).isEmpty) (st ++ (O.lst (W.map fun w => D.str (tx w)) :: .lst (TD fs).reverse :: J)) := by
      simp only [write_word_wt1]
      simp [h1]
    have fin : ∀ (_ : List F), TD fs = [] → TX fs = [] → ∃ (W' : List (List Nat)) (J' : Stt) (x3' x4' x6' : Option D), W'.flatten = W.flatten ++ TX fs ∧ W'.length ≤ W.length + (TX fs).length ∧ whileF (write_word_wt1 a) (write_word_wb1 a) (m + 1) [x0, some (.loc st.length), some (.loc (st.length + 1)), x3, x4, x5, x6] (st ++ (O.lst (W.map fun w => D.str (tx w)) :: .lst (TD fs).reverse :: J)) = .nx [x0, some (.loc st.length), some (.loc (st.length + 1)), x3', x4', x5, x6'] (st ++ (O.lst (W'.map fun w => D.str (tx w)) :: .lst [] :: J')) := by
      intro _ e1 e2
      rw [e1] at wt ⊢
      refine ⟨W, J, x3, x4, x6, by rw [e2]; simp, by omega, ?_⟩
      rw [whileF_end wt]
      rfl
    -- one thing: simple
    have simp1 : ∀ (p q : D) (R : List D) (w : List Nat) (gs : List F), TD fs = .tup [p, q] :: R → TD gs = R → TX fs = w ++ TX gs → w ≠ [] → (∀ f ∈ gs, okF f = true) → (∀ x5 x6, write_word_i4 a (WE_ x0 st p q x5 x6) (st ++ (O.lst (W.map fun w => D.str (tx w)) :: .lst R.reverse :: J)) = .nx (WE_ x0 st p q x5 x6) (st ++ (O.lst ((W ++ [w]).map fun w => D.str (tx w)) :: .lst R.reverse :: J))) →
        ∃ (W' : List (List Nat)) (J' : Stt) (x3' x4' x6' : Option D), W'.flatten = W.flatten ++ TX fs ∧ W'.length ≤ W.length + (TX fs).length ∧ whileF (write_word_wt1 a) (write_word_wb1 a) (m + 1) [x0, some (.loc st.length), some (.loc (st.length + 1)), x3, x4, x5, x6] (st ++ (O.lst (W.map fun w => D.str (tx w)) :: .lst (TD fs).reverse :: J)) = .nx [x0, some (.loc st.length), some (.loc (st.length + 1)), x3', x4', x5, x6'] (st ++ (O.lst (W'.map fun w => D.str (tx w)) :: .lst [] :: J')) := by
      intro p q R w gs e1 e2 e3 hw hg hi
      have hl : 0 < w.length := List.length_pos_iff.mpr hw
      rw [e3, List.length_append] at hz hm
      obtain ⟨W', J', y3, y4, y6, g1, g2, g3⟩ := ww_loop m gs (W ++ [w]) J (some p) (some q) x5 x6 hg (by simp; omega) (by omega)
      refine ⟨W', J', y3, y4, y6, by rw [g1, e3]; simp, by rw [e3, List.length_append]; simp at g2; omega, ?_⟩
      rw [e1] at wt ⊢
      rw [whileF_nx wt (wb_of a (hi x5 x6))]
      rw [e2] at g3
      exact g3
    cases fs with
    | nil => exact fin [] rfl rfl
    | cons f r =>
      have hkf := hk f (by simp)
      have hkr : ∀ g ∈ r, okF g = true := fun g hg => hk g (by simp [hg])
      have all : ∀ g, okF g = true → ∀ x ∈ g :: r, okF x = true := fun g hg x hx => by
        rcases List.mem_cons.mp hx with e | hx
        · rw [e]; exact hg
        · exact hkr x hx
      cases f with
      | nil =>
        cases r with
        | nil => exact fin [] rfl rfl
        | cons g r => exact simp1 (.bl true) (.str (tx [41])) (TD (g :: r)) [41] (g :: r) rfl rfl rfl (by simp) hkr (fun x5 x6 => i4_close a (by omega))
      | non f =>
        obtain ⟨R, e1, e2⟩ := TD_cons (.non f) (dsF f) .non rfl r
        exact simp1 (.bl false) .non R [111] (f :: r) e1 (e2 f rfl) (TX_cons [111] _ f rfl r) (by simp) (all f hkf) (fun x5 x6 => i4_non a (by omega))
      | int n f =>
        simp only [okF, Bool.and_eq_true, decide_eq_true_eq] at hkf
        obtain ⟨R, e1, e2⟩ := TD_cons (.int n f) (dsF f) _ rfl r
        exact simp1 (.bl false) _ R (110 :: (nL n ++ [59])) (f :: r) e1 (e2 f rfl) (TX_cons (110 :: (nL n ++ [59])) _ f (by simp [wf]) r) (by simp) (all f hkf.2) (fun x5 x6 => i4_int a hkf.1 (by omega))
      | str l f =>
        simp only [okF, Bool.and_eq_true, decide_eq_true_eq] at hkf
        obtain ⟨R, e1, e2⟩ := TD_cons (.str l f) (dsF f) _ rfl r
        have eT := TX_cons (116 :: (nL l.length ++ 58 :: l)) (.str l f) f (by simp [wf]) r
        have hl : l.length < 1000000 := by
          rw [eT] at hz
          simp at hz
          omega
        exact simp1 (.bl false) _ R (116 :: (nL l.length ++ 58 :: l)) (f :: r) e1 (e2 f rfl) eT (by simp) (all f hkf.2) (fun x5 x6 => i4_str a hl (by omega))
      | tup c f =>
        simp only [okF, Bool.and_eq_true] at hkf
        obtain ⟨R, e1, e2⟩ := TD_cons (.tup c f) (dsF f) _ rfl r
        have eX : TX (.tup c f :: r) = 40 :: TX (c :: f :: r) := by
          cases r <;> simp [TX, wf]
        have eD : TD (c :: f :: r) = ((dsF c).map fun d => D.tup [.bl false, d]) ++ .tup [.bl true, .str (tx [41])] :: R := by
          rw [← e2 f rfl]; rfl
        have hc : (dsF c).length < 1000000 ∧ R.length < 1000000 := by
          have h2 := TD_len (c :: f :: r)
          rw [eD] at h2
          rw [eX] at hz
          simp at h2 hz
          omega
        obtain ⟨J2, y6, hi⟩ := i4_tup a (x0 := x0) (st := st) (x5 := x5) (x6 := x6) (W := W) (J := J) hc.1 hc.2 (by omega)
        rw [eX] at hz hm
        simp only [List.length_cons] at hz hm
        obtain ⟨W', J', z3, z4, z6, g1, g2, g3⟩ := ww_loop m (c :: f :: r) (W ++ [[40]]) J2 (some (.bl false)) (some (.tup (dsF c))) x5 y6 (fun x hx => by
          rcases List.mem_cons.mp hx with e | hx
          · rw [e]; exact hkf.1
          · exact all f hkf.2 x hx) (by simp; omega) (by omega)
        refine ⟨W', J', z3, z4, z6, by rw [g1, eX]; simp, by rw [eX]; simp at g2 ⊢; omega, ?_⟩
        rw [e1] at wt ⊢
        rw [whileF_nx wt (wb_of a hi)]
        rw [eD] at g3
        exact g3
theorem write_ok {f : F} {d : D} (hk : okF f = true) (hd : dsF f = [d]) (hz : (wf f).length < 900000) (h128 : True) : m_write_word a [d] st = .ok (.loc st.length) (st ++ [.lst ((wf f).map fun (c : Nat) => D.int (c : Int))]) := by
  have eTD : TD [f] = [.tup [.bl false, d]] := by simp [TD, hd]
  obtain ⟨W', J', z3, z4, z6, g1, g2, g3⟩ := ww_loop a (x0 := some d) (st := st) WN [f] [] [] none none none none (fun x hx => by rw [List.mem_singleton.mp hx]; exact hk) (by simp [TX]; omega) (by have := wn_big; simp [TX]; omega)
  rw [eTD] at g3
  simp only [List.map_nil, List.reverse_singleton, List.flatten_nil, List.nil_append] at g1 g3
  have hj : mJoin (.str ⟨#[]⟩) [.loc st.length] (st ++ (O.lst (W'.map fun w => D.str (tx w)) :: .lst [] :: J')) = some (.str (tx (wf f)), st ++ (O.lst (W'.map fun w => D.str (tx w)) :: .lst [] :: J')) := by
    rw [mJoin_run, items_loc (at_0 st _ _)]
    simp only [Option.bind_some, txs_l, joinW, List.map_map, sumW]
    rw [if_pos (by rw [g1]; simp [TX]; omega), g1]
    rfl
  have cmp := comp_map (L := (st ++ (O.lst (W'.map fun w => D.str (tx w)) :: .lst [] :: J')).length) (ok := fun _ => True) (g := gN 5) (t := xYes) (f := xCall fOrd (xCons (xV 5) xNil)) (ρ := [some d, some (.loc st.length), some (.loc (st.length + 1)), z3, z4, none, z6]) (φ := fun x => match x with | .str s => .int (s.cps.getD 0 0 : Nat) | x => x) (st := st ++ (O.lst (W'.map fun w => D.str (tx w)) :: .lst [] :: J')) rfl
    (fun _ => trivial) ((wf f).map fun c => D.str ⟨#[c]⟩) [] (fun x hx => by
      obtain ⟨c, _, rfl⟩ := List.mem_map.mp hx
      refine ⟨_, rfl, fun l => ⟨rfl, ?_⟩⟩
      have : ∀ s, fOrd [.str ⟨#[c]⟩] s = some (.int (c : Int), s) := fun _ => rfl
      simp [this]) (by simp; omega)
  have em : List.map (fun x : D => match x with | .str s => D.int (s.cps.getD 0 0 : Nat) | x => x) ((wf f).map fun c => D.str ⟨#[c]⟩) = (wf f).map fun (c : Nat) => D.int (c : Int) := by
    rw [List.map_map]
    exact List.map_congr_left fun c _ => rfl
  rw [em] at cmp
  refine gcN ⟨(O.lst (W'.map fun w => D.str (tx w)) :: .lst [] :: J') ++ [.lst ((wf f).map fun (c : Nat) => D.int (c : Int))], st.length + (J'.length + 2), ?_, by omega, ?_⟩ (fun d hd => by
    obtain ⟨c, _, rfl⟩ := List.mem_map.mp hd
    exact .int _)
  · rw [← List.append_assoc]
    have hlen : (st ++ (O.lst (W'.map fun w => D.str (tx w)) :: .lst [] :: J')).length = st.length + (J'.length + 2) := by simp
    rw [hlen] at cmp
    simp only [List.nil_append] at cmp
    have g3' : sWhile (write_word_wt1 a) (write_word_wb1 a) [some d, some (.loc st.length), some (.loc (st.length + 1)), none, none, none, none] (st ++ [O.lst [], .lst [.tup [.bl false, d]]]) = _ := g3
    generalize hS : (st ++ (O.lst (W'.map fun w => D.str (tx w)) :: .lst [] :: J')) = S3 at g3' hj cmp hlen
    simp [-mJoin_run, -items_at, f_write_word, write_word_w1, g3', hj, hlen, cmp]
  · rw [at_add]
    simp
end
end Law

set_option Elab.async false
set_option linter.all false
set_option maxRecDepth 100000
set_option maxHeartbeats 2000000
namespace Law
open PySem PySem.Spec PyProof.Rows L2 Rg
/-! ### the law's text of a value -/
def dep : F → Nat
  | .nil => 0
  | .non r => dep r
  | .int _ r => dep r
  | .str _ r => dep r
  | .tup c r => max (dep c + 1) (dep r)
def els : F → List (D × List Nat)
  | .nil => []
  | .non r => (.non, [111]) :: els r
  | .int n r => (.int (n : Int), 110 :: (nL n ++ [59])) :: els r
  | .str l r => (.str (tx l), 116 :: (nL l.length ++ 58 :: l)) :: els r
  | .tup c r => (.tup (dsF c), 40 :: (wf c ++ [41])) :: els r
theorem els_ds : ∀ f : F, (els f).map (·.1) = dsF f
  | .nil => rfl
  | .non r => by simp [els, dsF, els_ds r]
  | .int n r => by simp [els, dsF, els_ds r]
  | .str l r => by simp [els, dsF, els_ds r]
  | .tup c r => by simp [els, dsF, els_ds r]
theorem els_wf : ∀ f : F, ((els f).map (·.2)).flatten = wf f
  | .nil => rfl
  | .non r => by simp [els, wf, els_wf r]
  | .int n r => by simp [els, wf, els_wf r]
  | .str l r => by simp [els, wf, els_wf r]
  | .tup c r => by simp [els, wf, els_wf r]
theorem tx_inj {x y : List Nat} (h : tx x = tx y) : x = y := by
  have := congrArg (fun s : Str => s.cps.toList) h
  simpa using this
section
variable (a : Ads)
noncomputable def phi (k : Nat) (d : D) : D := match m_law_text a k [d] [] with
  | .ok x _ => x
  | _ => .non
theorem text_tup {k : Nat} {c : F} (hz : (wf c).length < 900000) (h : ∀ p ∈ els c, ∀ st, m_law_text a k [p.1] st = .ok (.str (tx p.2)) st) (st : Stt) : m_law_text a (k + 1) [.tup (dsF c)] st = .ok (.str (tx (40 :: (wf c ++ [41])))) st := by
  have hphi : ∀ p ∈ els c, phi a k p.1 = .str (tx p.2) := fun p hp => by
    unfold phi
    rw [h p hp []]
  have hlen := ds_len c
  have cmp := comp_map (L := st.length) (ok := fun _ => True) (g := gN 1) (t := xYes) (f := xFn (m_law_text a k) (xCons (xV 1) xNil)) (ρ := [some (.tup (dsF c)), none]) (φ := phi a k) (st := st) rfl
    (fun _ => trivial) (dsF c) [] (fun d hd => by
      rw [← els_ds] at hd
      obtain ⟨p, hp, rfl⟩ := List.mem_map.mp hd
      refine ⟨_, rfl, fun l => ⟨rfl, ?_⟩⟩
      simp [h p hp, hphi p hp]) (by simp; omega)
  have e : (dsF c).map (phi a k) = ((els c).map (·.2)).map fun w => D.str (tx w) := by
    rw [← els_ds, List.map_map, List.map_map]
    exact List.map_congr_left fun p hp => hphi p hp
  rw [e, List.nil_append] at cmp
  have hj : mJoin (.str ⟨#[]⟩) [.loc st.length] (st ++ [.lst (((els c).map (·.2)).map fun w => D.str (tx w))]) = some (.str (tx (wf c)), st ++ [.lst (((els c).map (·.2)).map fun w => D.str (tx w))]) := by
    rw [mJoin_run, items_loc (at_0 st _ [])]
    simp only [Option.bind_some, txs_l, joinW, els_wf]
    rw [List.map_map, sumW, els_wf, if_pos (by simp; omega)]
  refine gcE ⟨[.lst (((els c).map (·.2)).map fun w => D.str (tx w))], ?_⟩ (by simp)
  have l1 : 1 + (wf c).length ≤ 16777216 := by omega
  have l2 : (wf c).length + 1 + 1 ≤ 16777216 := by omega
  simp only [f_law_text, law_text_i3, law_text_i2, law_text_i1]
  simp [-mJoin_run, -items_at, -List.map_map, cmp, hj, l1, l2]
theorem text_non (k : Nat) (st : Stt) : m_law_text a (k + 1) [.non] st = .ok (.str (tx [111])) st := by
  refine gcE ⟨[], ?_⟩ (by simp)
  simp [f_law_text, law_text_i3]
theorem text_int (k : Nat) {n : Nat} (hn : n < 1000000000) (st : Stt) : m_law_text a (k + 1) [.int (n : Int)] st = .ok (.str (tx (110 :: (nL n ++ [59])))) st := by
  refine gcE ⟨[], ?_⟩ (by simp)
  have hl := (nL_can hn).2.1
  have l1 : 1 + (nL n).length ≤ 16777216 := by omega
  have l2 : (nL n).length + 1 + 1 ≤ 16777216 := by omega
  have hg := lg hn
  have hs : fStr [.int (n : Int)] st = some (.str (tx (nL n)), st) := by
    rw [fStr_i, if_pos (by simpa using hg), str_num]
  simp [-fStr_i, f_law_text, law_text_i3, law_text_i2, hs, l1, l2]
theorem text_str (k : Nat) {l : List Nat} (hn : l.length < 1000000) (st : Stt) : m_law_text a (k + 1) [.str (tx l)] st = .ok (.str (tx (116 :: (nL l.length ++ 58 :: l)))) st := by
  refine gcE ⟨[], ?_⟩ (by simp)
  have hl := (nL_can (n := l.length) (by omega)).2.1
  have l0 : l.length ≤ 16777216 := by omega
  have l1 : 1 + (nL l.length).length ≤ 16777216 := by omega
  have l2 : (nL l.length).length + 1 + 1 ≤ 16777216 := by omega
  have l3 : (nL l.length).length + 1 + 1 + l.length ≤ 16777216 := by omega
  have hg := lg (n := l.length) (by omega)
  have hs : fStr [.int (l.length : Int)] st = some (.str (tx (nL l.length)), st) := by
    rw [fStr_i, if_pos (by simpa using hg), str_num]
  simp [-fStr_i, f_law_text, law_text_i3, law_text_i2, law_text_i1, hs, l0, l1, l2, l3]
theorem ltext1 {k : Nat} (ih : ∀ f : F, dep f < k → okF f = true → (wf f).length < 900000 → ∀ p ∈ els f, ∀ st, m_law_text a k [p.1] st = .ok (.str (tx p.2)) st) : ∀ f : F, dep f < k + 1 → okF f = true → (wf f).length < 900000 → ∀ p ∈ els f, ∀ st, m_law_text a (k + 1) [p.1] st = .ok (.str (tx p.2)) st
  | .nil, _, _, _, p, hp, _ => by cases hp
  | .non r, h1, h2, h3, p, hp, st => by
    rcases List.mem_cons.mp hp with e | hp
    · rw [e]; exact text_non a k st
    · exact ltext1 ih r h1 h2 (by simp [wf] at h3; omega) p hp st
  | .int n r, h1, h2, h3, p, hp, st => by
    simp only [okF, Bool.and_eq_true, decide_eq_true_eq] at h2
    rcases List.mem_cons.mp hp with e | hp
    · rw [e]; exact text_int a k h2.1 st
    · exact ltext1 ih r h1 h2.2 (by simp [wf] at h3; omega) p hp st
  | .str l r, h1, h2, h3, p, hp, st => by
    simp only [okF, Bool.and_eq_true, decide_eq_true_eq] at h2
    rcases List.mem_cons.mp hp with e | hp
    · rw [e]; exact text_str a k (by simp [wf] at h3; omega) st
    · exact ltext1 ih r h1 h2.2 (by simp [wf] at h3; omega) p hp st
  | .tup c r, h1, h2, h3, p, hp, st => by
    simp only [okF, Bool.and_eq_true] at h2
    simp only [dep] at h1
    rcases List.mem_cons.mp hp with e | hp
    · rw [e]
      have hc : (wf c).length < 900000 := by simp [wf] at h3; omega
      exact text_tup a hc (ih c (by omega) h2.1 hc) st
    · exact ltext1 ih r (by omega) h2.2 (by simp [wf] at h3; omega) p hp st
theorem ltext : ∀ (k : Nat) (f : F), dep f < k → okF f = true → (wf f).length < 900000 → ∀ p ∈ els f, ∀ st, m_law_text a k [p.1] st = .ok (.str (tx p.2)) st
  | 0, _, h, _, _, _, _, _ => by omega
  | k + 1, f, h1, h2, h3, p, hp, st => ltext1 a (fun f => ltext k f) f h1 h2 h3 p hp st
/-- one value -/
theorem text_ok {k : Nat} {f : F} {d : D} (hk : dep f < k) (ho : okF f = true) (hd : dsF f = [d]) (hz : (wf f).length < 900000) (st : Stt) : m_law_text a k [d] st = .ok (.str (tx (wf f))) st := by
  have e1 := els_ds f
  have e2 := els_wf f
  rw [hd] at e1
  cases he : els f with
  | nil => rw [he] at e1; cases e1
  | cons p r =>
    rw [he] at e1 e2
    have hr : r = [] := by
      have := congrArg List.length e1
      simpa using this
    subst hr
    have hp : p.1 = d := by simpa using e1
    have := ltext a k f hk ho hz p (by rw [he]; simp) st
    rw [hp] at this
    rw [this, ← e2]
    simp
end
end Law

set_option Elab.async false
set_option linter.all false
set_option maxRecDepth 100000
set_option maxHeartbeats 2000000
namespace Law
open PySem PySem.Spec PyProof.Rows L2 Rg
/-! ### the law's own reading, byte by byte -/
def fl1 (dep : Nat) (md : Md) (dg : List Nat) (left : Nat) (b : Int) : Option (Nat × Md × List Nat × Nat) := match sg b with
  | none => none
  | some c => match md with
    | .over => none
    | .text => if left - 1 = 0 then some (dep, aft dep, dg, left - 1) else some (dep, .text, dg, left - 1)
    | .value => if c = 40 then some (dep + 1, .value, dg, left)
      else if c = 41 ∧ 0 < dep then some (dep - 1, aft (dep - 1), dg, left)
      else if c = 111 then some (dep, aft dep, dg, left)
      else if c = 110 then some (dep, .num false, [], left)
      else if c = 116 then some (dep, .num true, [], left)
      else none
    | .num t => if c = (if t then 58 else 59) ∧ dg ≠ [] then
        (if t = true ∧ 0 < dv dg then some (dep, .text, dg, dv dg) else some (dep, aft dep, dg, 0))
      else if dig c = true ∧ dg ≠ [48] ∧ dg.length < 9 then some (dep, .num t, dg ++ [c], left)
      else none
theorem fl_one (dep : Nat) (md : Md) (dg : List Nat) (left p : Nat) (b : Int) (r : List Int) : fl dep md dg left p (b :: r) = match fl1 dep md dg left b with
    | none => some p
    | some (d, m, g, l) => fl d m g l (p + 1) r := by
  rw [fl]
  unfold fl1
  cases sg b with
  | none => rfl
  | some c =>
    cases md with
    | over => rfl
    | text => simp only; split <;> rfl
    | value => simp only; repeat (first | rfl | split)
    | num t => simp only; repeat (first | rfl | split)
def mdS : Md → List Nat
  | .value => [118, 97, 108, 117, 101]
  | .over => [111, 118, 101, 114]
  | .num false => [110]
  | .num true => [116]
  | .text => [116, 101, 120, 116]
structure LI (md : Md) (dg : List Nat) (left : Nat) : Prop where
  can : Can dg
  tl : md = .text → 1 ≤ left
theorem fl1_li {dep : Nat} {md : Md} {dg : List Nat} {left : Nat} {b : Int} {d : Nat} {m : Md} {g : List Nat} {l : Nat} (h : LI md dg left) (e : fl1 dep md dg left b = some (d, m, g, l)) : LI m g l := by
  have haft : ∀ k, aft k ≠ .text := fun k => by unfold aft; split <;> simp
  unfold fl1 at e
  split at e
  · cases e
  · rename_i c hs
    split at e
    · cases e
    · split at e
      · cases e; exact ⟨h.can, fun z => absurd z (haft _)⟩
      · cases e; exact ⟨h.can, fun _ => by omega⟩
    · split at e
      · cases e; exact ⟨h.can, fun z => by cases z⟩
      · split at e
        · cases e; exact ⟨h.can, fun z => absurd z (haft _)⟩
        · split at e
          · cases e; exact ⟨h.can, fun z => absurd z (haft _)⟩
          · split at e
            · cases e; exact ⟨can_nil, fun z => by cases z⟩
            · split at e
              · cases e; exact ⟨can_nil, fun z => by cases z⟩
              · cases e
    · rename_i t
      by_cases h1 : c = (if t then 58 else 59) ∧ dg ≠ []
      · rw [if_pos h1] at e
        by_cases h2 : t = true ∧ 0 < dv dg
        · rw [if_pos h2] at e; cases e; exact ⟨h.can, fun _ => h2.2⟩
        · rw [if_neg h2] at e; cases e; exact ⟨h.can, fun z => absurd z (haft _)⟩
      · rw [if_neg h1] at e
        by_cases h2 : dig c = true ∧ dg ≠ [48] ∧ dg.length < 9
        · rw [if_pos h2] at e; cases e; exact ⟨can_snoc h.can h2.1 h2.2.1 h2.2.2, fun z => by cases z⟩
        · rw [if_neg h2] at e; cases e
theorem mdS_v : mdS .value = [118, 97, 108, 117, 101] := rfl
theorem mdS_o : mdS .over = [111, 118, 101, 114] := rfl
theorem mdS_n : mdS (.num false) = [110] := rfl
theorem mdS_t : mdS (.num true) = [116] := rfl
theorem mdS_x : mdS .text = [116, 101, 120, 116] := rfl
@[simp] theorem seq_nil (o : Out) : o.seq sNil = o := by cases o <;> rfl
theorem in2 (b x y : Int) (st : Stt) : inOf st (.int b) (.tup [.int x, .int y]) = some (decide (x = b) || decide (y = b)) := by
  show some (inV (.int b) [.int x, .int y]) = _
  unfold inV
  simp [eqV, Bool.beq_eq_decide_eq]
section
variable (a : Ads) {n p dep left : Nat} {bs : List Int} {s : Stt} {b : Int} {md : Md} {dg : List Nat} {x6 : Option D}
abbrev LE_ (n : Nat) (dep : Nat) (md : Md) (dg : List Nat) (left p : Nat) (x6 : Option D) : En := [some (.loc n), some (.int (dep : Int)), some (.str (tx (mdS md))), some (.str (tx dg)), some (.int (left : Int)), some (.int (p : Int)), x6]
theorem i13_stop (h : sg b = none) : law_fault_i13 a (LE_ n dep md dg left p (some (.int b))) s = .rt (.int (p : Int)) s := by
  unfold sg at h
  split at h
  · cases h
  · rename_i hb
    have h9 : ¬ 9 = b := by omega
    have h10 : ¬ 10 = b := by omega
    by_cases e1 : b < 32
    · simp [law_fault_i13, in2, h9, h10, e1]
    · by_cases e2 : 126 < b
      · simp [law_fault_i13, in2, h9, h10, e1, e2]
      · have e3 : b = 37 := by omega
        subst e3
        simp [law_fault_i13, in2]
theorem i13_over {c : Nat} (h : sg b = some c) : law_fault_i13 a (LE_ n dep .over dg left p (some (.int b))) s = .rt (.int (p : Int)) s := by
  unfold sg at h
  split at h
  · rename_i hb
    rcases hb with hb | hb | ⟨h1, h2, h3⟩
    · subst hb; simp [law_fault_i13, in2, mdS]
    · subst hb; simp [law_fault_i13, in2, mdS]
    · have e1 : ¬ b < 32 := by omega
      have e2 : ¬ 126 < b := by omega
      by_cases h9 : 9 = b
      · simp [law_fault_i13, in2, mdS, h9]
      · by_cases h10 : 10 = b
        · simp [law_fault_i13, in2, mdS, h10]
        · simp [law_fault_i13, in2, mdS, h9, h10, e1, e2, h3]
  · cases h
theorem i13_go {c : Nat} (h : sg b = some c) (hm : md ≠ .over) : law_fault_i13 a (LE_ n dep md dg left p (some (.int b))) s = .nx (LE_ n dep md dg left p (some (.int b))) s := by
  have e0 : mdS md ≠ [111, 118, 101, 114] := by
    cases md with
    | num t => cases t <;> simp [mdS]
    | over => exact absurd rfl hm
    | _ => simp [mdS]
  have ek : okL (mdS md) = true := by
    cases md with
    | num t => cases t <;> decide
    | _ => decide
  unfold sg at h
  split at h
  · rename_i hb
    rcases hb with hb | hb | ⟨h1, h2, h3⟩
    · subst hb; simp [law_fault_i13, in2, e0, ek]
    · subst hb; simp [law_fault_i13, in2, e0, ek]
    · have e1 : ¬ b < 32 := by omega
      have e2 : ¬ 126 < b := by omega
      by_cases h9 : 9 = b
      · simp [law_fault_i13, in2, h9, e0, ek]
      · by_cases h10 : 10 = b
        · simp [law_fault_i13, in2, h10, e0, ek]
        · simp [law_fault_i13, in2, h9, h10, e1, e2, h3, e0, ek]
  · cases h
/-- ["value", "over"][int(depth == 0)] -/
theorem pickS (dep : Nat) : atI [D.str (tx (mdS .value)), .str (tx (mdS .over))] (if dep = 0 then (1 : Int) else 0) = some (.str (tx (mdS (aft dep)))) := by
  by_cases h : dep = 0
  · rw [if_pos h]; unfold aft; rw [if_pos h]; simp
  · rw [if_neg h]; unfold aft; rw [if_neg h]; simp
theorem i12_text (hl : 1 ≤ left) : ∃ J, law_fault_i12 a (LE_ n dep .text dg left p (some (.int b))) s = .nx (LE_ n dep (if left - 1 = 0 then aft dep else .text) dg (left - 1) p (some (.int b))) (s ++ J) := by
  have e : (left : Int) - 1 = ((left - 1 : Nat) : Int) := by omega
  by_cases h : left - 1 = 0
  · refine ⟨[.lst [.str (tx (mdS .value)), .str (tx (mdS .over))]], ?_⟩
    have pk := pickS dep
    rw [if_pos h]
    simp only [mdS_v, mdS_o] at pk ⊢
    simp [law_fault_i12, law_fault_i2, e, h, pk, mdS_x]
  · refine ⟨[], ?_⟩
    rw [if_neg h]
    simp [law_fault_i12, law_fault_i2, e, h, mdS_x]
theorem i12_value {c : Nat} (hb : b = (c : Int)) : match (if c = 40 then some (dep + 1, Md.value, dg, left)
      else if c = 41 ∧ 0 < dep then some (dep - 1, aft (dep - 1), dg, left)
      else if c = 111 then some (dep, aft dep, dg, left)
      else if c = 110 then some (dep, .num false, [], left)
      else if c = 116 then some (dep, .num true, [], left)
      else none) with
    | none => law_fault_i12 a (LE_ n dep .value dg left p (some (.int b))) s = .rt (.int (p : Int)) s
    | some (d, m, g, l) => ∃ J, law_fault_i12 a (LE_ n dep .value dg left p (some (.int b))) s = .nx (LE_ n d m g l p (some (.int b))) (s ++ J) := by
  have i12 : law_fault_i12 a (LE_ n dep .value dg left p (some (.int b))) s = law_fault_i6 a (LE_ n dep .value dg left p (some (.int b))) s := by
    simp only [law_fault_i12, law_fault_i11]
    simp [mdS_v]
  rw [i12]
  subst hb
  by_cases h40 : c = 40
  · rw [if_pos h40]
    subst h40
    exact ⟨[], by simp [law_fault_i6]⟩
  · rw [if_neg h40]
    have n40 : ¬ (c : Int) = 40 := by omega
    by_cases h41 : c = 41 ∧ 0 < dep
    · rw [if_pos h41]
      obtain ⟨rfl, hd⟩ := h41
      have e : (dep : Int) - 1 = ((dep - 1 : Nat) : Int) := by omega
      refine ⟨[.lst [.str (tx (mdS .value)), .str (tx (mdS .over))]], ?_⟩
      have pk := pickS (dep - 1)
      simp only [mdS_v, mdS_o] at pk ⊢
      simp [law_fault_i6, law_fault_i5, e, hd, pk]
    · rw [if_neg h41]
      have i5 : law_fault_i6 a (LE_ n dep .value dg left p (some (.int (c : Int)))) s = law_fault_i4 a (LE_ n dep .value dg left p (some (.int (c : Int)))) s := by
        by_cases hc : c = 41
        · have hd : dep = 0 := by
            by_cases hd : 0 < dep
            · exact absurd ⟨hc, hd⟩ h41
            · omega
          subst hc hd
          simp [law_fault_i6, law_fault_i5]
        · have n41 : ¬ (c : Int) = 41 := by omega
          simp [law_fault_i6, law_fault_i5, n41, n40]
      rw [i5]
      by_cases h111 : c = 111
      · rw [if_pos h111]
        subst h111
        refine ⟨[.lst [.str (tx (mdS .value)), .str (tx (mdS .over))]], ?_⟩
        have pk := pickS dep
        simp only [mdS_v, mdS_o] at pk ⊢
        simp [law_fault_i4, pk]
      · rw [if_neg h111]
        have n111 : ¬ (c : Int) = 111 := by omega
        by_cases h110 : c = 110
        · rw [if_pos h110]
          subst h110
          exact ⟨[.lst [.str (tx [110]), .str (tx [116])]], by simp [law_fault_i4, law_fault_i3, in2, mdS_n]⟩
        · rw [if_neg h110]
          by_cases h116 : c = 116
          · rw [if_pos h116]
            subst h116
            exact ⟨[.lst [.str (tx [110]), .str (tx [116])]], by simp [law_fault_i4, law_fault_i3, in2, mdS_t]⟩
          · rw [if_neg h116]
            have n1 : ¬ 110 = (c : Int) := by omega
            have n2 : ¬ 116 = (c : Int) := by omega
            simp [law_fault_i4, law_fault_i3, in2, n111, n1, n2]
theorem i12_num (t : Bool) {c : Nat} (hb : b = (c : Int)) (hc : Can dg) : match (if c = (if t then 58 else 59) ∧ dg ≠ [] then
        (if t = true ∧ 0 < dv dg then some (dep, Md.text, dg, dv dg) else some (dep, aft dep, dg, 0))
      else if dig c = true ∧ dg ≠ [48] ∧ dg.length < 9 then some (dep, .num t, dg ++ [c], left)
      else none) with
    | none => ∃ J, law_fault_i12 a (LE_ n dep (.num t) dg left p (some (.int b))) s = .rt (.int (p : Int)) (s ++ J)
    | some (d, m, g, l) => ∃ J, law_fault_i12 a (LE_ n dep (.num t) dg left p (some (.int b))) s = .nx (LE_ n d m g l p (some (.int b))) (s ++ J) := by
  have i12 : law_fault_i12 a (LE_ n dep (.num t) dg left p (some (.int b))) s = law_fault_i10 a (LE_ n dep (.num t) dg left p (some (.int b))) s := by
    simp only [law_fault_i12, law_fault_i11]
    cases t <;> simp [mdS_n, mdS_t]
  rw [i12]
  subst hb
  have hk : okL dg = true := okL_dig hc.1
  have l16 : dg.length ≤ 16777216 := by have := hc.2.1; omega
  have tst : ∀ st, atI [D.int 59, .int 58] (if t = true then (1 : Int) else 0) = some (.int ((if t then 58 else 59 : Nat) : Int)) ∧ oEq (.str (tx (mdS (.num t)))) (.str ⟨#[116]⟩) st = some (.bl t, st) := fun st => by
    cases t <;> simp [mdS_n, mdS_t]
  by_cases h1 : c = (if t then 58 else 59) ∧ dg ≠ []
  · rw [if_pos h1]
    obtain ⟨h1, hne⟩ := h1
    cases t with
    | false =>
      rw [if_neg (by simp)]
      have hc59 : c = 59 := h1
      subst hc59
      refine ⟨[.lst [.int 59, .int 58]] ++ [.lst [.str (tx (mdS .value)), .str (tx (mdS .over))]], ?_⟩
      have pk := pickS dep
      simp only [mdS_v, mdS_o] at pk ⊢
      simp [law_fault_i10, law_fault_i8, law_fault_i7, mdS_n, hk, hne, pk]
    | true =>
      have hc58 : c = 58 := h1
      subst hc58
      have hi := int_ok hc hne
      by_cases hp : 0 < dv dg
      · rw [if_pos ⟨rfl, hp⟩]
        refine ⟨[.lst [.int 59, .int 58]] ++ [.lst [.str (tx (mdS .value)), .str (tx (mdS .over))]], ?_⟩
        have pk := pickS dep
        have hp' : (0 : Int) < (dv dg : Nat) := by omega
        simp only [mdS_v, mdS_o] at pk ⊢
        simp [law_fault_i10, law_fault_i8, law_fault_i7, mdS_t, mdS_x, hk, hne, pk, hi, hp, hp']
      · rw [if_neg (fun z => hp z.2)]
        have h0 : dv dg = 0 := by omega
        refine ⟨[.lst [.int 59, .int 58]] ++ [.lst [.str (tx (mdS .value)), .str (tx (mdS .over))]], ?_⟩
        have pk := pickS dep
        simp only [mdS_v, mdS_o] at pk ⊢
        simp [law_fault_i10, law_fault_i8, law_fault_i7, mdS_t, hk, hne, pk, hi, h0]
  · rw [if_neg h1]
    have i10 : law_fault_i10 a (LE_ n dep (.num t) dg left p (some (.int (c : Int)))) s = law_fault_i9 a (LE_ n dep (.num t) dg left p (some (.int (c : Int)))) (s ++ [.lst [.int 59, .int 58]]) := by
      obtain ⟨t1, t2⟩ := tst (s ++ [.lst [.int 59, .int 58]])
      by_cases hcc : (c : Int) = ((if t then 58 else 59 : Nat) : Int)
      · have hn : dg = [] := by
          by_cases hn : dg = []
          · exact hn
          · exact absurd ⟨by omega, hn⟩ h1
        subst hn
        simp [-oEq_l, law_fault_i10, t1, t2, hcc]
      · simp [-oEq_l, law_fault_i10, t1, t2, hcc]
    rw [i10]
    by_cases h2 : dig c = true ∧ dg ≠ [48] ∧ dg.length < 9
    · rw [if_pos h2]
      obtain ⟨h2, h3, h4⟩ := h2
      have h5 : 48 ≤ c ∧ c ≤ 57 := by
        unfold dig at h2
        rw [Bool.and_eq_true, decide_eq_true_eq, decide_eq_true_eq] at h2
        exact h2
      have g1 : (48 : Int) ≤ (c : Int) := by omega
      have g2 : (c : Int) ≤ 57 := by omega
      have g3 : (dg.length : Int) < 9 := by omega
      have hat : atI ([48, 49, 50, 51, 52, 53, 54, 55, 56, 57] : List Nat) ((c : Int) - 48) = some c := by
        refine atI_of (by omega) ?_
        rw [show ((c : Int) - 48).toNat = c - 48 by omega]
        have : ∀ k, k < 10 → ([48, 49, 50, 51, 52, 53, 54, 55, 56, 57] : List Nat)[k]? = some (k + 48) := by decide
        rw [this _ (by omega)]
        congr 1
        omega
      have l17 : dg.length + 1 ≤ 16777216 := by omega
      exact ⟨[.lst [.int 59, .int 58]], by simp [law_fault_i9, g1, g2, g3, h3, hk, hat, l16, l17]⟩
    · rw [if_neg h2]
      refine ⟨[.lst [.int 59, .int 58]], ?_⟩
      by_cases g1 : (48 : Int) ≤ (c : Int)
      · by_cases g2 : (c : Int) ≤ 57
        · have hd : dig c = true := by
            unfold dig
            rw [Bool.and_eq_true, decide_eq_true_eq, decide_eq_true_eq]
            omega
          by_cases g3 : dg = [48]
          · simp [law_fault_i9, g1, g2, g3]
          · have g4 : ¬ (dg.length : Int) < 9 := fun z => h2 ⟨hd, g3, by omega⟩
            simp [law_fault_i9, g1, g2, g3, g4, hk, l16]
        · simp [law_fault_i9, g1, g2]
      · simp [law_fault_i9, g1]
end
end Law

set_option Elab.async false
set_option linter.all false
set_option maxRecDepth 100000
set_option maxHeartbeats 2000000
namespace Law
open PySem PySem.Spec PyProof.Rows L2 Rg
def fres : Option Nat → Int
  | some q => (q : Int)
  | none => -1
section
variable (a : Ads) {n : Nat} {bs : List Int}
theorem fb_ok {p dep left : Nat} {md : Md} {dg : List Nat} {x6 : Option D} {s : Stt} {b : Int} (hd : s[n]? = some (.lst (bs.map D.int))) (hb : bs[p]? = some b) (hi : LI md dg left) : match fl1 dep md dg left b with
    | none => ∃ J, law_fault_fb1 a (LE_ n dep md dg left p x6) s = .rt (.int (p : Int)) (s ++ J)
    | some (d, m, g, l) => ∃ J, law_fault_fb1 a (LE_ n dep md dg left p x6) s = .nx (LE_ n d m g l p (some (.int b))) (s ++ J) := by
  have hat : atI (bs.map D.int) (p : Int) = some (.int b) := atI_lit (by rw [List.getElem?_map, hb]; rfl)
  have fb : law_fault_fb1 a (LE_ n dep md dg left p x6) s = (law_fault_i13 a (LE_ n dep md dg left p (some (.int b))) s).seq (sCons (law_fault_i12 a) sNil) := by
    simp [law_fault_fb1, hd, hat]
  rw [fb]
  cases hs : sg b with
  | none =>
    have e : fl1 dep md dg left b = none := by unfold fl1; rw [hs]
    rw [e]
    exact ⟨[], by rw [i13_stop a hs]; simp⟩
  | some c =>
    have hbc := (sg_some hs).1
    by_cases hm : md = .over
    · subst hm
      have e : fl1 dep .over dg left b = none := by unfold fl1; rw [hs]
      rw [e]
      exact ⟨[], by rw [i13_over a hs]; simp⟩
    · rw [i13_go a hs hm]
      simp only [Out.seq_nx, sCons_run, seq_nil]
      cases md with
      | over => exact absurd rfl hm
      | text =>
        have e : fl1 dep .text dg left b = some (dep, if left - 1 = 0 then aft dep else .text, dg, left - 1) := by
          unfold fl1; rw [hs]; simp only; split <;> rfl
        rw [e]
        exact i12_text a (hi.tl rfl)
      | value =>
        have k := i12_value a (n := n) (p := p) (dep := dep) (left := left) (s := s) (dg := dg) hbc
        unfold fl1
        rw [hs]
        simp only at k ⊢
        generalize (if c = 40 then some (dep + 1, Md.value, dg, left)
          else if c = 41 ∧ 0 < dep then some (dep - 1, aft (dep - 1), dg, left)
          else if c = 111 then some (dep, aft dep, dg, left)
          else if c = 110 then some (dep, .num false, [], left)
          else if c = 116 then some (dep, .num true, [], left)
          else none) = r at k ⊢
        cases r with
        | none => exact ⟨[], by simpa using k⟩
        | some q => exact k
      | num t =>
        have k := i12_num a (n := n) (p := p) (dep := dep) (left := left) (s := s) (dg := dg) t hbc hi.can
        unfold fl1
        rw [hs]
        exact k
/-- behind the loop -/
noncomputable def lfT (a : Ads) : XS := sCons (law_fault_i1 a) (sCons (sRet (x1 oNeg (xC (.int 1)))) sNil)
abbrev nums (p k : Nat) : List D := (List.range' p k).map fun (i : Nat) => D.int (i : Int)
theorem lf_loop {st : Stt} (hd : st[n]? = some (.lst (bs.map D.int))) : ∀ (rest : List Int) (p dep left : Nat) (md : Md) (dg : List Nat) (x5 x6 : Option D) (J : Stt), bs.drop p = rest → p ≤ bs.length → LI md dg left →
    ∃ J', (forF (fun _ => True) (gN 5) (law_fault_fb1 a) (nums p rest.length) [some (.loc n), some (.int (dep : Int)), some (.str (tx (mdS md))), some (.str (tx dg)), some (.int (left : Int)), x5, x6] (st ++ J)).seq (lfT a) = .rt (.int (fres (fl dep md dg left p rest))) (st ++ J')
  | [], p, dep, left, md, dg, x5, x6, J, h, hp, hi => by
    have hl := drop_nil h
    have e : p = bs.length := by omega
    have hd2 : (st ++ J)[n]? = some (.lst (bs.map D.int)) := at_old hd _
    refine ⟨J, ?_⟩
    simp only [nums, List.length_nil, List.range'_zero, List.map_nil, forF_nil]
    by_cases hm : md = .over
    · subst hm
      simp [lfT, law_fault_i1, mdS_o, fl, fres]
    · have e0 : mdS md ≠ [111, 118, 101, 114] := by
        cases md with
        | num t => cases t <;> simp [mdS]
        | over => exact absurd rfl hm
        | _ => simp [mdS]
      have ek : okL (mdS md) = true := by
        cases md with
        | num t => cases t <;> decide
        | _ => decide
      simp [lfT, law_fault_i1, e0, ek, hd2, fl, fres, hm, e]
  | b :: r, p, dep, left, md, dg, x5, x6, J, h, hp, hi => by
    obtain ⟨h1, h2, h3⟩ := drop_cons h
    have hd2 : (st ++ J)[n]? = some (.lst (bs.map D.int)) := at_old hd _
    have k := fb_ok a (dep := dep) (x6 := x6) hd2 h1 hi
    rw [fl_one]
    have en : nums p (b :: r).length = D.int (p : Int) :: nums (p + 1) r.length := by
      simp [nums, List.range'_succ]
    rw [en, forF_cons]
    cases e : fl1 dep md dg left b with
    | none =>
      rw [e] at k
      obtain ⟨J', k⟩ := k
      refine ⟨J ++ J', ?_⟩
      have k' : law_fault_fb1 a [some (.loc n), some (.int (dep : Int)), some (.str (tx (mdS md))), some (.str (tx dg)), some (.int (left : Int)), some (.int (p : Int)), x6] (st ++ J) = _ := k
      simp only [gN_run, List.set_cons_succ, List.set_cons_zero, k']
      simp [fres]
    | some q =>
      obtain ⟨d, m, g, l⟩ := q
      rw [e] at k
      obtain ⟨J', k⟩ := k
      have k' : law_fault_fb1 a [some (.loc n), some (.int (dep : Int)), some (.str (tx (mdS md))), some (.str (tx dg)), some (.int (left : Int)), some (.int (p : Int)), x6] (st ++ J) = _ := k
      obtain ⟨J2, ih⟩ := lf_loop hd r (p + 1) d l m g (some (.int (p : Int))) (some (.int b)) (J ++ J') h2 h3 (fl1_li hi e)
      refine ⟨J2, ?_⟩
      simp only [gN_run, List.set_cons_succ, List.set_cons_zero, k']
      rw [List.append_assoc]
      exact ih
theorem fault_ok {st : Stt} (hd : st[n]? = some (.lst (bs.map D.int))) (hz : bs.length < 900000) : m_law_fault a [.loc n] st = .ok (.int (fres (fl 0 .value [] 0 0 bs))) st := by
  obtain ⟨J, k⟩ := lf_loop a hd bs 0 0 0 .value [] none none [] rfl (by omega) ⟨can_nil, fun z => by cases z⟩
  have en : nums 0 bs.length = intsD 0 bs.length := by
    unfold nums intsD
    rw [← List.range_eq_range']
    exact List.map_congr_left fun i _ => by simp
  rw [en, List.append_nil] at k
  have hr := wkRange_n (n := bs.length) (by omega) st
  refine gcE ⟨J, ?_⟩ (by simp)
  show (f_law_fault a ([D.loc n].map some ++ List.replicate (7 - [D.loc n].length) none) st).ret = _
  have body : f_law_fault a ([D.loc n].map some ++ List.replicate (7 - [D.loc n].length) none) st = (forF (fun _ => True) (gN 5) (law_fault_fb1 a) (intsD 0 bs.length) [some (.loc n), some (.int ((0 : Nat) : Int)), some (.str (tx (mdS .value))), some (.str (tx [])), some (.int ((0 : Nat) : Int)), none, none] st).seq (lfT a) := by
    simp [f_law_fault, law_fault_f1, hd, hr, lfT, mdS_v]
  rw [body, k]
  rfl
end
end Law

set_option Elab.async false
set_option linter.all false
set_option maxRecDepth 100000
set_option maxHeartbeats 2000000
namespace Law
open PySem PySem.Spec PyProof.Rows L2 Rg
/-! ### the tape -/
theorem mem_ints {i : Int} {n k : Nat} {d : D} (h : (intsD i n)[k]? = some d) : k < n ∧ d = .int (i + k) := by
  unfold intsD at h
  rw [List.getElem?_map] at h
  obtain ⟨j, h1, h2⟩ := Option.map_eq_some_iff.mp h
  have hl := (List.getElem?_eq_some_iff.mp h1).1
  rw [List.length_range] at hl
  rw [List.getElem?_range hl] at h1
  cases h1
  exact ⟨hl, h2.symm⟩
theorem len_ints (i : Int) (n : Nat) : (intsD i n).length = n := by simp [intsD]
@[simp] theorem pw18 (st : Stt) : oPow (.int 10) (.int 18) st = some (.int 1000000000000000000, st) := by
  have : (10 : Int) ^ (18 : Nat) = 1000000000000000000 := by decide
  show (if CPow 10 18 then some (D.int (10 ^ (18 : Int).toNat), st) else none) = _
  rw [if_pos (by decide)]
  rfl
theorem mr (s k : Int) (h : -(2 ^ 64) < k ∧ k < 2 ^ 64) (st : Stt) : oMulA (.int s) (.int k) st = some (.int (s * k), st) := oMulA_r h st
section
variable (a : Ads)
theorem tape1 (x0 x2 : Option D) (ts : List Int) (v : Int) (x4 : Option D) (h : ts.length < 100000) : ∃ (ts' : List Int) (v' : Int) (x4' : Option D), ts'.length ≤ ts.length + 60 ∧ law_tape_f1 a [x0, some (.loc 0), x2, some (.int v), x4] [.lst (ts.map D.int)] = .nx [x0, some (.loc 0), x2, some (.int v'), x4'] [.lst (ts'.map D.int)] := by
  obtain ⟨ρ', st', e, ts', v', x4', h1, h2, h3⟩ := forF_inv (ok := fun _ => True) (g := gN 4) (f := law_tape_fb1 a) (its := intsD 0 60)
    (fun k ρ s => ∃ (ts' : List Int) (v' : Int) (x4' : Option D), ts'.length ≤ ts.length + k ∧ ρ = [x0, some (.loc 0), x2, some (.int v'), x4'] ∧ s = [.lst (ts'.map D.int)])
    (fun _ _ _ _ _ => trivial)
    (fun k d ρ s hd ⟨ts', v', x4', h1, hρ, hs⟩ => by
      subst hρ hs
      have hk := (mem_ints hd).1
      have hz : ts'.length < 16777216 := by omega
      refine ⟨_, rfl, ?_⟩
      by_cases hv : 0 < v'
      · refine ⟨_, _, .inl ?_, ts' ++ [v' % 1000], v' / 1000, some d, by simp; omega, rfl, rfl⟩
        simp [law_tape_fb1, law_tape_i1, hv, hz, oMod_i, oDiv_i]
      · refine ⟨_, _, .inl ?_, ts', v', some d, by omega, rfl, rfl⟩
        simp [law_tape_fb1, law_tape_i1, hv])
    (ρ := [x0, some (.loc 0), x2, some (.int v), x4]) (st := [.lst (ts.map D.int)]) ⟨ts, v, x4, by omega, rfl, rfl⟩
  subst h2 h3
  rw [len_ints] at h1
  refine ⟨ts', v', x4', h1, ?_⟩
  have hr : wkRange [.int 60] [O.lst (ts.map D.int)] = .ok ⟨intsD 0 60, fun _ => True⟩ [O.lst (ts.map D.int)] := wkRange_n (n := 60) (by omega) _
  simp [law_tape_f1, hr, e]
theorem tape2 (x0 : Option D) (k0 : Int) (ts : List Int) (v : Int) (x4 : Option D) (h : ts.length < 100000) : ∃ (ts' : List Int) (v' : Int) (x4' : Option D), ts'.length ≤ ts.length + 60 ∧ law_tape_f2 a [x0, some (.loc 0), some (.int k0), some (.int v), x4] [.lst (ts.map D.int)] = .nx [x0, some (.loc 0), some (.int k0), some (.int v'), x4'] [.lst (ts'.map D.int)] := by
  obtain ⟨ρ', st', e, ts', v', x4', h1, h2, h3⟩ := forF_inv (ok := fun _ => True) (g := gN 4) (f := law_tape_fb2 a) (its := intsD 0 4)
    (fun k ρ s => ∃ (ts' : List Int) (v' : Int) (x4' : Option D), ts'.length ≤ ts.length + k ∧ ρ = [x0, some (.loc 0), some (.int k0), some (.int v'), x4'] ∧ s = [.lst (ts'.map D.int)])
    (fun _ _ _ _ _ => trivial)
    (fun k d ρ s hd ⟨ts', v', x4', h1, hρ, hs⟩ => by
      subst hρ hs
      obtain ⟨hk, hd2⟩ := mem_ints hd
      rw [Int.zero_add] at hd2
      subst hd2
      have hz : ts'.length < 16777216 := by omega
      refine ⟨_, rfl, _, _, .inl ?_, ts' ++ [(((v' * 48271 + 69621 * (k0 + 1) + 7 * (k : Int)) % 2147483647) * 16807 % 2147483647) / 1000 % 1000], ((v' * 48271 + 69621 * (k0 + 1) + 7 * (k : Int)) % 2147483647) * 16807 % 2147483647, some (.int (k : Int)), by simp; omega, rfl, rfl⟩
      simp [law_tape_fb2, hz, oMod_i, oDiv_i, oMulA_r, oMulA_l])
    (ρ := [x0, some (.loc 0), some (.int k0), some (.int v), x4]) (st := [.lst (ts.map D.int)]) ⟨ts, v, x4, by omega, rfl, rfl⟩
  subst h2 h3
  rw [len_ints] at h1
  refine ⟨ts', v', x4', by omega, ?_⟩
  have hr : wkRange [.int 4] [O.lst (ts.map D.int)] = .ok ⟨intsD 0 4, fun _ => True⟩ [O.lst (ts.map D.int)] := wkRange_n (n := 4) (by omega) _
  simp [law_tape_f2, hr, e]
theorem tape_ok (ns : List Int) (hl : ns.length ≤ 63) : ∃ ts : List Int, ts.length < 100000 ∧ m_law_tape a [.cl (ns.map D.int)] [] = .ok (.loc 0) [.lst (ts.map D.int)] := by
  obtain ⟨ρ', st', e, ts', x2', x3', x4', h1, h2, h3⟩ := forF_inv (ok := fun _ => True) (g := gN 2) (f := law_tape_fb3 a) (its := intsD 0 ns.length)
    (fun k ρ s => ∃ (ts' : List Int) (x2 x3 x4 : Option D), ts'.length ≤ 60 * k ∧ ρ = [some (.cl (ns.map D.int)), some (.loc 0), x2, x3, x4] ∧ s = [.lst (ts'.map D.int)])
    (fun _ _ _ _ _ => trivial)
    (fun k d ρ s hd ⟨ts', x2, x3, x4, h1, hρ, hs⟩ => by
      subst hρ hs
      obtain ⟨hk, hd2⟩ := mem_ints hd
      rw [Int.zero_add] at hd2
      subst hd2
      have hx : atI (ns.map D.int) (k : Int) = some (.int ns[k]) := by
        exact atI_lit (by rw [List.getElem?_map, List.getElem?_eq_getElem hk]; rfl)
      refine ⟨_, rfl, ?_⟩
      by_cases hb : 1000000000000000000 ≤ (if ns[k] < 0 then -ns[k] else ns[k])
      · obtain ⟨ts2, v2, y4, g1, g2⟩ := tape1 a (some (.cl (ns.map D.int))) (some (.int (k : Int))) ts' (if ns[k] < 0 then -ns[k] else ns[k]) x4 (by omega)
        refine ⟨_, _, .inl ?_, ts2, some (.int (k : Int)), some (.int v2), y4, by omega, rfl, rfl⟩
        simp [law_tape_fb3, hx, law_tape_i2, hb, g2]
      · obtain ⟨ts2, v2, y4, g1, g2⟩ := tape2 a (some (.cl (ns.map D.int))) (k : Int) ts' (if ns[k] < 0 then -ns[k] else ns[k]) x4 (by omega)
        refine ⟨_, _, .inl ?_, ts2, some (.int (k : Int)), some (.int v2), y4, by omega, rfl, rfl⟩
        simp [law_tape_fb3, hx, law_tape_i2, hb, g2])
    (ρ := [some (.cl (ns.map D.int)), some (.loc 0), none, none, none]) (st := [.lst []]) ⟨[], none, none, none, by simp, rfl, rfl⟩
  subst h2 h3
  rw [len_ints] at h1
  refine ⟨ts', by omega, ?_⟩
  have hr := wkRange_n (n := ns.length) (by omega) [O.lst []]
  refine gcN (st := []) ⟨[.lst (ts'.map D.int)], 0, ?_, Nat.le_refl _, rfl⟩ (by simp)
  simp [f_law_tape, law_tape_f3, hr, e]
/-! ### picks -/
def Tw (ts : List Int) (n : Int) (Z : Stt) : Stt := .lst (ts.map D.int) :: .lst [.loc 0, .int n] :: Z
variable {ts : List Int} {n : Int} {Z : Stt}
theorem tw_app (J : Stt) : Tw ts n Z ++ J = Tw ts n (Z ++ J) := rfl
theorem tw_len : (Tw ts n Z).length = Z.length + 2 := rfl
@[simp high] theorem tw_0 : (Tw ts n Z)[0]? = some (.lst (ts.map D.int)) := rfl
@[simp high] theorem tw_1 : (Tw ts n Z)[1]? = some (.lst [.loc 0, .int n]) := rfl
theorem tw_at (k : Nat) : (Tw ts n Z)[k + 2]? = Z[k]? := rfl
theorem tw_set (k : Nat) (x : O) : (Tw ts n Z).set (k + 2) x = Tw ts n (Z.set k x) := rfl
theorem tw_new (J : Stt) (k : Nat) : (Tw ts n (Z ++ J))[(Tw ts n Z).length + k]? = J[k]? := by rw [← tw_app, at_add]
theorem tw_old (n' : Int) : ∀ k, k < (Tw ts n Z).length → (Tw ts n' Z)[k]? = (Tw ts n Z)[k]? ∨ ∃ o, (Tw ts n' Z)[k]? = some o ∧ LowO (Tw ts n Z).length o
  | 0, _ => .inl rfl
  | 1, _ => .inr ⟨_, rfl, by simp [tw_len]⟩
  | k + 2, _ => .inl rfl
theorem gcT {g : Fn} {ds : List D} {d : D} {n' : Int} (h : ∃ J, g ds (Tw ts n Z) = .ok d (Tw ts n' (Z ++ J))) (w : Low (Tw ts n Z).length d) : gcB g ds (Tw ts n Z) = .ok d (Tw ts n' Z) :=
  gcS (st := Tw ts n Z) (s := Tw ts n' Z) h rfl (tw_old n') w
theorem gcTN {g : Fn} {ds : List D} {o : O} {n' : Int} (h : ∃ J k, g ds (Tw ts n Z) = .ok (.loc k) (Tw ts n' (Z ++ J)) ∧ (Tw ts n Z).length ≤ k ∧ (Tw ts n' (Z ++ J))[k]? = some o) (w : LowO (Tw ts n Z).length o) : gcB g ds (Tw ts n Z) = .ok (.loc (Tw ts n Z).length) (Tw ts n' (Z ++ [o])) :=
  gcSN (st := Tw ts n Z) (s := Tw ts n' Z) h rfl (tw_old n') w
theorem at_ok (k : Int) (h0 : 0 ≤ k) : ∃ x, m_law_at a [.loc 0, .int k] (Tw ts n Z) = .ok (.int x) (Tw ts n Z) := by
  by_cases h : k < ts.length
  · obtain ⟨x, hx⟩ : ∃ x, ts[k.toNat]? = some x := ⟨ts[k.toNat]'(by omega), List.getElem?_eq_getElem (by omega)⟩
    have hx2 : atI (ts.map D.int) k = some (.int x) := atI_of h0 (by rw [List.getElem?_map, hx]; rfl)
    refine ⟨x, gcE ⟨[], ?_⟩ (by simp)⟩
    simp [f_law_at, law_at_i1, h, hx2]
  · refine ⟨0, gcE ⟨[], ?_⟩ (by simp)⟩
    simp [f_law_at, law_at_i1, h]
theorem pick_ok (many : Int) (h0 : 0 ≤ n) (h1 : n < 1000000000) (hm : 0 < many) : ∃ v, 0 ≤ v ∧ v < many ∧ m_law_pick a [.loc 1, .int many] (Tw ts n Z) = .ok (.int v) (Tw ts (n + 1) Z) := by
  obtain ⟨x, hx⟩ := at_ok a (ts := ts) (n := n + 1) (Z := Z) ((n + 1) % 200) (by omega)
  obtain ⟨y, hy⟩ := at_ok a (ts := ts) (n := n + 1) (Z := Z) 1 (by omega)
  refine ⟨(x * 31 + (n + 1) * (n + 1) + y) % many, Int.emod_nonneg _ (by omega), Int.emod_lt_of_pos _ hm, ?_⟩
  refine gcT ⟨[], ?_⟩ (by simp)
  have m1 : oMulA (.int (n + 1)) (.int (n + 1)) (Tw ts (n + 1) Z) = some (.int ((n + 1) * (n + 1)), Tw ts (n + 1) Z) := oMulA_r ⟨by omega, by omega⟩ _
  have m2 : oMulA (.int x) (.int 31) (Tw ts (n + 1) Z) = some (.int (x * 31), Tw ts (n + 1) Z) := oMulA_r ⟨by decide, by decide⟩ _
  have s1 : (Tw ts n Z).set 1 (.lst [.loc 0, .int (n + 1)]) = Tw ts (n + 1) Z := rfl
  have i1 : ixN 2 1 = some 1 := by decide
  simp [f_law_pick, hx, hy, m1, m2, s1, i1, oMod_i hm, oMod_i (show (0 : Int) < 200 by decide)]
end
end Law

set_option Elab.async false
set_option linter.all false
set_option maxRecDepth 100000
set_option maxHeartbeats 2000000
namespace Law
open PySem PySem.Spec PyProof.Rows L2 Rg
/-! ### drawn values -/
def SGN : List Nat := [97, 49, 59, 58, 40, 41, 116, 111, 60, 10, 32, 34]
theorem sgn_all : ∀ c ∈ SGN, isSgn c = true := by decide
theorem isSgn_lt {c : Nat} (h : isSgn c = true) : c < 127 := by
  unfold isSgn at h
  have := of_decide_eq_true h
  omega
def CC : Nat → Nat
  | 0 => 16
  | j + 1 => 3 * CC j + 16
def SZ : Nat → Nat
  | 0 => 18
  | j + 1 => 3 * SZ j + 18
theorem cc_le : ∀ j, j ≤ 4 → CC j ≤ 5000 := by decide
theorem sz_le : ∀ j, j ≤ 4 → SZ j ≤ 5000 := by decide
theorem cc_16 : ∀ j, 16 ≤ CC j
  | 0 => by decide
  | j + 1 => by unfold CC; omega
theorem sz_18 : ∀ j, 18 ≤ SZ j
  | 0 => by decide
  | j + 1 => by unfold SZ; omega
structure VR (j : Nat) (f : F) : Prop where
  okw : okW f = true
  dp : dep f ≤ j
  sz : (wf f).length ≤ SZ j
  okd : ∀ d ∈ dsF f, okD (j + 2) d = true
section
variable (a : Ads) {ts : List Int} {n : Int} {Z : Stt} {j k : Nat}
theorem kind_eq (self : Fn) {v : Int} (lev : Int) : law_value_i3 a self [some (.loc 1), some (.int lev), some (.int v), none] (Tw ts n Z) = if v = 0 then .rt .non (Tw ts n Z) else .nx [some (.loc 1), some (.int lev), some (.int v), none] (Tw ts n Z) := by
  by_cases h : v = 0 <;> simp [law_value_i3, h]
theorem val_non (lev : Int) (hp : m_law_pick a [.loc 1, .int 5] (Tw ts n Z) = .ok (.int 0) (Tw ts (n + 1) Z)) : m_law_value a (k + 1) [.loc 1, .int lev] (Tw ts n Z) = .ok .non (Tw ts (n + 1) Z) := by
  refine gcT ⟨[], ?_⟩ (by simp)
  simp [f_law_value, hp, law_value_i3]
theorem val_int (lev : Int) (h0 : 0 ≤ n) (h1 : n < 990000000) (hp : m_law_pick a [.loc 1, .int 5] (Tw ts n Z) = .ok (.int 1) (Tw ts (n + 1) Z)) : ∃ m : Nat, m < 1000000000 ∧ m_law_value a (k + 1) [.loc 1, .int lev] (Tw ts n Z) = .ok (.int (m : Int)) (Tw ts (n + 3) Z) := by
  obtain ⟨u, u0, u1, hu⟩ := pick_ok a (ts := ts) (n := n + 1) (Z := Z) 100 (by omega) (by omega) (by omega)
  obtain ⟨v, v0, v1, hv⟩ := pick_ok a (ts := ts) (n := n + 1 + 1) (Z := Z ++ [.lst [.int 0, .int 7, .int 10, .int 123456789, .int u]]) 5 (by omega) (by omega) (by omega)
  obtain ⟨m, hm, hx⟩ : ∃ m : Nat, m < 1000000000 ∧ atI [D.int 0, .int 7, .int 10, .int 123456789, .int u] v = some (.int (m : Int)) := by
    have hv5 : v = 0 ∨ v = 1 ∨ v = 2 ∨ v = 3 ∨ v = 4 := by omega
    rcases hv5 with e | e | e | e | e <;> subst e
    · exact ⟨0, by omega, by simp⟩
    · exact ⟨7, by omega, by simp⟩
    · exact ⟨10, by omega, by simp⟩
    · exact ⟨123456789, by omega, by simp⟩
    · exact ⟨u.toNat, by omega, by rw [atI_of (x := D.int u) (by omega) rfl]; congr 2; omega⟩
  refine ⟨m, hm, ?_⟩
  rw [show n + 3 = n + 1 + 1 + 1 by omega]
  have c0 : (Tw ts (n + 1 + 1 + 1) (Z ++ [O.lst [.int 0, .int 7, .int 10, .int 123456789, .int u]]))[Z.length + 2]? = some (.lst [.int 0, .int 7, .int 10, .int 123456789, .int u]) := by rw [tw_at]; simp
  have ix : oIx (.loc (Z.length + 2)) (.int v) (Tw ts (n + 1 + 1 + 1) (Z ++ [O.lst [.int 0, .int 7, .int 10, .int 123456789, .int u]])) = some (.int (m : Int), Tw ts (n + 1 + 1 + 1) (Z ++ [O.lst [.int 0, .int 7, .int 10, .int 123456789, .int u]])) := oIx_of (items_loc c0) hx
  refine gcT ⟨[.lst [.int 0, .int 7, .int 10, .int 123456789, .int u]], ?_⟩ (by simp)
  simp [-oIx_at, f_law_value, hp, law_value_i3, law_value_i2, hu, tw_app, tw_len, hv, ix]
theorem val_str (lev v : Int) (h0 : 0 ≤ n) (h1 : n < 990000000) (n0 : v ≠ 0) (n1 : v ≠ 1) (hc : v = 2 ∨ 3 < lev) (hp : m_law_pick a [.loc 1, .int 5] (Tw ts n Z) = .ok (.int v) (Tw ts (n + 1) Z)) : ∃ (l : List Nat) (n' : Int), l.length < 13 ∧ l.all isSgn = true ∧ n ≤ n' ∧ n' ≤ n + 16 ∧ m_law_value a (k + 1) [.loc 1, .int lev] (Tw ts n Z) = .ok (.str (tx l)) (Tw ts n' Z) := by
  obtain ⟨u, u0, u1, hu⟩ := pick_ok a (ts := ts) (n := n + 1) (Z := Z) 13 (by omega) (by omega) (by omega)
  obtain ⟨st', acc, e, l, n', g1, g2, g3, g4, g6⟩ := compF_inv (L := (Tw ts n Z).length) (ok := fun _ => True) (g := gN 3) (t := xYes) (f := x2 oIx (xC (.str (tx SGN))) (xFn (m_law_pick a) (xCons (xV 0) (xCons (xC (.int 12)) xNil)))) (ρ := [some (.loc 1), some (.int lev), some (.int v), none]) (its := intsD 0 u.toNat)
    (fun k st acc => ∃ (l : List Nat) (n' : Int), acc = chD l ∧ l.length = k ∧ l.all isSgn = true ∧ n' = n + 1 + 1 + k ∧ st = Tw ts n' (Z ++ [.lst acc]))
    (fun _ _ _ _ _ => trivial)
    (fun k y st acc hk ⟨l, n', g1, g2, g3, g4, g5⟩ => by
      subst g5
      have hkl := (mem_ints hk).1
      obtain ⟨w, w0, w1, hw⟩ := pick_ok a (ts := ts) (n := n') (Z := Z ++ [.lst acc]) 12 (by omega) (by omega) (by omega)
      have hL : SGN.length = 12 := rfl
      obtain ⟨c, hc⟩ : ∃ c, SGN[w.toNat]? = some c := ⟨SGN[w.toNat]'(by omega), List.getElem?_eq_getElem (by omega)⟩
      have hat : atI SGN w = some c := atI_of w0 hc
      have hz : acc.length < sizeLine := by rw [sizeLine_eq, g1, List.length_map]; omega
      refine ⟨_, rfl, true, _, rfl, (fun h => by cases h), fun _ => ⟨.str ⟨#[c]⟩, Tw ts (n' + 1) (Z ++ [.lst acc]), ?_, ?_, hz, l ++ [c], n' + 1, by simp [g1], by simp [g2], ?_, by omega, ?_⟩⟩
      · simp [hw, hat, hL]
      · exact lstAt_loc (by rw [← Nat.add_zero (Tw ts n Z).length]; exact tw_new [.lst acc] 0)
      · rw [List.all_append, g3]; simp [sgn_all c (List.mem_of_getElem? hc)]
      · rw [tw_len, tw_set]; simp)
    (st := Tw ts (n + 1 + 1) (Z ++ [.lst []])) ⟨[], n + 1 + 1, rfl, rfl, rfl, by simp, rfl⟩
  rw [len_ints] at g2 g4
  subst g1 g6
  refine ⟨l, n', by omega, g3, by omega, by omega, ?_⟩
  have hr := wkRange_i (i := u) (by omega) (by omega) (Tw ts (n + 1 + 1) Z)
  refine gcT ⟨[.lst (chD l)], ?_⟩ (by simp)
  have hi : items (Tw ts n' (Z ++ [O.lst (chD l)])) (.loc (Tw ts n Z).length) = some (chD l) := items_loc (by rw [← Nat.add_zero (Tw ts n Z).length]; exact tw_new [.lst _] 0)
  have hs : (List.map ((fun x : Str => x.length) ∘ fun c => (⟨#[c]⟩ : Str)) l).sum ≤ 16777216 := by rw [sum_1]; omega
  have hl : (Tw ts (n + 1 + 1) Z).length = (Tw ts n Z).length := rfl
  simp only [SGN] at e
  rcases hc with hc | hc
  · subst hc
    simp [-items_at, f_law_value, hp, law_value_i3, law_value_i2, law_value_i1, hu, hr, e, hi, txts_1, join_1, hs, tw_app, hl]
  · simp [-items_at, f_law_value, hp, law_value_i3, law_value_i2, law_value_i1, n0, n1, hc, hu, hr, e, hi, txts_1, join_1, hs, tw_app, hl]
theorem val_tup (lev v : Int) (h0 : 0 ≤ n) (h1 : n < 990000000) (hj : j ≤ 4) (n0 : v ≠ 0) (n1 : v ≠ 1) (n2 : v ≠ 2) (hlev : ¬ 3 < lev) (hp : m_law_pick a [.loc 1, .int 5] (Tw ts n Z) = .ok (.int v) (Tw ts (n + 1) Z))
    (ih : ∀ (m : Int) (Y : Stt), n ≤ m → m ≤ n + 20000 → ∃ f d m', VR j f ∧ dsF f = [d] ∧ m ≤ m' ∧ m' ≤ m + CC j ∧ m_law_value a k [.loc 1, .int (lev + 1)] (Tw ts m Y) = .ok d (Tw ts m' Y)) :
    ∃ (c : F) (n' : Int), VR (j + 1) (.tup c .nil) ∧ n ≤ n' ∧ n' ≤ n + CC (j + 1) ∧ m_law_value a (k + 1) [.loc 1, .int lev] (Tw ts n Z) = .ok (.tup (dsF c)) (Tw ts n' Z) := by
  obtain ⟨u, u0, u1, hu⟩ := pick_ok a (ts := ts) (n := n + 1) (Z := Z) 4 (by omega) (by omega) (by omega)
  have hcc := cc_le j hj
  have hsz := sz_le j hj
  obtain ⟨st', acc, e, c, n', g1, g2, g3, g4, g5, g6, g7, g8, g9⟩ := compF_inv (L := (Tw ts n Z).length) (ok := fun _ => True) (g := gN 3) (t := xYes) (f := xFn (m_law_value a k) (xCons (xV 0) (xCons (x2 oAdd (xV 1) (xC (.int 1))) xNil))) (ρ := [some (.loc 1), some (.int lev), some (.int v), none]) (its := intsD 0 u.toNat)
    (fun i st acc => ∃ (c : F) (n' : Int), acc = dsF c ∧ acc.length = i ∧ okW c = true ∧ dep c ≤ j ∧ (wf c).length ≤ i * SZ j ∧ (∀ d ∈ dsF c, okD (j + 2) d = true) ∧ n + 1 + 1 ≤ n' ∧ n' ≤ n + 1 + 1 + (i * CC j : Nat) ∧ st = Tw ts n' (Z ++ [.lst acc]))
    (fun _ _ _ _ _ => trivial)
    (fun i y st acc hk ⟨c, n', g1, g2, g3, g4, g5, g6, g7, g8, g9⟩ => by
      subst g9
      have hil := (mem_ints hk).1
      have hi4 : i ≤ 3 := by omega
      have hic : i * CC j ≤ 3 * 5000 := Nat.mul_le_mul hi4 hcc
      obtain ⟨f, d, m', ⟨w1, w2, w3, w4⟩, q2, q3, q4, q5⟩ := ih n' (Z ++ [.lst acc]) (by omega) (by omega)
      have hz : acc.length < sizeLine := by rw [sizeLine_eq]; omega
      have okapp : ∀ f g : F, okW f = true → okW g = true → okW (app f g) = true := by
        intro f g hf hg
        induction f with
        | nil => exact hg
        | non r ihr => exact ihr hf
        | int n r ihr => simp only [okW, app, Bool.and_eq_true] at hf ⊢; exact ⟨hf.1, ihr hf.2⟩
        | str l r ihr => simp only [okW, app, Bool.and_eq_true] at hf ⊢; exact ⟨hf.1, ihr hf.2⟩
        | tup c r _ ihr => simp only [okW, app, Bool.and_eq_true] at hf ⊢; exact ⟨hf.1, ihr hf.2⟩
      have depapp : ∀ f g : F, dep f ≤ j → dep g ≤ j → dep (app f g) ≤ j := by
        intro f g hf hg
        induction f with
        | nil => exact hg
        | non r ihr => exact ihr hf
        | int n r ihr => exact ihr hf
        | str l r ihr => exact ihr hf
        | tup c r _ ihr => simp only [dep, app] at hf ⊢; have := ihr (by omega); omega
      refine ⟨_, rfl, true, _, rfl, (fun h => by cases h), fun _ => ⟨d, Tw ts m' (Z ++ [.lst acc]), ?_, ?_, hz, app c f, m', by rw [ds_app, g1, q2], by simp [g2], okapp _ _ g3 w1, depapp _ _ g4 w2, ?_, ?_, by omega, ?_, ?_⟩⟩
      · simp [q5]
      · exact lstAt_loc (by rw [← Nat.add_zero (Tw ts n Z).length]; exact tw_new [.lst acc] 0)
      · rw [wf_app, List.length_append, Nat.succ_mul]; omega
      · intro x hx
        rw [ds_app] at hx
        rcases List.mem_append.mp hx with hx | hx
        · exact g6 x hx
        · exact w4 x hx
      · rw [Nat.succ_mul]; omega
      · rw [tw_len, tw_set]; simp)
    (st := Tw ts (n + 1 + 1) (Z ++ [.lst []])) ⟨.nil, n + 1 + 1, rfl, rfl, rfl, Nat.zero_le _, by simp [wf], (fun _ h => by cases h), by omega, by simp, rfl⟩
  rw [len_ints] at g2 g5 g8
  subst g9
  have hu3 : u.toNat ≤ 3 := by omega
  have b1 : u.toNat * SZ j ≤ 3 * SZ j := Nat.mul_le_mul_right _ hu3
  have b2 : u.toNat * CC j ≤ 3 * CC j := Nat.mul_le_mul_right _ hu3
  refine ⟨c, n', ⟨by simp [okW, g3], by simp [dep]; omega, by simp [wf, SZ]; omega, ?_⟩, by omega, by unfold CC; omega, ?_⟩
  · intro x hx
    rcases List.mem_cons.mp hx with e | hx
    · rw [e]
      exact List.all_eq_true.mpr g6
    · cases hx
  · have hr := wkRange_i (i := u) (by omega) (by omega) (Tw ts (n + 1 + 1) Z)
    refine gcT ⟨[.lst acc], ?_⟩ (by
      rw [low_tup]
      exact low_ds _ c)
    have ft : fTuple [.loc (Tw ts n Z).length] (Tw ts n' (Z ++ [O.lst acc])) = some (.tup (dsF c), Tw ts n' (Z ++ [O.lst acc])) := by
      have := tw_new (ts := ts) (n := n') (Z := Z) [.lst acc] 0
      rw [Nat.add_zero] at this
      rw [fTuple_at, show (Tw ts n Z).length = (Tw ts n' Z).length from rfl, this, g1]
      rfl
    have hl : (Tw ts (n + 1 + 1) Z).length = (Tw ts n Z).length := rfl
    simp [-fTuple_at, f_law_value, hp, law_value_i3, law_value_i2, law_value_i1, n0, n1, n2, hlev, hu, hr, e, ft, tw_app, hl]
theorem vr_simple {f : F} (h1 : okW f = true) (h2 : dep f = 0) (h3 : (wf f).length ≤ 18) (h4 : ∀ d ∈ dsF f, okD 2 d = true) (j : Nat) : VR j f := ⟨h1, by omega, Nat.le_trans h3 (sz_18 j), fun d hd => okD_le (by omega) (h4 d hd)⟩
theorem value_ok : ∀ (j k : Nat) (n : Int) (Z : Stt), j < k → j ≤ 4 → 0 ≤ n → n + 20000 * ((j : Int) + 1) < 990000000 → ∃ f d n', one f = true ∧ VR j f ∧ dsF f = [d] ∧ n ≤ n' ∧ n' ≤ n + CC j ∧ m_law_value a k [.loc 1, .int (4 - (j : Int))] (Tw ts n Z) = .ok d (Tw ts n' Z) := by
  intro j
  induction j with
  | zero =>
    intro k n Z hjk _ h0 h1
    obtain ⟨k, rfl⟩ : ∃ i, k = i + 1 := ⟨k - 1, by omega⟩
    obtain ⟨v, v0, v1, hp⟩ := pick_ok a (ts := ts) (n := n) (Z := Z) 5 h0 (by omega) (by omega)
    have hcc := cc_16 0
    by_cases e0 : v = 0
    · subst e0
      exact ⟨.non .nil, .non, n + 1, rfl, vr_simple rfl rfl (by simp [wf]) (by simp [dsF, okD]) 0, rfl, by omega, by omega, val_non a _ hp⟩
    · by_cases e1 : v = 1
      · subst e1
        obtain ⟨m, hm, h⟩ := val_int a (k := k) (4 - ((0 : Nat) : Int)) h0 (by omega) hp
        have hl := (nL_can hm).2.1
        exact ⟨.int m .nil, _, n + 3, rfl, vr_simple (by simp [okW, hm]) rfl (by simp [wf]; omega) (by simp [dsF, okD]) 0, rfl, by omega, by omega, h⟩
      · obtain ⟨l, n', l1, l2, l3, l4, h⟩ := val_str a (k := k) (4 - ((0 : Nat) : Int)) v h0 (by omega) e0 e1 (.inr (by omega)) hp
        have hl : (nL l.length).length ≤ 2 := TL.numL_len (by omega) (by omega)
        refine ⟨.str l .nil, _, n', rfl, vr_simple (by simp [okW, l2]; omega) rfl (by simp [wf]; omega) ?_ 0, rfl, l3, by omega, h⟩
        intro d hd
        rw [List.mem_singleton.mp hd]
        show PyData.strOk (tx l) = true
        rw [strOk_l]
        exact List.all_eq_true.mpr fun c hc => decide_eq_true (by have := isSgn_lt (List.all_eq_true.mp l2 c hc); omega)
  | succ j ihj =>
    intro k n Z hjk hj4 h0 h1
    obtain ⟨k, rfl⟩ : ∃ i, k = i + 1 := ⟨k - 1, by omega⟩
    obtain ⟨v, v0, v1, hp⟩ := pick_ok a (ts := ts) (n := n) (Z := Z) 5 h0 (by omega) (by omega)
    have hcc := cc_16 (j + 1)
    by_cases e0 : v = 0
    · subst e0
      exact ⟨.non .nil, .non, n + 1, rfl, vr_simple rfl rfl (by simp [wf]) (by simp [dsF, okD]) _, rfl, by omega, by omega, val_non a _ hp⟩
    · by_cases e1 : v = 1
      · subst e1
        obtain ⟨m, hm, h⟩ := val_int a (k := k) (4 - ((j + 1 : Nat) : Int)) h0 (by omega) hp
        have hl := (nL_can hm).2.1
        exact ⟨.int m .nil, _, n + 3, rfl, vr_simple (by simp [okW, hm]) rfl (by simp [wf]; omega) (by simp [dsF, okD]) _, rfl, by omega, by omega, h⟩
      · by_cases e2 : v = 2
        · obtain ⟨l, n', l1, l2, l3, l4, h⟩ := val_str a (k := k) (4 - ((j + 1 : Nat) : Int)) v h0 (by omega) e0 e1 (.inl e2) hp
          have hl : (nL l.length).length ≤ 2 := TL.numL_len (by omega) (by omega)
          refine ⟨.str l .nil, _, n', rfl, vr_simple (by simp [okW, l2]; omega) rfl (by simp [wf]; omega) ?_ _, rfl, l3, by omega, h⟩
          intro d hd
          rw [List.mem_singleton.mp hd]
          show PyData.strOk (tx l) = true
          rw [strOk_l]
          exact List.all_eq_true.mpr fun c hc => decide_eq_true (by have := isSgn_lt (List.all_eq_true.mp l2 c hc); omega)
        · obtain ⟨c, n', q1, q2, q3, h⟩ := val_tup a (j := j) (k := k) (4 - ((j + 1 : Nat) : Int)) v h0 (by omega) (by omega) e0 e1 e2 (by omega) hp (fun m Y m1 m2 => by
            obtain ⟨f, d, m', _, w2, w3, w4, w5, w6⟩ := ihj k m Y (by omega) (by omega) (by omega) (by omega)
            refine ⟨f, d, m', w2, w3, w4, w5, ?_⟩
            rw [show 4 - ((j + 1 : Nat) : Int) + 1 = 4 - (j : Int) by omega]
            exact w6)
          exact ⟨.tup c .nil, _, n', rfl, q1, rfl, q2, q3, h⟩
end
end Law

set_option Elab.async false
set_option linter.all false
set_option maxRecDepth 100000
set_option maxHeartbeats 2000000
namespace Law
open PySem PySem.Spec PyProof.Rows L2 Rg
section
variable (a : Ads) {st : Stt} {d x : D}
theorem ca_st_b : ca_StreamError a a.c_BadByte = some true := by unfold ca_StreamError; split; rfl; rw [if_pos rfl]
theorem ca_st_n : ca_StreamError a a.c_NotValid = some true := by unfold ca_StreamError; rw [if_pos rfl]
theorem told_val (h : m_read_word a [x] st = .ok d st) (hl : Low st.length d) : m_law_told a [x] st = .ok (.tup [.str (tx [118, 97, 108, 117, 101]), d]) st := by
  refine gcE ⟨[], ?_⟩ (by simp; exact hl)
  simp [f_law_told, law_told_t1, h]
theorem told_bad {q : Nat} (h : m_read_word a [x] st = .ex (BB a q) st) : m_law_told a [x] st = .ok (.tup [.str (tx [98, 121, 116, 101]), .int (q : Int)]) st := by
  refine gcE ⟨[], ?_⟩ (by simp)
  have h1 := ca_st_b a
  have h2 : ca_BadByte a a.c_BadByte = some true := by unfold ca_BadByte; rw [if_neg (Ne.symm a.q_NotValid_BadByte), if_pos rfl]
  have h3 : fa_place a a.c_BadByte = some true := by unfold fa_place; rw [if_pos rfl]
  simp [f_law_told, law_told_t1, law_told_i1, h, h1, h2, h3]
theorem told_nv (h : m_read_word a [x] st = .ex (NV a) st) : m_law_told a [x] st = .ok (.tup [.str (tx [114, 101, 102, 117, 115, 101, 100]), .bl true]) st := by
  refine gcE ⟨[], ?_⟩ (by simp)
  have h1 := ca_st_n a
  have h2 : ca_BadByte a a.c_NotValid = some false := by unfold ca_BadByte; rw [if_pos rfl]
  have h3 : ca_NotValid a a.c_NotValid = some true := by unfold ca_NotValid; rw [if_pos rfl]
  simp [f_law_told, law_told_t1, law_told_i1, h, h1, h2, h3]
end
theorem cut_ints (bs : List Int) (lo hi : Option Int) : ∃ bs' : List Int, cutD (bs.map D.int) lo hi = bs'.map D.int ∧ bs'.length ≤ bs.length := by
  refine ⟨(bs.drop (HT.sIx bs.length 0 lo)).take (HT.sIx bs.length bs.length hi - HT.sIx bs.length 0 lo), ?_, ?_⟩
  · rw [cutD_run, List.length_map, List.map_take, List.map_drop]
  · rw [List.length_take, List.length_drop]; omega
section
variable (a : Ads) {bs : List Int}
/-- the three lists of which one is drawn -/
noncomputable def x3L : XE := xLst (xCons (xSl oSlA (xV 3) (xON) (xOS (xV 6))) (xCons (x2 oAdd (x2 oAdd (xSl oSlA (xV 3) (xON) (xOS (xV 6))) (xLst (xCons (xV 7) (xNil)))) (xSl oSlA (xV 3) (xOS (xV 6)) (xON))) (xCons (x2 oAdd (x2 oAdd (xSl oSlA (xV 3) (xON) (xOS (xV 6))) (xLst (xCons (xV 7) (xNil)))) (xSl oSlA (xV 3) (xOS (x2 oAdd (xV 6) (xC (.int 1)))) (xON))) (xNil))))
theorem bent_ok {s : Stt} {n : Nat} (hd : s[n]? = some (.lst (bs.map D.int))) (hz : bs.length < 500000) (v w : Int) (x0 x1 x2 x4 x5 x8 x9 x10 x11 : Option D) : ∃ (J : Stt) (b0 b1 b2 : List Int), x3L [x0, x1, x2, some (.loc n), x4, x5, some (.int v), some (.int w), x8, x9, x10, x11] s = .ok (.loc (s.length + 11)) (s ++ J) ∧ J[11]? = some (.lst [.loc s.length, .loc (s.length + 5), .loc (s.length + 10)]) ∧ J[0]? = some (.lst (b0.map D.int)) ∧ J[5]? = some (.lst (b1.map D.int)) ∧ J[10]? = some (.lst (b2.map D.int)) ∧ b0.length ≤ 2 * bs.length + 1 ∧ b1.length ≤ 2 * bs.length + 1 ∧ b2.length ≤ 2 * bs.length + 1 := by
  obtain ⟨A, hA, lA⟩ := cut_ints bs none (some v)
  obtain ⟨B, hB, lB⟩ := cut_ints bs (some v) none
  obtain ⟨C, hC, lC⟩ := cut_ints bs (some (v + 1)) none
  have h2 : ∀ J, (s ++ J)[n]? = some (.lst (bs.map D.int)) := fun J => at_old hd J
  have l1 : A.length + 1 ≤ 16777216 := by omega
  have l2 : A.length + (B.length + 1) ≤ 16777216 := by omega
  have l3 : A.length + (C.length + 1) ≤ 16777216 := by omega
  have l4 : A.length + 1 + B.length ≤ 16777216 := by omega
  have l5 : A.length + 1 + C.length ≤ 16777216 := by omega
  refine ⟨[.lst (A.map D.int), .lst (A.map D.int), .lst [.int w], .lst ((A ++ [w]).map D.int), .lst (B.map D.int), .lst ((A ++ [w] ++ B).map D.int), .lst (A.map D.int), .lst [.int w], .lst ((A ++ [w]).map D.int), .lst (C.map D.int), .lst ((A ++ [w] ++ C).map D.int), .lst [.loc s.length, .loc (s.length + 5), .loc (s.length + 10)]], A, A ++ [w] ++ B, A ++ [w] ++ C, ?_, rfl, rfl, rfl, rfl, by omega, by simp; omega, by simp; omega⟩
  unfold x3L
  simp [-cutD_run, hd, h2, hA, hB, hC, l1, l2, l3, l4, l5]
end
end Law

set_option Elab.async false
set_option linter.all false
set_option maxRecDepth 100000
set_option maxHeartbeats 2000000
namespace Law
open PySem PySem.Spec PyProof.Rows L2 Rg
def BY : List Int := [40, 41, 48, 49, 57, 58, 59, 110, 111, 116, 97, 37, 200, -1, 10]
section
variable (a : Ads) {ts : List Int} {n : Int} {bs : List Int} {Y : Stt}
noncomputable def xBY : XE := xLst (xCons (xC (.int 40)) (xCons (xC (.int 41)) (xCons (xC (.int 48)) (xCons (xC (.int 49)) (xCons (xC (.int 57)) (xCons (xC (.int 58)) (xCons (xC (.int 59)) (xCons (xC (.int 110)) (xCons (xC (.int 111)) (xCons (xC (.int 116)) (xCons (xC (.int 97)) (xCons (xC (.int 37)) (xCons (xC (.int 200)) (xCons (x1 oNeg (xC (.int 1))) (xCons (xC (.int 10)) (xNil))))))))))))))))
theorem xBY_run (ρ : En) (s : Stt) : xBY ρ s = .ok (.loc s.length) (s ++ [.lst (BY.map D.int)]) := by
  unfold xBY
  simp [BY]
theorem fb2_eq : law_fb2 a = sCons (sSet 6 (xFn (m_law_pick a) (xCons (xV 1) (xCons (x2 oAdd (xCall fLen (xCons (xV 3) xNil)) (xC (.int 1))) xNil)))) (sCons (sSet 7 (x2 oIx xBY (xFn (m_law_pick a) (xCons (xV 1) (xCons (xC (.int 15)) xNil))))) (sCons (sSet 8 (x2 oIx x3L (xFn (m_law_pick a) (xCons (xV 1) (xCons (xC (.int 3)) xNil))))) (sCons (sSet 9 (xFn (m_law_fault a) (xCons (xV 8) xNil))) (sCons (sSet 10 (xFn (m_law_told a) (xCons (xV 8) xNil))) (sCons (law_i2 a) sNil))))) := rfl
/-- what is asked of a list of bytes -/
theorem i2_ok {s : Stt} {m : Nat} (hd : s[m]? = some (.lst (bs.map D.int))) (hz : bs.length < 400000) (z0 z1 z2 z3 z4 z5 z6 z7 z11 : Option D) : ∃ (z9 z10 : D) (J : Stt), m_law_fault a [.loc m] s = .ok z9 s ∧ m_law_told a [.loc m] s = .ok z10 s ∧ law_i2 a [z0, z1, z2, z3, z4, z5, z6, z7, some (.loc m), some z9, some z10, z11] s = .nx [z0, z1, z2, z3, z4, z5, z6, z7, some (.loc m), some z9, some z10, z11] (s ++ J) := by
  have hf := fault_ok a hd (by omega)
  have hr := read_ok a hd (by omega)
  have ok0 : Okst [F.nil] := ⟨by simp, by simp, fun f hf => .inl (by simpa using hf.symm)⟩
  have hfl := rd_fl WN [.nil] 0 bs [] 0 (by have := wn_big; omega) ok0
  have hfin : fin [F.nil] = false := rfl
  rw [hfin] at hfl
  have hfl : fl 0 .value [] 0 0 bs = res (rd WN [.nil] 0 bs) := hfl
  rw [hfl] at hf
  cases hrd : rd WN [.nil] 0 bs with
  | bad q =>
    rw [hrd] at hf hr
    have ht := told_bad a hr
    refine ⟨_, _, [], hf, ht, ?_⟩
    have q1 : (0 : Int) ≤ (q : Int) := by omega
    have q2 : ¬ (q : Int) < 0 := by omega
    have e := oNe_same (deq_self (st := s) (toD_ok 60 (.tup [.str (tx [98, 121, 116, 101]), .int (q : Int)]) (by simp [okD]; rw [strOk_l]; rfl)))
    simp [law_i2, res, fres, q1, q2, e]
  | ok f =>
    rw [hrd] at hf hr
    obtain ⟨d, hdd, hr⟩ := hr
    have ht := told_val a hr (low_ds _ f d (by rw [hdd]; simp))
    obtain ⟨l, k1, k2, k3, k4⟩ := rd_sound WN [.nil] 0 bs ok0 (fun g hg => by rw [List.mem_singleton.mp hg]; rfl) hrd
    have k2 : l = wf f := k2
    subst k2
    have hl : (wf f).length = bs.length := by rw [k1]; simp
    have hw := write_ok a (st := s) k3 hdd (by omega) trivial
    refine ⟨_, _, [.lst ((wf f).map fun (c : Nat) => D.int (c : Int))], hf, ht, ?_⟩
    have e0 : bs.map D.int = (wf f).map fun (c : Nat) => D.int (c : Int) := by rw [k1]; simp [Function.comp_def]
    rw [e0] at hd
    have hall : ((wf f).map fun (c : Nat) => D.int (c : Int)).all (okD 59) = true := List.all_eq_true.mpr fun d hd => by
      obtain ⟨c, _, rfl⟩ := List.mem_map.mp hd
      rfl
    generalize hL : ((wf f).map fun (c : Nat) => D.int (c : Int)) = L at hd hw hall
    have hok : L.mapM (toD (s ++ [.lst L]) 59) = some (L.map (datD 59)) := mapM_ok (fun d h => toD_ok 59 d h) L hall
    have c1 : (s ++ [O.lst L])[s.length]? = some (.lst L) := at_0 s _ []
    have c2 : (s ++ [O.lst L])[m]? = some (.lst L) := at_old hd _
    have e := oNe_same (deq_lists c1 c2 hok)
    simp [law_i2, res, fres, hw, e]
theorem round_ok (h0 : 0 ≤ n) (h1 : n < 990000000) (hz : bs.length < 100000) (z0 z2 z4 z5 z6 z7 z8 z9 z10 z11 : Option D) : ∃ (Y' : Stt) (y6 y7 y8 y9 y10 : Option D), law_fb2 a [z0, some (.loc 1), z2, some (.loc 2), z4, z5, z6, z7, z8, z9, z10, z11] (Tw ts n (.lst (bs.map D.int) :: Y)) = .nx [z0, some (.loc 1), z2, some (.loc 2), z4, z5, y6, y7, y8, y9, y10, z11] (Tw ts (n + 3) (.lst (bs.map D.int) :: Y')) := by
  obtain ⟨v, v0, v1, hv⟩ := pick_ok a (ts := ts) (n := n) (Z := .lst (bs.map D.int) :: Y) (bs.length + 1) h0 (by omega) (by omega)
  have hdat : ∀ m Y, (Tw ts m (.lst (bs.map D.int) :: Y))[2]? = some (.lst (bs.map D.int)) := fun m Y => tw_at 0
  have s6 : sSet 6 (xFn (m_law_pick a) (xCons (xV 1) (xCons (x2 oAdd (xCall fLen (xCons (xV 3) xNil)) (xC (.int 1))) xNil))) [z0, some (.loc 1), z2, some (.loc 2), z4, z5, z6, z7, z8, z9, z10, z11] (Tw ts n (.lst (bs.map D.int) :: Y)) = .nx [z0, some (.loc 1), z2, some (.loc 2), z4, z5, some (.int v), z7, z8, z9, z10, z11] (Tw ts (n + 1) (.lst (bs.map D.int) :: Y)) := by
    simp [hdat, hv]
  -- the byte
  obtain ⟨u, u0, u1, hu⟩ := pick_ok a (ts := ts) (n := n + 1) (Z := .lst (bs.map D.int) :: (Y ++ [.lst (BY.map D.int)])) 15 (by omega) (by omega) (by omega)
  obtain ⟨w, hw⟩ : ∃ w, BY[u.toNat]? = some w := ⟨BY[u.toNat]'(by show _ < 15; omega), List.getElem?_eq_getElem (by show _ < 15; omega)⟩
  have cB : (Tw ts (n + 1 + 1) (.lst (bs.map D.int) :: (Y ++ [.lst (BY.map D.int)])))[(Tw ts (n + 1) (.lst (bs.map D.int) :: Y)).length]? = some (.lst (BY.map D.int)) := by
    have := tw_new (ts := ts) (n := n + 1 + 1) (Z := .lst (bs.map D.int) :: Y) [.lst (BY.map D.int)] 0
    rw [Nat.add_zero] at this
    exact this
  have ixB := oIx_of (i := u) (items_loc cB) (atI_of u0 (x := D.int w) (by rw [List.getElem?_map, hw]; rfl))
  have s7 : sSet 7 (x2 oIx xBY (xFn (m_law_pick a) (xCons (xV 1) (xCons (xC (.int 15)) xNil)))) [z0, some (.loc 1), z2, some (.loc 2), z4, z5, some (.int v), z7, z8, z9, z10, z11] (Tw ts (n + 1) (.lst (bs.map D.int) :: Y)) = .nx [z0, some (.loc 1), z2, some (.loc 2), z4, z5, some (.int v), some (.int w), z8, z9, z10, z11] (Tw ts (n + 1 + 1) (.lst (bs.map D.int) :: (Y ++ [.lst (BY.map D.int)]))) := by
    have hu' : m_law_pick a [.loc 1, .int 15] (Tw ts (n + 1) (.lst (bs.map D.int) :: Y) ++ [.lst (BY.map D.int)]) = _ := hu
    simp only [sSet_run, x2_run, xBY_run, R.bind_ok, xFn_run, xCons_run, xV_s, xV_0, xC_run, xNil_run, hu', ixB]
    simp
  -- the list
  obtain ⟨J, b0, b1, b2, e8, j11, j0, j5, j10, l0, l1, l2⟩ := bent_ok (bs := bs) (s := Tw ts (n + 1 + 1) (.lst (bs.map D.int) :: (Y ++ [.lst (BY.map D.int)]))) (n := 2) (hdat _ _) (by omega) v w z0 (some (.loc 1)) z2 z4 z5 z8 z9 z10 z11
  obtain ⟨t, t0, t1, ht⟩ := pick_ok a (ts := ts) (n := n + 1 + 1) (Z := .lst (bs.map D.int) :: (Y ++ [.lst (BY.map D.int)] ++ J)) 3 (by omega) (by omega) (by omega)
  have cell : ∀ m i, (Tw ts m (.lst (bs.map D.int) :: (Y ++ [.lst (BY.map D.int)] ++ J)))[(Tw ts (n + 1 + 1) (.lst (bs.map D.int) :: (Y ++ [.lst (BY.map D.int)]))).length + i]? = J[i]? := fun m i => by
    have := tw_new (ts := ts) (n := m) (Z := .lst (bs.map D.int) :: (Y ++ [.lst (BY.map D.int)])) J i
    exact this
  obtain ⟨q, b', hq, hb', lb'⟩ : ∃ (q : Nat) (b' : List Int), atI [D.loc (Tw ts (n + 1 + 1) (.lst (bs.map D.int) :: (Y ++ [.lst (BY.map D.int)]))).length, .loc ((Tw ts (n + 1 + 1) (.lst (bs.map D.int) :: (Y ++ [.lst (BY.map D.int)]))).length + 5), .loc ((Tw ts (n + 1 + 1) (.lst (bs.map D.int) :: (Y ++ [.lst (BY.map D.int)]))).length + 10)] t = some (.loc q) ∧ (∀ m, (Tw ts m (.lst (bs.map D.int) :: (Y ++ [.lst (BY.map D.int)] ++ J)))[q]? = some (.lst (b'.map D.int))) ∧ b'.length ≤ 2 * bs.length + 1 := by
    have ht3 : t = 0 ∨ t = 1 ∨ t = 2 := by omega
    rcases ht3 with e | e | e <;> subst e
    · exact ⟨_, b0, atI_0 _ _, fun m => by have := cell m 0; rw [Nat.add_zero] at this; rw [this]; exact j0, l0⟩
    · exact ⟨_, b1, atI_1 _ _ _, fun m => by rw [cell m 5]; exact j5, l1⟩
    · exact ⟨_, b2, atI_2 _ _ _ _, fun m => by rw [cell m 10]; exact j10, l2⟩
  have ix3 := oIx_of (i := t) (items_loc (st := Tw ts (n + 1 + 1 + 1) (.lst (bs.map D.int) :: (Y ++ [.lst (BY.map D.int)] ++ J))) (by rw [cell _ 11]; exact j11)) hq
  have s8 : sSet 8 (x2 oIx x3L (xFn (m_law_pick a) (xCons (xV 1) (xCons (xC (.int 3)) xNil)))) [z0, some (.loc 1), z2, some (.loc 2), z4, z5, some (.int v), some (.int w), z8, z9, z10, z11] (Tw ts (n + 1 + 1) (.lst (bs.map D.int) :: (Y ++ [.lst (BY.map D.int)]))) = .nx [z0, some (.loc 1), z2, some (.loc 2), z4, z5, some (.int v), some (.int w), some (.loc q), z9, z10, z11] (Tw ts (n + 1 + 1 + 1) (.lst (bs.map D.int) :: (Y ++ [.lst (BY.map D.int)] ++ J))) := by
    have ht' : m_law_pick a [.loc 1, .int 3] (Tw ts (n + 1 + 1) (.lst (bs.map D.int) :: (Y ++ [.lst (BY.map D.int)])) ++ J) = _ := ht
    simp only [sSet_run, x2_run, e8, R.bind_ok, xFn_run, xCons_run, xV_s, xV_0, xC_run, xNil_run, ht', ix3]
    simp
  obtain ⟨y9, y10, J2, f1, f2, f3⟩ := i2_ok a (hb' (n + 1 + 1 + 1)) (by omega) z0 (some (.loc 1)) z2 (some (.loc 2)) z4 z5 (some (.int v)) (some (.int w)) z11
  refine ⟨Y ++ [.lst (BY.map D.int)] ++ J ++ J2, some (.int v), some (.int w), some (.loc q), some y9, some y10, ?_⟩
  rw [fb2_eq, sCons_run, s6, Out.seq_nx, sCons_run, s7, Out.seq_nx, sCons_run, s8, Out.seq_nx]
  rw [show n + 3 = n + 1 + 1 + 1 by omega]
  have f3' : law_i2 a [z0, some (.loc 1), z2, some (.loc 2), z4, z5, some (.int v), some (.int w), some (.loc q), some y9, some y10, z11] (Tw ts (n + 1 + 1 + 1) (.lst (bs.map D.int) :: (Y ++ [.lst (BY.map D.int)] ++ J))) = .nx _ (Tw ts (n + 1 + 1 + 1) (.lst (bs.map D.int) :: (Y ++ [.lst (BY.map D.int)] ++ J ++ J2))) := f3
  generalize Tw ts (n + 1 + 1 + 1) (.lst (bs.map D.int) :: (Y ++ [.lst (BY.map D.int)] ++ J)) = S at f1 f2 f3'
  simp [f1, f2, f3']
theorem wrong_ok {s : Stt} {d : D} (h : m_law_told a [d] s = .ok (.tup [.str (tx [114, 101, 102, 117, 115, 101, 100]), .bl true]) s) (z0 z1 z2 z3 z4 z6 z7 z8 z9 z10 z11 : Option D) : law_fb1 a [z0, z1, z2, z3, z4, some d, z6, z7, z8, z9, z10, z11] s = .nx [z0, z1, z2, z3, z4, some d, z6, z7, z8, z9, z10, z11] s := by
  have e := oNe_same (deq_self (st := s) (toD_ok 60 (.tup [.str (tx [114, 101, 102, 117, 115, 101, 100]), .bl true]) (by simp [okD]; rw [strOk_l]; rfl)))
  simp [law_fb1, law_i1, h, e]
theorem f1_ok (s : Stt) (z0 z1 z2 z3 z4 z5 z6 z7 z8 z9 z10 z11 : Option D) : ∃ (J : Stt) (y5 : Option D), law_f1 a [z0, z1, z2, z3, z4, z5, z6, z7, z8, z9, z10, z11] s = .nx [z0, z1, z2, z3, z4, y5, z6, z7, z8, z9, z10, z11] (s ++ J) := by
  refine ⟨[.lst [.non], .lst [.bl true]], some (.loc (s.length + 1)), ?_⟩
  have c0 : (s ++ [O.lst [D.non], .lst [.bl true]])[s.length]? = some (.lst [.non]) := at_0 s _ _
  have c1 : (s ++ [O.lst [D.non], .lst [.bl true]])[s.length + 1]? = some (.lst [.bl true]) := at_add s _ 1
  have t1 := wrong_ok a (told_nv a (read_n a (st := s ++ [O.lst [D.non], .lst [.bl true]]) (d := .non) (tyD_non _) (by simp))) z0 z1 z2 z3 z4 z6 z7 z8 z9 z10 z11
  have t2 := wrong_ok a (told_nv a (read_n a (st := s ++ [O.lst [D.non], .lst [.bl true]]) (d := .str (tx [111])) (tyD_str _ _) (by simp))) z0 z1 z2 z3 z4 z6 z7 z8 z9 z10 z11
  have t3 := wrong_ok a (told_nv a (read_n a (st := s ++ [O.lst [D.non], .lst [.bl true]]) (d := .tup [.int 111]) (tyD_tup _ _) (by simp))) z0 z1 z2 z3 z4 z6 z7 z8 z9 z10 z11
  have t4 := wrong_ok a (told_nv a (read_b a c0 (isint_n a))) z0 z1 z2 z3 z4 z6 z7 z8 z9 z10 z11
  have t5 := wrong_ok a (told_nv a (read_b a c1 (isint_b a true))) z0 z1 z2 z3 z4 z6 z7 z8 z9 z10 z11
  simp only [law_f1]
  simp [forF_cons, t1, t2, t3, t4, t5]
theorem f2_ok {d0 d : D} (h0 : 0 ≤ n) (h1 : n < 900000000) (hz : bs.length < 100000) : ∃ (Y' : Stt) (n' : Int) (y4 y6 y7 y8 y9 y10 : Option D), law_f2 a [some d0, some (.loc 1), some d, some (.loc 2), none, none, none, none, none, none, none, none] (Tw ts n (.lst (bs.map D.int) :: Y)) = .nx [some d0, some (.loc 1), some d, some (.loc 2), y4, none, y6, y7, y8, y9, y10, none] (Tw ts n' (.lst (bs.map D.int) :: Y')) := by
  obtain ⟨ρ', s', ef, Y', y4, y6, y7, y8, y9, y10, hρ, hs⟩ := forF_inv (ok := fun _ => True) (g := gN 4) (f := law_fb2 a) (its := intsD 0 8)
    (fun k ρ s => ∃ (Y' : Stt) (y4 y6 y7 y8 y9 y10 : Option D), ρ = [some d0, some (.loc 1), some d, some (.loc 2), y4, none, y6, y7, y8, y9, y10, none] ∧ s = Tw ts (n + 3 * (k : Int)) (.lst (bs.map D.int) :: Y'))
    (fun _ _ _ _ _ => trivial)
    (fun k e ρ s hk ⟨Y', y4, y6, y7, y8, y9, y10, hρ, hs⟩ => by
      subst hρ hs
      have hk8 := (mem_ints hk).1
      obtain ⟨Y2, u6, u7, u8, u9, u10, r⟩ := round_ok a (ts := ts) (n := n + 3 * (k : Int)) (bs := bs) (Y := Y') (by omega) (by omega) (by omega) (some d0) (some d) (some e) none y6 y7 y8 y9 y10 none
      refine ⟨_, rfl, _, _, .inl r, Y2, some e, u6, u7, u8, u9, u10, rfl, ?_⟩
      rw [show n + 3 * (k : Int) + 3 = n + 3 * ((k + 1 : Nat) : Int) by omega])
    (ρ := [some d0, some (.loc 1), some d, some (.loc 2), none, none, none, none, none, none, none, none]) (st := Tw ts n (.lst (bs.map D.int) :: Y)) ⟨Y, none, none, none, none, none, none, rfl, by rw [show n + 3 * ((0 : Nat) : Int) = n by omega]⟩
  subst hρ hs
  have hr : ∀ st, wkRange [.int 8] st = .ok ⟨intsD 0 8, fun _ => True⟩ st := fun st => wkRange_n (n := 8) (by omega) st
  generalize n + 3 * ((intsD 0 8).length : Int) = n' at ef
  generalize intsD 0 8 = its at ef hr
  refine ⟨Y', n', y4, y6, y7, y8, y9, y10, ?_⟩
  simp only [law_f2]
  simp [hr, ef]
theorem law_true (a : Ads) (ns : List Int) (hl : ns.length ≤ 63) : ∃ st, m_law a [.cl (ns.map D.int)] [] = .ok (.bl true) st := by
  obtain ⟨ts, ht, e1⟩ := tape_ok a ns hl
  obtain ⟨f, d, n1, h1, ⟨w1, w2, w3, w4⟩, hd, q1, q2, e2⟩ := value_ok a (ts := ts) 4 7 0 [] (by omega) (by omega) (by omega) (by omega)
  have e2 : m_law_value a 7 [.loc 1, .int 0] (Tw ts 0 []) = .ok d (Tw ts n1 []) := e2
  have hc4 := cc_le 4 (by omega)
  have hs4 := sz_le 4 (by omega)
  have hz : (wf f).length ≤ 5000 := by omega
  have ho := okW_okF f w1
  have e3 := text_ok a (k := 7) (by omega) ho hd (by omega) (Tw ts n1 [])
  have hdF : dsF f = [d] := hd
  have cmp := comp_map (L := (Tw ts n1 []).length) (ok := fun _ => True) (g := gN 11) (t := xYes) (f := xCall fOrd (xCons (xV 11) xNil)) (ρ := [some (.cl (ns.map D.int)), some (.loc 1), some d, none, none, none, none, none, none, none, none, none]) (φ := fun x => match x with | .str s => .int (s.cps.getD 0 0 : Nat) | x => x) (st := Tw ts n1 []) rfl
    (fun _ => trivial) ((wf f).map fun c => D.str ⟨#[c]⟩) [] (fun x hx => by
      obtain ⟨c, _, rfl⟩ := List.mem_map.mp hx
      refine ⟨_, rfl, fun l => ⟨rfl, ?_⟩⟩
      have : ∀ s, fOrd [.str ⟨#[c]⟩] s = some (.int (c : Int), s) := fun _ => rfl
      simp [this]) (by simp; omega)
  have em : List.map (fun x : D => match x with | .str s => D.int (s.cps.getD 0 0 : Nat) | x => x) ((wf f).map fun c => D.str ⟨#[c]⟩) = (izs (wf f)).map D.int := by
    rw [List.map_map, List.map_map]
    exact List.map_congr_left fun c _ => rfl
  rw [em, List.nil_append] at cmp
  have cmp : compF (Tw ts n1 []).length (fun _ => True) (gN 11) xYes (xCall fOrd (xCons (xV 11) xNil)) [some (.cl (ns.map D.int)), some (.loc 1), some d, none, none, none, none, none, none, none, none, none] ((wf f).map fun c => D.str ⟨#[c]⟩) (Tw ts n1 [] ++ [O.lst []]) = .ok () (Tw ts n1 [.lst ((izs (wf f)).map D.int)]) := cmp
  -- the word
  have hdat : ∀ m Y, (Tw ts m (.lst ((izs (wf f)).map D.int) :: Y))[2]? = some (.lst ((izs (wf f)).map D.int)) := fun m Y => tw_at 0
  have hlen : (izs (wf f)).length = (wf f).length := by simp
  have hrd : rd WN [.nil] 0 (izs (wf f)) = .ok f := rd_wd w1 h1 (by have := wn_big; omega)
  have okn : ∀ g ∈ [F.nil], okF g = true := fun g hg => by rw [List.mem_singleton.mp hg]; rfl
  have ok0 : Okst [F.nil] := ⟨by simp, by simp, fun f hf => .inl (by simpa using hf.symm)⟩
  have hfl := rd_fl WN [.nil] 0 (izs (wf f)) [] 0 (by have := wn_big; omega) ok0
  have hfl : fl 0 .value [] 0 0 (izs (wf f)) = res (rd WN [.nil] 0 (izs (wf f))) := hfl
  rw [hrd] at hfl
  have g1 := write_ok a (st := Tw ts n1 [.lst ((izs (wf f)).map D.int)]) ho hd (by omega) trivial
  have eL : ((wf f).map fun (c : Nat) => D.int (c : Int)) = (izs (wf f)).map D.int := by simp [Function.comp_def]
  rw [eL] at g1
  have hall : ((izs (wf f)).map D.int).all (okD 59) = true := List.all_eq_true.mpr fun d hd => by
    obtain ⟨c, _, rfl⟩ := List.mem_map.mp hd
    rfl
  have rr : ∀ (s : Stt) (m : Nat), s[m]? = some (.lst ((izs (wf f)).map D.int)) → m_law_told a [.loc m] s = .ok (.tup [.str (tx [118, 97, 108, 117, 101]), d]) s ∧ m_law_fault a [.loc m] s = .ok (.int (-1)) s := by
    intro s m hm
    have hr := read_ok a hm (by omega)
    rw [hrd] at hr
    obtain ⟨d', hd', hr⟩ := hr
    have ed : d' = d := by rw [hd] at hd'; simpa using hd'.symm
    subst ed
    have hf := fault_ok a hm (by omega)
    rw [hfl] at hf
    exact ⟨told_val a hr (low_ds _ f _ (by rw [hd]; simp)), hf⟩
  have hdok : okD 60 (.tup [.str (tx [118, 97, 108, 117, 101]), d]) = true := by
    have hk : okD 59 d = true := okD_le (by omega) (w4 d (by rw [hd]; simp))
    show ([D.str (tx [118, 97, 108, 117, 101]), d].all (okD 59)) = true
    rw [List.all_cons, List.all_cons, hk]
    show (PyData.strOk (tx [118, 97, 108, 117, 101]) && _) = true
    rw [strOk_l]
    rfl
  generalize hB : (izs (wf f)).map D.int = B at *
  have c3 : (Tw ts n1 [.lst B] ++ [O.lst B])[(Tw ts n1 [.lst B]).length]? = some (.lst B) := at_0 _ _ _
  have c2 : (Tw ts n1 [.lst B] ++ [O.lst B])[2]? = some (.lst B) := rfl
  have hok : B.mapM (toD (Tw ts n1 [.lst B] ++ [O.lst B]) 59) = some (B.map (datD 59)) := mapM_ok (fun d h => toD_ok 59 d h) B hall
  have g2 := oNe_same (deq_lists c3 c2 hok)
  obtain ⟨g3, g4⟩ := rr _ 2 c2
  have g5 := oNe_same (deq_self (st := Tw ts n1 [.lst B] ++ [O.lst B]) (toD_ok 60 _ hdok))
  have i3 : law_i3 a [some (.cl (ns.map D.int)), some (.loc 1), some d, some (.loc 2), none, none, none, none, none, none, none, none] (Tw ts n1 [.lst B]) = .nx [some (.cl (ns.map D.int)), some (.loc 1), some d, some (.loc 2), none, none, none, none, none, none, none, none] (Tw ts n1 [.lst B, .lst B]) := by
    have e : Tw ts n1 [.lst B, .lst B] = Tw ts n1 [.lst B] ++ [O.lst B] := rfl
    rw [e]
    generalize Tw ts n1 [O.lst B] = S at *
    simp [law_i3, g1, g2, g3, g4, g5]
  subst hB
  obtain ⟨Y, n', y4, y6, y7, y8, y9, y10, f2⟩ := f2_ok a (ts := ts) (n := n1) (bs := izs (wf f)) (Y := [.lst ((izs (wf f)).map D.int)]) (d0 := .cl (ns.map D.int)) (d := d) (by omega) (by omega) (by omega)
  obtain ⟨J, y5, e9⟩ := f1_ok a (Tw ts n' (.lst ((izs (wf f)).map D.int) :: Y)) (some (.cl (ns.map D.int))) (some (.loc 1)) (some d) (some (.loc 2)) y4 none y6 y7 y8 y9 y10 none
  have e2' : m_law_value a 7 [.loc 1, .int 0] [O.lst (ts.map D.int), .lst [.loc 0, .int 0]] = .ok d (Tw ts n1 []) := e2
  have hl2 : (Tw ts n1 []).length = 2 := rfl
  rw [hl2] at cmp
  clear rr c3 c2 hok g1 g2 g3 g4 g5 hall hdok hdat eL em hrd hfl ok0 okn
  generalize hB : (izs (wf f)).map D.int = B at *
  have s3 : sSet 3 (xLc (xIt (xFn (m_law_text a 7) (xCons (xV 2) (xNil)))) (gN 11) (xYes) (xCall fOrd (xCons (xV 11) (xNil))) [11]) [some (.cl (ns.map D.int)), some (.loc 1), some d, none, none, none, none, none, none, none, none, none] (Tw ts n1 []) = .nx [some (.cl (ns.map D.int)), some (.loc 1), some d, some (.loc 2), none, none, none, none, none, none, none, none] (Tw ts n1 [.lst B]) := by
    simp [e3, hl2, cmp]
  refine gc_bl (s := Tw ts n' (.lst B :: Y) ++ J) ?_
  show (f_law a ([D.cl (ns.map D.int)].map some ++ List.replicate (12 - [D.cl (ns.map D.int)].length) none) []).ret = _
  have s1 : sSet 1 (xLst (xCons (xFn (m_law_tape a) (xCons (xV 0) (xNil))) (xCons (xC (.int 0)) (xNil)))) [some (.cl (ns.map D.int)), none, none, none, none, none, none, none, none, none, none, none] [] = .nx [some (.cl (ns.map D.int)), some (.loc 1), none, none, none, none, none, none, none, none, none, none] [O.lst (ts.map D.int), .lst [.loc 0, .int 0]] := by
    simp [e1]
  have s2 : sSet 2 (xFn (m_law_value a 7) (xCons (xV 1) (xCons (xC (.int 0)) (xNil)))) [some (.cl (ns.map D.int)), some (.loc 1), none, none, none, none, none, none, none, none, none, none] [O.lst (ts.map D.int), .lst [.loc 0, .int 0]] = .nx [some (.cl (ns.map D.int)), some (.loc 1), some d, none, none, none, none, none, none, none, none, none] (Tw ts n1 []) := by
    simp [e2']
  have en : [D.cl (ns.map D.int)].map some ++ List.replicate (12 - [D.cl (ns.map D.int)].length) none = [some (.cl (ns.map D.int)), none, none, none, none, none, none, none, none, none, none, none] := rfl
  rw [en]
  unfold f_law
  rw [sCons_run, s1, Out.seq_nx, sCons_run, s2, Out.seq_nx, sCons_run, s3, Out.seq_nx, sCons_run, i3, Out.seq_nx, sCons_run, f2, Out.seq_nx, sCons_run, e9, Out.seq_nx]
  simp
end
end Law

set_option Elab.async false
set_option linter.all false
set_option maxRecDepth 100000
namespace Law
open PySem PySem.Spec PyProof.Rows L2 Rg
theorem all_mk {l : PySem.W.OpenLaw} {w : World} {K : PySem.W.Frag} {h : Heap} {mg : Str → Option Value} {fa : Addr} (X : K.In h) (G : h.Ns mainGlobals mg) (hfa : mg "law" = some (.ref fa))
    {p_sign_of : Addr} {od_sign_of an_sign_of : Option Addr} {sl_sign_of : Array (Option Value)} {oc_sign_of kV_sign_of dc_sign_of pm_sign_of cd_sign_of ct_sign_of : Value}
    {p_is_integer : Addr} {od_is_integer an_is_integer : Option Addr} {sl_is_integer : Array (Option Value)} {oc_is_integer kV_is_integer dc_is_integer pm_is_integer cd_is_integer ct_is_integer : Value}
    {p_write_word : Addr} {od_write_word an_write_word : Option Addr} {sl_write_word : Array (Option Value)} {oc_write_word kV_write_word dc_write_word pm_write_word cd_write_word ct_write_word : Value}
    {p_sign_at : Addr} {od_sign_at an_sign_at : Option Addr} {sl_sign_at : Array (Option Value)} {oc_sign_at kV_sign_at dc_sign_at pm_sign_at cd_sign_at ct_sign_at : Value}
    {p_read_number : Addr} {od_read_number an_read_number : Option Addr} {sl_read_number : Array (Option Value)} {oc_read_number kV_read_number dc_read_number pm_read_number cd_read_number ct_read_number : Value}
    {p_read_simple : Addr} {od_read_simple an_read_simple : Option Addr} {sl_read_simple : Array (Option Value)} {oc_read_simple kV_read_simple dc_read_simple pm_read_simple cd_read_simple ct_read_simple : Value}
    {p_read_word : Addr} {od_read_word an_read_word : Option Addr} {sl_read_word : Array (Option Value)} {oc_read_word kV_read_word dc_read_word pm_read_word cd_read_word ct_read_word : Value}
    {p_law_tape : Addr} {od_law_tape an_law_tape : Option Addr} {sl_law_tape : Array (Option Value)} {oc_law_tape kV_law_tape dc_law_tape pm_law_tape cd_law_tape ct_law_tape : Value}
    {p_law_at : Addr} {od_law_at an_law_at : Option Addr} {sl_law_at : Array (Option Value)} {oc_law_at kV_law_at dc_law_at pm_law_at cd_law_at ct_law_at : Value}
    {p_law_pick : Addr} {od_law_pick an_law_pick : Option Addr} {sl_law_pick : Array (Option Value)} {oc_law_pick kV_law_pick dc_law_pick pm_law_pick cd_law_pick ct_law_pick : Value}
    {p_law_value : Addr} {od_law_value an_law_value : Option Addr} {sl_law_value : Array (Option Value)} {oc_law_value kV_law_value dc_law_value pm_law_value cd_law_value ct_law_value : Value}
    {p_law_text : Addr} {od_law_text an_law_text : Option Addr} {sl_law_text : Array (Option Value)} {oc_law_text kV_law_text dc_law_text pm_law_text cd_law_text ct_law_text : Value}
    {p_law_fault : Addr} {od_law_fault an_law_fault : Option Addr} {sl_law_fault : Array (Option Value)} {oc_law_fault kV_law_fault dc_law_fault pm_law_fault cd_law_fault ct_law_fault : Value}
    {p_law_told : Addr} {od_law_told an_law_told : Option Addr} {sl_law_told : Array (Option Value)} {oc_law_told kV_law_told dc_law_told pm_law_told cd_law_told ct_law_told : Value}
    {p_law : Addr} {od_law an_law : Option Addr} {sl_law : Array (Option Value)} {oc_law kV_law dc_law pm_law cd_law ct_law : Value}
    {tk_1 : Tok}
    {tk_2 : Tok}
    {tk_3 : Tok}
    {tk_4 : Tok}
    {C_StreamError : Addr}
    {C_NotValid : Addr}
    {C_BadByte : Addr}
    {f_BadByte : Addr} {od_BadByte_i an_BadByte_i : Option Addr} {sl_BadByte_i : Array (Option Value)} {oc_BadByte_i kV_BadByte_i dc_BadByte_i pm_BadByte_i cd_BadByte_i ct_BadByte_i : Value}
    {xn_BadByte xq_BadByte : Str} {xN_BadByte : Addr} {xb_BadByte xs_BadByte : List Value} {xl_BadByte : List Str} {xa_BadByte : Bool} {xc_BadByte : Option Bool} {xd_BadByte : Option Addr} {x0_BadByte x1_BadByte x2_BadByte x3_BadByte x5_BadByte : Option Value}
    (a_sign_of : PySem.W.nsIn K mainGlobals "sign_of" = some (some (.ref p_sign_of)))
    (a_is_integer : PySem.W.nsIn K mainGlobals "is_integer" = some (some (.ref p_is_integer)))
    (a_write_word : PySem.W.nsIn K mainGlobals "write_word" = some (some (.ref p_write_word)))
    (a_sign_at : PySem.W.nsIn K mainGlobals "sign_at" = some (some (.ref p_sign_at)))
    (a_read_number : PySem.W.nsIn K mainGlobals "read_number" = some (some (.ref p_read_number)))
    (a_read_simple : PySem.W.nsIn K mainGlobals "read_simple" = some (some (.ref p_read_simple)))
    (a_read_word : PySem.W.nsIn K mainGlobals "read_word" = some (some (.ref p_read_word)))
    (a_law_tape : PySem.W.nsIn K mainGlobals "_law_tape" = some (some (.ref p_law_tape)))
    (a_law_at : PySem.W.nsIn K mainGlobals "_law_at" = some (some (.ref p_law_at)))
    (a_law_pick : PySem.W.nsIn K mainGlobals "_law_pick" = some (some (.ref p_law_pick)))
    (a_law_value : PySem.W.nsIn K mainGlobals "_law_value" = some (some (.ref p_law_value)))
    (a_law_text : PySem.W.nsIn K mainGlobals "_law_text" = some (some (.ref p_law_text)))
    (a_law_fault : PySem.W.nsIn K mainGlobals "_law_fault" = some (some (.ref p_law_fault)))
    (a_law_told : PySem.W.nsIn K mainGlobals "_law_told" = some (some (.ref p_law_told)))
    (a_law : PySem.W.nsIn K mainGlobals "law" = some (some (.ref p_law)))
    (g_PRINTED : PySem.W.nsIn K mainGlobals "PRINTED" = some (some (.str " !\"#$ &'()*+,-./0123456789:;<=>?@ABCDEFGHIJKLMNOPQRSTUVWXYZ[\\]^_`abcdefghijklmnopqrstuvwxyz{|}~" tk_1)))
    (g_PER_CENT : PySem.W.nsIn K mainGlobals "PER_CENT" = some (some (.int 37 tk_2)))
    (g_MOST_DIGITS : PySem.W.nsIn K mainGlobals "MOST_DIGITS" = some (some (.int 9 tk_3)))
    (g_DIGITS : PySem.W.nsIn K mainGlobals "DIGITS" = some (some (.str "0123456789" tk_4)))
    (gc_StreamError : PySem.W.nsIn K mainGlobals "StreamError" = some (some (.ref C_StreamError)))
    (gc_NotValid : PySem.W.nsIn K mainGlobals "NotValid" = some (some (.ref C_NotValid)))
    (gc_BadByte : PySem.W.nsIn K mainGlobals "BadByte" = some (some (.ref C_BadByte)))
    (l_sign_of : K.lookup p_sign_of = some ⟨oc_sign_of, od_sign_of, .func (PySem.W.fnOf "sign_of" "sign_of" (defArgs s_sign_of) (defBody s_sign_of) (defScope s_sign_of) .none kV_sign_of dc_sign_of pm_sign_of an_sign_of cd_sign_of ct_sign_of), sl_sign_of⟩)
    (c_sign_of : PySem.W.codeIn K cd_sign_of "sign_of" = true)
    (k_sign_of : PySem.W.keepIn K (.ref p_sign_of) = true)
    (l_is_integer : K.lookup p_is_integer = some ⟨oc_is_integer, od_is_integer, .func (PySem.W.fnOf "is_integer" "is_integer" (defArgs s_is_integer) (defBody s_is_integer) (defScope s_is_integer) .none kV_is_integer dc_is_integer pm_is_integer an_is_integer cd_is_integer ct_is_integer), sl_is_integer⟩)
    (c_is_integer : PySem.W.codeIn K cd_is_integer "is_integer" = true)
    (k_is_integer : PySem.W.keepIn K (.ref p_is_integer) = true)
    (l_write_word : K.lookup p_write_word = some ⟨oc_write_word, od_write_word, .func (PySem.W.fnOf "write_word" "write_word" (defArgs s_write_word) (defBody s_write_word) (defScope s_write_word) .none kV_write_word dc_write_word pm_write_word an_write_word cd_write_word ct_write_word), sl_write_word⟩)
    (c_write_word : PySem.W.codeIn K cd_write_word "write_word" = true)
    (k_write_word : PySem.W.keepIn K (.ref p_write_word) = true)
    (l_sign_at : K.lookup p_sign_at = some ⟨oc_sign_at, od_sign_at, .func (PySem.W.fnOf "sign_at" "sign_at" (defArgs s_sign_at) (defBody s_sign_at) (defScope s_sign_at) .none kV_sign_at dc_sign_at pm_sign_at an_sign_at cd_sign_at ct_sign_at), sl_sign_at⟩)
    (c_sign_at : PySem.W.codeIn K cd_sign_at "sign_at" = true)
    (k_sign_at : PySem.W.keepIn K (.ref p_sign_at) = true)
    (l_read_number : K.lookup p_read_number = some ⟨oc_read_number, od_read_number, .func (PySem.W.fnOf "read_number" "read_number" (defArgs s_read_number) (defBody s_read_number) (defScope s_read_number) .none kV_read_number dc_read_number pm_read_number an_read_number cd_read_number ct_read_number), sl_read_number⟩)
    (c_read_number : PySem.W.codeIn K cd_read_number "read_number" = true)
    (k_read_number : PySem.W.keepIn K (.ref p_read_number) = true)
    (l_read_simple : K.lookup p_read_simple = some ⟨oc_read_simple, od_read_simple, .func (PySem.W.fnOf "read_simple" "read_simple" (defArgs s_read_simple) (defBody s_read_simple) (defScope s_read_simple) .none kV_read_simple dc_read_simple pm_read_simple an_read_simple cd_read_simple ct_read_simple), sl_read_simple⟩)
    (c_read_simple : PySem.W.codeIn K cd_read_simple "read_simple" = true)
    (k_read_simple : PySem.W.keepIn K (.ref p_read_simple) = true)
    (l_read_word : K.lookup p_read_word = some ⟨oc_read_word, od_read_word, .func (PySem.W.fnOf "read_word" "read_word" (defArgs s_read_word) (defBody s_read_word) (defScope s_read_word) .none kV_read_word dc_read_word pm_read_word an_read_word cd_read_word ct_read_word), sl_read_word⟩)
    (c_read_word : PySem.W.codeIn K cd_read_word "read_word" = true)
    (k_read_word : PySem.W.keepIn K (.ref p_read_word) = true)
    (l_law_tape : K.lookup p_law_tape = some ⟨oc_law_tape, od_law_tape, .func (PySem.W.fnOf "_law_tape" "_law_tape" (defArgs s_law_tape) (defBody s_law_tape) (defScope s_law_tape) .none kV_law_tape dc_law_tape pm_law_tape an_law_tape cd_law_tape ct_law_tape), sl_law_tape⟩)
    (c_law_tape : PySem.W.codeIn K cd_law_tape "_law_tape" = true)
    (k_law_tape : PySem.W.keepIn K (.ref p_law_tape) = true)
    (l_law_at : K.lookup p_law_at = some ⟨oc_law_at, od_law_at, .func (PySem.W.fnOf "_law_at" "_law_at" (defArgs s_law_at) (defBody s_law_at) (defScope s_law_at) .none kV_law_at dc_law_at pm_law_at an_law_at cd_law_at ct_law_at), sl_law_at⟩)
    (c_law_at : PySem.W.codeIn K cd_law_at "_law_at" = true)
    (k_law_at : PySem.W.keepIn K (.ref p_law_at) = true)
    (l_law_pick : K.lookup p_law_pick = some ⟨oc_law_pick, od_law_pick, .func (PySem.W.fnOf "_law_pick" "_law_pick" (defArgs s_law_pick) (defBody s_law_pick) (defScope s_law_pick) .none kV_law_pick dc_law_pick pm_law_pick an_law_pick cd_law_pick ct_law_pick), sl_law_pick⟩)
    (c_law_pick : PySem.W.codeIn K cd_law_pick "_law_pick" = true)
    (k_law_pick : PySem.W.keepIn K (.ref p_law_pick) = true)
    (l_law_value : K.lookup p_law_value = some ⟨oc_law_value, od_law_value, .func (PySem.W.fnOf "_law_value" "_law_value" (defArgs s_law_value) (defBody s_law_value) (defScope s_law_value) .none kV_law_value dc_law_value pm_law_value an_law_value cd_law_value ct_law_value), sl_law_value⟩)
    (c_law_value : PySem.W.codeIn K cd_law_value "_law_value" = true)
    (k_law_value : PySem.W.keepIn K (.ref p_law_value) = true)
    (l_law_text : K.lookup p_law_text = some ⟨oc_law_text, od_law_text, .func (PySem.W.fnOf "_law_text" "_law_text" (defArgs s_law_text) (defBody s_law_text) (defScope s_law_text) .none kV_law_text dc_law_text pm_law_text an_law_text cd_law_text ct_law_text), sl_law_text⟩)
    (c_law_text : PySem.W.codeIn K cd_law_text "_law_text" = true)
    (k_law_text : PySem.W.keepIn K (.ref p_law_text) = true)
    (l_law_fault : K.lookup p_law_fault = some ⟨oc_law_fault, od_law_fault, .func (PySem.W.fnOf "_law_fault" "_law_fault" (defArgs s_law_fault) (defBody s_law_fault) (defScope s_law_fault) .none kV_law_fault dc_law_fault pm_law_fault an_law_fault cd_law_fault ct_law_fault), sl_law_fault⟩)
    (c_law_fault : PySem.W.codeIn K cd_law_fault "_law_fault" = true)
    (k_law_fault : PySem.W.keepIn K (.ref p_law_fault) = true)
    (l_law_told : K.lookup p_law_told = some ⟨oc_law_told, od_law_told, .func (PySem.W.fnOf "_law_told" "_law_told" (defArgs s_law_told) (defBody s_law_told) (defScope s_law_told) .none kV_law_told dc_law_told pm_law_told an_law_told cd_law_told ct_law_told), sl_law_told⟩)
    (c_law_told : PySem.W.codeIn K cd_law_told "_law_told" = true)
    (k_law_told : PySem.W.keepIn K (.ref p_law_told) = true)
    (l_law : K.lookup p_law = some ⟨oc_law, od_law, .func (PySem.W.fnOf "law" "law" (defArgs s_law) (defBody s_law) (defScope s_law) .none kV_law dc_law pm_law an_law cd_law ct_law), sl_law⟩)
    (c_law : PySem.W.codeIn K cd_law "law" = true)
    (k_law : PySem.W.keepIn K (.ref p_law) = true)
    (z_abs : PySem.W.nsIn K mainGlobals "abs" = some none)
    (z_all : PySem.W.nsIn K mainGlobals "all" = some none)
    (z_bool : PySem.W.nsIn K mainGlobals "bool" = some none)
    (z_int : PySem.W.nsIn K mainGlobals "int" = some none)
    (z_isinstance : PySem.W.nsIn K mainGlobals "isinstance" = some none)
    (z_len : PySem.W.nsIn K mainGlobals "len" = some none)
    (z_list : PySem.W.nsIn K mainGlobals "list" = some none)
    (z_ord : PySem.W.nsIn K mainGlobals "ord" = some none)
    (z_range : PySem.W.nsIn K mainGlobals "range" = some none)
    (z_str : PySem.W.nsIn K mainGlobals "str" = some none)
    (z_tuple : PySem.W.nsIn K mainGlobals "tuple" = some none)
    (xL_BadByte : K.lookup C_BadByte = some (PySem.excClassObj xn_BadByte xq_BadByte C_BadByte xN_BadByte xb_BadByte [.ref C_StreamError, .type "ValueError", .type "Exception", .type "BaseException", .type "object"] true xl_BadByte xs_BadByte xa_BadByte xc_BadByte xd_BadByte x0_BadByte x1_BadByte x2_BadByte x3_BadByte x5_BadByte "ValueError.__new__"))
    (sa_BadByte : PySem.W.findIn K (.ref C_BadByte) "__setattr__" = some (some (.builtin "object.__setattr__")))
    (xe_BadByte : PySem.W.subIn K (.ref C_BadByte) (.type "BaseException") = some true)
    (xt_BadByte : PySem.W.typeIn K (.ref C_BadByte) = some (.type "type"))
    (xk_BadByte : PySem.W.keepIn K (.ref C_BadByte) = true)
    (xi_BadByte : PySem.W.findIn K (.ref C_BadByte) "__init__" = some (some (.ref f_BadByte)))
    (xj_BadByte : PySem.W.typeIn K (.ref f_BadByte) = some (.type "function"))
    (xf_BadByte : PySem.W.findIn K (.ref C_BadByte) "place" = some none)
    (xl_BadByte : K.lookup f_BadByte = some ⟨oc_BadByte_i, od_BadByte_i, .func (PySem.W.fnOf "__init__" "BadByte.__init__" (defArgs s_BadByte_init) (defBody s_BadByte_init) (defScope s_BadByte_init) .none kV_BadByte_i dc_BadByte_i pm_BadByte_i an_BadByte_i cd_BadByte_i ct_BadByte_i), sl_BadByte_i⟩)
    (xc_BadByte : PySem.W.codeIn K cd_BadByte_i "BadByte.__init__" = true)
    (xp_BadByte : PySem.W.keepIn K (.ref f_BadByte) = true)
    (yg1_BadByte : PySem.W.findIn K (.ref C_BadByte) "__getattribute__" = some (some (.builtin "BaseException.__getattribute__")))
    (yg2_BadByte : PySem.W.findIn K (.ref C_BadByte) "__getattr__" = some none)
    (yg3_BadByte : PySem.W.hasDictIn K C_BadByte = true)
    (ex_NotValid : PySem.W.excIn K C_NotValid [.type "ValueError", .type "Exception", .type "BaseException", .type "object"] "ValueError.__new__" = true)
    (ek_NotValid : PySem.W.keepIn K (.ref C_NotValid) = true)
    (eb_NotValid : PySem.W.subIn K (.ref C_NotValid) (.type "BaseException") = some true)
    (et_NotValid : PySem.W.typeIn K (.ref C_NotValid) = some (.type "type"))
    (ec1_NotValid : PySem.W.findIn K (.ref C_NotValid) "__getattribute__" = some (some (.builtin "BaseException.__getattribute__")))
    (ec2_NotValid : PySem.W.findIn K (.ref C_NotValid) "__getattr__" = some none)
    (ec3_NotValid : PySem.W.hasDictIn K C_NotValid = true)
    (ec4_NotValid : PySem.W.findIn K (.ref C_NotValid) "__class__" = some (some (.builtin "object.__class__")))
    (ec5_NotValid : PySem.W.mroIn K C_NotValid (.type "object") = some true)
    (eb_BadByte : PySem.W.subIn K (.ref C_BadByte) (.type "BaseException") = some true)
    (ec1_BadByte : PySem.W.findIn K (.ref C_BadByte) "__getattribute__" = some (some (.builtin "BaseException.__getattribute__")))
    (ec2_BadByte : PySem.W.findIn K (.ref C_BadByte) "__getattr__" = some none)
    (ec3_BadByte : PySem.W.hasDictIn K C_BadByte = true)
    (ec4_BadByte : PySem.W.findIn K (.ref C_BadByte) "__class__" = some (some (.builtin "object.__class__")))
    (ec5_BadByte : PySem.W.mroIn K C_BadByte (.type "object") = some true)
    (ec6 : PySem.W.specialIn K (.builtin "object.__class__") "__get__" = some (some (.builtin "getset_descriptor.__get__")))
    (ec7 : PySem.W.takesIn K (.builtin "object.__class__") = some true)
    (hd_StreamError : PySem.W.hasDictIn K C_StreamError = true)
    (ht_StreamError : PySem.W.typeIn K (.ref C_StreamError) = some (.type "type"))
    (hb_StreamError : PySem.W.subIn K (.ref C_StreamError) (.type "BaseException") = some true)
    (sm_NotValid_StreamError : PySem.W.subIn K (.ref C_NotValid) (.ref C_StreamError) = some true)
    (sm_BadByte_StreamError : PySem.W.subIn K (.ref C_BadByte) (.ref C_StreamError) = some true)
    (hd_BadByte : PySem.W.hasDictIn K C_BadByte = true)
    (ht_BadByte : PySem.W.typeIn K (.ref C_BadByte) = some (.type "type"))
    (sm_NotValid_BadByte : PySem.W.subIn K (.ref C_NotValid) (.ref C_BadByte) = some false)
    (sm_BadByte_BadByte : PySem.W.subIn K (.ref C_BadByte) (.ref C_BadByte) = some true)
    (hd_NotValid : PySem.W.hasDictIn K C_NotValid = true)
    (ht_NotValid : PySem.W.typeIn K (.ref C_NotValid) = some (.type "type"))
    (sm_NotValid_NotValid : PySem.W.subIn K (.ref C_NotValid) (.ref C_NotValid) = some true)
    (sm_BadByte_NotValid : PySem.W.subIn K (.ref C_BadByte) (.ref C_NotValid) = some false)
    (lo_q_StreamError_NotValid : C_StreamError ≠ C_NotValid)
    (lo_q_StreamError_BadByte : C_StreamError ≠ C_BadByte)
    (lo_q_NotValid_BadByte : C_NotValid ≠ C_BadByte)
    : ∃ fd : FuncData, (∀ (s : Shared) (v : Value), BindsTo s fd ⟨[v], []⟩ [("script", v)]) ∧ ∀ base : Heap, K.In base → base.Ns mainGlobals mg → FnOk l.prog w K mg base (L2.CX l.prog w) 11 fa fd ["script"] (spLaw K) := by
  have e := hfa.symm.trans (PySem.W.mg_of X G a_law)
  have e2 : p_law = fa := by cases e; rfl
  subst e2
  have T : Txt K w mg { a_sign_of := p_sign_of, d_sign_of := (PySem.W.fnOf "sign_of" "sign_of" (defArgs s_sign_of) (defBody s_sign_of) (defScope s_sign_of) .none kV_sign_of dc_sign_of pm_sign_of an_sign_of cd_sign_of ct_sign_of), a_is_integer := p_is_integer, d_is_integer := (PySem.W.fnOf "is_integer" "is_integer" (defArgs s_is_integer) (defBody s_is_integer) (defScope s_is_integer) .none kV_is_integer dc_is_integer pm_is_integer an_is_integer cd_is_integer ct_is_integer), a_write_word := p_write_word, d_write_word := (PySem.W.fnOf "write_word" "write_word" (defArgs s_write_word) (defBody s_write_word) (defScope s_write_word) .none kV_write_word dc_write_word pm_write_word an_write_word cd_write_word ct_write_word), a_sign_at := p_sign_at, d_sign_at := (PySem.W.fnOf "sign_at" "sign_at" (defArgs s_sign_at) (defBody s_sign_at) (defScope s_sign_at) .none kV_sign_at dc_sign_at pm_sign_at an_sign_at cd_sign_at ct_sign_at), a_read_number := p_read_number, d_read_number := (PySem.W.fnOf "read_number" "read_number" (defArgs s_read_number) (defBody s_read_number) (defScope s_read_number) .none kV_read_number dc_read_number pm_read_number an_read_number cd_read_number ct_read_number), a_read_simple := p_read_simple, d_read_simple := (PySem.W.fnOf "read_simple" "read_simple" (defArgs s_read_simple) (defBody s_read_simple) (defScope s_read_simple) .none kV_read_simple dc_read_simple pm_read_simple an_read_simple cd_read_simple ct_read_simple), a_read_word := p_read_word, d_read_word := (PySem.W.fnOf "read_word" "read_word" (defArgs s_read_word) (defBody s_read_word) (defScope s_read_word) .none kV_read_word dc_read_word pm_read_word an_read_word cd_read_word ct_read_word), a_law_tape := p_law_tape, d_law_tape := (PySem.W.fnOf "_law_tape" "_law_tape" (defArgs s_law_tape) (defBody s_law_tape) (defScope s_law_tape) .none kV_law_tape dc_law_tape pm_law_tape an_law_tape cd_law_tape ct_law_tape), a_law_at := p_law_at, d_law_at := (PySem.W.fnOf "_law_at" "_law_at" (defArgs s_law_at) (defBody s_law_at) (defScope s_law_at) .none kV_law_at dc_law_at pm_law_at an_law_at cd_law_at ct_law_at), a_law_pick := p_law_pick, d_law_pick := (PySem.W.fnOf "_law_pick" "_law_pick" (defArgs s_law_pick) (defBody s_law_pick) (defScope s_law_pick) .none kV_law_pick dc_law_pick pm_law_pick an_law_pick cd_law_pick ct_law_pick), a_law_value := p_law_value, d_law_value := (PySem.W.fnOf "_law_value" "_law_value" (defArgs s_law_value) (defBody s_law_value) (defScope s_law_value) .none kV_law_value dc_law_value pm_law_value an_law_value cd_law_value ct_law_value), a_law_text := p_law_text, d_law_text := (PySem.W.fnOf "_law_text" "_law_text" (defArgs s_law_text) (defBody s_law_text) (defScope s_law_text) .none kV_law_text dc_law_text pm_law_text an_law_text cd_law_text ct_law_text), a_law_fault := p_law_fault, d_law_fault := (PySem.W.fnOf "_law_fault" "_law_fault" (defArgs s_law_fault) (defBody s_law_fault) (defScope s_law_fault) .none kV_law_fault dc_law_fault pm_law_fault an_law_fault cd_law_fault ct_law_fault), a_law_told := p_law_told, d_law_told := (PySem.W.fnOf "_law_told" "_law_told" (defArgs s_law_told) (defBody s_law_told) (defScope s_law_told) .none kV_law_told dc_law_told pm_law_told an_law_told cd_law_told ct_law_told), a_law := p_law, d_law := (PySem.W.fnOf "law" "law" (defArgs s_law) (defBody s_law) (defScope s_law) .none kV_law dc_law pm_law an_law cd_law ct_law), c_StreamError := C_StreamError, c_NotValid := C_NotValid, c_BadByte := C_BadByte, q_StreamError_NotValid := lo_q_StreamError_NotValid, q_StreamError_BadByte := lo_q_StreamError_BadByte, q_NotValid_BadByte := lo_q_NotValid_BadByte, a_BadByte_init := f_BadByte, d_BadByte_init := (PySem.W.fnOf "__init__" "BadByte.__init__" (defArgs s_BadByte_init) (defBody s_BadByte_init) (defScope s_BadByte_init) .none kV_BadByte_i dc_BadByte_i pm_BadByte_i an_BadByte_i cd_BadByte_i ct_BadByte_i) } := {
    F_sign_of := fun_mk l_sign_of c_sign_of k_sign_of
    b_sign_of := (fun_mk (st := s_sign_of) l_sign_of c_sign_of k_sign_of).binds (ps := ["byte"]) fun _ _ _ _ _ _ us hl => match us, hl with | [_], _ => rfl
    g_sign_of := PySem.W.mg_of X G a_sign_of
    F_is_integer := fun_mk l_is_integer c_is_integer k_is_integer
    b_is_integer := (fun_mk (st := s_is_integer) l_is_integer c_is_integer k_is_integer).binds (ps := ["value"]) fun _ _ _ _ _ _ us hl => match us, hl with | [_], _ => rfl
    g_is_integer := PySem.W.mg_of X G a_is_integer
    F_write_word := fun_mk l_write_word c_write_word k_write_word
    b_write_word := (fun_mk (st := s_write_word) l_write_word c_write_word k_write_word).binds (ps := ["value"]) fun _ _ _ _ _ _ us hl => match us, hl with | [_], _ => rfl
    g_write_word := PySem.W.mg_of X G a_write_word
    F_sign_at := fun_mk l_sign_at c_sign_at k_sign_at
    b_sign_at := (fun_mk (st := s_sign_at) l_sign_at c_sign_at k_sign_at).binds (ps := ["data", "at"]) fun _ _ _ _ _ _ us hl => match us, hl with | [_, _], _ => rfl
    g_sign_at := PySem.W.mg_of X G a_sign_at
    F_read_number := fun_mk l_read_number c_read_number k_read_number
    b_read_number := (fun_mk (st := s_read_number) l_read_number c_read_number k_read_number).binds (ps := ["data", "at", "end"]) fun _ _ _ _ _ _ us hl => match us, hl with | [_, _, _], _ => rfl
    g_read_number := PySem.W.mg_of X G a_read_number
    F_read_simple := fun_mk l_read_simple c_read_simple k_read_simple
    b_read_simple := (fun_mk (st := s_read_simple) l_read_simple c_read_simple k_read_simple).binds (ps := ["data", "at", "sign"]) fun _ _ _ _ _ _ us hl => match us, hl with | [_, _, _], _ => rfl
    g_read_simple := PySem.W.mg_of X G a_read_simple
    F_read_word := fun_mk l_read_word c_read_word k_read_word
    b_read_word := (fun_mk (st := s_read_word) l_read_word c_read_word k_read_word).binds (ps := ["data"]) fun _ _ _ _ _ _ us hl => match us, hl with | [_], _ => rfl
    g_read_word := PySem.W.mg_of X G a_read_word
    F_law_tape := fun_mk l_law_tape c_law_tape k_law_tape
    b_law_tape := (fun_mk (st := s_law_tape) l_law_tape c_law_tape k_law_tape).binds (ps := ["script"]) fun _ _ _ _ _ _ us hl => match us, hl with | [_], _ => rfl
    g_law_tape := PySem.W.mg_of X G a_law_tape
    F_law_at := fun_mk l_law_at c_law_at k_law_at
    b_law_at := (fun_mk (st := s_law_at) l_law_at c_law_at k_law_at).binds (ps := ["tape", "k"]) fun _ _ _ _ _ _ us hl => match us, hl with | [_, _], _ => rfl
    g_law_at := PySem.W.mg_of X G a_law_at
    F_law_pick := fun_mk l_law_pick c_law_pick k_law_pick
    b_law_pick := (fun_mk (st := s_law_pick) l_law_pick c_law_pick k_law_pick).binds (ps := ["w", "many"]) fun _ _ _ _ _ _ us hl => match us, hl with | [_, _], _ => rfl
    g_law_pick := PySem.W.mg_of X G a_law_pick
    F_law_value := fun_mk l_law_value c_law_value k_law_value
    b_law_value := (fun_mk (st := s_law_value) l_law_value c_law_value k_law_value).binds (ps := ["w", "level"]) fun _ _ _ _ _ _ us hl => match us, hl with | [_, _], _ => rfl
    g_law_value := PySem.W.mg_of X G a_law_value
    F_law_text := fun_mk l_law_text c_law_text k_law_text
    b_law_text := (fun_mk (st := s_law_text) l_law_text c_law_text k_law_text).binds (ps := ["value"]) fun _ _ _ _ _ _ us hl => match us, hl with | [_], _ => rfl
    g_law_text := PySem.W.mg_of X G a_law_text
    F_law_fault := fun_mk l_law_fault c_law_fault k_law_fault
    b_law_fault := (fun_mk (st := s_law_fault) l_law_fault c_law_fault k_law_fault).binds (ps := ["data"]) fun _ _ _ _ _ _ us hl => match us, hl with | [_], _ => rfl
    g_law_fault := PySem.W.mg_of X G a_law_fault
    F_law_told := fun_mk l_law_told c_law_told k_law_told
    b_law_told := (fun_mk (st := s_law_told) l_law_told c_law_told k_law_told).binds (ps := ["data"]) fun _ _ _ _ _ _ us hl => match us, hl with | [_], _ => rfl
    g_law_told := PySem.W.mg_of X G a_law_told
    F_law := fun_mk l_law c_law k_law
    b_law := (fun_mk (st := s_law) l_law c_law k_law).binds (ps := ["script"]) fun _ _ _ _ _ _ us hl => match us, hl with | [_], _ => rfl
    g_law := PySem.W.mg_of X G a_law
    z_abs := PySem.W.mg_none_of X G z_abs
    z_all := PySem.W.mg_none_of X G z_all
    z_bool := PySem.W.mg_none_of X G z_bool
    z_int := PySem.W.mg_none_of X G z_int
    z_isinstance := PySem.W.mg_none_of X G z_isinstance
    z_len := PySem.W.mg_none_of X G z_len
    z_list := PySem.W.mg_none_of X G z_list
    z_ord := PySem.W.mg_none_of X G z_ord
    z_range := PySem.W.mg_none_of X G z_range
    z_str := PySem.W.mg_none_of X G z_str
    z_tuple := PySem.W.mg_none_of X G z_tuple
    c_PRINTED := ⟨_, PySem.W.mg_of X G g_PRINTED⟩
    c_PER_CENT := ⟨_, PySem.W.mg_of X G g_PER_CENT⟩
    c_MOST_DIGITS := ⟨_, PySem.W.mg_of X G g_MOST_DIGITS⟩
    c_DIGITS := ⟨_, PySem.W.mg_of X G g_DIGITS⟩
    gc_StreamError := PySem.W.mg_of X G gc_StreamError
    gc_NotValid := PySem.W.mg_of X G gc_NotValid
    gc_BadByte := PySem.W.mg_of X G gc_BadByte
    o_BadByte := ⟨⟨_, _, _, _, _, _, _, _, _, _, _, _, _, _, _, xL_BadByte, rfl⟩, sa_BadByte, xe_BadByte, xt_BadByte, xk_BadByte⟩
    i_BadByte := xi_BadByte
    j_BadByte := xj_BadByte
    n_BadByte := xf_BadByte
    F_BadByte_init := fun_mk xl_BadByte xc_BadByte xp_BadByte
    b_BadByte_init := (fun_mk (st := s_BadByte_init) xl_BadByte xc_BadByte xp_BadByte).binds (ps := ["self", "place"]) fun _ _ _ _ _ _ us hl => match us, hl with | [_, _], _ => rfl
    yf_place := by
      intro D b h
      unfold fa_place at h
      split at h
      · rename_i hD; cases h; subst hD; exact ⟨⟨yg1_BadByte, yg2_BadByte, xe_BadByte, yg3_BadByte⟩, xf_BadByte⟩
      cases h
    e_NotValid := ⟨ex_NotValid, ek_NotValid, eb_NotValid, et_NotValid⟩
    x_StreamError := by
      intro D b h
      unfold ca_StreamError at h
      split at h
      · rename_i hD; cases h; subst hD; exact PySem.W.exm_ref hb_StreamError hd_StreamError ht_StreamError sm_NotValid_StreamError
      split at h
      · rename_i hD; cases h; subst hD; exact PySem.W.exm_ref hb_StreamError hd_StreamError ht_StreamError sm_BadByte_StreamError
      cases h
    y_BadByte := by
      intro D b h
      unfold ca_BadByte at h
      split at h
      · rename_i hD; cases h; subst hD; exact ⟨⟨ec1_NotValid, ec2_NotValid, eb_NotValid, ec3_NotValid, ec4_NotValid, ec6, ec7, ec5_NotValid⟩, kit_own hd_BadByte ht_BadByte sm_NotValid_BadByte (fun e => absurd e lo_q_NotValid_BadByte)⟩
      split at h
      · rename_i hD; cases h; subst hD; exact ⟨⟨ec1_BadByte, ec2_BadByte, eb_BadByte, ec3_BadByte, ec4_BadByte, ec6, ec7, ec5_BadByte⟩, kit_own hd_BadByte ht_BadByte sm_BadByte_BadByte (fun _ => rfl)⟩
      cases h
    y_NotValid := by
      intro D b h
      unfold ca_NotValid at h
      split at h
      · rename_i hD; cases h; subst hD; exact ⟨⟨ec1_NotValid, ec2_NotValid, eb_NotValid, ec3_NotValid, ec4_NotValid, ec6, ec7, ec5_NotValid⟩, kit_own hd_NotValid ht_NotValid sm_NotValid_NotValid (fun _ => rfl)⟩
      split at h
      · rename_i hD; cases h; subst hD; exact ⟨⟨ec1_BadByte, ec2_BadByte, eb_BadByte, ec3_BadByte, ec4_BadByte, ec6, ec7, ec5_BadByte⟩, kit_own hd_NotValid ht_NotValid sm_BadByte_NotValid (fun e => absurd e (Ne.symm lo_q_NotValid_BadByte))⟩
      cases h
  }
  exact ⟨_, fun s v => .of_eq rfl, fun base _ _ => law_ok (ok_law T) fun ns hl => law_true _ ns hl⟩
end Law
open PySem PySem.W PyProof.Rows
set_option maxHeartbeats 0 in
theorem PySem.Challenge.cw_hewstream_k11_words_holds : PySem.Challenge.rw_hewstream_k11_words.Holds := by
  w_on; o_law; k_head; (case hw => w_witness2)
  k_fill
  refine L2.walk_of (l := PySem.Challenge.rw_hewstream_k11_words) (n := 63) (k := 11) (x := "script") (CX := fun w => L2.CX PySem.Challenge.rw_hewstream_k11_words.prog w) (sp := fun w => Rg.spLaw _) rfl (by decide) rfl ⟨rfl, by decide, by decide⟩ (fun w h Y => PySem.W.kIn_of Y) ?F (fun _ _ a ns hl o hS => Rg.sp_law hl o hS) (fun _ _ _ _ _ h => Rg.cx_no h)
  case F =>
    intro w mg fa h KX G hmg
    refine' Law.all_mk KX G hmg ?a_sign_of ?a_is_integer ?a_write_word ?a_sign_at ?a_read_number ?a_read_simple ?a_read_word ?a_law_tape ?a_law_at ?a_law_pick ?a_law_value ?a_law_text ?a_law_fault ?a_law_told ?a_law ?g_PRINTED ?g_PER_CENT ?g_MOST_DIGITS ?g_DIGITS ?gc_StreamError ?gc_NotValid ?gc_BadByte ?l_sign_of ?c_sign_of ?k_sign_of ?l_is_integer ?c_is_integer ?k_is_integer ?l_write_word ?c_write_word ?k_write_word ?l_sign_at ?c_sign_at ?k_sign_at ?l_read_number ?c_read_number ?k_read_number ?l_read_simple ?c_read_simple ?k_read_simple ?l_read_word ?c_read_word ?k_read_word ?l_law_tape ?c_law_tape ?k_law_tape ?l_law_at ?c_law_at ?k_law_at ?l_law_pick ?c_law_pick ?k_law_pick ?l_law_value ?c_law_value ?k_law_value ?l_law_text ?c_law_text ?k_law_text ?l_law_fault ?c_law_fault ?k_law_fault ?l_law_told ?c_law_told ?k_law_told ?l_law ?c_law ?k_law ?z_abs ?z_all ?z_bool ?z_int ?z_isinstance ?z_len ?z_list ?z_ord ?z_range ?z_str ?z_tuple ?xL_BadByte ?sa_BadByte ?xe_BadByte ?xt_BadByte ?xk_BadByte ?xi_BadByte ?xj_BadByte ?xf_BadByte ?xl_BadByte ?xc_BadByte ?xp_BadByte ?yg1_BadByte ?yg2_BadByte ?yg3_BadByte ?ex_NotValid ?ek_NotValid ?eb_NotValid ?et_NotValid ?ec1_NotValid ?ec2_NotValid ?ec3_NotValid ?ec4_NotValid ?ec5_NotValid ?eb_BadByte ?ec1_BadByte ?ec2_BadByte ?ec3_BadByte ?ec4_BadByte ?ec5_BadByte ?ec6 ?ec7 ?hd_StreamError ?ht_StreamError ?hb_StreamError ?sm_NotValid_StreamError ?sm_BadByte_StreamError ?hd_BadByte ?ht_BadByte ?sm_NotValid_BadByte ?sm_BadByte_BadByte ?hd_NotValid ?ht_NotValid ?sm_NotValid_NotValid ?sm_BadByte_NotValid ?lo_q_StreamError_NotValid ?lo_q_StreamError_BadByte ?lo_q_NotValid_BadByte
    (case a_sign_of => k_is)
    (case a_is_integer => k_is)
    (case a_write_word => k_is)
    (case a_sign_at => k_is)
    (case a_read_number => k_is)
    (case a_read_simple => k_is)
    (case a_read_word => k_is)
    (case a_law_tape => k_is)
    (case a_law_at => k_is)
    (case a_law_pick => k_is)
    (case a_law_value => k_is)
    (case a_law_text => k_is)
    (case a_law_fault => k_is)
    (case a_law_told => k_is)
    (case a_law => k_is)
    (case g_PRINTED => k_is)
    (case g_PER_CENT => k_is)
    (case g_MOST_DIGITS => k_is)
    (case g_DIGITS => k_is)
    (case gc_StreamError => k_is)
    (case gc_NotValid => k_is)
    (case gc_BadByte => k_is)
    (case l_sign_of => k_is)
    (case c_sign_of => k_is)
    (case k_sign_of => k_is)
    (case l_is_integer => k_is)
    (case c_is_integer => k_is)
    (case k_is_integer => k_is)
    (case l_write_word => k_is)
    (case c_write_word => k_is)
    (case k_write_word => k_is)
    (case l_sign_at => k_is)
    (case c_sign_at => k_is)
    (case k_sign_at => k_is)
    (case l_read_number => k_is)
    (case c_read_number => k_is)
    (case k_read_number => k_is)
    (case l_read_simple => k_is)
    (case c_read_simple => k_is)
    (case k_read_simple => k_is)
    (case l_read_word => k_is)
    (case c_read_word => k_is)
    (case k_read_word => k_is)
    (case l_law_tape => k_is)
    (case c_law_tape => k_is)
    (case k_law_tape => k_is)
    (case l_law_at => k_is)
    (case c_law_at => k_is)
    (case k_law_at => k_is)
    (case l_law_pick => k_is)
    (case c_law_pick => k_is)
    (case k_law_pick => k_is)
    (case l_law_value => k_is)
    (case c_law_value => k_is)
    (case k_law_value => k_is)
    (case l_law_text => k_is)
    (case c_law_text => k_is)
    (case k_law_text => k_is)
    (case l_law_fault => k_is)
    (case c_law_fault => k_is)
    (case k_law_fault => k_is)
    (case l_law_told => k_is)
    (case c_law_told => k_is)
    (case k_law_told => k_is)
    (case l_law => k_is)
    (case c_law => k_is)
    (case k_law => k_is)
    (case z_abs => k_is)
    (case z_all => k_is)
    (case z_bool => k_is)
    (case z_int => k_is)
    (case z_isinstance => k_is)
    (case z_len => k_is)
    (case z_list => k_is)
    (case z_ord => k_is)
    (case z_range => k_is)
    (case z_str => k_is)
    (case z_tuple => k_is)
    (case xL_BadByte => k_is)
    (case sa_BadByte => k_is)
    (case xe_BadByte => k_is)
    (case xt_BadByte => k_is)
    (case xk_BadByte => k_is)
    (case xi_BadByte => k_is)
    (case xj_BadByte => k_is)
    (case xf_BadByte => k_is)
    (case xl_BadByte => k_is)
    (case xc_BadByte => k_is)
    (case xp_BadByte => k_is)
    (case yg1_BadByte => k_is)
    (case yg2_BadByte => k_is)
    (case yg3_BadByte => k_is)
    (case ex_NotValid => k_exc)
    (case ek_NotValid => k_is)
    (case eb_NotValid => k_is)
    (case et_NotValid => k_is)
    (case ec1_NotValid => k_is)
    (case ec2_NotValid => k_is)
    (case ec3_NotValid => k_is)
    (case ec4_NotValid => k_is)
    (case ec5_NotValid => k_is)
    (case eb_BadByte => k_is)
    (case ec1_BadByte => k_is)
    (case ec2_BadByte => k_is)
    (case ec3_BadByte => k_is)
    (case ec4_BadByte => k_is)
    (case ec5_BadByte => k_is)
    (case ec6 => k_is)
    (case ec7 => k_is)
    (case hd_StreamError => k_is)
    (case ht_StreamError => k_is)
    (case hb_StreamError => k_is)
    (case sm_NotValid_StreamError => k_is)
    (case sm_BadByte_StreamError => k_is)
    (case hd_BadByte => k_is)
    (case ht_BadByte => k_is)
    (case sm_NotValid_BadByte => k_is)
    (case sm_BadByte_BadByte => k_is)
    (case hd_NotValid => k_is)
    (case ht_NotValid => k_is)
    (case sm_NotValid_NotValid => k_is)
    (case sm_BadByte_NotValid => k_is)
    (case lo_q_StreamError_NotValid => decide)
    (case lo_q_StreamError_BadByte => decide)
    (case lo_q_NotValid_BadByte => decide)

