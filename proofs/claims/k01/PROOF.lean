import PyProof.Rows.All
import Wide.All
import OpenK.AllK
import Wide.FinOn
import HandS.ForMost
import HandS.Style
import HandS.TupAny
import HandS.IsInst
import HandS.Flow
import HandS.Conv
import HandS.TryOnly
import HandS.ExcOwn
import HandS.ExcIs
import HandS.WordsExc
import PyProof.ListStr
import HandS.Codes
import HandS.Text
import HandS.Deep
import HandS.Steps
import HandS.Strs
import HandS.SetKeys
import HandS.WrittenGet
import HandS.Set
import HandS.SetTxt0
import HandS.SetFor
import HandS.ExcField
import KE.KExcIs
import KE.SortKeyed
import KE.SortUse
import HandS.DictTup
import HandS.ExcInit
import HandS.CallLocal
import HandS.Iter
import HandS.ReplaceLit
import HandS.ReplaceDef
import HandS.ReplaceList
import PySem.Challenge.RW_hewstream_k01_texts_in_pieces
set_option Elab.async false
set_option linter.all false
set_option maxRecDepth 100000
/-! Rf: values by trees and places, and what each construct reckons over them. -/
namespace Rg
open PySem PySem.Spec PyProof.Rows L2

inductive D where
  | non | bl (b : Bool) | int (i : Int) | str (x : Str) | tup (ds : List D) | loc (n : Nat) | cl (ds : List D) | opq (k : Str) (a : Addr) | exo (a dd : Addr) (ks : List Str) (ds : List D)
inductive O where
  | lst (ds : List D) | dct (kvs : List (Key × D)) | ins (C : Addr) (fs : List (Str × D)) | dtt (kvs : List (List Key × D))
abbrev Stt := List O

/-- a list that nobody changes: the script, a list of the module -/
def CL (K : PySem.W.Frag) (H : Hp) (a : Addr) (xs : List V) : Prop := (∃ o, H a = some (.frz o (.lst xs))) ∨
  ∃ (o : Obj) (its : Array Value) (n : Nat), K.lookup a = some o ∧ o.cls = .type "list" ∧ o.dict = none ∧ o.data = .seq its n ∧ its.size ≤ sizeLine ∧ Vals xs its.toList
theorem CL.sq {K : PySem.W.Frag} {H : Hp} {a : Addr} {xs : List V} (h : CL K H a xs) : SqL K H a xs := h.imp (fun h => .inr h) id
mutual
inductive Rl (K : PySem.W.Frag) (H : Hp) (μ : List Addr) : D → V → Prop
  | non : Rl K H μ .non .non
  | bl (b : Bool) : Rl K H μ (.bl b) (.bl b)
  | int (i : Int) : Rl K H μ (.int i) (.int i)
  | str (x : Str) : Rl K H μ (.str x) (.str x)
  | tup {ds : List D} {a : Addr} {vs : List V} : SqT K H a vs → Rls K H μ ds vs → Rl K H μ (.tup ds) (.ref a)
  | loc {n : Nat} {a : Addr} : μ[n]? = some a → Rl K H μ (.loc n) (.ref a)
  | cl {ds : List D} {a : Addr} {vs : List V} : CL K H a vs → Rls K H μ ds vs → Rl K H μ (.cl ds) (.ref a)
  | opq (k : Str) (a : Addr) : Rl K H μ (.opq k a) (.ref a)
  | exo {a dd : Addr} {ks : List Str} {ds : List D} {vs : List V} : H dd = some (.xd (ks.zip vs)) → Rls K H μ ds vs → Rl K H μ (.exo a dd ks ds) (.ref a)
inductive Rls (K : PySem.W.Frag) (H : Hp) (μ : List Addr) : List D → List V → Prop
  | nil : Rls K H μ [] []
  | cons {d : D} {v : V} {ds : List D} {vs : List V} : Rl K H μ d v → Rls K H μ ds vs → Rls K H μ (d :: ds) (v :: vs)
end

structure Ext (K : PySem.W.Frag) (H : Hp) (μ : List Addr) (H' : Hp) (μ' : List Addr) : Prop where
  tups : ∀ a vs, SqT K H a vs → SqT K H' a vs
  cls : ∀ a vs, CL K H a vs → CL K H' a vs
  xds : ∀ a vs, H a = some (.xd vs) → H' a = some (.xd vs)
  more : ∃ l, μ' = μ ++ l
variable {K : PySem.W.Frag}
theorem Ext.refl (H : Hp) (μ : List Addr) : Ext K H μ H μ := ⟨fun _ _ h => h, fun _ _ h => h, fun _ _ h => h, [], by simp⟩
theorem Ext.trans {H H1 H2 : Hp} {μ μ1 μ2 : List Addr} (a : Ext K H μ H1 μ1) (b : Ext K H1 μ1 H2 μ2) : Ext K H μ H2 μ2 := by
  obtain ⟨l, e⟩ := a.more
  obtain ⟨m, f⟩ := b.more
  exact ⟨fun c vs h => b.tups c vs (a.tups c vs h), fun c vs h => b.cls c vs (a.cls c vs h), fun c vs h => b.xds c vs (a.xds c vs h), l ++ m, by rw [f, e, List.append_assoc]⟩
theorem Ext.get {H H' : Hp} {μ μ' : List Addr} (e : Ext K H μ H' μ') {n : Nat} {a : Addr} (h : μ[n]? = some a) : μ'[n]? = some a := by
  obtain ⟨l, rfl⟩ := e.more
  have : n < μ.length := (List.getElem?_eq_some_iff.mp h).1
  rw [List.getElem?_append_left this]
  exact h
mutual
theorem Rl.ext {H H' : Hp} {μ μ' : List Addr} (e : Ext K H μ H' μ') : ∀ {d : D} {v : V}, Rl K H μ d v → Rl K H' μ' d v
  | _, _, .non => .non
  | _, _, .bl b => .bl b
  | _, _, .int i => .int i
  | _, _, .str x => .str x
  | _, _, .tup h r => .tup (e.tups _ _ h) (Rls.ext e r)
  | _, _, .loc h => .loc (e.get h)
  | _, _, .cl h r => .cl (e.cls _ _ h) (Rls.ext e r)
  | _, _, .opq k v => .opq k v
  | _, _, .exo h r => .exo (e.xds _ _ h) (Rls.ext e r)
theorem Rls.ext {H H' : Hp} {μ μ' : List Addr} (e : Ext K H μ H' μ') : ∀ {ds : List D} {vs : List V}, Rls K H μ ds vs → Rls K H' μ' ds vs
  | _, _, .nil => .nil
  | _, _, .cons r t => .cons (Rl.ext e r) (Rls.ext e t)
end
section
variable {H : Hp} {μ : List Addr}
theorem Rls.length : ∀ {ds : List D} {vs : List V}, Rls K H μ ds vs → ds.length = vs.length
  | _, _, .nil => rfl
  | _, _, .cons _ t => by simp [Rls.length t]
theorem Rls.append : ∀ {ds es : List D} {vs us : List V}, Rls K H μ ds vs → Rls K H μ es us → Rls K H μ (ds ++ es) (vs ++ us)
  | _, _, _, _, .nil, s => s
  | _, _, _, _, .cons r t, s => .cons r (Rls.append t s)
theorem Rls.get : ∀ {ds : List D} {vs : List V} {i : Nat} {d : D}, Rls K H μ ds vs → ds[i]? = some d → ∃ v, vs[i]? = some v ∧ Rl K H μ d v
  | _, _, _, _, .nil, e => by simp at e
  | _, _, 0, _, .cons r _, e => by simp at e; subst e; exact ⟨_, rfl, r⟩
  | _, _, i + 1, d, .cons _ t, e => by
    obtain ⟨v, h1, h2⟩ := Rls.get (i := i) (d := d) t (by simpa using e)
    exact ⟨v, by simpa using h1, h2⟩
theorem Rls.getV : ∀ {ds : List D} {vs : List V} {i : Nat} {v : V}, Rls K H μ ds vs → vs[i]? = some v → ∃ d, ds[i]? = some d ∧ Rl K H μ d v
  | _, _, _, _, .nil, e => by simp at e
  | _, _, 0, _, .cons r _, e => by simp at e; subst e; exact ⟨_, rfl, r⟩
  | _, _, i + 1, v, .cons _ t, e => by
    obtain ⟨d, h1, h2⟩ := Rls.getV (i := i) (v := v) t (by simpa using e)
    exact ⟨d, by simpa using h1, h2⟩
theorem Rls.take : ∀ {ds : List D} {vs : List V} (n : Nat), Rls K H μ ds vs → Rls K H μ (ds.take n) (vs.take n)
  | _, _, 0, _ => .nil
  | _, _, _ + 1, .nil => .nil
  | _, _, n + 1, .cons r t => .cons r (Rls.take n t)
theorem Rls.drop : ∀ {ds : List D} {vs : List V} (n : Nat), Rls K H μ ds vs → Rls K H μ (ds.drop n) (vs.drop n)
  | _, _, 0, r => r
  | _, _, _ + 1, .nil => .nil
  | _, _, n + 1, .cons _ t => Rls.drop n t
theorem Rls.set {d : D} {v : V} (r : Rl K H μ d v) : ∀ {ds : List D} {vs : List V} (i : Nat), Rls K H μ ds vs → Rls K H μ (ds.set i d) (vs.set i v)
  | _, _, _, .nil => .nil
  | _, _, 0, .cons _ t => .cons r t
  | _, _, i + 1, .cons q t => .cons q (Rls.set r i t)
theorem Rls.reverse : ∀ {ds : List D} {vs : List V}, Rls K H μ ds vs → Rls K H μ ds.reverse vs.reverse
  | _, _, .nil => .nil
  | _, _, .cons r t => by
    rw [List.reverse_cons, List.reverse_cons]
    exact Rls.append (Rls.reverse t) (.cons r .nil)
theorem Rls.dropLast {ds : List D} {vs : List V} (r : Rls K H μ ds vs) : Rls K H μ ds.dropLast vs.dropLast := by
  rw [List.dropLast_eq_take, List.dropLast_eq_take, ← r.length]
  exact r.take _
theorem Rls.ints : ∀ ns : List Int, Rls K H μ (ns.map D.int) (ns.map V.int)
  | [] => .nil
  | n :: ns => .cons (.int n) (Rls.ints ns)
theorem Rls.nil_inv {vs : List V} (r : Rls K H μ [] vs) : vs = [] := by cases r; rfl
theorem Rls.cons_inv {d : D} {ds : List D} {vs : List V} (r : Rls K H μ (d :: ds) vs) : ∃ v us, vs = v :: us ∧ Rl K H μ d v ∧ Rls K H μ ds us := by
  cases r with
  | cons a b => exact ⟨_, _, rfl, a, b⟩
end

/-- a dict's pairs -/
abbrev KR (K : PySem.W.Frag) (H : Hp) (μ : List Addr) : List (Key × D) → List (Key × V) → Prop := Paired fun p q => p.1 = q.1 ∧ Rl K H μ p.2 q.2
theorem KR.ext {H H' : Hp} {μ μ' : List Addr} (e : Ext K H μ H' μ') {kd : List (Key × D)} {kv : List (Key × V)} (r : KR K H μ kd kv) : KR K H' μ' kd kv :=
  Paired.mapP r fun _ _ q => ⟨q.1, q.2.ext e⟩

/-- a dict's pairs, the keys tuples -/
abbrev TR (K : PySem.W.Frag) (H : Hp) (μ : List Addr) : List (List Key × D) → List (List Key × V) → Prop := Paired fun p q => p.1 = q.1 ∧ Rl K H μ p.2 q.2
theorem TR.ext {H H' : Hp} {μ μ' : List Addr} (e : Ext K H μ H' μ') {kd : List (List Key × D)} {kv : List (List Key × V)} (r : TR K H μ kd kv) : TR K H' μ' kd kv :=
  Paired.mapP r fun _ _ q => ⟨q.1, q.2.ext e⟩
/-- an instance's attributes -/
abbrev FR (K : PySem.W.Frag) (H : Hp) (μ : List Addr) : List (Str × D) → List (Str × V) → Prop := Paired fun p q => p.1 = q.1 ∧ Rl K H μ p.2 q.2
theorem FR.ext {H H' : Hp} {μ μ' : List Addr} (e : Ext K H μ H' μ') {kd : List (Str × D)} {kv : List (Str × V)} (r : FR K H μ kd kv) : FR K H' μ' kd kv :=
  Paired.mapP r fun _ _ q => ⟨q.1, q.2.ext e⟩
def OR (K : PySem.W.Frag) (H : Hp) (μ : List Addr) : O → Addr → Prop
  | .lst ds, a => ∃ vs, H a = some (.lst vs) ∧ Rls K H μ ds vs
  | .dct kvs, a => ∃ vs, H a = some (.dK vs) ∧ KR K H μ kvs vs
  | .ins C fs, a => ∃ dx vs, H a = some (.ins C dx vs) ∧ FR K H μ fs vs
  | .dtt kvs, a => ∃ vs, H a = some (.dT vs) ∧ TR K H μ kvs vs

structure SR (K : PySem.W.Frag) (H : Hp) (μ : List Addr) (st : Stt) : Prop where
  len : μ.length = st.length
  nd : μ.Nodup
  obj : ∀ (n : Nat) (o : O), st[n]? = some o → ∃ a, μ[n]? = some a ∧ OR K H μ o a

/-- no tuple stands here -/
def NoT (u : HO) : Prop := (∀ vs, u ≠ .tup vs) ∧ (∀ o v, u ≠ .frz o v) ∧ ∀ vs, u ≠ .xd vs
theorem OR.has {H : Hp} {μ : List Addr} {o : O} {a : Addr} (h : OR K H μ o a) : ∃ u, H a = some u ∧ NoT u := by
  cases o with
  | lst ds => obtain ⟨vs, e, _⟩ := h; exact ⟨_, e, ⟨fun _ z => HO.noConfusion z, fun _ _ z => (by cases z), fun _ z => (by cases z)⟩⟩
  | dct ds => obtain ⟨vs, e, _⟩ := h; exact ⟨_, e, ⟨fun _ z => HO.noConfusion z, fun _ _ z => (by cases z), fun _ z => (by cases z)⟩⟩
  | ins C fs => obtain ⟨_, vs, e, _⟩ := h; exact ⟨_, e, ⟨fun _ z => HO.noConfusion z, fun _ _ z => (by cases z), fun _ z => (by cases z)⟩⟩
  | dtt ds => obtain ⟨vs, e, _⟩ := h; exact ⟨_, e, ⟨fun _ z => HO.noConfusion z, fun _ _ z => (by cases z), fun _ z => (by cases z)⟩⟩
/-- a store where no tuple stands keeps the tuples -/
theorem sqT_upd {H : Hp} {p : Addr} {u : HO} (h : ∀ w, H p = some w → NoT w) {a : Addr} {vs : List V} (t : SqT K H a vs) : SqT K (upd H p u) a vs := by
  rcases t with t | t
  · refine .inl ?_
    rcases t with t | ⟨o, t⟩
    · have : a ≠ p := fun e => (h _ (by rw [← e]; exact t)).1 vs rfl
      exact .inl (by rw [upd_ne this]; exact t)
    · have : a ≠ p := fun e => (h _ (by rw [← e]; exact t)).2.1 o _ rfl
      exact .inr ⟨o, by rw [upd_ne this]; exact t⟩
  · exact .inr t
theorem xd_upd {H : Hp} {p : Addr} {u : HO} (h : ∀ w, H p = some w → NoT w) {a : Addr} {vs : List (Str × V)} (t : H a = some (.xd vs)) : upd H p u a = some (.xd vs) := by
  have : a ≠ p := fun e => (h _ (by rw [← e]; exact t)).2.2 vs rfl
  rw [upd_ne this]; exact t
/-- an object as it was -/
theorem OR.keep {H H' : Hp} {μ μ' : List Addr} (e : Ext K H μ H' μ') {o : O} {a : Addr} (k : H' a = H a) (h : OR K H μ o a) : OR K H' μ' o a := by
  cases o with
  | lst ds => obtain ⟨vs, q, r⟩ := h; exact ⟨vs, k.trans q, r.ext e⟩
  | dct ds => obtain ⟨vs, q, r⟩ := h; exact ⟨vs, k.trans q, r.ext e⟩
  | ins C fs => obtain ⟨u, vs, q, r⟩ := h; exact ⟨u, vs, k.trans q, r.ext e⟩
  | dtt ds => obtain ⟨vs, q, r⟩ := h; exact ⟨vs, k.trans q, r.ext e⟩
theorem cl_upd {H : Hp} {p : Addr} {u : HO} (h : ∀ w, H p = some w → NoT w) {a : Addr} {vs : List V} (t : CL K H a vs) : CL K (upd H p u) a vs := by
  rcases t with ⟨o, t⟩ | t
  · have : a ≠ p := fun e => (h _ (by rw [← e]; exact t)).2.1 o _ rfl
    exact .inl ⟨o, by rw [upd_ne this]; exact t⟩
  · exact .inr t
section
variable {H : Hp} {μ : List Addr} {st : Stt}
theorem SR.fresh (S : SR K H μ st) {p : Addr} (hp : H p = none) : p ∉ μ := fun hm => by
  obtain ⟨n, hn⟩ := List.getElem?_of_mem hm
  have hlt : n < st.length := by rw [← S.len]; exact (List.getElem?_eq_some_iff.mp hn).1
  obtain ⟨a, ha, ho⟩ := S.obj n st[n] (List.getElem?_eq_getElem hlt)
  rw [hn] at ha
  cases ha
  obtain ⟨u, hu, _⟩ := ho.has
  rw [hp] at hu
  cases hu
/-- a new tuple -/
theorem ext_tup {p : Addr} (hp : H p = none) (vs : List V) : Ext K H μ (upd H p (.tup vs)) μ := ⟨fun a us h => sqT_upd (fun w e => by rw [hp] at e; cases e) h, fun a us h => cl_upd (fun w e => by rw [hp] at e; cases e) h, fun a us h => xd_upd (fun w e => by rw [hp] at e; cases e) h, [], by simp⟩
theorem SR.tup (S : SR K H μ st) {p : Addr} (hp : H p = none) (vs : List V) : SR K (upd H p (.tup vs)) μ st := ⟨S.len, S.nd, fun n o h => by
  obtain ⟨a, ha, ho⟩ := S.obj n o h
  obtain ⟨u, hu, _⟩ := ho.has
  exact ⟨a, ha, ho.keep (ext_tup hp vs) (upd_ne (ne_of_none hu hp))⟩⟩
/-- a new object -/
theorem ext_new {p : Addr} (hp : H p = none) (u : HO) : Ext K H μ (upd H p u) (μ ++ [p]) := ⟨fun a us h => sqT_upd (fun w e => by rw [hp] at e; cases e) h, fun a us h => cl_upd (fun w e => by rw [hp] at e; cases e) h, fun a us h => xd_upd (fun w e => by rw [hp] at e; cases e) h, [p], rfl⟩
/-- a cell beside -/
theorem ext_side {p : Addr} (hp : H p = none) (u : HO) : Ext K H μ (upd H p u) μ := ⟨fun a us h => sqT_upd (fun w e => by rw [hp] at e; cases e) h, fun a us h => cl_upd (fun w e => by rw [hp] at e; cases e) h, fun a us h => xd_upd (fun w e => by rw [hp] at e; cases e) h, [], by simp⟩
theorem SR.side (S : SR K H μ st) {p : Addr} (hp : H p = none) (u : HO) : SR K (upd H p u) μ st := ⟨S.len, S.nd, fun n o h => by
  obtain ⟨a, ha, ho⟩ := S.obj n o h
  obtain ⟨w, hw, _⟩ := ho.has
  exact ⟨a, ha, ho.keep (ext_side hp u) (upd_ne (ne_of_none hw hp))⟩⟩
theorem SR.new (S : SR K H μ st) {p : Addr} (hp : H p = none) {u : HO} {o : O} (ho : OR K (upd H p u) (μ ++ [p]) o p) : SR K (upd H p u) (μ ++ [p]) (st ++ [o]) := by
  refine ⟨by simp [S.len], ?_, fun n o' h => ?_⟩
  · rw [List.nodup_append]
    refine ⟨S.nd, by simp, fun a ha b hb e => ?_⟩
    simp only [List.mem_singleton] at hb
    subst hb
    subst e
    exact S.fresh hp ha
  · by_cases hn : n < st.length
    · rw [List.getElem?_append_left hn] at h
      obtain ⟨a, ha, hq⟩ := S.obj n o' h
      obtain ⟨w, hw, _⟩ := hq.has
      exact ⟨a, (ext_new (K := K) hp u).get ha, hq.keep (ext_new hp u) (upd_ne (ne_of_none hw hp))⟩
    · rw [List.getElem?_append_right (by omega)] at h
      have e : n - st.length = 0 := by
        have := (List.getElem?_eq_some_iff.mp h).1
        simp at this
        omega
      rw [e] at h
      have e2 : o = o' := by simpa using h
      subst e2
      refine ⟨p, ?_, ho⟩
      have e3 : n = μ.length := by
        rw [S.len]
        omega
      rw [e3]
      simp
theorem SR.at_loc (S : SR K H μ st) (hp : H = H) : μ[st.length]? = none := by
  rw [List.getElem?_eq_none]
  rw [S.len]
  exact Nat.le_refl _
/-- an object changed -/
theorem ext_set {n : Nat} {a : Addr} {o : O} (S : SR K H μ st) (hn : st[n]? = some o) (ha : μ[n]? = some a) (u : HO) : Ext K H μ (upd H a u) μ := by
  have k : ∀ w, H a = some w → NoT w := fun w e => by
    obtain ⟨a', ha', ho⟩ := S.obj n o hn
    rw [ha] at ha'
    cases ha'
    obtain ⟨w', hw, nt⟩ := ho.has
    rw [e] at hw
    cases hw
    exact nt
  exact ⟨fun b vs h => sqT_upd k h, fun b vs h => cl_upd k h, fun b vs h => xd_upd k h, [], by simp⟩
theorem SR.put (S : SR K H μ st) {n : Nat} {a : Addr} {o o' : O} (hn : st[n]? = some o) (ha : μ[n]? = some a) {u : HO} (ho : OR K (upd H a u) μ o' a) : SR K (upd H a u) μ (st.set n o') := by
  refine ⟨by simp [S.len], S.nd, fun m q h => ?_⟩
  by_cases e : m = n
  · subst e
    have hl : m < st.length := (List.getElem?_eq_some_iff.mp hn).1
    rw [List.getElem?_set_self hl] at h
    cases h
    exact ⟨a, ha, ho⟩
  · rw [List.getElem?_set_ne (Ne.symm e)] at h
    obtain ⟨b, hb, hq⟩ := S.obj m q h
    have nb : b ≠ a := fun z => by
      subst z
      exact e ((List.getElem?_inj (List.getElem?_eq_some_iff.mp hb).1 S.nd).mp (hb.trans ha.symm))
    exact ⟨b, hb, hq.keep (ext_set S hn ha u) (upd_ne nb)⟩
theorem SR.lst (S : SR K H μ st) {n : Nat} {ds : List D} (h : st[n]? = some (.lst ds)) {v : V} (r : Rl K H μ (.loc n) v) : ∃ a vs, v = .ref a ∧ μ[n]? = some a ∧ H a = some (.lst vs) ∧ Rls K H μ ds vs := by
  cases r with
  | loc ha =>
    obtain ⟨a, hb, vs, e, q⟩ := S.obj n _ h
    rw [ha] at hb
    cases hb
    exact ⟨_, vs, rfl, ha, e, q⟩
theorem SR.dct (S : SR K H μ st) {n : Nat} {ds : List (Key × D)} (h : st[n]? = some (.dct ds)) {v : V} (r : Rl K H μ (.loc n) v) : ∃ a vs, v = .ref a ∧ μ[n]? = some a ∧ H a = some (.dK vs) ∧ KR K H μ ds vs := by
  cases r with
  | loc ha =>
    obtain ⟨a, hb, vs, e, q⟩ := S.obj n _ h
    rw [ha] at hb
    cases hb
    exact ⟨_, vs, rfl, ha, e, q⟩
theorem SR.ins (S : SR K H μ st) {n : Nat} {C : Addr} {fs : List (Str × D)} (h : st[n]? = some (.ins C fs)) {v : V} (r : Rl K H μ (.loc n) v) : ∃ a dx vs, v = .ref a ∧ μ[n]? = some a ∧ H a = some (.ins C dx vs) ∧ FR K H μ fs vs := by
  cases r with
  | loc ha =>
    obtain ⟨a, hb, dx, vs, e, q⟩ := S.obj n _ h
    rw [ha] at hb
    cases hb
    exact ⟨_, dx, vs, rfl, ha, e, q⟩
theorem SR.dtt (S : SR K H μ st) {n : Nat} {ds : List (List Key × D)} (h : st[n]? = some (.dtt ds)) {v : V} (r : Rl K H μ (.loc n) v) : ∃ a vs, v = .ref a ∧ μ[n]? = some a ∧ H a = some (.dT vs) ∧ TR K H μ ds vs := by
  cases r with
  | loc ha =>
    obtain ⟨a, hb, vs, e, q⟩ := S.obj n _ h
    rw [ha] at hb
    cases hb
    exact ⟨_, vs, rfl, ha, e, q⟩
/-- the items of a list, tuple; where it may be read -/
def items (st : Stt) : D → Option (List D)
  | .tup ds => some ds
  | .cl ds => some ds
  | .loc n => match st[n]? with
    | some (.lst ds) => some ds
    | _ => none
  | _ => none
def isL : D → Bool
  | .loc _ => true
  | _ => false
theorem SR.seqL (S : SR K H μ st) {n : Nat} {ds : List D} (h : items st (.loc n) = some ds) {v : V} (r : Rl K H μ (.loc n) v) : ∃ a vs, v = .ref a ∧ SqL K H a vs ∧ Rls K H μ ds vs := by
  have h : (match st[n]? with
    | some (.lst ds) => some ds
    | _ => none) = some ds := h
  cases e : st[n]? with
  | none => rw [e] at h; cases h
  | some o =>
    rw [e] at h
    cases o with
    | lst es =>
      cases h
      obtain ⟨a, vs, rfl, _, e2, q⟩ := S.lst e r
      exact ⟨a, vs, rfl, .inl (.inl e2), q⟩
    | dct es => cases h
    | ins C es => cases h
    | dtt _ => cases h
theorem seqC {ds : List D} {v : V} (r : Rl K H μ (.cl ds) v) : ∃ a vs, v = .ref a ∧ SqL K H a vs ∧ Rls K H μ ds vs := by
  cases r with
  | cl h q => exact ⟨_, _, rfl, h.sq, q⟩
theorem seqT {ds : List D} {v : V} (r : Rl K H μ (.tup ds) v) : ∃ a vs, v = .ref a ∧ SqT K H a vs ∧ Rls K H μ ds vs := by
  cases r with
  | tup h q => exact ⟨_, _, rfl, h, q⟩
end

/-! ### slots -/
abbrev En := List (Option D)
structure ER (K : PySem.W.Frag) (H : Hp) (μ : List Addr) (ρ : En) (σ : L2.St) : Prop where
  len : ρ.length = σ.length
  val : ∀ (i : Nat) (d : D), ρ[i]? = some (some d) → ∃ v, σ[i]? = some (some v) ∧ Rl K H μ d v
theorem ER.ext {H H' : Hp} {μ μ' : List Addr} {ρ : En} {σ : L2.St} (e : Ext K H μ H' μ') (r : ER K H μ ρ σ) : ER K H' μ' ρ σ := ⟨r.len, fun i d h => by
  obtain ⟨v, h1, h2⟩ := r.val i d h
  exact ⟨v, h1, h2.ext e⟩⟩
theorem ER.set {H : Hp} {μ : List Addr} {ρ : En} {σ : L2.St} (r : ER K H μ ρ σ) {d : D} {v : V} (q : Rl K H μ d v) (i : Nat) : ER K H μ (ρ.set i (some d)) (σ.set i (some v)) := ⟨by simp [r.len], fun j e h => by
  by_cases hj : i = j
  · subst hj
    by_cases hl : i < ρ.length
    · rw [List.getElem?_set_self hl] at h
      cases h
      exact ⟨v, List.getElem?_set_self (by rw [← r.len]; exact hl), q⟩
    · rw [List.getElem?_eq_none (by simpa using hl)] at h
      cases h
  · rw [List.getElem?_set_ne hj] at h
    obtain ⟨w, h1, h2⟩ := r.val j e h
    exact ⟨w, by rw [List.getElem?_set_ne hj]; exact h1, h2⟩⟩


end Rg

set_option Elab.async false
set_option linter.all false
set_option maxRecDepth 100000
namespace Rg
open PySem PySem.Spec PyProof.Rows L2

/-! ### what is reckoned -/
/-- an exception: its class, the fields of its own dict (none: it has no dict) -/
structure Exn where
  cls : Addr
  fs : Option (List (Str × D))
inductive R (α : Type) where
  | no | ok (a : α) (st : Stt) | ex (e : Exn) (st : Stt)
def R.bind {α β : Type} : R α → (α → Stt → R β) → R β
  | .no, _ => .no
  | .ok a st, f => f a st
  | .ex e st, _ => .ex e st
@[simp] theorem R.bind_no {α β : Type} (f : α → Stt → R β) : (R.no : R α).bind f = .no := (rfl)
@[simp] theorem R.bind_ok {α β : Type} (a : α) (st : Stt) (f : α → Stt → R β) : (R.ok a st).bind f = f a st := (rfl)
@[simp] theorem R.bind_ex {α β : Type} (e : Exn) (st : Stt) (f : α → Stt → R β) : (R.ex e st : R α).bind f = .ex e st := (rfl)
def R.of {α : Type} : Option (α × Stt) → R α
  | none => .no
  | some (a, st) => .ok a st
@[simp] theorem R.of_none {α : Type} : (R.of none : R α) = .no := (rfl)
@[simp] theorem R.of_some {α : Type} (a : α) (st : Stt) : R.of (some (a, st)) = .ok a st := (rfl)
abbrev XE := En → Stt → R D
abbrev XT := En → Stt → R Bool
abbrev XA := En → Stt → R (List D)
inductive Out where
  | no | nx (ρ : En) (st : Stt) | rt (d : D) (st : Stt) | bk (ρ : En) (st : Stt) | ct (ρ : En) (st : Stt) | xx (ρ : En) (e : Exn) (st : Stt)
abbrev XS := En → Stt → Out
def R.out {α : Type} (ρ : En) (k : α → Stt → Out) : R α → Out
  | .no => .no
  | .ok a st => k a st
  | .ex e st => .xx ρ e st
@[simp] theorem R.out_no {α : Type} (ρ : En) (k : α → Stt → Out) : (R.no : R α).out ρ k = .no := (rfl)
@[simp] theorem R.out_ok {α : Type} (ρ : En) (k : α → Stt → Out) (a : α) (st : Stt) : (R.ok a st).out ρ k = k a st := (rfl)
@[simp] theorem R.out_ex {α : Type} (ρ : En) (k : α → Stt → Out) (e : Exn) (st : Stt) : (R.ex e st : R α).out ρ k = .xx ρ e st := (rfl)
def Out.seq (g : XS) : Out → Out
  | .nx ρ st => g ρ st
  | o => o
@[simp] theorem Out.seq_no (g : XS) : Out.no.seq g = .no := (rfl)
@[simp] theorem Out.seq_nx (g : XS) (ρ : En) (st : Stt) : (Out.nx ρ st).seq g = g ρ st := (rfl)
@[simp] theorem Out.seq_rt (g : XS) (d : D) (st : Stt) : (Out.rt d st).seq g = .rt d st := (rfl)
@[simp] theorem Out.seq_bk (g : XS) (ρ : En) (st : Stt) : (Out.bk ρ st).seq g = .bk ρ st := (rfl)
@[simp] theorem Out.seq_ct (g : XS) (ρ : En) (st : Stt) : (Out.ct ρ st).seq g = .ct ρ st := (rfl)
@[simp] theorem Out.seq_xx (g : XS) (ρ : En) (e : Exn) (st : Stt) : (Out.xx ρ e st).seq g = .xx ρ e st := (rfl)

section
variable {K : PySem.W.Frag}
/-- the exception as it lies -/
def XR (K : PySem.W.Frag) (H : Hp) (μ : List Addr) (e : Exn) (d : Option Addr) : Prop := match e.fs with
  | none => d = none
  | some fs => ∃ dd vs, d = some dd ∧ H dd = some (.xd vs) ∧ FR K H μ fs vs
def wx (K : PySem.W.Frag) (W : WX) (σ : L2.St) : Exn → Hp → List Addr → Prop := fun e H μ => ∀ d, XR K H μ e d → W (.ref e.cls) d σ H
def RO (K : PySem.W.Frag) {α : Type} (W : Exn → Hp → List Addr → Prop) (H : Hp) (μ : List Addr) (Q : α → Stt → Hp → List Addr → Prop) : R α → Prop
  | .no => False
  | .ok a st => ∀ H' μ', Ext K H μ H' μ' → SR K H' μ' st → Q a st H' μ'
  | .ex e st => ∀ H' μ', Ext K H μ H' μ' → SR K H' μ' st → W e H' μ'
theorem RO.at {α : Type} {W : Exn → Hp → List Addr → Prop} {H H' : Hp} {μ μ' : List Addr} {Q : α → Stt → Hp → List Addr → Prop} (x : Ext K H μ H' μ') : ∀ {r : R α}, RO K W H μ Q r → RO K W H' μ' Q r
  | .no, h => h
  | .ok _ _, h => fun H2 μ2 e => h H2 μ2 (x.trans e)
  | .ex _ _, h => fun H2 μ2 e => h H2 μ2 (x.trans e)
theorem RO.mono {α : Type} {W : Exn → Hp → List Addr → Prop} {H : Hp} {μ : List Addr} {Q Q' : α → Stt → Hp → List Addr → Prop} (k : ∀ a st H' μ', Ext K H μ H' μ' → SR K H' μ' st → Q a st H' μ' → Q' a st H' μ') : ∀ {r : R α}, RO K W H μ Q r → RO K W H μ Q' r
  | .no, h => h
  | .ok _ _, h => fun H2 μ2 e S => k _ _ _ _ e S (h H2 μ2 e S)
  | .ex _ _, h => h
theorem RO.bind {α β : Type} {W : Exn → Hp → List Addr → Prop} {H : Hp} {μ : List Addr} {Q : β → Stt → Hp → List Addr → Prop} {f : α → Stt → R β} : ∀ {r : R α}, RO K W H μ Q (r.bind f) → RO K W H μ (fun a st H' μ' => RO K W H' μ' Q (f a st)) r
  | .no, h => h
  | .ok _ _, h => fun H2 μ2 e _ => RO.at e h
  | .ex _ _, h => h
theorem RO.ok {α : Type} {W : Exn → Hp → List Addr → Prop} {H : Hp} {μ : List Addr} {Q : α → Stt → Hp → List Addr → Prop} {a : α} {st : Stt} (S : SR K H μ st) (h : RO K W H μ Q (.ok a st)) : Q a st H μ := h H μ (Ext.refl _ _) S
/-- of an option -/
theorem RO.of {α : Type} {W : Exn → Hp → List Addr → Prop} {H : Hp} {μ : List Addr} {Q : α → Stt → Hp → List Addr → Prop} {o : Option (α × Stt)} (h : RO K W H μ Q (R.of o)) : ∃ a st, o = some (a, st) ∧ ∀ H' μ', Ext K H μ H' μ' → SR K H' μ' st → Q a st H' μ' := by
  cases o with
  | none => exact h.elim
  | some p => obtain ⟨a, st⟩ := p; exact ⟨a, st, rfl, h⟩
/-- of a value -/
abbrev QD (K : PySem.W.Frag) (Q : VK) : D → Stt → Hp → List Addr → Prop := fun d _ H' μ' => ∀ v, Rl K H' μ' d v → Q v H'
abbrev QL (K : PySem.W.Frag) (Q : List V → Hp → Prop) : List D → Stt → Hp → List Addr → Prop := fun d _ H' μ' => ∀ v, Rls K H' μ' d v → Q v H'
def tX (K : PySem.W.Frag) (W : WX) (f : XE) : TE := fun σ H Q => ∃ ρ st μ, ER K H μ ρ σ ∧ SR K H μ st ∧ RO K (wx K W σ) H μ (QD K Q) (f ρ st)
def tXT (K : PySem.W.Frag) (W : WX) (f : XT) : TT := fun σ H Q => ∃ ρ st μ, ER K H μ ρ σ ∧ SR K H μ st ∧ RO K (wx K W σ) H μ (fun b _ H' _ => Q b H') (f ρ st)
def tXA (K : PySem.W.Frag) (W : WX) (f : XA) : TA := fun σ H Q => ∃ ρ st μ, ER K H μ ρ σ ∧ SR K H μ st ∧ RO K (wx K W σ) H μ (QL K Q) (f ρ st)
def outOk (K : PySem.W.Frag) (W : WX) (D' : Ends) (H : Hp) (μ : List Addr) : Out → Prop
  | .no => False
  | .nx ρ st => ∀ σ H' μ', Ext K H μ H' μ' → ER K H' μ' ρ σ → SR K H' μ' st → D'.nx σ H'
  | .rt d st => ∀ v H' μ', Ext K H μ H' μ' → SR K H' μ' st → Rl K H' μ' d v → D'.rt v H'
  | .bk ρ st => ∀ σ H' μ', Ext K H μ H' μ' → ER K H' μ' ρ σ → SR K H' μ' st → D'.bk σ H'
  | .ct ρ st => ∀ σ H' μ', Ext K H μ H' μ' → ER K H' μ' ρ σ → SR K H' μ' st → D'.ct σ H'
  | .xx ρ e st => ∀ σ H' μ', Ext K H μ H' μ' → ER K H' μ' ρ σ → SR K H' μ' st → wx K W σ e H' μ'
def tXS (K : PySem.W.Frag) (W : WX) (f : XS) : TS := fun D' σ H => ∃ ρ st μ, ER K H μ ρ σ ∧ SR K H μ st ∧ outOk K W D' H μ (f ρ st)
theorem outOk.at {W : WX} {D' : Ends} {H H1 : Hp} {μ μ1 : List Addr} (e : Ext K H μ H1 μ1) : ∀ {o : Out}, outOk K W D' H μ o → outOk K W D' H1 μ1 o
  | .no, h => h
  | .nx _ _, h => fun σ H' μ' e' => h σ H' μ' (e.trans e')
  | .rt _ _, h => fun v H' μ' e' => h v H' μ' (e.trans e')
  | .bk _ _, h => fun σ H' μ' e' => h σ H' μ' (e.trans e')
  | .ct _ _, h => fun σ H' μ' e' => h σ H' μ' (e.trans e')
  | .xx _ _ _, h => fun σ H' μ' e' => h σ H' μ' (e.trans e')
theorem outOk.out {α : Type} {W : WX} {D' : Ends} {H : Hp} {μ : List Addr} {ρ : En} {σ : L2.St} (E : ER K H μ ρ σ) {k : α → Stt → Out} : ∀ {r : R α}, outOk K W D' H μ (r.out ρ k) → RO K (wx K W σ) H μ (fun a st H' μ' => outOk K W D' H' μ' (k a st)) r
  | .no, h => h
  | .ok _ _, h => fun H2 μ2 e _ => outOk.at e h
  | .ex _ _, h => fun H2 μ2 e S => h σ H2 μ2 e (E.ext e) S
theorem tX_of {W : WX} {f : XE} {σ : L2.St} {H : Hp} {μ : List Addr} {ρ : En} {st : Stt} {P : D → Stt → Hp → List Addr → Prop} {Q : VK} (E : ER K H μ ρ σ) (S : SR K H μ st) (h : RO K (wx K W σ) H μ P (f ρ st))
    (k : ∀ d st' H' μ' v, Ext K H μ H' μ' → ER K H' μ' ρ σ → SR K H' μ' st' → Rl K H' μ' d v → P d st' H' μ' → Q v H') : tX K W f σ H Q :=
  ⟨ρ, st, μ, E, S, h.mono fun a s H' μ' e S' p v r => k a s H' μ' v e (E.ext e) S' r p⟩
theorem tXT_of {W : WX} {f : XT} {σ : L2.St} {H : Hp} {μ : List Addr} {ρ : En} {st : Stt} {P : Bool → Stt → Hp → List Addr → Prop} {Q : Bool → Hp → Prop} (E : ER K H μ ρ σ) (S : SR K H μ st) (h : RO K (wx K W σ) H μ P (f ρ st))
    (k : ∀ d st' H' μ', Ext K H μ H' μ' → ER K H' μ' ρ σ → SR K H' μ' st' → P d st' H' μ' → Q d H') : tXT K W f σ H Q :=
  ⟨ρ, st, μ, E, S, h.mono fun a s H' μ' e S' p => k a s H' μ' e (E.ext e) S' p⟩
theorem tXA_of {W : WX} {f : XA} {σ : L2.St} {H : Hp} {μ : List Addr} {ρ : En} {st : Stt} {P : List D → Stt → Hp → List Addr → Prop} {Q : List V → Hp → Prop} (E : ER K H μ ρ σ) (S : SR K H μ st) (h : RO K (wx K W σ) H μ P (f ρ st))
    (k : ∀ d st' H' μ' v, Ext K H μ H' μ' → ER K H' μ' ρ σ → SR K H' μ' st' → Rls K H' μ' d v → P d st' H' μ' → Q v H') : tXA K W f σ H Q :=
  ⟨ρ, st, μ, E, S, h.mono fun a s H' μ' e S' p v r => k a s H' μ' v e (E.ext e) S' r p⟩
end

section
variable {X : Cx} {a b c e : Expr} {es : List Expr} {fa fb fc : XE} {pos : Pos} {W : WX}
theorem pe_imp {t t' : TE} (h : PE X e t) (i : ∀ σ H Q, t' σ H Q → t σ H Q) : PE X e t' := ⟨fun pins s σ H Q I q => h.run pins s σ H Q I (i σ H Q q)⟩
theorem pt_imp {t t' : TT} (h : PT X e t) (i : ∀ σ H Q, t' σ H Q → t σ H Q) : PT X e t' := ⟨fun pins s σ H Q I q => h.run pins s σ H Q I (i σ H Q q)⟩
theorem pw_imp {t t' : TT} (h : PW X e t) (i : ∀ σ H Q, t' σ H Q → t σ H Q) : PW X e t' := ⟨fun w pins s σ H Q I q => h.run w pins s σ H Q I (i σ H Q q)⟩
theorem pa_imp {t t' : TA} (h : PA X es t) (i : ∀ σ H Q, t' σ H Q → t σ H Q) : PA X es t' := ⟨fun p pins s σ H Q I q => h.run p pins s σ H Q I (i σ H Q q)⟩
theorem ps_imp {st : Stmt} {t t' : TS} (h : PS X st t) (i : ∀ D σ H, t' D σ H → t D σ H) : PS X st t' := ⟨fun pins s σ H D I q => h.run pins s σ H D I (i D σ H q)⟩
theorem pss_imp {st : List Stmt} {t t' : TS} (h : PSs X st t) (i : ∀ D σ H, t' D σ H → t D σ H) : PSs X st t' := ⟨fun pins s σ H D I q => h.run pins s σ H D I (i D σ H q)⟩

/-! names, constants -/
def xV (i : Nat) : XE := fun ρ st => match ρ[i]? with
  | some (some d) => .ok d st
  | _ => .no
def xC (d : D) : XE := fun _ st => .ok d st
@[simp] theorem xC_run (d : D) (ρ : En) (st : Stt) : xC d ρ st = .ok d st := (rfl)
theorem e_v (i : Nat) {x : Str} (hN : X.N[i]? = some x := by rfl) (hv : Vis X.env.scope x := by first | exact Or.inl rfl | exact Or.inr (Or.inl rfl) | exact Or.inr (Or.inr rfl)) (hd : (x == ("__debug__" : Str)) = false := by decide)
    (hcd : (x == ("__classdict__" : Str)) = false := by decide) : PE X (.Name x pos) (tX X.K W (xV i)) :=
  pe_imp (pe_var hN hv hd hcd) fun σ H Q ⟨ρ, st, μ, E, S, h⟩ => by
    unfold xV at h
    split at h
    · rename_i d' hd
      obtain ⟨v, h1, h2⟩ := E.val i _ hd
      exact ⟨v, h1, h.ok S v h2⟩
    · exact h.elim
theorem e_c {d : D} {v : V} (h : PE X e (tC v)) (r : ∀ H μ, Rl X.K H μ d v) : PE X e (tX X.K W (xC d)) :=
  pe_imp h fun σ H Q ⟨ρ, st, μ, E, S, h⟩ => h.ok S v (r H μ)
theorem e_int {i : Int} {j} : PE X (.Constant (.int i) j pos) (tX X.K W (xC (.int i))) := e_c pe_int fun _ _ => .int i
theorem e_bl {i : Bool} {j} : PE X (.Constant (.bool i) j pos) (tX X.K W (xC (.bl i))) := e_c pe_bl fun _ _ => .bl i
theorem e_non {j} : PE X (.Constant .none j pos) (tX X.K W (xC .non)) := e_c pe_non fun _ _ => .non
theorem e_str {x : Str} {j} : PE X (.Constant (.str x) j pos) (tX X.K W (xC (.str x))) := e_c pe_str fun _ _ => .str x
theorem e_gint {x : Str} {i : Int} {t : Tok} (hm : X.mg x = some (.int i t)) (hg : Gl X x := by rfl) (hd : (x == ("__debug__" : Str)) = false := by decide) : PE X (.Name x pos) (tX X.K W (xC (.int i))) := e_c (v := .int i) (pe_glob hg hm ⟨t, rfl⟩ hd) fun _ _ => .int i
theorem e_gstr {x : Str} {i : Str} {t : Tok} (hm : X.mg x = some (.str i t)) (hg : Gl X x := by rfl) (hd : (x == ("__debug__" : Str)) = false := by decide) : PE X (.Name x pos) (tX X.K W (xC (.str i))) := e_c (v := .str i) (pe_glob hg hm ⟨t, rfl⟩ hd) fun _ _ => .str i
/-- a tuple of the module's, by its tree -/
inductive WT (K : PySem.W.Frag) : D → Value → Prop
  | non : WT K .non .none
  | bl (b : Bool) : WT K (.bl b) (.bool b)
  | int (i : Int) (t : Tok) : WT K (.int i) (.int i t)
  | str (x : Str) (t : Tok) : WT K (.str x) (.str x t)
  | fnr (k : Str) (a : Addr) : WT K (.opq k a) (.ref a)
  | tup {ds : List D} {a : Addr} {o : Obj} {its : Array Value} {n : Nat} : K.lookup a = some o → o.cls = .type "tuple" → o.data = .seq its n → its.size ≤ sizeLine → Paired (WT K) ds its.toList → WT K (.tup ds) (.ref a)

/-! two operands -/
abbrev Op2 := D → D → Stt → Option (D × Stt)
def x2 (f : Op2) (fa fb : XE) : XE := fun ρ st => (fa ρ st).bind fun x s1 => (fb ρ s1).bind fun y s2 => R.of (f x y s2)
/-- r does on values what f does on trees -/
def Does (K : PySem.W.Frag) (r : R2) (f : Op2) : Prop := ∀ x y st d st' xv yv H μ (Q : VK), Rl K H μ x xv → Rl K H μ y yv → SR K H μ st → f x y st = some (d, st') → (∀ v H' μ', Ext K H μ H' μ' → SR K H' μ' st' → Rl K H' μ' d v → Q v H') → r xv yv H Q
theorem tOp_x2 {K : PySem.W.Frag} {r : R2} {f : Op2} (hd : Does K r f) {σ : L2.St} {H : Hp} {Q : VK} (h : tX K W (x2 f fa fb) σ H Q) : tOp r (tX K W fa) (tX K W fb) σ H Q := by
  obtain ⟨ρ, st, μ, E, S, h⟩ := h
  refine tX_of E S h.bind fun x s1 H1 μ1 xv e1 E1 S1 r1 h1 => ?_
  refine tX_of E1 S1 h1.bind fun y s2 H2 μ2 yv e2 E2 S2 r2 h2 => ?_
  obtain ⟨d, s3, h3, k⟩ := h2.of
  exact hd x y s2 d s3 xv yv H2 μ2 Q (r1.ext e2) r2 S2 h3 fun v H' μ' e S' r => k H' μ' e S' v r
theorem e_op {op : Operator} {r : R2} {f : Op2} (ho : OpR X (binaryOp op) r) (hd : Does X.K r f) (ha : PE X a (tX X.K W fa)) (hb : PE X b (tX X.K W fb)) : PE X (.BinOp a op b pos) (tX X.K W (x2 f fa fb)) :=
  pe_imp (pe_op ho ha hb) fun _ _ _ h => tOp_x2 hd h
theorem e_cmp {op : CmpOp} {r : R2} {f : Op2} (ho : OpR X (compareOp op) r) (hd : Does X.K r f) (ha : PE X a (tX X.K W fa)) (hb : PE X b (tX X.K W fb)) (hm : behindInMarks op b = false) : PE X (.Compare a [op] [b] pos) (tX X.K W (x2 f fa fb)) :=
  pe_imp (pe_cmpR ho ha hb hm) fun _ _ _ h => tOp_x2 hd h
/-- one operand -/
abbrev Op1 := D → Stt → Option (D × Stt)
def x1 (f : Op1) (fa : XE) : XE := fun ρ st => (fa ρ st).bind fun x s1 => R.of (f x s1)
def Does1 (K : PySem.W.Frag) (r : V → Hp → VK → Prop) (f : Op1) : Prop := ∀ x st d st' xv H μ (Q : VK), Rl K H μ x xv → SR K H μ st → f x st = some (d, st') → (∀ v H' μ', Ext K H μ H' μ' → SR K H' μ' st' → Rl K H' μ' d v → Q v H') → r xv H Q
theorem e_un {op : UnaryOp} {r : V → Hp → VK → Prop} {f : Op1} (ho : UnR X (unaryOp op) r) (hd : Does1 X.K r f) (ha : PE X a (tX X.K W fa)) (h : ∀ t, PE X a t → PE X (.UnaryOp op a pos) (tUn r t) := by exact fun _ h => pe_un ho h) : PE X (.UnaryOp op a pos) (tX X.K W (x1 f fa)) :=
  pe_imp (h _ ha) fun σ H Q ⟨ρ, st, μ, E, S, h⟩ => by
    refine tX_of E S h.bind fun x s1 H1 μ1 xv e1 E1 S1 r1 h1 => ?_
    obtain ⟨d, s3, h3, k⟩ := h1.of
    exact hd x s1 d s3 xv H1 μ1 Q r1 S1 h3 fun v H' μ' e S' r => k H' μ' e S' v r
/-- a value that is a bool, as a test -/
def isB (d : D) (st : Stt) : R Bool := match d with
  | .bl b => .ok b st
  | _ => .no
def xB (f : XE) : XT := fun ρ st => (f ρ st).bind isB
@[simp] theorem isB_bl (b : Bool) (st : Stt) : isB (.bl b) st = .ok b st := (rfl)
theorem RO.isB {K : PySem.W.Frag} {Wd : Exn → Hp → List Addr → Prop} {H : Hp} {μ : List Addr} {Q : Bool → Stt → Hp → List Addr → Prop} {d : D} {st : Stt} {v : V} (S : SR K H μ st) (r : Rl K H μ d v) (h : RO K Wd H μ Q (isB d st)) : ∃ k, v = .bl k ∧ Q k st H μ := by
  cases d with
  | bl b => cases r; exact ⟨b, rfl, h.ok S⟩
  | non => exact h.elim
  | int _ => exact h.elim
  | str _ => exact h.elim
  | tup _ => exact h.elim
  | loc _ => exact h.elim
  | cl _ => exact h.elim
  | opq _ _ => exact h.elim
  | exo _ _ _ _ => exact h.elim
theorem tX_bl {K : PySem.W.Frag} {f : XE} {σ : L2.St} {H : Hp} {Q : Bool → Hp → Prop} (h : tXT K W (xB f) σ H Q) : tX K W f σ H fun x H' => ∃ k, x = .bl k ∧ Q k H' := by
  obtain ⟨ρ, st, μ, E, S, h⟩ := h
  exact tX_of E S h.bind fun x s1 H1 μ1 xv e1 E1 S1 r1 h1 => h1.isB S1 r1
theorem t_cmp {op : CmpOp} {r : R2} {f : Op2} (ho : OpR X (compareOp op) r) (hd : Does X.K r f) (ha : PE X a (tX X.K W fa)) (hb : PE X b (tX X.K W fb)) (hm : behindInMarks op b = false) : PT X (.Compare a [op] [b] pos) (tXT X.K W (xB (x2 f fa fb))) :=
  pt_imp (pt_cmpR ho ha hb hm) fun σ H Q h => by
    show tOp r (tX X.K W fa) (tX X.K W fb) σ H _
    exact tOp_x2 hd (tX_bl h)
/-- any other expression whose value is a bool -/
theorem t_val (ha : PE X a (tX X.K W fa)) (he : ∀ whole, isTrue a X.env whole = (do let v ← whole; standAt a.pos; holding [v] (truthy v)) := by intro _; rfl) : PT X a (tXT X.K W (xB fa)) :=
  pt_imp (pt_val ha he) fun σ H Q h => tX_bl h
/-- a chain a op b op' c -/
def xCh (f f' : Op2) (fa fb fc : XE) : XE := fun ρ st => (fa ρ st).bind fun x s1 => (fb ρ s1).bind fun y s2 => (R.of (f x y s2)).bind fun z s3 => (isB z s3).bind fun k s4 => if k = true then (fc ρ s4).bind fun w s5 => R.of (f' y w s5) else .ok (.bl false) s4
theorem tCh_x {K : PySem.W.Frag} {r r' : R2} {f f' : Op2} (hd : Does K r f) (hd' : Does K r' f') {σ : L2.St} {H : Hp} {Q : VK} (h : tX K W (xCh f f' fa fb fc) σ H Q) : tChain r r' (tX K W fa) (tX K W fb) (tX K W fc) σ H Q := by
  obtain ⟨ρ, st, μ, E, S, h⟩ := h
  refine tX_of E S h.bind fun x s1 H1 μ1 xv e1 E1 S1 r1 h1 => ?_
  refine tX_of E1 S1 h1.bind fun y s2 H2 μ2 yv e2 E2 S2 r2 h2 => ?_
  obtain ⟨z, s3, h3, k⟩ := h2.bind.of
  refine hd x y s2 z s3 xv yv H2 μ2 _ (r1.ext e2) r2 S2 h3 fun v H3 μ3 e3 S3 r3 => ?_
  obtain ⟨b, rfl, q⟩ := (k H3 μ3 e3 S3).bind.isB S3 r3
  refine ⟨b, rfl, ?_⟩
  cases b with
  | true =>
    rw [if_pos rfl] at q ⊢
    refine tX_of (E2.ext e3) S3 q.bind fun w s5 H5 μ5 wv e5 E5 S5 r5 h5 => ?_
    obtain ⟨d, s6, h6, k6⟩ := h5.of
    exact hd' y w s5 d s6 yv wv H5 μ5 Q (r2.ext (e3.trans e5)) r5 S5 h6 fun v H' μ' e S' r => k6 H' μ' e S' v r
  | false =>
    rw [if_neg Bool.false_ne_true] at q ⊢
    exact q.ok S3 _ (.bl false)
theorem e_chain {op op' : CmpOp} {r r' : R2} {f f' : Op2} (ho : OpR X (compareOp op) r) (hd : Does X.K r f) (ho' : OpR X (compareOp op') r') (hd' : Does X.K r' f') (ha : PE X a (tX X.K W fa)) (hb : PE X b (tX X.K W fb)) (hc : PE X c (tX X.K W fc))
    (hm : lastMarks [op, op'] [b, c] = false := by with_unfolding_all rfl) : PE X (.Compare a [op, op'] [b, c] pos) (tX X.K W (xCh f f' fa fb fc)) :=
  pe_imp (pe_chain ho ho' ha hb hc hm) fun _ _ _ h => tCh_x hd hd' h
theorem t_chain {op op' : CmpOp} {r r' : R2} {f f' : Op2} (ho : OpR X (compareOp op) r) (hd : Does X.K r f) (ho' : OpR X (compareOp op') r') (hd' : Does X.K r' f') (ha : PE X a (tX X.K W fa)) (hb : PE X b (tX X.K W fb)) (hc : PE X c (tX X.K W fc))
    (hm : lastMarks [op, op'] [b, c] = false := by with_unfolding_all rfl) : PT X (.Compare a [op, op'] [b, c] pos) (tXT X.K W (xB (xCh f f' fa fb fc))) :=
  pt_imp (pt_chain ho ho' ha hb hc hm) fun σ H Q h => by
    show tChain r r' (tX X.K W fa) (tX X.K W fb) (tX X.K W fc) σ H _
    exact tCh_x hd hd' (tX_bl h)

/-! truth -/
def truth (st : Stt) : D → Option Bool
  | .non => some false
  | .bl b => some b
  | .int i => some (i != 0)
  | .str x => if x.length ≤ sizeLine then some ((x.length : Int) != 0) else none
  | .tup ds => some (!ds.isEmpty)
  | .cl ds => some (!ds.isEmpty)
  | .opq _ _ => none
  | .exo _ _ _ _ => none
  | .loc n => match st[n]? with
    | some (.lst ds) => some (!ds.isEmpty)
    | some (.dct ds) => some (!ds.isEmpty)
    | _ => none
theorem Rls.empty {K : PySem.W.Frag} {H : Hp} {μ : List Addr} {ds : List D} {vs : List V} (r : Rls K H μ ds vs) : vs.isEmpty = ds.isEmpty := by cases r <;> rfl
theorem truV {K : PySem.W.Frag} {H : Hp} {μ : List Addr} {st : Stt} {d : D} {v : V} {k : Bool} (S : SR K H μ st) (r : Rl K H μ d v) (h : truth st d = some k) : TruV K v H k := by
  cases d with
  | non => cases r; cases h; rfl
  | bl b => cases r; cases h; rfl
  | int i => cases r; cases h; rfl
  | str x =>
    cases r
    have h : (if x.length ≤ sizeLine then some ((x.length : Int) != 0) else none) = some k := h
    by_cases hx : x.length ≤ sizeLine
    · rw [if_pos hx] at h
      cases h
      exact ⟨hx, rfl⟩
    · rw [if_neg hx] at h
      cases h
  | tup ds =>
    obtain ⟨a, vs, rfl, hq, q⟩ := seqT r
    cases h
    exact .inr (.inl ⟨vs, hq, by rw [q.empty]⟩)
  | opq _ _ => cases h
  | exo _ _ _ _ => cases h
  | cl ds =>
    obtain ⟨a, vs, rfl, hq, q⟩ := seqC r
    cases h
    exact .inl ⟨vs, hq, by rw [q.empty]⟩
  | loc n =>
    have h : (match st[n]? with
      | some (.lst ds) => some (!ds.isEmpty)
        | some (.dct ds) => some (!ds.isEmpty)
      | _ => none) = some k := h
    cases e : st[n]? with
    | none => rw [e] at h; cases h
    | some o =>
      rw [e] at h
      cases o with
      | lst ds =>
        cases h
        obtain ⟨a, vs, rfl, _, e2, q⟩ := S.lst e r
        exact .inl ⟨vs, .inl (.inl e2), by rw [q.empty]⟩
      | dct ds =>
        cases h
        obtain ⟨a, vs, rfl, _, e2, q⟩ := S.dct e r
        refine .inr (.inr ⟨vs, e2, ?_⟩)
        cases q <;> rfl
      | ins C fs => cases h
      | dtt _ => cases h
def isT (d : D) (st : Stt) : R Bool := match truth st d with
  | some b => .ok b st
  | none => .no
theorem RO.isT {K : PySem.W.Frag} {Wd : Exn → Hp → List Addr → Prop} {H : Hp} {μ : List Addr} {Q : Bool → Stt → Hp → List Addr → Prop} {d : D} {st : Stt} {v : V} (S : SR K H μ st) (r : Rl K H μ d v) (h : RO K Wd H μ Q (isT d st)) : ∃ k, TruV K v H k ∧ truth st d = some k ∧ Q k st H μ := by
  unfold Rg.isT at h
  cases e : truth st d with
  | none => rw [e] at h; exact h.elim
  | some b => rw [e] at h; exact ⟨b, truV S r e, rfl, h.ok S⟩
def xTr (f : XE) : XT := fun ρ st => (f ρ st).bind isT
theorem t_tr (ha : PE X a (tX X.K W fa)) (he : ∀ whole, isTrue a X.env whole = (do let v ← whole; standAt a.pos; holding [v] (truthy v)) := by intro _; rfl) : PT X a (tXT X.K W (xTr fa)) :=
  pt_imp (pt_truth ha he) fun σ H Q ⟨ρ, st, μ, E, S, h⟩ =>
    tX_of E S h.bind fun x s1 H1 μ1 xv e1 E1 S1 r1 h1 => by
      obtain ⟨k, t, _, q⟩ := h1.isT S1 r1
      exact ⟨k, t, q⟩
def xNot (f : XT) : XT := fun ρ st => (f ρ st).bind fun b s => .ok (!b) s
theorem t_not {f : XT} (ha : PT X a (tXT X.K W f)) : PT X (.UnaryOp .Not a pos) (tXT X.K W (xNot f)) :=
  pt_imp (pt_not ha) fun σ H Q ⟨ρ, st, μ, E, S, h⟩ =>
    tXT_of E S h.bind fun k s1 H1 μ1 e1 E1 S1 h1 => h1.ok S1
/-- not a, as a value -/
def xNotV (f : XE) : XE := fun ρ st => (f ρ st).bind fun d s => (isT d s).bind fun b s => .ok (.bl !b) s
theorem e_not (ha : PE X a (tX X.K W fa)) : PE X (.UnaryOp .Not a pos) (tX X.K W (xNotV fa)) :=
  pe_imp (pe_notT ha) fun σ H Q ⟨ρ, st, μ, E, S, h⟩ =>
    tX_of E S h.bind fun x s1 H1 μ1 xv e1 E1 S1 r1 h1 => by
      obtain ⟨k, t, _, q⟩ := h1.bind.isT S1 r1
      exact ⟨k, t, q.ok S1 _ (.bl _)⟩
def xAnd (f g : XT) : XT := fun ρ st => (f ρ st).bind fun b s => if b = true then g ρ s else .ok false s
def xOr (f g : XT) : XT := fun ρ st => (f ρ st).bind fun b s => if b = true then .ok true s else g ρ s
theorem w_1 {op : BoolOp} {f : XT} (ha : PT X a (tXT X.K W f)) : PW X (.BoolOp op [a] pos) (tXT X.K W f) := by
  cases op
  · exact pw_and1 ha
  · exact pw_or1 ha
theorem w_and {rest : List Expr} {f g : XT} (ha : PT X a (tXT X.K W f)) (hb : PW X (.BoolOp .And (b :: rest) pos) (tXT X.K W g)) : PW X (.BoolOp .And (a :: b :: rest) pos) (tXT X.K W (xAnd f g)) :=
  pw_imp (pw_and ha hb) fun σ H Q ⟨ρ, st, μ, E, S, h⟩ =>
    tXT_of E S h.bind fun k s1 H1 μ1 e1 E1 S1 h1 => by
      cases k with
      | true => exact ⟨ρ, s1, μ1, E1, S1, h1⟩
      | false => exact h1.ok S1
theorem w_or {rest : List Expr} {f g : XT} (ha : PT X a (tXT X.K W f)) (hb : PW X (.BoolOp .Or (b :: rest) pos) (tXT X.K W g)) : PW X (.BoolOp .Or (a :: b :: rest) pos) (tXT X.K W (xOr f g)) :=
  pw_imp (pw_or ha hb) fun σ H Q ⟨ρ, st, μ, E, S, h⟩ =>
    tXT_of E S h.bind fun k s1 H1 μ1 e1 E1 S1 h1 => by
      cases k with
      | false => exact ⟨ρ, s1, μ1, E1, S1, h1⟩
      | true => exact h1.ok S1
/-- a and b, a or b, as values -/
def xAndV (f g : XE) : XE := fun ρ st => (f ρ st).bind fun d s => (isT d s).bind fun b s => if b = true then g ρ s else .ok d s
def xOrV (f g : XE) : XE := fun ρ st => (f ρ st).bind fun d s => (isT d s).bind fun b s => if b = true then .ok d s else g ρ s
theorem e_1 {op : BoolOp} (ha : PE X a (tX X.K W fa)) : PE X (.BoolOp op [a] pos) (tX X.K W fa) := pe_one ha
def xIte (t : XT) (f g : XE) : XE := fun ρ st => (t ρ st).bind fun b s => if b = true then f ρ s else g ρ s
theorem e_ite {t : XT} (hc : PT X c (tXT X.K W t)) (ha : PE X a (tX X.K W fa)) (hb : PE X b (tX X.K W fb)) : PE X (.IfExp c a b pos) (tX X.K W (xIte t fa fb)) :=
  pe_imp (pe_ifExp hc ha hb) fun σ H Q ⟨ρ, st, μ, E, S, h⟩ =>
    tXT_of E S h.bind fun k s1 H1 μ1 e1 E1 S1 h1 => by
      cases k with
      | true => exact ⟨ρ, s1, μ1, E1, S1, h1⟩
      | false => exact ⟨ρ, s1, μ1, E1, S1, h1⟩

/-! arguments, displays -/
def xNil : XA := fun _ st => .ok [] st
def xCons (f : XE) (g : XA) : XA := fun ρ st => (f ρ st).bind fun d s => (g ρ s).bind fun ds s => .ok (d :: ds) s
theorem a_nil : PA X [] (tXA X.K W xNil) := pa_imp pa_nil fun σ H Q ⟨ρ, st, μ, E, S, h⟩ => h.ok S [] .nil
theorem a_cons {g : XA} (ha : PE X e (tX X.K W fa)) (hr : PA X es (tXA X.K W g)) (hs : starEach (e :: es) X.env = (false, eval e X.env) :: starEach es X.env := by rfl) : PA X (e :: es) (tXA X.K W (xCons fa g)) :=
  pa_imp (pa_cons ha hr hs) fun σ H Q ⟨ρ, st, μ, E, S, h⟩ =>
    tX_of E S h.bind fun x s1 H1 μ1 xv e1 E1 S1 r1 h1 =>
      tXA_of E1 S1 h1.bind fun ys s2 H2 μ2 vs e2 E2 S2 r2 h2 => h2.ok S2 (xv :: vs) (.cons (r1.ext e2) r2)
def mkTup (ds : List D) (st : Stt) : R D := if ds.length ≤ sizeLine then .ok (.tup ds) st else .no
def mkLst (ds : List D) (st : Stt) : R D := if ds.length ≤ sizeLine then .ok (.loc st.length) (st ++ [.lst ds]) else .no
def xTup (g : XA) : XE := fun ρ st => (g ρ st).bind mkTup
def xLst (g : XA) : XE := fun ρ st => (g ρ st).bind mkLst
theorem e_tup {g : XA} {k : Nat} (h : PA X es (tXA X.K W g)) : PE X (.Tuple es k pos) (tX X.K W (xTup g)) :=
  pe_imp (pe_tup h) fun σ H Q ⟨ρ, st, μ, E, S, h⟩ =>
    tXA_of E S h.bind fun ds s1 H1 μ1 vs e1 E1 S1 r1 h1 => by
      unfold mkTup at h1
      split at h1
      · rename_i hz
        refine ⟨by rw [← r1.length]; exact hz, fun p hp => ?_⟩
        exact h1 _ μ1 (ext_tup hp vs) (S1.tup hp vs) _ (.tup (.inl (.inl upd_same)) (r1.ext (ext_tup hp vs)))
      · exact h1.elim
theorem loc_new {K : PySem.W.Frag} {H : Hp} {μ : List Addr} {st : Stt} {p : Addr} {u : HO} (S : SR K H μ st) : Rl K (upd H p u) (μ ++ [p]) (.loc st.length) (.ref p) := .loc (by rw [← S.len]; simp)
theorem SR.newL {K : PySem.W.Frag} {H : Hp} {μ : List Addr} {st : Stt} {p : Addr} {ds : List D} {vs : List V} (S : SR K H μ st) (hp : H p = none) (r : Rls K H μ ds vs) : SR K (upd H p (.lst vs)) (μ ++ [p]) (st ++ [.lst ds]) :=
  S.new (o := .lst ds) hp ⟨vs, upd_same, r.ext (ext_new hp _)⟩
theorem e_lst {g : XA} (h : PA X es (tXA X.K W g)) : PE X (.List es pos) (tX X.K W (xLst g)) :=
  pe_imp (pe_lst h) fun σ H Q ⟨ρ, st, μ, E, S, h⟩ =>
    tXA_of E S h.bind fun ds s1 H1 μ1 vs e1 E1 S1 r1 h1 => by
      unfold mkLst at h1
      split at h1
      · rename_i hz
        refine ⟨by rw [← r1.length]; exact hz, fun p hp => ?_⟩
        exact h1 _ (μ1 ++ [p]) (ext_new hp _) (S1.newL hp r1) _ (loc_new S1)
      · exact h1.elim
def xDict0 : XE := fun _ st => .ok (.loc st.length) (st ++ [.dct []])
theorem e_dict0 : PE X (.Dict [] [] pos) (tX X.K W xDict0) :=
  pe_imp pe_dnewK fun σ H Q ⟨ρ, st, μ, E, S, h⟩ => by
    intro p hp
    exact h _ (μ ++ [p]) (ext_new hp _) (S.new (o := .dct []) hp ⟨[], upd_same, .nil⟩) _ (loc_new S)
end
end Rg

set_option Elab.async false
set_option linter.all false
set_option maxRecDepth 100000
namespace Rg
open PySem PySem.Spec PyProof.Rows L2
variable {K : PySem.W.Frag}

/-! ### trees as data, == -/
def toD (st : Stt) : Nat → D → Option PyData
  | 0, _ => none
  | n + 1, d => match d with
    | .non => some .none
    | .bl b => some (.bool b)
    | .int i => some (.int i)
    | .str x => if PyData.strOk x = true then some (.str x) else none
    | .tup ds => (ds.mapM (toD st n)).map .tuple
    | .cl ds => (ds.mapM (toD st n)).map .list
    | .opq _ _ => none
    | .exo _ _ _ _ => none
    | .loc k => match st[k]? with
      | some (.lst ds) => (ds.mapM (toD st n)).map .list
      | _ => none
theorem mapM_dp {H : Hp} {μ : List Addr} {f : D → Option PyData} {n : Nat} (hf : ∀ d p v, f d = some p → Rl K H μ d v → Dp K H v p ∧ p.depth ≤ n ∧ p.canLay0 = true) : ∀ (ds : List D) (ps : List PyData) (vs : List V), ds.mapM f = some ps → Rls K H μ ds vs →
    DpAll K H vs ps ∧ PyData.depthAll ps ≤ n ∧ PyData.canLayAll0 ps = true
  | [], ps, vs, h, r => by
    rw [List.mapM_nil] at h
    cases h
    cases r
    exact ⟨.nil, by simp [PyData.depthAll], by simp [PyData.canLayAll0]⟩
  | d :: ds, ps, vs, h, r => by
    rw [List.mapM_cons] at h
    obtain ⟨p, h1, h⟩ := Option.bind_eq_some_iff.mp h
    obtain ⟨qs, h2, h⟩ := Option.bind_eq_some_iff.mp h
    cases h
    cases r with
    | cons r1 r2 =>
      obtain ⟨a1, a2, a3⟩ := hf d p _ h1 r1
      obtain ⟨b1, b2, b3⟩ := mapM_dp hf ds qs _ h2 r2
      refine ⟨.cons a1 b1, ?_, ?_⟩
      · simp only [PyData.depthAll]
        omega
      · simp only [PyData.canLayAll0, a3, b3, Bool.and_self]
theorem toD_dp {H : Hp} {μ : List Addr} {st : Stt} (S : SR K H μ st) : ∀ (n : Nat) (d : D) (p : PyData) (v : V), toD st n d = some p → Rl K H μ d v → Dp K H v p ∧ p.depth ≤ n ∧ p.canLay0 = true
  | 0, _, _, _, h, _ => by cases h
  | n + 1, d, p, v, h, r => by
    cases d with
    | non => cases h; cases r; exact ⟨.non, by simp [PyData.depth], by simp [PyData.canLay0]⟩
    | bl b => cases h; cases r; exact ⟨.bl b, by simp [PyData.depth], by simp [PyData.canLay0]⟩
    | int i => cases h; cases r; exact ⟨.int i, by simp [PyData.depth], by simp [PyData.canLay0]⟩
    | str x =>
      have h : (if PyData.strOk x = true then some (PyData.str x) else none) = some p := h
      by_cases hx : PyData.strOk x = true
      · rw [if_pos hx] at h
        cases h
        cases r
        exact ⟨.str x, by simp [PyData.depth], by simpa [PyData.canLay0] using hx⟩
      · rw [if_neg hx] at h
        cases h
    | tup ds =>
      obtain ⟨qs, h1, h2⟩ := Option.map_eq_some_iff.mp (show (ds.mapM (toD st n)).map PyData.tuple = some p from h)
      subst h2
      obtain ⟨a, vs, rfl, hq, q⟩ := seqT (K := K) r
      obtain ⟨b1, b2, b3⟩ := mapM_dp (toD_dp S n) ds qs vs h1 q
      exact ⟨.tup hq b1, by simp only [PyData.depth]; omega, by simpa [PyData.canLay0] using b3⟩
    | opq _ _ => cases h
    | exo _ _ _ _ => cases h
    | cl ds =>
      obtain ⟨qs, h1, h2⟩ := Option.map_eq_some_iff.mp (show (ds.mapM (toD st n)).map PyData.list = some p from h)
      subst h2
      obtain ⟨a, vs, rfl, hq, q⟩ := seqC (K := K) r
      obtain ⟨b1, b2, b3⟩ := mapM_dp (toD_dp S n) ds qs vs h1 q
      exact ⟨.lst hq b1, by simp only [PyData.depth]; omega, by simpa [PyData.canLay0] using b3⟩
    | loc k =>
      have h : (match st[k]? with
        | some (.lst ds) => (ds.mapM (toD st n)).map PyData.list
        | _ => none) = some p := h
      have go : ∀ ds, items st (.loc k) = some ds → (ds.mapM (toD st n)).map PyData.list = some p → Dp K H v p ∧ p.depth ≤ n + 1 ∧ p.canLay0 = true := fun ds hi h => by
        obtain ⟨qs, h1, h2⟩ := Option.map_eq_some_iff.mp h
        subst h2
        obtain ⟨a, vs, rfl, hq, q⟩ := S.seqL (K := K) hi r
        obtain ⟨b1, b2, b3⟩ := mapM_dp (toD_dp S n) ds qs vs h1 q
        exact ⟨.lst hq b1, by simp only [PyData.depth]; omega, by simpa [PyData.canLay0] using b3⟩
      cases e : st[k]? with
      | none => rw [e] at h; cases h
      | some o =>
        rw [e] at h
        cases o with
        | lst ds => exact go ds (by show (match st[k]? with | some (.lst ds) => some ds | _ => none) = _; rw [e]) h
        | dct ds => cases h
        | ins _ _ => cases h
        | dtt _ => cases h
def deq (st : Stt) (x y : D) : Option Bool := (toD st 60 x).bind fun a => (toD st 60 y).map fun b => PyData.eqv a b
def oEq : Op2 := fun x y st => (deq st x y).map fun b => (.bl b, st)
def oNe : Op2 := fun x y st => (deq st x y).map fun b => (.bl !b, st)
theorem deq_some {st : Stt} {x y : D} {b : Bool} (h : deq st x y = some b) : ∃ p q, toD st 60 x = some p ∧ toD st 60 y = some q ∧ b = PyData.eqv p q := by
  unfold deq at h
  obtain ⟨p, h1, h⟩ := Option.bind_eq_some_iff.mp h
  obtain ⟨q, h2, h⟩ := Option.map_eq_some_iff.mp h
  exact ⟨p, q, h1, h2, h.symm⟩
theorem shaped_of {p : PyData} (h : p.depth ≤ 60) (c : p.canLay0 = true) : SeqAt.shaped p = true := by
  show (p.canLay0 && decide (p.depth ≤ 64)) = true
  rw [c, decide_eq_true (by omega)]
  rfl
theorem does_eq : Does K (rEqD K) oEq := fun x y st d st' xv yv H μ Q rx ry S h q => by
  unfold oEq at h
  obtain ⟨b, h1, h⟩ := Option.map_eq_some_iff.mp h
  cases h
  obtain ⟨p, r, h2, h3, rfl⟩ := deq_some h1
  obtain ⟨a1, a2, a3⟩ := toD_dp (K := K) S 60 x p xv h2 rx
  obtain ⟨b1, b2, b3⟩ := toD_dp (K := K) S 60 y r yv h3 ry
  exact ⟨p, r, a1, b1, shaped_of a2 a3, shaped_of b2 b3, q _ H μ (Ext.refl _ _) S (.bl _)⟩
theorem does_ne : Does K (rNeD K) oNe := fun x y st d st' xv yv H μ Q rx ry S h q => by
  unfold oNe at h
  obtain ⟨b, h1, h⟩ := Option.map_eq_some_iff.mp h
  cases h
  obtain ⟨p, r, h2, h3, rfl⟩ := deq_some h1
  obtain ⟨a1, a2, a3⟩ := toD_dp (K := K) S 60 x p xv h2 rx
  obtain ⟨b1, b2, b3⟩ := toD_dp (K := K) S 60 y r yv h3 ry
  exact ⟨p, r, a1, b1, shaped_of a2 a3, shaped_of b2 b3, q _ H μ (Ext.refl _ _) S (.bl _)⟩

/-! ### ints -/
def oI (C : Int → Int → Prop) [∀ i j, Decidable (C i j)] (g : Int → Int → D) : Op2 := fun x y st => match x, y with
  | .int i, .int j => if C i j then some (g i j, st) else none
  | _, _ => none
instance : ∀ i j, Decidable (CMul i j) := fun i j => inferInstanceAs (Decidable ((-(2 ^ 64) < i ∧ i < 2 ^ 64) ∨ (-(2 ^ 64) < j ∧ j < 2 ^ 64)))
instance : ∀ i j, Decidable (CDiv i j) := fun i j => inferInstanceAs (Decidable (0 < j ∧ j < 1073741824))
instance : ∀ i j, Decidable (CPow i j) := fun i j => inferInstanceAs (Decidable (0 ≤ j ∧ j ≤ 1000000 ∧ i.natAbs < 2 ^ 64))
def CAny (_ _ : Int) : Prop := True
instance : ∀ i j, Decidable (CAny i j) := fun _ _ => inferInstanceAs (Decidable True)
def CPos (_ j : Int) : Prop := 0 < j
instance : ∀ i j, Decidable (CPos i j) := fun _ j => inferInstanceAs (Decidable (0 < j))
theorem oI_some {C : Int → Int → Prop} [∀ i j, Decidable (C i j)] {g : Int → Int → D} {x y d : D} {st st' : Stt} (h : oI C g x y st = some (d, st')) : ∃ i j, x = .int i ∧ y = .int j ∧ C i j ∧ d = g i j ∧ st' = st := by
  unfold oI at h
  split at h
  · split at h
    · rename_i hc
      cases h
      exact ⟨_, _, rfl, rfl, hc, rfl, rfl⟩
    · cases h
  · cases h
theorem does_I {C : Int → Int → Prop} [∀ i j, Decidable (C i j)] {g : Int → Int → Int} : Does K (rI C fun i j => .int (g i j)) (oI C fun i j => .int (g i j)) := fun x y st d st' xv yv H μ Q rx ry S h q => by
  obtain ⟨i, j, rfl, rfl, hc, rfl, rfl⟩ := oI_some h
  cases rx
  cases ry
  exact ⟨i, j, rfl, rfl, hc, q _ H μ (Ext.refl _ _) S (.int _)⟩
theorem does_I0 {g : Int → Int → Int} : Does K (rI0 fun i j => .int (g i j)) (oI CAny fun i j => .int (g i j)) := fun x y st d st' xv yv H μ Q rx ry S h q => by
  obtain ⟨i, j, rfl, rfl, hc, rfl, rfl⟩ := oI_some h
  cases rx
  cases ry
  exact ⟨i, j, rfl, rfl, q _ H μ (Ext.refl _ _) S (.int _)⟩
theorem does_B0 {g : Int → Int → Bool} : Does K (rI0 fun i j => .bl (g i j)) (oI CAny fun i j => .bl (g i j)) := fun x y st d st' xv yv H μ Q rx ry S h q => by
  obtain ⟨i, j, rfl, rfl, hc, rfl, rfl⟩ := oI_some h
  cases rx
  cases ry
  exact ⟨i, j, rfl, rfl, q _ H μ (Ext.refl _ _) S (.bl _)⟩
abbrev oSub : Op2 := oI CAny fun i j => .int (i - j)
abbrev oMul : Op2 := oI CMul fun i j => .int (i * j)
abbrev oMod : Op2 := oI CPos fun i j => .int (i % j)
abbrev oDiv : Op2 := oI CDiv fun i j => .int (i / j)
abbrev oPow : Op2 := oI CPow fun i j => .int (i ^ j.toNat)
abbrev oLtI : Op2 := oI CAny fun i j => .bl (decide (i < j))
abbrev oLe : Op2 := oI CAny fun i j => .bl (decide (i ≤ j))
abbrev oGt : Op2 := oI CAny fun i j => .bl (decide (j < i))
abbrev oGe : Op2 := oI CAny fun i j => .bl (decide (j ≤ i))
theorem does_mod : Does K (rI (fun _ j => 0 < j) fun i j => .int (i % j)) oMod := does_I (C := CPos)

/-! ### two rules for one operation -/
theorem does_or {r r' : R2} {f f' : Op2} (h : Does K r f) (h' : Does K r' f') : Does K (fun x y H Q => r x y H Q ∨ r' x y H Q) (fun x y st => (f x y st).orElse fun _ => f' x y st) := fun x y st d st' xv yv H μ Q rx ry S e q => by
  cases e1 : f x y st with
  | some p =>
    have e : ((f x y st).orElse fun _ => f' x y st) = some (d, st') := e
    rw [e1] at e
    have e : some p = some (d, st') := e
    exact .inl (h x y st d st' xv yv H μ Q rx ry S (e1.trans e) q)
  | none =>
    have e : ((f x y st).orElse fun _ => f' x y st) = some (d, st') := e
    rw [e1] at e
    have e : f' x y st = some (d, st') := e
    exact .inr (h' x y st d st' xv yv H μ Q rx ry S e q)
/-- by the shapes of the operands -/
theorem does_imp {r r' : R2} {f : Op2} (h : Does K r f) (i : ∀ x y H Q, r x y H Q → r' x y H Q) : Does K r' f := fun x y st d st' xv yv H μ Q rx ry S e q => i _ _ _ _ (h x y st d st' xv yv H μ Q rx ry S e q)
def oAdd : Op2 := fun x y st => match x, y with
  | .int i, .int j => some (.int (i + j), st)
  | .str i, .str j => if i.length + j.length ≤ sizeLine then some (.str (i ++ j), st) else none
  | .tup a, .tup b => if a.length + b.length ≤ sizeLine then some (.tup (a ++ b), st) else none
  | .loc m, .loc n => match st[m]?, st[n]? with
    | some (.lst a), some (.lst b) => if a.length + b.length ≤ sizeLine then some (.loc st.length, st ++ [.lst (a ++ b)]) else none
    | _, _ => none
  | _, _ => none
def rAddD (K : PySem.W.Frag) : R2 := fun x y H Q => (∃ i j, x = .int i ∧ y = .int j ∧ Q (.int (i + j)) H) ∨ ((∃ i j, x = .str i ∧ y = .str j ∧ i.length + j.length ≤ sizeLine ∧ Q (.str (i ++ j)) H) ∨ (rCatA K x y H Q ∨ rCat x y H Q))
theorem op_addD {X : Cx} : OpR X (binaryOp .Add) (rAddD X.K) := op_add.or (op_add_str.or (op_catA.or op_cat))
theorem does_addD : Does K (rAddD K) oAdd := fun x y st d st' xv yv H μ Q rx ry S h q => by
  unfold oAdd at h
  split at h
  · cases h
    cases rx
    cases ry
    exact .inl ⟨_, _, rfl, rfl, q _ H μ (Ext.refl _ _) S (.int _)⟩
  · split at h
    · rename_i hz
      cases h
      cases rx
      cases ry
      exact .inr (.inl ⟨_, _, rfl, rfl, hz, q _ H μ (Ext.refl _ _) S (.str _)⟩)
    · cases h
  · rename_i a b
    split at h
    · rename_i hz
      cases h
      obtain ⟨p, vs, rfl, h1, q1⟩ := seqT (K := K) rx
      obtain ⟨p2, us, rfl, h2, q2⟩ := seqT (K := K) ry
      refine .inr (.inr (.inl ⟨p, p2, vs, us, rfl, rfl, h1, h2, by rw [← q1.length, ← q2.length]; exact hz, fun e => ?_, fun e e2 => ?_, fun _ _ n hn => ?_⟩))
      · subst e
        cases q1
        exact q _ H μ (Ext.refl _ _) S (.tup h2 q2)
      · subst e2
        cases q2
        rw [List.append_nil] at q
        exact q _ H μ (Ext.refl _ _) S (.tup h1 q1)
      · exact q _ _ μ (ext_tup hn _) (S.tup hn _) (.tup (.inl (.inl upd_same)) ((q1.append q2).ext (ext_tup hn _)))
    · cases h
  · rename_i m n
    cases e1 : st[m]? with
    | none => rw [e1] at h; cases h
    | some o =>
      cases e2 : st[n]? with
      | none => rw [e1, e2] at h; cases o <;> cases h
      | some o2 =>
        rw [e1, e2] at h
        cases o with
        | lst a =>
          cases o2 with
          | lst b =>
            have h : (if a.length + b.length ≤ sizeLine then some (D.loc st.length, st ++ [O.lst (a ++ b)]) else none) = some (d, st') := h
            by_cases hz : a.length + b.length ≤ sizeLine
            · rw [if_pos hz] at h
              cases h
              obtain ⟨p, vs, rfl, _, t1, q1⟩ := S.lst e1 rx
              obtain ⟨p2, us, rfl, _, t2, q2⟩ := S.lst e2 ry
              refine .inr (.inr (.inr ⟨p, p2, vs, us, rfl, rfl, t1, t2, by rw [← q1.length, ← q2.length]; exact hz, fun n hn => ?_⟩))
              exact q _ _ _ (ext_new hn _) (S.newL hn (q1.append q2)) (loc_new S)
            · rw [if_neg hz] at h
              cases h
          | dct _ => cases h
          | ins _ _ => cases h
          | dtt _ => cases h
        | dct _ => cases h
        | ins _ _ => cases h
        | dtt _ => cases h
  · cases h
section
variable {X : Cx}
theorem does_sub : Does K (rI0 fun i j => .int (i - j)) oSub := does_I0
theorem does_mul : Does K (rI CMul fun i j => .int (i * j)) oMul := does_I
theorem does_div : Does K (rI CDiv fun i j => .int (i / j)) oDiv := does_I
theorem does_pow : Does K (rI CPow fun i j => .int (i ^ j.toNat)) oPow := does_I
theorem does_le : Does K (rI0 fun i j => .bl (decide (i ≤ j))) oLe := does_B0
theorem does_gt : Does K (rI0 fun i j => .bl (decide (j < i))) oGt := does_B0
theorem does_ge : Does K (rI0 fun i j => .bl (decide (j ≤ i))) oGe := does_B0
end
/-- < of ints and of texts -/
def oLt : Op2 := fun x y st => match x, y with
  | .int i, .int j => some (.bl (decide (i < j)), st)
  | .str i, .str j => some (.bl (decide (i.cps.toList < j.cps.toList)), st)
  | _, _ => none
def rLtD : R2 := fun x y H Q => (∃ i j, x = .int i ∧ y = .int j ∧ Q (.bl (decide (i < j))) H) ∨ ∃ i j, x = .str i ∧ y = .str j ∧ Q (.bl (decide (i.cps.toList < j.cps.toList))) H
theorem op_ltD {X : Cx} : OpR X (compareOp .Lt) rLtD := op_lt.or op_lt_str
theorem does_ltD : Does K rLtD oLt := fun x y st d st' xv yv H μ Q rx ry S h q => by
  unfold oLt at h
  split at h
  · cases h
    cases rx
    cases ry
    exact .inl ⟨_, _, rfl, rfl, q _ H μ (Ext.refl _ _) S (.bl _)⟩
  · cases h
    cases rx
    cases ry
    exact .inr ⟨_, _, rfl, rfl, q _ H μ (Ext.refl _ _) S (.bl _)⟩
  · cases h

/-! ### is, is not; in -/
def oIsB : Op2 := fun x y st => match x, y with
  | .bl a, .bl b => some (.bl (decide (a = b)), st)
  | _, _ => none
def oNotB : Op2 := fun x y st => match x, y with
  | .bl a, .bl b => some (.bl (!decide (a = b)), st)
  | _, _ => none
theorem does_isB : Does K rIsB oIsB := fun x y st d st' xv yv H μ Q rx ry S h q => by
  unfold oIsB at h
  split at h
  · cases h
    cases rx
    cases ry
    exact ⟨_, _, rfl, rfl, q _ H μ (Ext.refl _ _) S (.bl _)⟩
  · cases h
theorem does_notB : Does K rNotB oNotB := fun x y st d st' xv yv H μ Q rx ry S h q => by
  unfold oNotB at h
  split at h
  · cases h
    cases rx
    cases ry
    exact ⟨_, _, rfl, rfl, q _ H μ (Ext.refl _ _) S (.bl _)⟩
  · cases h
def inS (i j : Str) : Bool := !(Builtin.Str.occurrences j i 0 j.length 1).isEmpty
def oInS : Op2 := fun x y st => match x, y with
  | .str i, .str j => some (.bl (inS i j), st)
  | _, _ => none
theorem does_inS : Does K (fun x y H Q => ∃ i j, x = .str i ∧ y = .str j ∧ Q (.bl (!(Builtin.Str.occurrences j i 0 j.length 1).isEmpty)) H) oInS := fun x y st d st' xv yv H μ Q rx ry S h q => by
  unfold oInS at h
  split at h
  · cases h
    cases rx
    cases ry
    exact ⟨_, _, rfl, rfl, q _ H μ (Ext.refl _ _) S (.bl _)⟩
  · cases h

/-! ### items, slices -/
def oIx : Op2 := fun x y st => match y with
  | .int i => match x with
    | .str z => if z.length ≤ sizeLine then (atI z.cps.toList i).map fun c => (.str ⟨#[c]⟩, st) else none
    | x => (items st x).bind fun ds => (atI ds i).map fun d => (d, st)
  | _ => none
theorem atI_rls {H : Hp} {μ : List Addr} {ds : List D} {vs : List V} {i : Int} {d : D} (r : Rls K H μ ds vs) (h : atI ds i = some d) : ∃ v, atI vs i = some v ∧ Rl K H μ d v := by
  unfold atI at h ⊢
  obtain ⟨j, h1, h2⟩ := Option.bind_eq_some_iff.mp h
  obtain ⟨v, h3, h4⟩ := r.get h2
  rw [r.length] at h1
  exact ⟨v, by rw [h1]; exact h3, h4⟩
theorem does_ix : Does K (rIx K) oIx := fun x y st d st' xv yv H μ Q rx ry S h q => by
  unfold oIx at h
  split at h
  · rename_i i
    cases ry
    split at h
    · rename_i z
      split at h
      · rename_i hz
        obtain ⟨c, h1, h⟩ := Option.map_eq_some_iff.mp h
        cases h
        cases rx
        exact .inr (.inr ⟨z, i, c, rfl, rfl, hz, h1, q _ H μ (Ext.refl _ _) S (.str _)⟩)
      · cases h
    · obtain ⟨ds, h1, h⟩ := Option.bind_eq_some_iff.mp h
      obtain ⟨e, h2, h⟩ := Option.map_eq_some_iff.mp h
      cases h
      cases x with
      | opq _ _ => cases h1
      | exo _ _ _ _ => cases h1
      | tup es =>
        cases h1
        obtain ⟨a, vs, rfl, hq, q1⟩ := seqT (K := K) rx
        obtain ⟨v, h3, h4⟩ := atI_rls q1 h2
        exact .inr (.inl ⟨a, vs, i, v, rfl, rfl, hq, h3, q v H μ (Ext.refl _ _) S h4⟩)
      | loc n =>
        obtain ⟨a, vs, rfl, hq, q1⟩ := S.seqL (K := K) h1 rx
        obtain ⟨v, h3, h4⟩ := atI_rls q1 h2
        exact .inl ⟨a, vs, i, v, rfl, rfl, hq, h3, q v H μ (Ext.refl _ _) S h4⟩
      | cl es =>
        cases h1
        obtain ⟨a, vs, rfl, hq, q1⟩ := seqC (K := K) rx
        obtain ⟨v, h3, h4⟩ := atI_rls q1 h2
        exact .inl ⟨a, vs, i, v, rfl, rfl, hq, h3, q v H μ (Ext.refl _ _) S h4⟩
      | non => cases h1
      | bl _ => cases h1
      | int _ => cases h1
      | str _ => cases h1
  · cases h
section
variable {X : Cx} {a b e : Expr} {fa fb : XE} {pos : Pos} {W : WX}
theorem e_ix (ha : PE X a (tX X.K W fa)) (hb : PE X b (tX X.K W fb)) (hs : PlainIx b := by exact fun _ _ => rfl) : PE X (.Subscript a b pos) (tX X.K W (x2 oIx fa fb)) :=
  pe_imp (pe_ix ix_seq ha hb hs) fun _ _ _ h => tOp_x2 does_ix h
/-- the parts of a slice -/
abbrev XO := En → Stt → R (Option Int)
def tXO (K : PySem.W.Frag) (W : WX) (f : XO) : TO := fun σ H Q => ∃ ρ st μ, ER K H μ ρ σ ∧ SR K H μ st ∧ RO K (wx K W σ) H μ (fun o _ H' _ => Q o H') (f ρ st)
theorem tXO_of {W : WX} {f : XO} {σ : L2.St} {H : Hp} {μ : List Addr} {ρ : En} {st : Stt} {P : Option Int → Stt → Hp → List Addr → Prop} {Q : Option Int → Hp → Prop} (E : ER K H μ ρ σ) (S : SR K H μ st) (h : RO K (wx K W σ) H μ P (f ρ st))
    (k : ∀ d st' H' μ', Ext K H μ H' μ' → ER K H' μ' ρ σ → SR K H' μ' st' → P d st' H' μ' → Q d H') : tXO K W f σ H Q :=
  ⟨ρ, st, μ, E, S, h.mono fun a s H' μ' e S' p => k a s H' μ' e (E.ext e) S' p⟩
def xON : XO := fun _ st => .ok none st
def isI (d : D) (st : Stt) : R Int := match d with
  | .int i => .ok i st
  | _ => .no
@[simp] theorem isI_int (i : Int) (st : Stt) : isI (.int i) st = .ok i st := (rfl)
theorem RO.isI {Wd : Exn → Hp → List Addr → Prop} {H : Hp} {μ : List Addr} {Q : Int → Stt → Hp → List Addr → Prop} {d : D} {st : Stt} {v : V} (S : SR K H μ st) (r : Rl K H μ d v) (h : RO K Wd H μ Q (isI d st)) : ∃ k, v = .int k ∧ Q k st H μ := by
  cases d with
  | int b => cases r; exact ⟨b, rfl, h.ok S⟩
  | non => exact h.elim
  | bl _ => exact h.elim
  | str _ => exact h.elim
  | tup _ => exact h.elim
  | loc _ => exact h.elim
  | cl _ => exact h.elim
  | opq _ _ => exact h.elim
  | exo _ _ _ _ => exact h.elim
def xOS (f : XE) : XO := fun ρ st => (f ρ st).bind fun d s => (isI d s).bind fun i s => .ok (some i) s
theorem po_imp {o : Option Expr} {t t' : TO} (h : PO X o t) (i : ∀ σ H Q, t' σ H Q → t σ H Q) : PO X o t' := ⟨fun pins s σ H Q I q => h.run pins s σ H Q I (i σ H Q q)⟩
theorem o_none : PO X none (tXO X.K W xON) := po_imp po_none fun σ H Q ⟨ρ, st, μ, E, S, h⟩ => h.ok S
theorem o_some (ha : PE X a (tX X.K W fa)) : PO X (some a) (tXO X.K W (xOS fa)) := po_imp (po_some ha) fun σ H Q ⟨ρ, st, μ, E, S, h⟩ =>
  tX_of E S h.bind fun x s1 H1 μ1 xv e1 E1 S1 r1 h1 => by
    obtain ⟨i, e, q⟩ := h1.bind.isI S1 r1
    exact ⟨i, e, q.ok S1⟩
def cutD (ds : List D) (lo hi : Option Int) : List D := (ds.drop (HT.sIx ds.length 0 lo)).take (HT.sIx ds.length ds.length hi - HT.sIx ds.length 0 lo)
theorem cut_rls {H : Hp} {μ : List Addr} {ds : List D} {vs : List V} (r : Rls K H μ ds vs) (lo hi : Option Int) : Rls K H μ (cutD ds lo hi) (cutV vs lo hi) := by
  unfold cutD cutV
  rw [r.length]
  exact (r.drop _).take _
theorem cut_whole {ds : List D} {lo hi : Option Int} (h : HT.sIx ds.length 0 lo = 0 ∧ HT.sIx ds.length ds.length hi = ds.length) : cutD ds lo hi = ds := by
  unfold cutD
  rw [h.1, h.2]
  simp
/-- of lists, tuples -/
def oSl (x : D) (lo hi : Option Int) (st : Stt) : Option (D × Stt) := match x with
  | .tup ds => some (.tup (cutD ds lo hi), st)
  | .loc n => (items st (.loc n)).map fun ds => (.loc st.length, st ++ [.lst (cutD ds lo hi)])
  | .cl ds => some (.loc st.length, st ++ [.lst (cutD ds lo hi)])
  | _ => none
def xSl (g : D → Option Int → Option Int → Stt → Option (D × Stt)) (fa : XE) (lo hi : XO) : XE := fun ρ st => (fa ρ st).bind fun p s => (lo ρ s).bind fun l s => (hi ρ s).bind fun u s => R.of (g p l u s)
theorem e_sl {lo hi : Option Expr} {fl fu : XO} {p2 : Pos} (ha : PE X a (tX X.K W fa)) (hl : PO X lo (tXO X.K W fl)) (hu : PO X hi (tXO X.K W fu)) : PE X (.Subscript a (.Slice lo hi none p2) pos) (tX X.K W (xSl oSl fa fl fu)) :=
  pe_imp (pe_slice (sl_list.or sl_tupA) ha hl hu) fun σ H Q ⟨ρ, st, μ, E, S, h⟩ => by
    refine tX_of E S h.bind fun x s1 H1 μ1 xv e1 E1 S1 r1 h1 => ?_
    refine tXO_of E1 S1 h1.bind fun l s2 H2 μ2 e2 E2 S2 h2 => ?_
    refine tXO_of E2 S2 h2.bind fun u s3 H3 μ3 e3 E3 S3 h3 => ?_
    obtain ⟨d, s4, h4, k⟩ := h3.of
    have r3 := (r1.ext e2).ext e3
    unfold oSl at h4
    split at h4
    · rename_i ds
      cases h4
      obtain ⟨a, vs, rfl, hq, q1⟩ := seqT (K := X.K) r3
      refine .inr ⟨a, vs, rfl, hq, fun hw => ?_, fun _ n hn => ?_⟩
      · rw [← q1.length] at hw
        refine k H3 μ3 (Ext.refl _ _) S3 _ ?_
        rw [cut_whole hw]
        exact .tup hq q1
      · exact k _ μ3 (ext_tup hn _) (S3.tup hn _) _ (.tup (.inl (.inl upd_same)) ((cut_rls q1 _ _).ext (ext_tup hn _)))
    · rename_i n
      obtain ⟨ds, hd, h4⟩ := Option.map_eq_some_iff.mp h4
      cases h4
      obtain ⟨a, vs, rfl, hq, q1⟩ := S3.seqL (K := X.K) hd r3
      exact .inl ⟨a, vs, rfl, hq, fun n hn => k _ _ (ext_new hn _) (S3.newL hn (cut_rls q1 _ _)) _ (loc_new S3)⟩
    · cases h4
      obtain ⟨a, vs, rfl, hq, q1⟩ := seqC (K := X.K) r3
      exact .inl ⟨a, vs, rfl, hq, fun n hn => k _ _ (ext_new hn _) (S3.newL hn (cut_rls q1 _ _)) _ (loc_new S3)⟩
    · cases h4
end
end Rg

set_option Elab.async false
set_option linter.all false
set_option maxRecDepth 100000
namespace Rg
open PySem PySem.Spec PyProof.Rows L2
variable {K : PySem.W.Frag}

/-! ### calls of what is built in -/
abbrev BF := List D → Stt → Option (D × Stt)
/-- r does on values what f does on trees -/
def DoesN (K : PySem.W.Frag) (r : List V → Hp → VK → Prop) (f : BF) : Prop := ∀ xs st d st' vs H μ (Q : VK), Rls K H μ xs vs → SR K H μ st → f xs st = some (d, st') → (∀ v H' μ', Ext K H μ H' μ' → SR K H' μ' st' → Rl K H' μ' d v → Q v H') → r vs H Q
def xCall (f : BF) (g : XA) : XE := fun ρ st => (g ρ st).bind fun ds s => R.of (f ds s)
section
variable {X : Cx} {x : Str} {p pos : Pos} {e : Expr} {es : List Expr} {g : XA} {id T : String} {r : List V → Hp → VK → Prop} {f : BF} {W : WX}
theorem tCB_x (hd : DoesN K r f) {σ : L2.St} {H : Hp} {Q : VK} (h : tX K W (xCall f g) σ H Q) : tCB r (tXA K W g) σ H Q := by
  obtain ⟨ρ, st, μ, E, S, h⟩ := h
  refine tXA_of E S h.bind fun xs s1 H1 μ1 vs e1 E1 S1 r1 h1 => ?_
  obtain ⟨d, s2, h2, k⟩ := h1.of
  exact hd xs s1 d s2 vs H1 μ1 Q r1 S1 h2 fun v H' μ' e S' r => k H' μ' e S' v r
theorem e_cb (hc : CallR X (.builtin id) r) (hd : DoesN X.K r f) (hm : X.mg x = none) (ha : PA X (e :: es) (tXA X.K W g)) (hg : Gl X x := by rfl) (hv : bootBuiltins x = some (.builtin id) := by decide +kernel) (hn : x ≠ "__name__" := by decide) (hdb : (x == ("__debug__" : Str)) = false := by decide)
    (he : starEach (e :: es) X.env = (false, eval e X.env) :: starEach es X.env := by rfl) (hpl : (backTo pos (starEach es X.env)).any (·.1) = false := by rfl) : PE X (.Call (.Name x p) (e :: es) [] pos) (tX X.K W (xCall f g)) :=
  pe_imp (pe_callB hc hg hm hv ha hn hdb he hpl) fun _ _ _ h => tCB_x hd h
theorem e_ct (hc : CallR X (.type T) r) (hd : DoesN X.K r f) (hm : X.mg x = none) (ha : PA X (e :: es) (tXA X.K W g)) (hg : Gl X x := by rfl) (hv : bootBuiltins x = some (.type T) := by decide +kernel) (hn : x ≠ "__name__" := by decide) (hdb : (x == ("__debug__" : Str)) = false := by decide)
    (he : starEach (e :: es) X.env = (false, eval e X.env) :: starEach es X.env := by rfl) (hpl : (backTo pos (starEach es X.env)).any (·.1) = false := by rfl) : PE X (.Call (.Name x p) (e :: es) [] pos) (tX X.K W (xCall f g)) :=
  pe_imp (pe_callTy hc hg hm hv ha hn hdb he hpl) fun _ _ _ h => tCB_x hd h
end
theorem rls1 {H : Hp} {μ : List Addr} {d : D} {vs : List V} (r : Rls K H μ [d] vs) : ∃ v, vs = [v] ∧ Rl K H μ d v := by
  cases r with
  | cons a b => cases b; exact ⟨_, rfl, a⟩
theorem rls2 {H : Hp} {μ : List Addr} {d e : D} {vs : List V} (r : Rls K H μ [d, e] vs) : ∃ v u, vs = [v, u] ∧ Rl K H μ d v ∧ Rl K H μ e u := by
  cases r with
  | cons a b => obtain ⟨u, rfl, c⟩ := rls1 b; exact ⟨_, _, rfl, a, c⟩

def fLen : BF := fun xs st => match xs with
  | [.str x] => if x.length ≤ sizeLine then some (.int x.length, st) else none
  | [d] => (items st d).map fun ds => (.int ds.length, st)
  | _ => none
theorem items_seq {H : Hp} {μ : List Addr} {st : Stt} {d : D} {ds : List D} {v : V} (S : SR K H μ st) (h : items st d = some ds) (r : Rl K H μ d v) : ∃ a vs, v = .ref a ∧ (SqL K H a vs ∨ SqT K H a vs) ∧ Rls K H μ ds vs := by
  cases d with
  | opq _ _ => cases h
  | exo _ _ _ _ => cases h
  | tup es =>
    cases h
    obtain ⟨a, vs, rfl, hq, q1⟩ := seqT (K := K) r
    exact ⟨a, vs, rfl, .inr hq, q1⟩
  | cl es =>
    cases h
    obtain ⟨a, vs, rfl, hq, q1⟩ := seqC (K := K) r
    exact ⟨a, vs, rfl, .inl hq, q1⟩
  | loc n =>
    obtain ⟨a, vs, rfl, hq, q1⟩ := S.seqL (K := K) h r
    exact ⟨a, vs, rfl, .inl hq, q1⟩
  | non => cases h
  | bl _ => cases h
  | int _ => cases h
  | str _ => cases h
theorem does_len : DoesN K (fun xs H Q => ∃ x n, xs = [x] ∧ LenV K x H n ∧ Q (.int (n : Nat)) H) fLen := fun xs st d st' vs H μ Q r S h q => by
  unfold fLen at h
  split at h
  · split at h
    · rename_i x hx
      cases h
      obtain ⟨v, rfl, rv⟩ := rls1 r
      cases rv
      exact ⟨_, _, rfl, ⟨hx, rfl⟩, q _ H μ (Ext.refl _ _) S (.int _)⟩
    · cases h
  · obtain ⟨ds, h1, h⟩ := Option.map_eq_some_iff.mp h
    cases h
    obtain ⟨v, rfl, rv⟩ := rls1 r
    obtain ⟨a, us, rfl, hq, q1⟩ := items_seq (K := K) S h1 rv
    refine ⟨_, us.length, rfl, ?_, ?_⟩
    · rcases hq with hq | hq
      · exact .inl ⟨us, hq, rfl⟩
      · exact .inr ⟨us, hq, rfl⟩
    · rw [← q1.length]
      exact q _ H μ (Ext.refl _ _) S (.int _)
  · cases h
def fAbs : BF := fun xs st => match xs with
  | [.int i] => some (.int (if i < 0 then -i else i), st)
  | _ => none
theorem does_abs : DoesN K (fun xs H Q => ∃ i, xs = [.int i] ∧ Q (.int (if i < 0 then -i else i)) H) fAbs := fun xs st d st' vs H μ Q r S h q => by
  unfold fAbs at h
  split at h
  · cases h
    obtain ⟨v, rfl, rv⟩ := rls1 r
    cases rv
    exact ⟨_, rfl, q _ H μ (Ext.refl _ _) S (.int _)⟩
  · cases h
def fMin2 : BF := fun xs st => match xs with
  | [.int i, .int j] => some (.int (if j < i then j else i), st)
  | _ => none
theorem does_min2 : DoesN K (fun xs H Q => ∃ i j, xs = [.int i, .int j] ∧ Q (.int (if j < i then j else i)) H) fMin2 := fun xs st d st' vs H μ Q r S h q => by
  unfold fMin2 at h
  split at h
  · cases h
    obtain ⟨v, u, rfl, rv, ru⟩ := rls2 r
    cases rv
    cases ru
    exact ⟨_, _, rfl, q _ H μ (Ext.refl _ _) S (.int _)⟩
  · cases h
def fInt : BF := fun xs st => match xs with
  | [.int i] => some (.int i, st)
  | [.bl k] => some (.int (if k then 1 else 0), st)
  | _ => none
theorem does_int : DoesN K (fun xs H Q => (∃ i, xs = [.int i] ∧ Q (.int i) H) ∨ ∃ k, xs = [.bl k] ∧ Q (.int (if k then 1 else 0)) H) fInt := fun xs st d st' vs H μ Q r S h q => by
  unfold fInt at h
  split at h
  · cases h
    obtain ⟨v, rfl, rv⟩ := rls1 r
    cases rv
    exact .inl ⟨_, rfl, q _ H μ (Ext.refl _ _) S (.int _)⟩
  · cases h
    obtain ⟨v, rfl, rv⟩ := rls1 r
    cases rv
    exact .inr ⟨_, rfl, q _ H μ (Ext.refl _ _) S (.int _)⟩
  · cases h
/-- list(x), x a text, a list or a tuple -/
def signs (x : Str) : List D := x.cps.toList.map fun c => .str ⟨#[c]⟩
def fList : BF := fun xs st => match xs with
  | [.str x] => if x.length ≤ sizeLine then some (.loc st.length, st ++ [.lst (signs x)]) else none
  | [d] => (items st d).map fun ds => (.loc st.length, st ++ [.lst ds])
  | _ => none
def rListS : List V → Hp → VK → Prop := fun xs H Q => ∃ x, xs = [.str x] ∧ x.length ≤ sizeLine ∧ ∀ l, H l = none → Q (.ref l) (upd H l (.lst (x.cps.toList.map fun c => V.str ⟨#[c]⟩)))
theorem vals_signs : ∀ (l : List Nat) (us : List Value), us.length = l.length → (∀ (i : Nat) (u : Value), us[i]? = some u → ∃ c t, l[i]? = some c ∧ u = .str ⟨#[c]⟩ t) → Vals (l.map fun c => V.str ⟨#[c]⟩) us
  | [], [], _, _ => .nil
  | [], u :: us, h, _ => by simp at h
  | c :: l, [], h, _ => by simp at h
  | c :: l, u :: us, h, k => by
    obtain ⟨c', t, e, rfl⟩ := k 0 u rfl
    cases e
    exact .cons ⟨t, rfl⟩ (vals_signs l us (by simpa using h) fun i w e => k (i + 1) w (by simpa using e))
theorem call_list_strR {X : Cx} (hc : X.calm = true) : CallR X (.type "list") rListS := by
  intro pins s σ H xs us Q I r h
  obtain ⟨x, rfl, hz, q⟩ := h
  obtain ⟨u, rfl, t, rfl⟩ := vals1 r
  refine call_list_str (I.ok.hd hc) x t (fun h' tk acc' c' hk hS hacc => ?_) hz
  have hv : Vals (x.cps.toList.map fun c => V.str ⟨#[c]⟩) acc'.toList := vals_signs _ _ (by rw [Array.length_toList, Array.length_toList]; exact hacc.1) fun i w e => by
    have := hacc.2 i w (by rw [← Array.getElem?_toList]; exact e)
    obtain ⟨c, t', h1, h2⟩ := this
    exact ⟨c, t', by rw [Array.getElem?_toList]; exact h1, h2⟩
  refine ⟨.ref s.heap.objs.size, upd H s.heap.objs.size _, I.laid (t' := tk) hk (Nat.le_refl _) (show ObjOk X.prog X.w _ h' _ (.lst (x.cps.toList.map fun c => V.str ⟨#[c]⟩)) from ⟨?_, acc'.toList, c', hv, ?_⟩), rfl, q _ (I.hok.fresh (Nat.le_refl _))⟩
  · rw [List.length_map, Array.length_toList]
    exact hz
  · rw [Array.toArray_toList]
    exact hS
def rListD' (K : PySem.W.Frag) : List V → Hp → VK → Prop := fun xs H Q => rListS xs H Q ∨ ∃ p ys, xs = [.ref p] ∧ (SqL K H p ys ∨ SqT K H p ys) ∧ ∀ l, H l = none → Q (.ref l) (upd H l (.lst ys))
theorem call_listD' {X : Cx} (hc : X.calm = true) : CallR X (.type "list") (rListD' X.K) := (call_list_strR hc).or call_list_of
theorem signs_rls {H : Hp} {μ : List Addr} : ∀ l : List Nat, Rls K H μ (l.map fun c => D.str ⟨#[c]⟩) (l.map fun c => V.str ⟨#[c]⟩)
  | [] => .nil
  | c :: l => .cons (.str _) (signs_rls l)
theorem does_list : DoesN K (rListD' K) fList := fun xs st d st' vs H μ Q r S h q => by
  unfold fList at h
  split at h
  · split at h
    · rename_i x hx
      cases h
      obtain ⟨v, rfl, rv⟩ := rls1 r
      cases rv
      exact .inl ⟨_, rfl, hx, fun l hl => q _ _ _ (ext_new hl _) (S.newL hl (signs_rls _)) (loc_new S)⟩
    · cases h
  · obtain ⟨ds, h1, h⟩ := Option.map_eq_some_iff.mp h
    cases h
    obtain ⟨v, rfl, rv⟩ := rls1 r
    obtain ⟨a, us, rfl, hq, q1⟩ := items_seq (K := K) S h1 rv
    exact .inr ⟨a, us, rfl, hq, fun l hl => q _ _ _ (ext_new hl _) (S.newL hl q1) (loc_new S)⟩
  · cases h
def fTuple : BF := fun xs st => match xs with
  | [d] => (items st d).map fun ds => (.tup ds, st)
  | _ => none
theorem does_tuple : DoesN K (fun xs H Q => ∃ p ys, xs = [.ref p] ∧ ((SqL K H p ys ∧ ∀ l, H l = none → Q (.ref l) (upd H l (.tup ys))) ∨ (SqT K H p ys ∧ Q (.ref p) H))) fTuple := fun xs st d st' vs H μ Q r S h q => by
  unfold fTuple at h
  split at h
  · rename_i d0
    obtain ⟨ds, h1, h⟩ := Option.map_eq_some_iff.mp h
    cases h
    obtain ⟨v, rfl, rv⟩ := rls1 r
    cases d0 with
    | opq _ _ => cases h1
    | exo _ _ _ _ => cases h1
    | tup es =>
      cases h1
      obtain ⟨a, us, rfl, hq, q1⟩ := seqT (K := K) rv
      exact ⟨a, us, rfl, .inr ⟨hq, q _ H μ (Ext.refl _ _) S (.tup hq q1)⟩⟩
    | cl es =>
      cases h1
      obtain ⟨a, us, rfl, hq, q1⟩ := seqC (K := K) rv
      exact ⟨a, us, rfl, .inl ⟨hq, fun l hl => q _ _ μ (ext_tup hl _) (S.tup hl _) (.tup (.inl (.inl upd_same)) (q1.ext (ext_tup hl _)))⟩⟩
    | loc n =>
      obtain ⟨a, us, rfl, hq, q1⟩ := S.seqL (K := K) h1 rv
      exact ⟨a, us, rfl, .inl ⟨hq, fun l hl => q _ _ μ (ext_tup hl _) (S.tup hl _) (.tup (.inl (.inl upd_same)) (q1.ext (ext_tup hl _)))⟩⟩
    | non => cases h1
    | bl _ => cases h1
    | int _ => cases h1
    | str _ => cases h1
  · cases h
/-- all, any of a list of bools -/
def bools : List D → Option (List Bool)
  | [] => some []
  | .bl b :: r => (bools r).map (b :: ·)
  | _ => none
theorem bools_map : ∀ (ds : List D) (bs : List Bool), bools ds = some bs → ds = bs.map D.bl
  | [], bs, h => by cases h; rfl
  | d :: r, bs, h => by
    cases d with
    | bl b =>
      obtain ⟨cs, h1, rfl⟩ := Option.map_eq_some_iff.mp (show (bools r).map (b :: ·) = some bs from h)
      rw [bools_map r cs h1]
      rfl
    | non => cases h
    | int _ => cases h
    | str _ => cases h
    | tup _ => cases h
    | cl _ => cases h
    | opq _ _ => cases h
    | exo _ _ _ _ => cases h
    | loc _ => cases h
theorem bls_rls {H : Hp} {μ : List Addr} : ∀ (bs : List Bool) (vs : List V), Rls K H μ (bs.map D.bl) vs → vs = bs.map V.bl
  | [], _, r => r.nil_inv
  | b :: bs, vs, r => by
    obtain ⟨v, us, rfl, a, c⟩ := r.cons_inv
    cases a
    rw [bls_rls bs us c]
    rfl
def fAll : BF := fun xs st => match xs with
  | [.loc n] => (items st (.loc n)).bind fun ds => (bools ds).map fun bs => (.bl (bs.all id), st)
  | _ => none
def fAny : BF := fun xs st => match xs with
  | [.loc n] => (items st (.loc n)).bind fun ds => (bools ds).map fun bs => (.bl (bs.any id), st)
  | _ => none
theorem does_all : DoesN K (rAll K) fAll := fun xs st d st' vs H μ Q r S h q => by
  unfold fAll at h
  split at h
  · obtain ⟨ds, h1, h⟩ := Option.bind_eq_some_iff.mp h
    obtain ⟨bs, h2, h⟩ := Option.map_eq_some_iff.mp h
    cases h
    obtain ⟨v, rfl, rv⟩ := rls1 r
    obtain ⟨a, us, rfl, hq, q1⟩ := S.seqL (K := K) h1 rv
    rw [bools_map ds bs h2] at q1
    rw [bls_rls bs us q1] at hq
    exact ⟨a, bs, rfl, hq, q _ H μ (Ext.refl _ _) S (.bl _)⟩
  · cases h
theorem does_any : DoesN K (rAny K) fAny := fun xs st d st' vs H μ Q r S h q => by
  unfold fAny at h
  split at h
  · obtain ⟨ds, h1, h⟩ := Option.bind_eq_some_iff.mp h
    obtain ⟨bs, h2, h⟩ := Option.map_eq_some_iff.mp h
    cases h
    obtain ⟨v, rfl, rv⟩ := rls1 r
    obtain ⟨a, us, rfl, hq, q1⟩ := S.seqL (K := K) h1 rv
    rw [bools_map ds bs h2] at q1
    rw [bls_rls bs us q1] at hq
    exact ⟨a, bs, rfl, hq, q _ H μ (Ext.refl _ _) S (.bl _)⟩
  · cases h

/-! ### isinstance(x, T), T a built-in type -/
def tyD (st : Stt) : D → Option String
  | .non => some "NoneType"
  | .bl _ => some "bool"
  | .int _ => some "int"
  | .str _ => some "str"
  | .tup _ => some "tuple"
  | .cl _ => some "list"
  | .opq _ _ => none
  | .exo _ _ _ _ => none
  | .loc n => match st[n]? with
    | some (.lst _) => some "list"
    | some (.dct _) => some "dict"
    | _ => none
theorem tyD_ok {H : Hp} {μ : List Addr} {st : Stt} {d : D} {v : V} {T : String} (S : SR K H μ st) (r : Rl K H μ d v) (h : tyD st d = some T) : TyX K H v (.type T) := by
  cases d with
  | opq _ _ => cases h
  | exo _ _ _ _ => cases h
  | non => cases r; cases h; exact .base .non
  | bl _ => cases r; cases h; exact .base (.bl _)
  | int _ => cases r; cases h; exact .base (.int _)
  | str _ => cases r; cases h; exact .base (.str _)
  | tup ds =>
    obtain ⟨a, vs, rfl, t, _⟩ := seqT (K := K) r
    cases h
    rcases t with (t | ⟨o, t⟩) | ⟨o, its, n, h1, h2, _⟩
    · exact .base (.tup t)
    · exact .fTuple t
    · exact .kTuple h1 h2
  | cl ds =>
    cases r with
    | cl h1 q =>
      cases h
      rcases h1 with ⟨o, h1⟩ | ⟨o, its, n, h1, h2, _⟩
      · exact .base (.frz h1)
      · exact .kList h1 h2
  | loc n =>
    have h : (match st[n]? with
      | some (.lst _) => some "list"
        | some (.dct _) => some "dict"
      | _ => none) = some T := h
    cases e : st[n]? with
    | none => rw [e] at h; cases h
    | some o =>
      rw [e] at h
      cases o with
      | lst ds => cases h; obtain ⟨a, vs, rfl, _, t, _⟩ := S.lst e r; exact .base (.lst t)
      | dct ds => cases h; obtain ⟨a, vs, rfl, _, t, _⟩ := S.dct e r; exact .base (.dK t)
      | ins _ _ => cases h
      | dtt _ => cases h
def oIsi (T : String) : Op1 := fun d st => (tyD st d).bind fun t => (kitB t T).map fun b => (.bl b, st)
section
variable {X : Cx} {p p2 pos : Pos} {e : Expr} {f : XE} {T : Str} {tn : String} {W : WX}
theorem e_isi (he : PE X e (tX X.K W f)) (hm : X.mg "isinstance" = none) (hT : X.mg T = none) (hv : bootBuiltins T = some (.type tn) := by decide +kernel) (hg : Gl X "isinstance" := by rfl) (hg2 : Gl X T := by rfl) (hn : T ≠ "__name__" := by decide) (hdb : (T == ("__debug__" : Str)) = false := by decide)
    (hs : starEach [e, .Name T p2] X.env = (false, eval e X.env) :: starEach [.Name T p2] X.env := by rfl) (hpl : (backTo pos (starEach [.Name T p2] X.env)).any (·.1) = false := by rfl) : PE X (.Call (.Name "isinstance" p) [e, .Name T p2] [] pos) (tX X.K W (x1 (oIsi tn) f)) :=
  pe_imp (pe_callB call_isi hg hm (by decide +kernel) (pa_cons he (pa_cons (pe_bltn (v := .ty tn) hg2 hT hv rfl hn hdb) pa_nil) hs) (by decide) (by decide) hs hpl) fun σ H Q ⟨ρ, st, μ, E, S, h⟩ =>
    tX_of E S h.bind fun x s1 H1 μ1 xv e1 E1 S1 r1 h1 => by
      obtain ⟨d, s2, h2, k⟩ := h1.of
      unfold oIsi at h2
      obtain ⟨t, h3, h2⟩ := Option.bind_eq_some_iff.mp h2
      obtain ⟨b, h4, h2⟩ := Option.map_eq_some_iff.mp h2
      cases h2
      exact ⟨xv, .ty tn, .type t, .type tn, b, rfl, .ty tn, tyD_ok S1 r1 h3, kit_ty h4, k H1 μ1 (Ext.refl _ _) S1 _ (.bl b)⟩
end

/-! ### methods -/
abbrev MtF := D → List D → Stt → Option (D × Stt)
def DoesM (K : PySem.W.Frag) (r : V → List V → Hp → VK → Prop) (f : MtF) : Prop := ∀ x xs st d st' v vs H μ (Q : VK), Rl K H μ x v → Rls K H μ xs vs → SR K H μ st → f x xs st = some (d, st') → (∀ v H' μ', Ext K H μ H' μ' → SR K H' μ' st' → Rl K H' μ' d v → Q v H') → r v vs H Q
/-- the receiver is of that type, whatever its arguments do -/
def Recv (K : PySem.W.Frag) (T : String) (t : Stt → D → Bool) : Prop := ∀ x st v H μ, Rl K H μ x v → SR K H μ st → t st x = true → tyV K T v H
def isRc (t : Stt → D → Bool) (d : D) (st : Stt) : R Unit := if t st d = true then .ok () st else .no
def xMt (t : Stt → D → Bool) (f : MtF) (fo : XE) (g : XA) : XE := fun ρ st => (fo ρ st).bind fun d s => (isRc t d s).bind fun _ s => (g ρ s).bind fun ds s => R.of (f d ds s)
theorem RO.isRc {t : Stt → D → Bool} {Wd : Exn → Hp → List Addr → Prop} {H : Hp} {μ : List Addr} {Q : Unit → Stt → Hp → List Addr → Prop} {d : D} {st : Stt} (S : SR K H μ st) (h : RO K Wd H μ Q (isRc t d st)) : t st d = true ∧ Q () st H μ := by
  unfold Rg.isRc at h
  split at h
  · exact ⟨by assumption, h.ok S⟩
  · exact h.elim
def isLst (st : Stt) : D → Bool
  | .loc n => match st[n]? with
    | some (.lst _) => true
    | _ => false
  | _ => false
def isStr (_ : Stt) : D → Bool
  | .str _ => true
  | _ => false
theorem recv_lst : Recv K "list" isLst := fun x st v H μ r S h => by
  cases x with
  | loc n =>
    have h : (match st[n]? with
      | some (.lst _) => true
      | _ => false) = true := h
    cases e : st[n]? with
    | none => rw [e] at h; cases h
    | some o =>
      rw [e] at h
      cases o with
      | lst ds => obtain ⟨a, vs, rfl, _, t, _⟩ := S.lst e r; exact .inl ⟨rfl, vs, .inl (.inl t)⟩
      | dct ds => cases h
      | ins _ _ => cases h
      | dtt _ => cases h
  | non => cases h
  | bl _ => cases h
  | int _ => cases h
  | str _ => cases h
  | tup _ => cases h
  | cl _ => cases h
  | opq _ _ => cases h
  | exo _ _ _ _ => cases h
theorem recv_str : Recv K "str" isStr := fun x st v H μ r S h => by
  cases x with
  | str y => cases r; rfl
  | non => cases h
  | bl _ => cases h
  | int _ => cases h
  | loc _ => cases h
  | tup _ => cases h
  | cl _ => cases h
  | opq _ _ => cases h
  | exo _ _ _ _ => cases h
section
variable {X : Cx} {o e : Expr} {es : List Expr} {fo : XE} {g : XA} {name : Str} {apos cpos : Pos} {T id : String} {r : V → List V → Hp → VK → Prop} {t : Stt → D → Bool} {f : MtF} {W : WX}
theorem e_mt0 (pa : PlainAttrs T) (slot : Slot T name id) (hty : typeOf (.builtin id) = pure (.type "method_descriptor")) (hm : MtR X id r) (hd : DoesM X.K r f) (hr : Recv X.K T t) (ho : PE X o (tX X.K W fo))
    (hbase : attributeBase o name X.env (eval o X.env) = eval o X.env := by rfl) (hline : (apos.endLine == cpos.line) = true := by rfl) : PE X (.Call (.Attribute o name apos) [] [] cpos) (tX X.K W (xMt t f fo xNil)) :=
  pe_imp (pe_bm0 pa slot hty hm ho hbase hline) fun σ H Q ⟨ρ, st, μ, E, S, h⟩ =>
    tX_of E S h.bind fun x s1 H1 μ1 v e1 E1 S1 r1 h1 => by
      obtain ⟨ht, h2⟩ := h1.bind.isRc S1
      refine ⟨hr x s1 v H1 μ1 r1 S1 ht, ?_⟩
      obtain ⟨d, s2, h3, k⟩ := (h2.bind.ok S1).of
      exact hd x [] s1 d s2 v [] H1 μ1 Q r1 .nil S1 h3 fun v' H' μ' e2 S' r' => k H' μ' e2 S' v' r'
theorem e_mt (pa : PlainAttrs T) (slot : Slot T name id) (hty : typeOf (.builtin id) = pure (.type "method_descriptor")) (hm : MtR X id r) (hd : DoesM X.K r f) (hr : Recv X.K T t) (ho : PE X o (tX X.K W fo)) (ha : PA X (e :: es) (tXA X.K W g))
    (hbase : attributeBase o name X.env (eval o X.env) = eval o X.env := by rfl)
    (hfew : ((backTo cpos (starEach (e :: es) X.env)).all (fun x => !x.1) && (backToKw cpos (keywordEach [] X.env)).all (fun x => x.1.isSome)
      && decide ((e :: es).length + ([] : List Keyword).length + (if ([] : List Keyword).isEmpty then 0 else 1) < 30)) = true := by rfl)
    (hline : (apos.endLine == cpos.line) = true := by rfl) (hs : starEach (e :: es) X.env = (false, eval e X.env) :: starEach es X.env := by rfl) (hplain : (backTo cpos (starEach es X.env)).any (·.1) = false := by rfl) :
    PE X (.Call (.Attribute o name apos) (e :: es) [] cpos) (tX X.K W (xMt t f fo g)) :=
  pe_imp (pe_bm pa slot hty hm ho ha hbase hfew hline hs hplain) fun σ H Q ⟨ρ, st, μ, E, S, h⟩ =>
    tX_of E S h.bind fun x s1 H1 μ1 v e1 E1 S1 r1 h1 => by
      obtain ⟨ht, h2⟩ := h1.bind.isRc S1
      refine ⟨hr x s1 v H1 μ1 r1 S1 ht, ?_⟩
      refine tXA_of E1 S1 h2.bind fun ys s2 H2 μ2 vs e2 E2 S2 r2 h3 => ?_
      obtain ⟨d, s3, h4, k⟩ := h3.of
      exact hd x ys s2 d s3 v vs H2 μ2 Q (r1.ext e2) r2 S2 h4 fun v' H' μ' e2 S' r' => k H' μ' e2 S' v' r'
end
/-- what stands at a place, a list -/
def lstAt (st : Stt) : D → Option (Nat × List D)
  | .loc n => match st[n]? with
    | some (.lst ds) => some (n, ds)
    | _ => none
  | _ => none
theorem lstAt_some {st : Stt} {d : D} {n : Nat} {ds : List D} (h : lstAt st d = some (n, ds)) : d = .loc n ∧ st[n]? = some (.lst ds) := by
  cases d with
  | loc m =>
    have h : (match st[m]? with
      | some (.lst ds) => some (m, ds)
      | _ => none) = some (n, ds) := h
    cases e : st[m]? with
    | none => rw [e] at h; cases h
    | some o =>
      rw [e] at h
      cases o with
      | lst es => cases h; exact ⟨rfl, e⟩
      | dct ds => cases h
      | ins _ _ => cases h
      | dtt _ => cases h
  | non => cases h
  | bl _ => cases h
  | int _ => cases h
  | str _ => cases h
  | tup _ => cases h
  | cl _ => cases h
  | opq _ _ => cases h
  | exo _ _ _ _ => cases h
def mAppend : MtF := fun x xs st => match xs with
  | [d] => (lstAt st x).bind fun p => if p.2.length < sizeLine then some (.non, st.set p.1 (.lst (p.2 ++ [d]))) else none
  | _ => none
theorem does_append : DoesM K rAppend mAppend := fun x xs st d st' v vs H μ Q r rs S h q => by
  unfold mAppend at h
  split at h
  · obtain ⟨⟨n, ds⟩, h1, h⟩ := Option.bind_eq_some_iff.mp h
    dsimp only at h
    split at h
    · rename_i y hz
      cases h
      obtain ⟨rfl, e⟩ := lstAt_some h1
      obtain ⟨a, us, rfl, ha, t, q1⟩ := S.lst e r
      obtain ⟨w, rfl, rw'⟩ := rls1 rs
      refine ⟨a, us, w, rfl, rfl, t, by rw [← q1.length]; exact hz, ?_⟩
      have ex := ext_set S e ha (.lst (us ++ [w]))
      exact q _ _ μ ex (S.put e ha (o' := .lst (ds ++ [_])) ⟨us ++ [w], upd_same, (q1.append (.cons rw' .nil)).ext ex⟩) .non
    · cases h
  · cases h
def mPop : MtF := fun x xs st => match xs with
  | [] => (lstAt st x).bind fun p => (p.2[p.2.length - 1]?).map fun d => (d, st.set p.1 (.lst p.2.dropLast))
  | _ => none
theorem does_pop : DoesM K rPop mPop := fun x xs st d st' v vs H μ Q r rs S h q => by
  unfold mPop at h
  split at h
  · obtain ⟨⟨n, ds⟩, h1, h⟩ := Option.bind_eq_some_iff.mp h
    obtain ⟨y, h2, h⟩ := Option.map_eq_some_iff.mp h
    cases h
    obtain ⟨rfl, e⟩ := lstAt_some h1
    obtain ⟨a, us, rfl, ha, t, q1⟩ := S.lst e r
    have := rs.nil_inv
    subst this
    obtain ⟨w, h3, rw'⟩ := q1.get h2
    have ex := ext_set S e ha (.lst us.dropLast)
    refine ⟨a, us, w, rfl, rfl, t, by rw [← q1.length]; exact h3, ?_⟩
    exact q _ _ μ ex (S.put e ha (o' := .lst ds.dropLast) ⟨us.dropLast, upd_same, q1.dropLast.ext ex⟩) (rw'.ext ex)
  · cases h
/-- xs.extend(ys), ys a list or a tuple -/
def rExtendT (K : PySem.W.Frag) : V → List V → Hp → VK → Prop := fun x vs H Q => ∃ l b xs zs, x = .ref l ∧ vs = [.ref b] ∧ H l = some (.lst xs) ∧ SqT K H b zs ∧ xs.length + zs.length ≤ sizeLine ∧ Q .non (upd H l (.lst (xs ++ zs)))
end Rg
namespace RgX
open PySem PySem.Spec PyProof.Rows
open PySem.AutoSeq1 in
theorem list_extend_tupleG (l : Addr) (xs : Array Value) (n : Nat) (b : Addr) (ys : Array Value) (n2 : Nat) (dd : Option Addr) (sl : Array (Option Value)) (hs0 : ¬(!xs.isEmpty && Builtin.List.listTooLong (xs.size + ys.size)) = true) (hs1 : xs.size ≤ sizeLine) (hs2 : xs.size + ys.size ≤ sizeLine + 1) :
    Meets (Builtin.«list.extend» ⟨[.ref l, .ref b], []⟩) (fun _ R s => s.heap.get? l = some { cls := .type "list", dict := none, data := .seq xs n, slots := #[] } ∧ s.heap.get? b = some { cls := .type "tuple", dict := dd, data := .seq ys n2, slots := sl } ∧ R (.ok (.ret Value.none)) { s with heap := s.heap.update l (Obj.mapSeq fun x => x ++ ys), toks := s.toks }) :=
  .of_wp fun prog w A R s0 hq0 => by
    obtain ⟨hp, gs, dr, tk, os⟩ := s0
    obtain ⟨hl, hb, hr⟩ := hq0
    have g1 := idx_int
    have g2 := PySem.AutoSeq1.sub_tuple_tuple
    have g3 := PySem.AutoSeq1.sub_list_list
    have g4 := PySem.AutoSeq1.sub_tuple_list
    have g5 := PySem.AutoSeq1.sub_list_tuple
    have hz' : (xs ++ ys).size ≤ sizeLine + 1 := by
      rw [Array.size_append]
      exact hs2
    wp_walk using (wpAny_updateSeq hl rfl (hz := hs1) (_hz' := hz')), wpAny_loadPart' hl, wpAny_loadPart' hb
    exact ⟨_, rfl, hr⟩
end RgX
namespace Rg
open PySem PySem.Spec PyProof.Rows L2
variable {K : PySem.W.Frag}
theorem mt_extendT {X : Cx} : MtM X "list.extend" (rExtendT X.K) := by
  intro pins s σ H x vs v us Q I rx rv h
  obtain ⟨l, b, xs, zs, rfl, rfl, hH, hB, hz, q⟩ := h
  cases rx
  obtain ⟨u, rfl, ru⟩ := rv.one
  cases ru
  obtain ⟨z, its, n, r, hl, e⟩ := I.lstM hH
  obtain ⟨its2, r2, ⟨ob, e2, c2, n2, d2⟩, z2⟩ := I.tuple hB
  have hl2 := r2.length
  obtain ⟨oc, od, dt, sl⟩ := ob
  simp only at c2 d2
  subst c2 d2
  have hsz : its.toArray.size + its2.toArray.size ≤ sizeLine := by rw [List.size_toArray, List.size_toArray]; omega
  have hlong : ¬ (!its.toArray.isEmpty && Builtin.List.listTooLong (its.toArray.size + its2.toArray.size)) = true := by
    rw [notLongL hsz, Bool.and_false]
    exact Bool.false_ne_true
  refine call_meets F.slot_list_extend ⟨_, e, rfl⟩ F.entry_list_extend (F.args_list_extend_2 _ _)
    (RgX.list_extend_tupleG l its.toArray n b its2.toArray n2 od sl hlong (by rw [List.size_toArray]; omega) (by omega)) ⟨e, e2, ?_⟩
  refine ⟨.non, _, I.lset (its' := its ++ its2) hH e (by simp) (r.append r2) ?_, rfl, q⟩
  rw [List.length_append]
  omega
def rExtendD (K : PySem.W.Frag) : V → List V → Hp → VK → Prop := fun x vs H Q => rExtend x vs H Q ∨ rExtendT K x vs H Q
theorem mt_extendD {X : Cx} : MtR X "list.extend" (rExtendD X.K) := MtR.or mt_extend mt_extendT
def mExtend : MtF := fun x xs st => match xs with
  | [.tup es] => (lstAt st x).bind fun p => if p.2.length + es.length ≤ sizeLine then some (.non, st.set p.1 (.lst (p.2 ++ es))) else none
  | [.loc m] => (lstAt st x).bind fun p => (lstAt st (.loc m)).bind fun q => if p.2.length + q.2.length ≤ sizeLine then some (.non, st.set p.1 (.lst (p.2 ++ q.2))) else none
  | _ => none
theorem does_extend : DoesM K (rExtendD K) mExtend := fun x xs st d st' v vs H μ Q r rs S h q => by
  unfold mExtend at h
  split at h
  · obtain ⟨⟨n, ds⟩, h1, h⟩ := Option.bind_eq_some_iff.mp h
    dsimp only at h
    split at h
    · rename_i es hz
      cases h
      obtain ⟨rfl, e⟩ := lstAt_some h1
      obtain ⟨a, us, rfl, ha, t, q1⟩ := S.lst e r
      obtain ⟨w, rfl, rw'⟩ := rls1 rs
      obtain ⟨b, ws, rfl, t2, q2⟩ := seqT (K := K) rw'
      refine .inr ⟨a, b, us, ws, rfl, rfl, t, t2, by rw [← q1.length, ← q2.length]; exact hz, ?_⟩
      have ex := ext_set S e ha (.lst (us ++ ws))
      exact q _ _ μ ex (S.put e ha (o' := .lst (ds ++ _)) ⟨us ++ ws, upd_same, (q1.append q2).ext ex⟩) .non
    · cases h
  · obtain ⟨⟨n, ds⟩, h1, h⟩ := Option.bind_eq_some_iff.mp h
    obtain ⟨⟨n2, es⟩, h2, h⟩ := Option.bind_eq_some_iff.mp h
    dsimp only at h
    split at h
    · rename_i hz
      cases h
      obtain ⟨rfl, e⟩ := lstAt_some h1
      obtain ⟨em, e2⟩ := lstAt_some h2
      cases em
      obtain ⟨a, us, rfl, ha, t, q1⟩ := S.lst e r
      obtain ⟨w, rfl, rw'⟩ := rls1 rs
      obtain ⟨b, ws, rfl, _, t2, q2⟩ := S.lst e2 rw'
      refine .inl ⟨a, b, us, ws, rfl, rfl, t, t2, by rw [← q1.length, ← q2.length]; exact hz, ?_⟩
      have ex := ext_set S e ha (.lst (us ++ ws))
      exact q _ _ μ ex (S.put e ha (o' := .lst (ds ++ _)) ⟨us ++ ws, upd_same, (q1.append q2).ext ex⟩) .non
    · cases h
  · cases h
/-- sep.join(xs) -/
def txts : List D → Option (List Str)
  | [] => some []
  | .str x :: r => (txts r).map (x :: ·)
  | _ => none
theorem txts_map : ∀ (ds : List D) (bs : List Str), txts ds = some bs → ds = bs.map D.str
  | [], bs, h => by cases h; rfl
  | d :: r, bs, h => by
    cases d with
    | str b =>
      obtain ⟨cs, h1, rfl⟩ := Option.map_eq_some_iff.mp (show (txts r).map (b :: ·) = some bs from h)
      rw [txts_map r cs h1]
      rfl
    | non => cases h
    | int _ => cases h
    | bl _ => cases h
    | tup _ => cases h
    | cl _ => cases h
    | opq _ _ => cases h
    | exo _ _ _ _ => cases h
    | loc _ => cases h
theorem txts_rls {H : Hp} {μ : List Addr} : ∀ (bs : List Str) (vs : List V), Rls K H μ (bs.map D.str) vs → vs = bs.map V.str
  | [], _, r => r.nil_inv
  | b :: bs, vs, r => by
    obtain ⟨v, us, rfl, a, c⟩ := r.cons_inv
    cases a
    rw [txts_rls bs us c]
    rfl
def mJoin : MtF := fun x xs st => match x, xs with
  | .str a, [d] => (items st d).bind fun ds => (txts ds).bind fun ys => if (ys.map (·.length)).sum + ys.length * a.length ≤ 16777216 then some (.str (Txt.join a ys), st) else none
  | _, _ => none
def rJoin (K : PySem.W.Frag) : V → List V → Hp → VK → Prop := fun x xs H Q => ∃ a p, ∃ ys : List Str, x = .str a ∧ xs = [.ref p] ∧ (SqL K H p (ys.map V.str) ∨ SqT K H p (ys.map V.str)) ∧
    (ys.map (·.length)).sum + ys.length * a.length ≤ 16777216 ∧ Q (.str (Txt.join a ys)) H
theorem mt_joinR {X : Cx} : MtR X "str.join" (rJoin X.K) := mt_join
theorem does_join : DoesM K (rJoin K) mJoin := fun x xs st d st' v vs H μ Q r rs S h q => by
  unfold mJoin at h
  split at h
  · obtain ⟨ds, h1, h⟩ := Option.bind_eq_some_iff.mp h
    obtain ⟨ys, h2, h⟩ := Option.bind_eq_some_iff.mp h
    split at h
    · rename_i hz
      cases h
      obtain ⟨w, rfl, rw'⟩ := rls1 rs
      cases r
      obtain ⟨a, us, rfl, hq, q1⟩ := items_seq (K := K) S h1 rw'
      rw [txts_map ds ys h2] at q1
      rw [txts_rls ys us q1] at hq
      exact ⟨_, a, ys, rfl, rfl, hq, hz, q _ H μ (Ext.refl _ _) S (.str _)⟩
    · cases h
  · cases h
end Rg

set_option Elab.async false
set_option linter.all false
set_option maxRecDepth 100000
namespace Rg
variable {K : PySem.W.Frag}
open PySem PySem.Spec PyProof.Rows L2

/-! ### targets -/
def wipeD (ρ : En) : List Nat → En
  | [] => ρ
  | v :: vs => (wipeD ρ vs).set v none
theorem ER.none {H : Hp} {μ : List Addr} {ρ : En} {σ : L2.St} (r : ER K H μ ρ σ) (i : Nat) : ER K H μ (ρ.set i none) (σ.set i none) := ⟨by simp [r.len], fun j e h => by
  by_cases hj : i = j
  · subst hj
    by_cases hl : i < ρ.length
    · rw [List.getElem?_set_self hl] at h
      cases h
    · rw [List.getElem?_eq_none (by simpa using hl)] at h
      cases h
  · rw [List.getElem?_set_ne hj] at h
    obtain ⟨w, h1, h2⟩ := r.val j e h
    exact ⟨w, by rw [List.getElem?_set_ne hj]; exact h1, h2⟩⟩
theorem ER.wipe {H : Hp} {μ : List Addr} {ρ : En} {σ : L2.St} (r : ER K H μ ρ σ) : ∀ vs : List Nat, ER K H μ (wipeD ρ vs) (L2.wipe σ vs)
  | [] => r
  | v :: vs => (ER.wipe r vs).none v
theorem wipe_set {σ : L2.St} {i : Nat} {x : Option V} : ∀ {vs : List Nat}, i ∈ vs → L2.wipe (σ.set i x) vs = L2.wipe σ vs
  | [], h => nomatch h
  | v :: vs, h => by
    show (L2.wipe (σ.set i x) vs).set v none = (L2.wipe σ vs).set v none
    by_cases hi : i ∈ vs
    · rw [wipe_set hi]
    · have e : i = v := by
        rcases List.mem_cons.mp h with h | h
        · exact h
        · exact absurd h hi
      subst e
      have out : ∀ vs : List Nat, i ∉ vs → L2.wipe (σ.set i x) vs = (L2.wipe σ vs).set i x := by
        intro vs
        induction vs with
        | nil => intro _; rfl
        | cons u us ih =>
          intro hu
          have h1 : i ≠ u := fun e => hu (by rw [e]; exact List.mem_cons_self)
          have h2 : i ∉ us := fun e => hu (List.mem_cons_of_mem _ e)
          show (L2.wipe (σ.set i x) us).set u none = ((L2.wipe σ us).set u none).set i x
          rw [ih h2, List.set_comm _ _ h1]
      rw [out vs hi, List.set_set]
theorem wipe_wipe {σ : L2.St} : ∀ (us vs : List Nat), (∀ i ∈ us, i ∈ vs) → L2.wipe (L2.wipe σ us) vs = L2.wipe σ vs
  | [], _, _ => rfl
  | u :: us, vs, h => by
    show L2.wipe ((L2.wipe σ us).set u none) vs = _
    rw [wipe_set (h u List.mem_cons_self), wipe_wipe us vs fun i hi => h i (List.mem_cons_of_mem _ hi)]
abbrev XG := D → En → Option En
/-- vs: the slots that it stores to -/
def tG (K : PySem.W.Frag) (vs : List Nat) (g : XG) : TG := fun v σ H Q => ∃ ρ st μ d, ER K H μ ρ σ ∧ SR K H μ st ∧ Rl K H μ d v ∧ ∃ ρ', g d ρ = some ρ' ∧ ∀ σ', ER K H μ ρ' σ' → (∀ us, (∀ i ∈ vs, i ∈ us) → L2.wipe σ' us = L2.wipe σ us) → Q σ' H
def tGs (K : PySem.W.Frag) (vs : List Nat) : TGs := fun xs σ H Q => ∃ ρ st μ ds, ER K H μ ρ σ ∧ SR K H μ st ∧ Rls K H μ ds xs ∧ ds.length = vs.length ∧ ∀ σ', ER K H μ (List.foldl (fun (r : En) (p : Nat × D) => r.set p.1 (some p.2)) ρ (vs.zip ds)) σ' → (∀ us, (∀ i ∈ vs, i ∈ us) → L2.wipe σ' us = L2.wipe σ us) → Q σ' H
def gN (i : Nat) : XG := fun d ρ => some (ρ.set i (some d))
def gT (vs : List Nat) : XG := fun d ρ => match d with
  | .tup ds => if ds.length = vs.length then some (List.foldl (fun (r : En) (p : Nat × D) => r.set p.1 (some p.2)) ρ (vs.zip ds)) else none
  | _ => none
section
variable {X : Cx} {pos : Pos} {e : Expr} {es : List Expr}
theorem pg_imp {t t' : TG} (h : PG X e t) (i : ∀ v σ H Q, t' v σ H Q → t v σ H Q) : PG X e t' := ⟨fun pins s σ H v u Q I r q => h.run pins s σ H v u Q I r (i v σ H Q q)⟩
theorem pgs_imp {t t' : TGs} (h : PGs X es t) (i : ∀ v σ H Q, t' v σ H Q → t v σ H Q) : PGs X es t' := ⟨fun pins s σ H v u Q I r q => h.run pins s σ H v u Q I r (i v σ H Q q)⟩
theorem g_name (i : Nat) {x : Str} (hN : X.N.Nodup) (hi : X.N[i]? = some x := by rfl) (hx : Loc X.env.scope x := by first | exact .inl rfl | exact .inr rfl) (hf : X.fn x = true ∨ X.env.scope.names.lookup x = some .local := by first | exact .inl rfl | exact .inr rfl) : PG X (.Name x pos) (tG X.K [i] (gN i)) :=
  pg_imp (pg_name hN hi hx hf) fun v σ H Q ⟨ρ, st, μ, d, E, S, r, ρ', h, q⟩ => by
    cases h
    exact q _ (E.set r i) fun us hu => wipe_set (hu i (by simp))
theorem gs_nil : PGs X [] (tGs X.K []) := pgs_imp pgs_nil fun v σ H Q ⟨ρ, st, μ, ds, E, S, r, hl, q⟩ => by
  have : ds = [] := List.eq_nil_of_length_eq_zero hl
  subst this
  exact ⟨r.nil_inv, q σ E fun _ _ => rfl⟩
theorem gs_cons {i : Nat} {vs : List Nat} (h1 : PG X e (tG X.K [i] (gN i))) (h2 : PGs X es (tGs X.K vs)) (hs : (assignEach (e :: es) X.env).map (·.2) = assign e X.env :: (assignEach es X.env).map (·.2) := by rfl) : PGs X (e :: es) (tGs X.K (i :: vs)) :=
  pgs_imp (pgs_cons h1 h2 hs) fun v σ H Q ⟨ρ, st, μ, ds, E, S, r, hl, q⟩ => by
    cases ds with
    | nil => simp at hl
    | cons d ds =>
      obtain ⟨x, xs, rfl, ra, rb⟩ := r.cons_inv
      refine ⟨x, xs, rfl, ρ, st, μ, d, E, S, ra, _, rfl, fun σ1 E1 w1 => ?_⟩
      refine ⟨_, st, μ, ds, E1, S, rb, by simpa using hl, fun σ2 E2 w2 => q σ2 E2 fun us hu => ?_⟩
      rw [w2 us fun j hj => hu j (List.mem_cons_of_mem _ hj), w1 us fun j hj => hu j (by simp at hj; subst hj; exact List.mem_cons_self)]
theorem g_tup {vs : List Nat} {k : Nat} (hc : X.calm = true) (h : PGs X es (tGs X.K vs)) (hn : (assignEach es X.env).length = vs.length := by rfl) (hst : (assignEach es X.env).findIdx? (·.1) = none := by rfl) : PG X (.Tuple es k pos) (tG X.K vs (gT vs)) :=
  pg_imp (pg_tup hc h hn hst) fun v σ H Q ⟨ρ, st, μ, d, E, S, r, ρ', h, q⟩ => by
    unfold gT at h
    split at h
    · rename_i ds
      split at h
      · rename_i hl
        cases h
        obtain ⟨a, us, rfl, hq, q1⟩ := seqT (K := X.K) r
        exact ⟨a, us, rfl, hq, by rw [← q1.length]; exact hl, ρ, st, μ, ds, E, S, q1, hl, q⟩
      · cases h
    · cases h
end

/-! ### what is walked -/
structure Wk where
  its : List D
  ok : Stt → Prop
structure ItOk (K : PySem.W.Frag) (w : Wk) (J : It) (H : Hp) (μ : List Addr) : Prop where
  go : ∀ (H2 : Hp) (μ2 : List Addr) (st2 : Stt) (i : Nat) (d : D), Ext K H μ H2 μ2 → SR K H2 μ2 st2 → w.ok st2 → w.its[i]? = some d → J.go i H2
  yld : ∀ (H2 : Hp) (μ2 : List Addr) (st2 : Stt) (i : Nat) (d : D) (x : V) (H3 : Hp), Ext K H μ H2 μ2 → SR K H2 μ2 st2 → w.ok st2 → w.its[i]? = some d → J.yld i H2 x H3 → Ext K H2 μ2 H3 μ2 ∧ SR K H3 μ2 st2 ∧ Rl K H3 μ2 d x ∧ ∀ b o, H2 b = some o → H3 b = some o
  stop : ∀ (H2 : Hp) (μ2 : List Addr) (st2 : Stt) (i : Nat), Ext K H μ H2 μ2 → SR K H2 μ2 st2 → w.ok st2 → w.its[i]? = none → J.stop i H2
abbrev XI := En → Stt → R Wk
def tXI (K : PySem.W.Frag) (W : WX) (f : XI) : TI := fun σ H Q => ∃ ρ st μ, ER K H μ ρ σ ∧ SR K H μ st ∧ RO K (wx K W σ) H μ (fun w _ H' μ' => ∀ J, ItOk K w J H' μ' → Q J H') (f ρ st)
theorem pi_imp {X : Cx} {tg e : Expr} {t t' : TI} (h : PI X tg e t) (i : ∀ σ H Q, t' σ H Q → t σ H Q) : PI X tg e t' := ⟨fun pins s σ H Q I q => h.run pins s σ H Q I (i σ H Q q)⟩
theorem pi_or {X : Cx} {tg e : Expr} {t t' : TI} (h : PI X tg e t) (h' : PI X tg e t') : PI X tg e (fun σ H R => t σ H R ∨ t' σ H R) := ⟨fun pins s σ H Q I q => by
  rcases q with q | q
  · exact h.run pins s σ H Q I q
  · exact h'.run pins s σ H Q I q⟩
/-- a list (as it stands), a tuple, a text -/
def wkOf (d : D) (st : Stt) : R Wk := match d with
  | .tup ds => .ok ⟨ds, fun _ => True⟩ st
  | .cl ds => .ok ⟨ds, fun _ => True⟩ st
  | .str x => .ok ⟨signs x, fun _ => True⟩ st
  | .loc n => match items st (.loc n) with
    | some ds => .ok ⟨ds, fun st => items st (.loc n) = some ds⟩ st
    | none => .no
  | _ => .no
def xIt (f : XE) : XI := fun ρ st => (f ρ st).bind wkOf
section
variable {X : Cx} {tg e e2 : Expr} {f f2 : XE} {W : WX}
theorem rd_inj {H : Hp} {a : Addr} {xs ys : List V} (h : Rd H a (.lst xs)) (g : Rd H a (.lst ys)) : xs = ys := by
  rcases h with h | ⟨o, h⟩ <;> rcases g with g | ⟨o', g⟩ <;> (rw [h] at g; first | (cases g; rfl) | cases g)
theorem itl_ok {H : Hp} {μ : List Addr} {st : Stt} {n : Nat} {ds : List D} {a : Addr} (S : SR K H μ st) (hi : items st (.loc n) = some ds) (ha : μ[n]? = some a) : ItOk K ⟨ds, fun st => items st (.loc n) = some ds⟩ (Itl K a) H μ := by
  have key : ∀ (H2 : Hp) (μ2 : List Addr) (st2 : Stt), Ext K H μ H2 μ2 → SR K H2 μ2 st2 → items st2 (.loc n) = some ds → ∃ vs, SqL K H2 a vs ∧ Rls K H2 μ2 ds vs := fun H2 μ2 st2 e S2 h => by
    obtain ⟨b, vs, eb, hq, q1⟩ := S2.seqL (K := K) h (.loc (e.get ha))
    cases eb
    exact ⟨vs, hq, q1⟩
  refine ⟨fun H2 μ2 st2 i d e S2 h hd => ?_, fun H2 μ2 st2 i d x H3 e S2 h hd hy => ?_, fun H2 μ2 st2 i e S2 h hd => ?_⟩
  · obtain ⟨vs, hq, q1⟩ := key H2 μ2 st2 e S2 h
    obtain ⟨v, h1, _⟩ := q1.get hd
    exact ⟨vs, v, hq, h1⟩
  · obtain ⟨vs, hq, q1⟩ := key H2 μ2 st2 e S2 h
    obtain ⟨v, h1, r⟩ := q1.get hd
    obtain ⟨rfl, hv⟩ := hy
    have : x = v := Option.some.inj ((hv vs hq).symm.trans h1)
    subst this
    exact ⟨Ext.refl _ _, S2, r, fun _ _ h => h⟩
  · obtain ⟨vs, hq, q1⟩ := key H2 μ2 st2 e S2 h
    refine ⟨vs, hq, ?_⟩
    rw [← q1.length]
    exact List.getElem?_eq_none_iff.mp hd
theorem itt_ok {H : Hp} {μ : List Addr} {ds : List D} {a : Addr} {vs : List V} (ht : SqT K H a vs) (q : Rls K H μ ds vs) : ItOk K ⟨ds, fun _ => True⟩ (Itt K a) H μ := by
  refine ⟨fun H2 μ2 st2 i d e S2 _ hd => ?_, fun H2 μ2 st2 i d x H3 e S2 _ hd hy => ?_, fun H2 μ2 st2 i e S2 _ hd => ?_⟩
  · obtain ⟨v, h1, _⟩ := q.get hd
    exact ⟨vs, v, e.tups _ _ ht, h1⟩
  · obtain ⟨v, h1, r⟩ := q.get hd
    obtain ⟨rfl, hv⟩ := hy
    have : x = v := Option.some.inj ((hv vs (e.tups _ _ ht)).symm.trans h1)
    subst this
    exact ⟨Ext.refl _ _, S2, r.ext e, fun _ _ h => h⟩
  · refine ⟨vs, e.tups _ _ ht, ?_⟩
    rw [← q.length]
    exact List.getElem?_eq_none_iff.mp hd
theorem itc_ok {H : Hp} {μ : List Addr} {ds : List D} {a : Addr} {vs : List V} (ht : CL K H a vs) (q : Rls K H μ ds vs) : ItOk K ⟨ds, fun _ => True⟩ (Itl K a) H μ := by
  refine ⟨fun H2 μ2 st2 i d e S2 _ hd => ?_, fun H2 μ2 st2 i d x H3 e S2 _ hd hy => ?_, fun H2 μ2 st2 i e S2 _ hd => ?_⟩
  · obtain ⟨v, h1, _⟩ := q.get hd
    exact ⟨vs, v, (e.cls _ _ ht).sq, h1⟩
  · obtain ⟨v, h1, r⟩ := q.get hd
    obtain ⟨rfl, hv⟩ := hy
    have : x = v := Option.some.inj ((hv vs (e.cls _ _ ht).sq).symm.trans h1)
    subst this
    exact ⟨Ext.refl _ _, S2, r.ext e, fun _ _ h => h⟩
  · refine ⟨vs, (e.cls _ _ ht).sq, ?_⟩
    rw [← q.length]
    exact List.getElem?_eq_none_iff.mp hd
theorem its_ok {H : Hp} {μ : List Addr} {x : Str} : ItOk K ⟨signs x, fun _ => True⟩ (Its x) H μ := by
  have len : (signs x).length = x.cps.size := by simp [signs]
  have at_ : ∀ (i : Nat) (d : D), (signs x)[i]? = some d → ∃ c, x.cps[i]? = some c ∧ d = .str ⟨#[c]⟩ := fun i d h => by
    unfold signs at h
    rw [List.getElem?_map] at h
    obtain ⟨c, h1, h2⟩ := Option.map_eq_some_iff.mp h
    exact ⟨c, by rw [← Array.getElem?_toList]; exact h1, h2.symm⟩
  refine ⟨fun H2 μ2 st2 i d e S2 _ hd => ?_, fun H2 μ2 st2 i d v H3 e S2 _ hd hy => ?_, fun H2 μ2 st2 i e S2 _ hd => ?_⟩
  · have := (List.getElem?_eq_some_iff.mp hd).1
    rw [len] at this
    exact this
  · obtain ⟨c, h1, rfl⟩ := at_ i d hd
    obtain ⟨rfl, c', h2, rfl⟩ := hy
    rw [h1] at h2
    cases h2
    exact ⟨Ext.refl _ _, S2, .str _, fun _ _ h => h⟩
  · have := List.getElem?_eq_none_iff.mp hd
    rw [len] at this
    exact this
theorem i_it (he : PE X e (tX X.K W f)) : PI X tg e (tXI X.K W (xIt f)) :=
  pi_imp (pi_or (pi_list he) (pi_or (pi_tup he) (pi_str he))) fun σ H Q ⟨ρ, st, μ, E, S, h⟩ => by
    cases hf : f ρ st with
    | no => unfold xIt at h; rw [hf] at h; exact h.elim
    | ex x s1 =>
      unfold xIt at h
      rw [hf] at h
      exact .inl ⟨ρ, st, μ, E, S, by rw [hf]; exact h⟩
    | ok x s1 =>
      unfold xIt at h
      rw [hf] at h
      have h : RO X.K (wx X.K W σ) H μ (fun w _ H' μ' => ∀ J, ItOk X.K w J H' μ' → Q J H') (wkOf x s1) := h
      cases x with
      | opq _ _ => exact h.elim
      | exo _ _ _ _ => exact h.elim
      | tup ds =>
        refine .inr (.inl ⟨ρ, st, μ, E, S, ?_⟩)
        rw [hf]
        intro H1 μ1 e1 S1 v r1
        obtain ⟨a, vs, rfl, hq, q1⟩ := seqT (K := X.K) r1
        exact ⟨a, rfl, ⟨vs, hq⟩, h H1 μ1 e1 S1 _ (itt_ok hq q1)⟩
      | str y =>
        refine .inr (.inr ⟨ρ, st, μ, E, S, ?_⟩)
        rw [hf]
        intro H1 μ1 e1 S1 v r1
        cases r1
        exact ⟨y, rfl, h H1 μ1 e1 S1 _ its_ok⟩
      | loc n =>
        refine .inl ⟨ρ, st, μ, E, S, ?_⟩
        rw [hf]
        intro H1 μ1 e1 S1 v r1
        have h : RO X.K (wx X.K W σ) H μ (fun w _ H' μ' => ∀ J, ItOk X.K w J H' μ' → Q J H') (match items s1 (.loc n) with
          | some ds => .ok ⟨ds, fun st => items st (.loc n) = some ds⟩ s1
          | none => .no) := h
        cases h2 : items s1 (.loc n) with
        | none => rw [h2] at h; exact h.elim
        | some ds =>
          rw [h2] at h
          obtain ⟨a, vs, rfl, hq, q1⟩ := S1.seqL (K := X.K) h2 r1
          cases r1 with
          | loc ha => exact ⟨a, rfl, ⟨vs, hq⟩, h H1 μ1 e1 S1 _ (itl_ok S1 h2 ha)⟩
      | cl ds =>
        refine .inl ⟨ρ, st, μ, E, S, ?_⟩
        rw [hf]
        intro H1 μ1 e1 S1 v r1
        obtain ⟨a, vs, ev, hq, q1⟩ := seqC (K := X.K) r1
        cases r1 with
        | cl hc q2 => exact ⟨_, rfl, ⟨_, hc.sq⟩, h H1 μ1 e1 S1 _ (itc_ok hc q2)⟩
      | non => exact h.elim
      | bl _ => exact h.elim
      | int _ => exact h.elim
/-- range(n), range(a, b) -/
def intsD (a : Int) (n : Nat) : List D := (List.range n).map fun (i : Nat) => .int (a + i)
theorem itr_ok {H : Hp} {μ : List Addr} {a : Int} {n : Nat} : ItOk K ⟨intsD a n, fun _ => True⟩ (Itr a n) H μ := by
  have len : (intsD a n).length = n := by simp [intsD]
  have at_ : ∀ (i : Nat) (d : D), (intsD a n)[i]? = some d → d = .int (a + i) := fun i d h => by
    unfold intsD at h
    rw [List.getElem?_map] at h
    obtain ⟨c, h1, h2⟩ := Option.map_eq_some_iff.mp h
    have h3 := List.getElem?_eq_some_iff.mp h1
    obtain ⟨h4, h5⟩ := h3
    rw [List.getElem_range] at h5
    subst h5
    exact h2.symm
  refine ⟨fun H2 μ2 st2 i d e S2 _ hd => ?_, fun H2 μ2 st2 i d v H3 e S2 _ hd hy => ?_, fun H2 μ2 st2 i e S2 _ hd => ?_⟩
  · have := (List.getElem?_eq_some_iff.mp hd).1
    rw [len] at this
    exact this
  · have := at_ i d hd
    subst this
    obtain ⟨rfl, rfl⟩ := hy
    exact ⟨Ext.refl _ _, S2, .int _, fun _ _ h => h⟩
  · have := List.getElem?_eq_none_iff.mp hd
    rw [len] at this
    exact this
def wkRange (ds : List D) (st : Stt) : R Wk := match ds with
  | [.int j] => if -(2 ^ 62) ≤ j ∧ j < 2 ^ 62 then .ok ⟨intsD 0 j.toNat, fun _ => True⟩ st else .no
  | _ => .no
def wkRange2 (ds : List D) (st : Stt) : R Wk := match ds with
  | [.int i, .int j] => if -(2 ^ 62) ≤ i ∧ i < 2 ^ 62 ∧ -(2 ^ 62) ≤ j ∧ j < 2 ^ 62 then .ok ⟨intsD i (j - i).toNat, fun _ => True⟩ st else .no
  | _ => .no
def xRange (g : XA) : XI := fun ρ st => (g ρ st).bind wkRange
def xRange2 (g : XA) : XI := fun ρ st => (g ρ st).bind wkRange2
theorem i_range {g : XA} {p pos : Pos} (hm : X.mg "range" = none) (ha : PA X [e] (tXA X.K W g)) (hg : Gl X "range" := by rfl) (hs : starEach [e] X.env = [(false, eval e X.env)] := by rfl) : PI X tg (.Call (.Name "range" p) [e] [] pos) (tXI X.K W (xRange g)) :=
  pi_imp (pi_range1 hg hm ha hs) fun σ H Q ⟨ρ, st, μ, E, S, h⟩ =>
    tXA_of E S h.bind fun ds s1 H1 μ1 vs e1 E1 S1 r1 h1 => by
      unfold wkRange at h1
      split at h1
      · rename_i j
        split at h1
        · rename_i hj
          obtain ⟨v, rfl, rv⟩ := rls1 r1
          cases rv
          exact ⟨j, rfl, hj.1, hj.2, h1 H1 μ1 (Ext.refl _ _) S1 _ itr_ok⟩
        · exact h1.elim
      · exact h1.elim
theorem i_range2 {g : XA} {p pos : Pos} (hm : X.mg "range" = none) (ha : PA X [e, e2] (tXA X.K W g)) (hg : Gl X "range" := by rfl) (hs : starEach [e, e2] X.env = [(false, eval e X.env), (false, eval e2 X.env)] := by rfl) (hs2 : starEach [e2] X.env = [(false, eval e2 X.env)] := by rfl) : PI X tg (.Call (.Name "range" p) [e, e2] [] pos) (tXI X.K W (xRange2 g)) :=
  pi_imp (pi_range2 hg hm ha hs hs2) fun σ H Q ⟨ρ, st, μ, E, S, h⟩ =>
    tXA_of E S h.bind fun ds s1 H1 μ1 vs e1 E1 S1 r1 h1 => by
      unfold wkRange2 at h1
      split at h1
      · rename_i i j
        split at h1
        · rename_i hj
          obtain ⟨v, u, rfl, rv, ru⟩ := rls2 r1
          cases rv
          cases ru
          exact ⟨i, j, rfl, hj, h1 H1 μ1 (Ext.refl _ _) S1 _ itr_ok⟩
        · exact h1.elim
      · exact h1.elim
/-- enumerate(xs), zip(xs, ys) of lists -/
def enumD (ds : List D) : List D := ds.zipIdx.map fun p => .tup [.int p.2, p.1]
def zipD (ds es : List D) : List D := (ds.zip es).map fun p => .tup [p.1, p.2]
def wkEnum (ds : List D) (st : Stt) : R Wk := match ds with
  | [.loc n] => match items st (.loc n) with
    | some ds => .ok ⟨enumD ds, fun st => items st (.loc n) = some ds⟩ st
    | none => .no
  | _ => .no
def wkZip (ds : List D) (st : Stt) : R Wk := match ds with
  | [.loc n, .loc m] => match items st (.loc n), items st (.loc m) with
    | some ds, some es => .ok ⟨zipD ds es, fun st => items st (.loc n) = some ds ∧ items st (.loc m) = some es⟩ st
    | _, _ => .no
  | _ => .no
def xEnum (g : XA) : XI := fun ρ st => (g ρ st).bind wkEnum
def xZip (g : XA) : XI := fun ρ st => (g ρ st).bind wkZip
theorem pair_new {H : Hp} {μ : List Addr} {st : Stt} {T : Addr} {v u : V} {d e : D} (S : SR K H μ st) (hT : H T = none) (r : Rl K H μ d v) (r2 : Rl K H μ e u) : Ext K H μ (upd H T (.tup [v, u])) μ ∧ SR K (upd H T (.tup [v, u])) μ st ∧ Rl K (upd H T (.tup [v, u])) μ (.tup [d, e]) (.ref T) ∧ ∀ b o, H b = some o → (upd H T (.tup [v, u])) b = some o :=
  ⟨ext_tup hT _, S.tup hT _, .tup (.inl (.inl upd_same)) (.cons (r.ext (ext_tup hT _)) (.cons (r2.ext (ext_tup hT _)) .nil)), fun b o h => by rw [upd_ne (ne_of_none h hT)]; exact h⟩
theorem i_enum {g : XA} {p pos tpos : Pos} {elts : List Expr} {kk : Nat} (hm : X.mg "enumerate" = none) (ha : PA X [e] (tXA X.K W g)) (hg : Gl X "enumerate" := by rfl) (hs : starEach [e] X.env = [(false, eval e X.env)] := by rfl) : PI X (.Tuple elts kk tpos) (.Call (.Name "enumerate" p) [e] [] pos) (tXI X.K W (xEnum g)) :=
  pi_imp (pi_enum hg hm ha hs) fun σ H Q ⟨ρ, st, μ, E, S, h⟩ => by
    refine tXA_of E S h.bind fun xs s1 H1 μ1 vs e1 E1 S1 r1 h1 => ?_
    unfold wkEnum at h1
    split at h1
    · rename_i n
      cases h2 : items s1 (.loc n) with
      | none => rw [h2] at h1; exact h1.elim
      | some ds =>
      rw [h2] at h1
      obtain ⟨v, rfl, rv⟩ := rls1 r1
      obtain ⟨a, us, rfl, hq, q1⟩ := S1.seqL (K := X.K) h2 rv
      have ha : μ1[n]? = some a := by
        cases rv with
        | loc ha => exact ha
      refine ⟨a, us, rfl, hq, h1 H1 μ1 (Ext.refl _ _) S1 _ ?_⟩
      have key : ∀ (H2 : Hp) (μ2 : List Addr) (st2 : Stt), Ext X.K H1 μ1 H2 μ2 → SR X.K H2 μ2 st2 → items st2 (.loc n) = some ds → ∃ vs, SqL X.K H2 a vs ∧ Rls X.K H2 μ2 ds vs := fun H2 μ2 st2 e S2 h => by
        obtain ⟨b, vs, eb, hq, q1⟩ := S2.seqL (K := X.K) h (.loc (e.get ha))
        cases eb
        exact ⟨vs, hq, q1⟩
      have at_ : ∀ (i : Nat) (d : D), (enumD ds)[i]? = some d → ∃ x, ds[i]? = some x ∧ d = .tup [.int i, x] := fun i d h => by
        unfold enumD at h
        rw [List.getElem?_map] at h
        obtain ⟨⟨x, k⟩, h1, h2⟩ := Option.map_eq_some_iff.mp h
        rw [List.getElem?_zipIdx] at h1
        obtain ⟨y, h3, h4⟩ := Option.map_eq_some_iff.mp h1
        cases h4
        refine ⟨x, h3, ?_⟩
        rw [← h2]
        simp
      have len : (enumD ds).length = ds.length := by simp [enumD]
      refine ⟨fun H2 μ2 st2 i d e S2 h hd => ?_, fun H2 μ2 st2 i d x H3 e S2 h hd hy => ?_, fun H2 μ2 st2 i e S2 h hd => ?_⟩
      · obtain ⟨vs, hq, q1⟩ := key H2 μ2 st2 e S2 h
        obtain ⟨y, h3, _⟩ := at_ i d hd
        obtain ⟨v, h4, _⟩ := q1.get h3
        exact ⟨vs, v, hq, h4⟩
      · obtain ⟨vs, hq, q1⟩ := key H2 μ2 st2 e S2 h
        obtain ⟨y, h3, rfl⟩ := at_ i d hd
        obtain ⟨v, h4, r⟩ := q1.get h3
        obtain ⟨T, z, rfl, hT, rfl, hz⟩ := hy
        have : z = v := Option.some.inj ((hz vs hq).symm.trans h4)
        subst this
        exact pair_new S2 hT (.int _) r
      · obtain ⟨vs, hq, q1⟩ := key H2 μ2 st2 e S2 h
        refine ⟨vs, hq, ?_⟩
        rw [← q1.length, ← len]
        exact List.getElem?_eq_none_iff.mp hd
    · exact h1.elim
theorem i_zip {g : XA} {p pos tpos : Pos} {elts : List Expr} {kk : Nat} (hm : X.mg "zip" = none) (ha : PA X [e, e2] (tXA X.K W g)) (hg : Gl X "zip" := by rfl) (hs : starEach [e, e2] X.env = (false, eval e X.env) :: starEach [e2] X.env := by rfl) (hpl : (backTo pos (starEach [e2] X.env)).any (·.1) = false := by rfl) : PI X (.Tuple elts kk tpos) (.Call (.Name "zip" p) [e, e2] [] pos) (tXI X.K W (xZip g)) :=
  pi_imp (pi_zip hg hm ha hs hpl) fun σ H Q ⟨ρ, st, μ, E, S, h⟩ => by
    refine tXA_of E S h.bind fun xs s1 H1 μ1 vs e1 E1 S1 r1 h1 => ?_
    unfold wkZip at h1
    split at h1
    · rename_i n m
      cases h2 : items s1 (.loc n) with
      | none => rw [h2] at h1; exact h1.elim
      | some ds =>
      cases h2' : items s1 (.loc m) with
      | none => rw [h2, h2'] at h1; exact h1.elim
      | some es =>
      rw [h2, h2'] at h1
      obtain ⟨v, u, rfl, rv, ru⟩ := rls2 r1
      obtain ⟨a, us, rfl, hq, q1⟩ := S1.seqL (K := X.K) h2 rv
      obtain ⟨b, ws, rfl, hq', q1'⟩ := S1.seqL (K := X.K) h2' ru
      have ha : μ1[n]? = some a := by
        cases rv with
        | loc ha => exact ha
      have hb : μ1[m]? = some b := by
        cases ru with
        | loc hb => exact hb
      refine ⟨a, b, us, ws, rfl, hq, hq', h1 H1 μ1 (Ext.refl _ _) S1 _ ?_⟩
      have key : ∀ (n : Nat) (a : Addr) (ds : List D), μ1[n]? = some a → ∀ (H2 : Hp) (μ2 : List Addr) (st2 : Stt), Ext X.K H1 μ1 H2 μ2 → SR X.K H2 μ2 st2 → items st2 (.loc n) = some ds → ∃ vs, SqL X.K H2 a vs ∧ Rls X.K H2 μ2 ds vs := fun n a ds ha H2 μ2 st2 e S2 h => by
        obtain ⟨b, vs, eb, hq, q1⟩ := S2.seqL (K := X.K) h (.loc (e.get ha))
        cases eb
        exact ⟨vs, hq, q1⟩
      have at_ : ∀ (i : Nat) (d : D), (zipD ds es)[i]? = some d → ∃ x y, ds[i]? = some x ∧ es[i]? = some y ∧ d = .tup [x, y] := fun i d h => by
        unfold zipD at h
        rw [List.getElem?_map] at h
        obtain ⟨⟨x, y⟩, h1, h2⟩ := Option.map_eq_some_iff.mp h
        obtain ⟨h3, h4⟩ := List.getElem?_zip_eq_some.mp h1
        exact ⟨x, y, h3, h4, h2.symm⟩
      refine ⟨fun H2 μ2 st2 i d e S2 h hd => ?_, fun H2 μ2 st2 i d x H3 e S2 h hd hy => ?_, fun H2 μ2 st2 i e S2 h hd => ?_⟩
      · obtain ⟨vs, hq, q1⟩ := key n a ds ha H2 μ2 st2 e S2 h.1
        obtain ⟨vs', hq', q1'⟩ := key m b es hb H2 μ2 st2 e S2 h.2
        obtain ⟨y, z, h3, h3', _⟩ := at_ i d hd
        obtain ⟨v, h4, _⟩ := q1.get h3
        obtain ⟨v', h4', _⟩ := q1'.get h3'
        exact ⟨vs, vs', v, v', hq, hq', h4, h4'⟩
      · obtain ⟨vs, hq, q1⟩ := key n a ds ha H2 μ2 st2 e S2 h.1
        obtain ⟨vs', hq', q1'⟩ := key m b es hb H2 μ2 st2 e S2 h.2
        obtain ⟨y, z, h3, h3', rfl⟩ := at_ i d hd
        obtain ⟨v, h4, r⟩ := q1.get h3
        obtain ⟨v', h4', r'⟩ := q1'.get h3'
        obtain ⟨T, z1, z2, rfl, hT, rfl, hz, hz'⟩ := hy
        have : z1 = v := Option.some.inj ((hz vs hq).symm.trans h4)
        subst this
        have : z2 = v' := Option.some.inj ((hz' vs' hq').symm.trans h4')
        subst this
        exact pair_new S2 hT r r'
      · obtain ⟨vs, hq, q1⟩ := key n a ds ha H2 μ2 st2 e S2 h.1
        obtain ⟨vs', hq', q1'⟩ := key m b es hb H2 μ2 st2 e S2 h.2
        refine ⟨vs, vs', hq, hq', ?_⟩
        rw [← q1.length, ← q1'.length]
        have := List.getElem?_eq_none_iff.mp hd
        simp only [zipD, List.length_map, List.length_zip] at this
        omega
    · exact h1.elim
end
end Rg

set_option Elab.async false
set_option linter.all false
set_option maxRecDepth 100000
namespace Rg
open PySem PySem.Spec PyProof.Rows L2

/-! ### statements -/
def sNil : XS := fun ρ st => .nx ρ st
def sCons (f g : XS) : XS := fun ρ st => (f ρ st).seq g
def sSet (i : Nat) (f : XE) : XS := fun ρ st => (f ρ st).out ρ fun d s => .nx (ρ.set i (some d)) s
def gOut (g : XG) (ρ : En) (d : D) (s : Stt) : Out := match g d ρ with
  | some ρ' => .nx ρ' s
  | none => .no
def sAsg (f : XE) (g : XG) : XS := fun ρ st => (f ρ st).out ρ (gOut g ρ)
def sExpr (f : XE) : XS := fun ρ st => (f ρ st).out ρ fun _ s => .nx ρ s
def sRet (f : XE) : XS := fun ρ st => (f ρ st).out ρ fun d s => .rt d s
def sIf (t : XT) (f g : XS) : XS := fun ρ st => (t ρ st).out ρ fun b s => if b = true then f ρ s else g ρ s
def sNo : XS := fun _ _ => .no
def sPass : XS := fun ρ st => .nx ρ st
def sBrk : XS := fun ρ st => .bk ρ st
def sCont : XS := fun ρ st => .ct ρ st
section
variable {X : Cx} {st : Stmt} {rest : List Stmt} {f g : XS} {e tg c : Expr} {fe : XE} {pos : Pos} {W : WX}
theorem ss_nil : PSs X [] (tXS X.K W sNil) := pss_imp pss_nil fun D' σ H ⟨ρ, s, μ, E, S, h⟩ => h σ H μ (Ext.refl _ _) E S
theorem ss_cons (h1 : PS X st (tXS X.K W f)) (h2 : PSs X rest (tXS X.K W g)) : PSs X (st :: rest) (tXS X.K W (sCons f g)) :=
  pss_imp (pss_cons h1 h2) fun D' σ H ⟨ρ, s, μ, E, S, h⟩ => by
    unfold sCons at h
    refine ⟨ρ, s, μ, E, S, ?_⟩
    cases e1 : f ρ s with
    | no => rw [e1] at h; exact h
    | nx ρ' s' =>
      rw [e1] at h
      exact fun σ1 H1 μ1 ex E1 S1 => ⟨ρ', s', μ1, E1, S1, outOk.at ex h⟩
    | rt d s' => rw [e1] at h; exact h
    | bk ρ' s' => rw [e1] at h; exact h
    | ct ρ' s' => rw [e1] at h; exact h
    | xx ρ' e s' => rw [e1] at h; exact h
theorem s_never : PS X st (tXS X.K W sNo) := ps_imp ps_never fun D' σ H ⟨ρ, s, μ, E, S, h⟩ => h.elim
theorem s_pass : PS X (.Pass pos) (tXS X.K W sPass) := ps_imp ps_pass fun D' σ H ⟨ρ, s, μ, E, S, h⟩ => h σ H μ (Ext.refl _ _) E S
theorem s_brk : PS X (.Break pos) (tXS X.K W sBrk) := ps_imp ps_break fun D' σ H ⟨ρ, s, μ, E, S, h⟩ => h σ H μ (Ext.refl _ _) E S
theorem s_cont : PS X (.Continue pos) (tXS X.K W sCont) := ps_imp ps_continue fun D' σ H ⟨ρ, s, μ, E, S, h⟩ => h σ H μ (Ext.refl _ _) E S
theorem s_set (i : Nat) {x : Str} {pos' : Pos} (hN : X.N.Nodup) (he : PE X e (tX X.K W fe)) (hi : X.N[i]? = some x := by rfl) (hx : Loc X.env.scope x := by first | exact .inl rfl | exact .inr rfl) (hs : swapsWith e (some (.Name x pos')) pos.line X.env = pure false := by rfl) (hf : X.fn x = true ∨ X.env.scope.names.lookup x = some .local := by first | exact .inl rfl | exact .inr rfl) :
    PS X (.Assign [.Name x pos'] e pos) (tXS X.K W (sSet i fe)) :=
  ps_imp (ps_set hN hi hx he hs hf) fun D' σ H ⟨ρ, s, μ, E, S, h⟩ =>
    tX_of E S (h.out E) fun d s1 H1 μ1 v e1 E1 S1 r q => q _ H1 μ1 (Ext.refl _ _) (E1.set r i) S1
theorem s_asg {vs : List Nat} {gt : XG} (he : PE X e (tX X.K W fe)) (hg : PG X tg (tG X.K vs gt)) (hs : swapsWithSole [tg] e pos.line X.env = pure false := by rfl) (hw : swappedStores [tg] e X.env = pure none := by rfl) (h1 : (assignEach [tg] X.env).map (·.2) = [assign tg X.env] := by rfl) :
    PS X (.Assign [tg] e pos) (tXS X.K W (sAsg fe gt)) :=
  ps_imp (ps_asg he hg hs hw h1) fun D' σ H ⟨ρ, s, μ, E, S, h⟩ =>
    tX_of E S (h.out E) fun d s1 H1 μ1 v e1 E1 S1 r q => by
      unfold gOut at q
      cases hgt : gt d ρ with
      | none => rw [hgt] at q; exact q.elim
      | some ρ' =>
        rw [hgt] at q
        exact ⟨ρ, s1, μ1, d, E1, S1, r, ρ', hgt, fun σ' E' _ => q σ' H1 μ1 (Ext.refl _ _) E' S1⟩
theorem s_expr (he : PE X e (tX X.K W fe)) (hs : swapsWith e none pos.line X.env = pure false := by rfl) : PS X (.Expr e pos) (tXS X.K W (sExpr fe)) :=
  ps_imp (ps_expr he hs) fun D' σ H ⟨ρ, s, μ, E, S, h⟩ =>
    tX_of E S (h.out E) fun d s1 H1 μ1 v e1 E1 S1 r q => q σ H1 μ1 (Ext.refl _ _) E1 S1
theorem s_ret (he : PE X e (tX X.K W fe)) : PS X (.Return (some e) pos) (tXS X.K W (sRet fe)) :=
  ps_imp (ps_ret he) fun D' σ H ⟨ρ, s, μ, E, S, h⟩ =>
    tX_of E S (h.out E) fun d s1 H1 μ1 v e1 E1 S1 r q => q v H1 μ1 (Ext.refl _ _) S1 r
theorem s_retN : PS X (.Return none pos) (tXS X.K W (sRet (xC .non))) :=
  ps_imp ps_retN fun D' σ H ⟨ρ, s, μ, E, S, h⟩ => h .non H μ (Ext.refl _ _) S .non
theorem s_if {a b : List Stmt} {t : XT} (hc : PT X c (tXT X.K W t)) (ha : PSs X a (tXS X.K W f)) (hb : PSs X b (tXS X.K W g)) : PS X (.If c a b pos) (tXS X.K W (sIf t f g)) :=
  ps_imp (ps_if hc ha hb) fun D' σ H ⟨ρ, s, μ, E, S, h⟩ =>
    tXT_of E S (h.out E) fun b s1 H1 μ1 e1 E1 S1 q => by
      cases b with
      | true => exact ⟨ρ, s1, μ1, E1, S1, q⟩
      | false => exact ⟨ρ, s1, μ1, E1, S1, q⟩
/-- xs[i] = v -/
def setL (o i v : D) (ρ : En) (s : Stt) : Out := match i, lstAt s o with
  | .int k, some p => match ixN p.2.length k with
    | some j => .nx ρ (s.set p.1 (.lst (p.2.set j v)))
    | none => .no
  | _, _ => .no
def sSubL (fo fi fv : XE) : XS := fun ρ st => (fv ρ st).out ρ fun v s => (fo ρ s).out ρ fun o s => (fi ρ s).out ρ fun i s => setL o i v ρ s
theorem s_subL {o i : Expr} {fo fi fv : XE} {p2 : Pos} (ho : PE X o (tX X.K W fo)) (hi : PE X i (tX X.K W fi)) (he : PE X e (tX X.K W fv))
    (ha : ∀ v, assign (.Subscript o i p2) X.env v = (do
      let ov ← holding [v] (eval o X.env)
      let iv ← holding [v, ov] (eval i X.env)
      standAt p2
      holding [v, ov, iv] (setItem ov iv v)
      release [v, ov, iv] []) := by intro _; rfl)
    (hs : swapsWithSole [.Subscript o i p2] e pos.line X.env = pure false := by rfl) (hw : swappedStores [.Subscript o i p2] e X.env = pure none := by rfl) (h1 : (assignEach [.Subscript o i p2] X.env).map (·.2) = [assign (.Subscript o i p2) X.env] := by rfl) :
    PS X (.Assign [.Subscript o i p2] e pos) (tXS X.K W (sSubL fo fi fv)) :=
  ps_imp (ps_asg he (pg_sub ho hi set_list ha) hs hw h1) fun D' σ H ⟨ρ, s, μ, E, S, h⟩ => by
    refine tX_of E S (h.out E) fun v s1 H1 μ1 vv e1 E1 S1 r1 hA => ?_
    refine tX_of E1 S1 (hA.out E1) fun o s2 H2 μ2 ov e2 E2 S2 r2 hB => ?_
    refine tX_of E2 S2 (hB.out E2) fun i s3 H3 μ3 iv e3 E3 S3 r3 hC => ?_
    unfold setL at hC
    split at hC
    · rename_i k p hp
      obtain ⟨n, ds⟩ := p
      split at hC
      · rename_i j hj
        obtain ⟨rfl, e4⟩ := lstAt_some hp
        cases r3
        obtain ⟨a, us, rfl, ha, t, q1⟩ := S3.lst e4 (r2.ext e3)
        refine ⟨a, us, k, j, rfl, rfl, t, by rw [← q1.length]; exact hj, ?_⟩
        have ex := ext_set S3 e4 ha (.lst (us.set j vv))
        exact hC σ _ μ3 ex (E3.ext ex) (S3.put e4 ha (o' := .lst (ds.set j v)) ⟨us.set j vv, upd_same, (Rls.set ((r1.ext e2).ext e3) j q1).ext ex⟩)
      · exact hC.elim
    · exact hC.elim
/-- d[k] = v -/
def keyD : D → Option Key
  | .int i => some (.inl i)
  | .str x => some (.inr x)
  | _ => none
theorem keyD_ok {K : PySem.W.Frag} {H : Hp} {μ : List Addr} {d : D} {v : V} {k : Key} (r : Rl K H μ d v) (h : keyD d = some k) : v = kV k := by
  cases d with
  | int i => cases h; cases r; rfl
  | str x => cases h; cases r; rfl
  | non => cases h
  | bl _ => cases h
  | tup _ => cases h
  | cl _ => cases h
  | opq _ _ => cases h
  | exo _ _ _ _ => cases h
  | loc _ => cases h
def dctAt (st : Stt) : D → Option (Nat × List (Key × D))
  | .loc n => match st[n]? with
    | some (.dct ds) => some (n, ds)
    | _ => none
  | _ => none
theorem dctAt_some {st : Stt} {d : D} {n : Nat} {ds : List (Key × D)} (h : dctAt st d = some (n, ds)) : d = .loc n ∧ st[n]? = some (.dct ds) := by
  cases d with
  | loc m =>
    have h : (match st[m]? with
      | some (.dct ds) => some (m, ds)
      | _ => none) = some (n, ds) := h
    cases e : st[m]? with
    | none => rw [e] at h; cases h
    | some o =>
      rw [e] at h
      cases o with
      | dct es => cases h; exact ⟨rfl, e⟩
      | lst ds => cases h
      | ins _ _ => cases h
      | dtt _ => cases h
  | non => cases h
  | bl _ => cases h
  | int _ => cases h
  | str _ => cases h
  | tup _ => cases h
  | cl _ => cases h
  | opq _ _ => cases h
  | exo _ _ _ _ => cases h
theorem kr_any {K : PySem.W.Frag} {H : Hp} {μ : List Addr} {k : Key} : ∀ {kd : List (Key × D)} {kv : List (Key × V)}, KR K H μ kd kv → (kv.any fun p => decide (p.1 = k)) = (kd.any fun p => decide (p.1 = k))
  | _, _, .nil => rfl
  | _, _, .cons r t => by rw [List.any_cons, List.any_cons, kr_any t, r.1]
theorem kr_map {K : PySem.W.Frag} {H : Hp} {μ : List Addr} {k : Key} {d : D} {v : V} (q : Rl K H μ d v) : ∀ {kd : List (Key × D)} {kv : List (Key × V)}, KR K H μ kd kv → KR K H μ (kd.map fun p => if p.1 = k then (p.1, d) else p) (kv.map fun p => if p.1 = k then (p.1, v) else p)
  | _, _, .nil => .nil
  | p :: kd, u :: kv, .cons r t => by
    refine .cons ?_ (kr_map q t)
    show (if p.1 = k then (p.1, d) else p).1 = (if u.1 = k then (u.1, v) else u).1 ∧ Rl K H μ (if p.1 = k then (p.1, d) else p).2 (if u.1 = k then (u.1, v) else u).2
    by_cases e : p.1 = k
    · rw [if_pos e, if_pos (r.1.symm.trans e)]
      exact ⟨r.1, q⟩
    · rw [if_neg e, if_neg fun z => e (r.1.trans z)]
      exact r
theorem kr_app {K : PySem.W.Frag} {H : Hp} {μ : List Addr} {k : Key} {d : D} {v : V} (q : Rl K H μ d v) : ∀ {kd : List (Key × D)} {kv : List (Key × V)}, KR K H μ kd kv → KR K H μ (kd ++ [(k, d)]) (kv ++ [(k, v)])
  | _, _, .nil => .cons ⟨rfl, q⟩ .nil
  | _, _, .cons r t => .cons r (kr_app q t)
def putD (kvs : List (Key × D)) (k : Key) (v : D) : List (Key × D) :=
  if (kvs.any fun kv => decide (kv.1 = k)) = true then kvs.map (fun kv => if kv.1 = k then (kv.1, v) else kv) else kvs ++ [(k, v)]
theorem kr_put {K : PySem.W.Frag} {H : Hp} {μ : List Addr} {k : Key} {d : D} {v : V} (q : Rl K H μ d v) {kd : List (Key × D)} {kv : List (Key × V)} (r : KR K H μ kd kv) : KR K H μ (putD kd k d) (putK kv k v) := by
  unfold putK putD
  rw [kr_any r]
  split
  · exact kr_map q r
  · exact kr_app q r
def setDk (o i v : D) (ρ : En) (s : Stt) : Out := match keyD i, dctAt s o with
  | some k, some p => if p.2.length < sizeLine then .nx ρ (s.set p.1 (.dct (putD p.2 k v))) else .no
  | _, _ => .no
def sPut (fo fi fv : XE) : XS := fun ρ st => (fv ρ st).out ρ fun v s => (fo ρ s).out ρ fun o s => (fi ρ s).out ρ fun i s => setDk o i v ρ s
theorem s_put {o i : Expr} {fo fi fv : XE} {p2 : Pos} (hu : X.A.units + 1 < cLine) (ho : PE X o (tX X.K W fo)) (hi : PE X i (tX X.K W fi)) (he : PE X e (tX X.K W fv)) (hs : swapsWith e (some (.Subscript o i p2)) pos.line X.env = pure false := by rfl) :
    PS X (.Assign [.Subscript o i p2] e pos) (tXS X.K W (sPut fo fi fv)) :=
  ps_imp (ps_dput hu ho hi he hs) fun D' σ H ⟨ρ, s, μ, E, S, h⟩ => by
    refine tX_of E S (h.out E) fun v s1 H1 μ1 vv e1 E1 S1 r1 hA => ?_
    refine tX_of E1 S1 (hA.out E1) fun o s2 H2 μ2 ov e2 E2 S2 r2 hB => ?_
    refine tX_of E2 S2 (hB.out E2) fun i s3 H3 μ3 iv e3 E3 S3 r3 hC => ?_
    unfold setDk at hC
    split at hC
    · rename_i k p hk hp
      obtain ⟨n, ds⟩ := p
      split at hC
      · rename_i hz
        obtain ⟨rfl, e4⟩ := dctAt_some hp
        have := keyD_ok r3 hk
        subst this
        obtain ⟨a, us, rfl, ha, t, q1⟩ := S3.dct e4 (r2.ext e3)
        have hl : us.length = ds.length := (Paired.length q1).symm
        refine ⟨a, _, rfl, DPut.k t (by rw [hl]; exact hz), ?_⟩
        have ex := ext_set S3 e4 ha (.dK (putK us k vv))
        exact hC σ _ μ3 ex (E3.ext ex) (S3.put e4 ha (o' := .dct (putD ds k v)) ⟨putK us k vv, upd_same, (kr_put ((r1.ext e2).ext e3) q1).ext ex⟩)
      · exact hC.elim
    · exact hC.elim
/-- x op= e -/
def DoesP (K : PySem.W.Frag) (r : TIp) (f : Op2) : Prop := Does K r f
def sAug (i : Nat) (f : Op2) (fe : XE) : XS := fun ρ st => (xV i ρ st).out ρ fun x s => (fe ρ s).out ρ fun y s => (R.of (f x y s)).out ρ fun z s => .nx (ρ.set i (some z)) s
theorem s_aug (i : Nat) {x : Str} {op : Operator} {ti : TIp} {fo : Op2} {pos' : Pos} (ho : PIp X op ti) (hd : Does X.K ti fo) (hN : X.N.Nodup) (he : PE X e (tX X.K W fe)) (hi : X.N[i]? = some x := by rfl) (hx : Loc X.env.scope x := by first | exact .inl rfl | exact .inr rfl) (hf : X.fn x = true ∨ X.env.scope.names.lookup x = some .local := by first | exact .inl rfl | exact .inr rfl) :
    PS X (.AugAssign (.Name x pos') op e pos) (tXS X.K W (sAug i fo fe)) :=
  ps_imp (ps_aug hN hi hx he ho hf) fun D' σ H ⟨ρ, s, μ, E, S, h⟩ => by
    unfold sAug xV at h
    cases hx : ρ[i]? with
    | none => rw [hx] at h; exact h.elim
    | some o =>
      rw [hx] at h
      cases o with
      | none => exact h.elim
      | some d =>
        obtain ⟨v, h1, h2⟩ := E.val i d hx
        refine ⟨v, h1, ?_⟩
        have h : outOk X.K W D' H μ ((fe ρ s).out ρ fun y s => (R.of (fo d y s)).out ρ fun z s => .nx (ρ.set i (some z)) s) := h
        refine tX_of E S (h.out E) fun y s1 H1 μ1 yv e1 E1 S1 r1 h => ?_
        obtain ⟨z, s2, h3, k⟩ := (h.out E1).of
        refine hd d y s1 z s2 v yv H1 μ1 _ (h2.ext e1) r1 S1 h3 fun zv H' μ' e' S' r' => ?_
        exact k H' μ' e' S' _ H' μ' (Ext.refl _ _) ((E1.ext e').set r' i) S'
/-- o[i] op= e, o a list -/
def oIxL : Op2 := fun x y st => match y with
  | .int i => match x with
    | .loc n => (items st (.loc n)).bind fun ds => (atI ds i).map fun d => (d, st)
    | _ => none
  | _ => none
theorem does_ixL {K : PySem.W.Frag} : Does K (rIxL K) oIxL := fun x y st d st' xv yv H μ Q rx ry S h q => by
  unfold oIxL at h
  split at h
  · rename_i i
    cases ry
    split at h
    · rename_i n
      obtain ⟨ds, h1, h⟩ := Option.bind_eq_some_iff.mp h
      obtain ⟨e, h2, h⟩ := Option.map_eq_some_iff.mp h
      cases h
      obtain ⟨a, vs, rfl, hq, q1⟩ := S.seqL (K := K) h1 rx
      obtain ⟨v, h3, h4⟩ := atI_rls q1 h2
      exact ⟨a, vs, i, v, rfl, rfl, hq, h3, q v H μ (Ext.refl _ _) S h4⟩
    · cases h
  · cases h
theorem get_list : PGet X (rIxL X.K) := by
  intro pins s σ H x y v u Q I rx ry h
  obtain ⟨p, xs, i, z, rfl, rfl, hq, he, q⟩ := h
  cases rx
  obtain ⟨t, rfl⟩ := ry
  obtain ⟨its, r, pl, hz⟩ := I.list hq
  obtain ⟨j, h1, h2, h3, h4, h5⟩ := atI_get he
  obtain ⟨w, ew, rw'⟩ := r.get h2
  have hl := r.length
  have hn := line63
  have fin : EP X pins σ Q w s := ⟨z, H, I, rw', q⟩
  by_cases h0 : 0 ≤ i
  · have hj : i.toNat = j := by
      rw [seqIndex_of h0 h5] at h1
      exact Option.some.inj h1
    exact wpAny_getItem_list pl.isList h0 (by omega) (by rw [hj]; simpa using ew) fin
  · have hj : (i + (its.toArray.size : Int)).toNat = j := by
      rw [seqIndex_neg (by omega) h4] at h1
      rw [List.size_toArray, ← hl]
      exact Option.some.inj h1
    exact wpAny_getItem_list_neg pl.isList (by omega) (by rw [List.size_toArray] <;> omega) (by omega) (by rw [hj]; simpa using ew) fin
def sAugL (fop : Op2) (fo fi fe : XE) : XS := fun ρ st => (fo ρ st).out ρ fun o s => (fi ρ s).out ρ fun i s => (R.of (oIxL o i s)).out ρ fun x s => (fe ρ s).out ρ fun y s => (R.of (fop x y s)).out ρ fun z s => setL o i z ρ s
theorem s_augL {o i : Expr} {fo fi : XE} {op : Operator} {tip : TIp} {fop : Op2} {tpos : Pos} (hp : PIp X op tip) (hd : Does X.K tip fop) (ho : PE X o (tX X.K W fo)) (hi : PE X i (tX X.K W fi)) (he : PE X e (tX X.K W fe))
    (ha : ∀ ov iv new, augStore i ov iv new = (do holding [new, ov, iv] (setItem ov iv new); release [new, ov, iv] []; pure .next) := by intros; rfl) : PS X (.AugAssign (.Subscript o i tpos) op e pos) (tXS X.K W (sAugL fop fo fi fe)) :=
  ps_imp (ps_augS ho hi get_list he hp set_list ha) fun D' σ H ⟨ρ, s, μ, E, S, h⟩ => by
    refine tX_of E S (h.out E) fun o s2 H2 μ2 ov e2 E2 S2 r2 hA => ?_
    refine tX_of E2 S2 (hA.out E2) fun i s3 H3 μ3 iv e3 E3 S3 r3 hB => ?_
    obtain ⟨x, s4, h4, k4⟩ := (hB.out E3).of
    refine does_ixL o i s3 x s4 ov iv H3 μ3 _ (r2.ext e3) r3 S3 h4 fun xv H4 μ4 e4 S4 r4 => ?_
    have hC := k4 H4 μ4 e4 S4
    have E4 := E3.ext e4
    refine tX_of E4 S4 (hC.out E4) fun y s5 H5 μ5 yv e5 E5 S5 r5 hD => ?_
    obtain ⟨z, s6, h6, k6⟩ := (hD.out E5).of
    refine hd x y s5 z s6 xv yv H5 μ5 _ (r4.ext e5) r5 S5 h6 fun zv H6 μ6 e6 S6 r6 => ?_
    have hE := k6 H6 μ6 e6 S6
    have r2' := (((r2.ext e3).ext e4).ext e5).ext e6
    have r3' := ((r3.ext e4).ext e5).ext e6
    unfold setL at hE
    split at hE
    · rename_i k p hp
      obtain ⟨n, ds⟩ := p
      split at hE
      · rename_i j hj
        obtain ⟨rfl, e9⟩ := lstAt_some hp
        cases r3'
        obtain ⟨a, us, rfl, ha, t, q1⟩ := S6.lst e9 r2'
        refine ⟨a, us, k, j, rfl, rfl, t, by rw [← q1.length]; exact hj, ?_⟩
        have ex := ext_set S6 e9 ha (.lst (us.set j zv))
        exact hE σ _ μ6 ex ((E5.ext e6).ext ex) (S6.put e9 ha (o' := .lst (ds.set j z)) ⟨us.set j zv, upd_same, (Rls.set r6 j q1).ext ex⟩)
      · exact hE.elim
    · exact hE.elim
theorem ip_I0 {K : PySem.W.Frag} {g : Int → Int → Int} : Does K (ipI g) (oI CAny fun i j => .int (g i j)) := fun x y st d st' xv yv H μ Q rx ry S h q => by
  obtain ⟨i, j, rfl, rfl, hc, rfl, rfl⟩ := oI_some h
  cases rx
  cases ry
  exact ⟨i, j, rfl, rfl, q _ H μ (Ext.refl _ _) S (.int _)⟩
end

/-! ### instances -/
def insAt (C : Addr) (st : Stt) : D → Option (Nat × List (Str × D))
  | .loc n => match st[n]? with
    | some (.ins C' fs) => if C' = C then some (n, fs) else none
    | _ => none
  | _ => none
theorem insAt_some {C : Addr} {st : Stt} {d : D} {n : Nat} {fs : List (Str × D)} (h : insAt C st d = some (n, fs)) : d = .loc n ∧ st[n]? = some (.ins C fs) := by
  cases d with
  | loc m =>
    have h : (match st[m]? with
      | some (.ins C' fs) => if C' = C then some (m, fs) else none
      | _ => none) = some (n, fs) := h
    cases e : st[m]? with
    | none => rw [e] at h; cases h
    | some o =>
      rw [e] at h
      cases o with
      | dtt _ => cases h
      | dct es => cases h
      | lst ds => cases h
      | ins C' es =>
        have h : (if C' = C then some (m, es) else none) = some (n, fs) := h
        by_cases hc : C' = C
        · rw [if_pos hc] at h
          cases h
          subst hc
          exact ⟨rfl, e⟩
        · rw [if_neg hc] at h
          cases h
  | non => cases h
  | bl _ => cases h
  | int _ => cases h
  | str _ => cases h
  | tup _ => cases h
  | cl _ => cases h
  | opq _ _ => cases h
  | exo _ _ _ _ => cases h
theorem FR.look {K : PySem.W.Frag} {H : Hp} {μ : List Addr} {f : Str} {d : D} : ∀ {fs : List (Str × D)} {vs : List (Str × V)}, FR K H μ fs vs → fs.lookup f = some d → ∃ v, vs.lookup f = some v ∧ Rl K H μ d v
  | _, _, .nil, h => by simp at h
  | (g, x) :: fs, (g', v) :: vs, .cons r t, h => by
    obtain ⟨e, rr⟩ := r
    have e : g = g' := e
    subst e
    by_cases hg : f = g
    · subst hg
      simp only [List.lookup, beq_self_eq_true] at h ⊢
      cases h
      exact ⟨_, rfl, rr⟩
    · have b : (f == g) = false := by simpa using hg
      simp only [List.lookup, b] at h ⊢
      exact FR.look t h
theorem FR.lookN {K : PySem.W.Frag} {H : Hp} {μ : List Addr} {f : Str} : ∀ {fs : List (Str × D)} {vs : List (Str × V)}, FR K H μ fs vs → fs.lookup f = none → vs.lookup f = none
  | _, _, .nil, h => by simp
  | (g, x) :: fs, (g', v) :: vs, .cons r t, h => by
    obtain ⟨e, rr⟩ := r
    have e : g = g' := e
    subst e
    by_cases hg : f = g
    · subst hg
      simp only [List.lookup, beq_self_eq_true] at h
      cases h
    · have b : (f == g) = false := by simpa using hg
      simp only [List.lookup, b] at h ⊢
      exact FR.lookN t h
def putFD (f : Str) (v : D) : List (Str × D) → List (Str × D)
  | [] => [(f, v)]
  | (g, x) :: r => if g = f then (g, v) :: r else (g, x) :: putFD f v r
theorem FR.put {K : PySem.W.Frag} {H : Hp} {μ : List Addr} {f : Str} {d : D} {v : V} (q : Rl K H μ d v) : ∀ {fs : List (Str × D)} {vs : List (Str × V)}, FR K H μ fs vs → FR K H μ (putFD f d fs) (putF f v vs)
  | _, _, .nil => .cons ⟨rfl, q⟩ .nil
  | (g, x) :: fs, (g', u) :: vs, .cons r t => by
    obtain ⟨e, rr⟩ := r
    have e : g = g' := e
    subst e
    unfold putFD putF
    by_cases hg : g = f
    · rw [if_pos hg, if_pos hg]
      exact .cons ⟨rfl, q⟩ t
    · rw [if_neg hg, if_neg hg]
      exact .cons ⟨rfl, rr⟩ (FR.put q t)
def oFld (C : Addr) (f : Str) : Op1 := fun d st => (insAt C st d).bind fun p => (p.2.lookup f).map fun x => (x, st)
section
variable {X : Cx} {e value : Expr} {fe fv : XE} {pos pos' tpos : Pos} {W : WX} {C : Addr} {f : Str}
theorem e_fld (c : Cls X.K C) (n : NoAttr X.K C f) (he : PE X e (tX X.K W fe)) (hb : attributeBase e f X.env (eval e X.env) = eval e X.env := by rfl) : PE X (.Attribute e f pos) (tX X.K W (x1 (oFld C f) fe)) :=
  pe_imp (pe_fld he hb) fun σ H Q ⟨ρ, st, μ, E, S, h⟩ =>
    tX_of E S h.bind fun x s1 H1 μ1 xv e1 E1 S1 r1 h1 => by
      obtain ⟨d, s2, h2, k⟩ := h1.of
      obtain ⟨⟨m, fs⟩, h3, h2⟩ := Option.bind_eq_some_iff.mp h2
      obtain ⟨y, h4, h2⟩ := Option.map_eq_some_iff.mp h2
      cases h2
      obtain ⟨rfl, h5⟩ := insAt_some h3
      obtain ⟨a, dx, vs, rfl, ha, t, q⟩ := S1.ins h5 r1
      obtain ⟨v, h6, r⟩ := q.look h4
      exact ⟨a, C, dx, vs, v, rfl, t, c, n, h6, k H1 μ1 (Ext.refl _ _) S1 v r⟩
def setF (C : Addr) (f : Str) (o v : D) (ρ : En) (s : Stt) : Out := match insAt C s o with
  | some p => if p.2.length < 1000 then .nx ρ (s.set p.1 (.ins C (putFD f v p.2))) else .no
  | none => .no
def sFldX (C : Addr) (f : Str) (fo fv : XE) : XS := fun ρ st => (fv ρ st).out ρ fun v s => (fo ρ s).out ρ fun o s => setF C f o v ρ s
theorem setF_ok {K : PySem.W.Frag} {D' : Ends} {ρ : En} {σ : L2.St} {o v : D} {s : Stt} {H : Hp} {μ : List Addr} {ov vv : V} (E : ER K H μ ρ σ) (S : SR K H μ s) (ro : Rl K H μ o ov) (rv : Rl K H μ v vv) (h : outOk K W D' H μ (setF C f o v ρ s)) :
    ∃ a dx fs, ov = .ref a ∧ H a = some (.ins C dx fs) ∧ fs.length < 1000 ∧ D'.nx σ (upd H a (.ins C dx (putF f vv fs))) := by
  unfold setF at h
  split at h
  · rename_i p hp
    obtain ⟨n, ds⟩ := p
    split at h
    · rename_i hz
      obtain ⟨rfl, h5⟩ := insAt_some hp
      obtain ⟨a, dx, vs, rfl, ha, t, q⟩ := S.ins h5 ro
      have hl : vs.length = ds.length := (Paired.length q).symm
      refine ⟨a, dx, vs, rfl, t, by rw [hl]; exact hz, ?_⟩
      have ex := ext_set S h5 ha (.ins C dx (putF f vv vs))
      exact h σ _ μ ex (E.ext ex) (S.put h5 ha (o' := .ins C (putFD f v ds)) ⟨dx, putF f vv vs, upd_same, (FR.put rv q).ext ex⟩)
    · exact h.elim
  · exact h.elim
theorem s_fld {o : Expr} {fo : XE} (c : Cls X.K C) (n : NoAttr X.K C f) (ho : PE X o (tX X.K W fo)) (hv : PE X value (tX X.K W fv)) (hs : swapsWith value (some (.Attribute o f pos')) pos.line X.env = pure false := by rfl) : PS X (.Assign [.Attribute o f pos'] value pos) (tXS X.K W (sFldX C f fo fv)) :=
  ps_imp (ps_fld ho hv hs) fun D' σ H ⟨ρ, s, μ, E, S, h⟩ => by
    refine tX_of E S (h.out E) fun v s1 H1 μ1 vv e1 E1 S1 r1 hA => ?_
    refine tX_of E1 S1 (hA.out E1) fun o s2 H2 μ2 ov e2 E2 S2 r2 hB => ?_
    obtain ⟨a, dx, fs, e3, t, l, q⟩ := setF_ok E2 S2 r2 (r1.ext e2) hB
    exact ⟨a, C, dx, fs, e3, t, c, n, l, q⟩
end
end Rg

set_option Elab.async false
set_option linter.all false
set_option maxRecDepth 100000
namespace Rg
open PySem PySem.Spec PyProof.Rows L2

/-! ### while -/
def whileF (c : XT) (f : XS) : Nat → En → Stt → Out
  | 0, _, _ => .no
  | m + 1, ρ, st => (c ρ st).out ρ fun b s => if b = true then (match f ρ s with
      | .nx ρ' st' => whileF c f m ρ' st'
      | .ct ρ' st' => whileF c f m ρ' st'
      | .bk ρ' st' => .nx ρ' st'
      | r => r) else .nx ρ s
def WN : Nat := 100000000
def sWhile (c : XT) (f : XS) : XS := fun ρ st => whileF c f WN ρ st
section
variable {X : Cx} {c tg iter e : Expr} {body : List Stmt} {t : XT} {f : XS} {pos : Pos} {W : WX}
theorem s_while (hp : PassesOwn (model X.prog X.w) X.A X.env X.xe) (hc : PT X c (tXT X.K W t)) (hb : PSs X body (tXS X.K W f)) : PS X (.While c body [] pos) (tXS X.K W (sWhile t f)) :=
  ps_imp (ps_while hp hc hb) fun D' σ H ⟨ρ, s, μ, E, S, h⟩ => by
    refine ⟨fun m σ2 H2 => ∃ ρ2 s2 μ2, ER X.K H2 μ2 ρ2 σ2 ∧ SR X.K H2 μ2 s2 ∧ outOk X.K W D' H2 μ2 (whileF t f m ρ2 s2), ⟨WN, ρ, s, μ, E, S, h⟩, fun m σ2 H2 ⟨ρ2, s2, μ2, E2, S2, h2⟩ => ?_⟩
    cases m with
    | zero => exact h2.elim
    | succ m =>
      have h3 : outOk X.K W D' H2 μ2 ((t ρ2 s2).out ρ2 fun b s => if b = true then (match f ρ2 s with
        | .nx ρ' st' => whileF t f m ρ' st'
        | .ct ρ' st' => whileF t f m ρ' st'
        | .bk ρ' st' => .nx ρ' st'
        | r => r) else .nx ρ2 s) := h2
      refine tXT_of E2 S2 (h3.out E2) fun k s3 H3 μ3 e3 E3 S3 h4 => ?_
      cases k with
      | false =>
        exact h4 σ2 H3 μ3 (Ext.refl _ _) E3 S3
      | true =>
        refine ⟨fun σ' H' => ∃ ρ2 s2 μ2, ER X.K H' μ2 ρ2 σ' ∧ SR X.K H' μ2 s2 ∧ outOk X.K W D' H' μ2 (whileF t f m ρ2 s2), fun σ' H' w => ⟨m, Nat.lt_succ_self m, w⟩, ?_⟩
        have h4 : outOk X.K W D' H3 μ3 (match f ρ2 s3 with
          | .nx ρ' st' => whileF t f m ρ' st'
          | .ct ρ' st' => whileF t f m ρ' st'
          | .bk ρ' st' => .nx ρ' st'
          | r => r) := h4
        refine ⟨ρ2, s3, μ3, E3, S3, ?_⟩
        cases e5 : f ρ2 s3 with
        | no => rw [e5] at h4; exact h4.elim
        | nx ρ' s' => rw [e5] at h4; exact fun σ6 H6 μ6 e6 E6 S6 => ⟨ρ', s', μ6, E6, S6, outOk.at e6 h4⟩
        | ct ρ' s' => rw [e5] at h4; exact fun σ6 H6 μ6 e6 E6 S6 => ⟨ρ', s', μ6, E6, S6, outOk.at e6 h4⟩
        | bk ρ' s' => rw [e5] at h4; exact fun σ6 H6 μ6 e6 E6 S6 => h4 σ6 H6 μ6 e6 E6 S6
        | rt d s' => rw [e5] at h4; exact h4
        | xx ρ' x s' => rw [e5] at h4; exact h4

/-! ### for -/
open Classical in
noncomputable def forF (ok : Stt → Prop) (g : XG) (f : XS) : List D → En → Stt → Out
  | [], ρ, st => if ok st then .nx ρ st else .no
  | d :: ds, ρ, st => if ok st then (match g d ρ with
    | none => .no
    | some ρ1 => match f ρ1 st with
      | .nx ρ' st' => forF ok g f ds ρ' st'
      | .ct ρ' st' => forF ok g f ds ρ' st'
      | .bk ρ' st' => .nx ρ' st'
      | r => r) else .no
noncomputable def sFor (w : XI) (g : XG) (f : XS) : XS := fun ρ st => (w ρ st).out ρ fun k s => forF k.ok g f k.its ρ s
theorem s_for {w : XI} {g : XG} {vs : List Nat} (hp : PassesOwn (model X.prog X.w) X.A X.env X.xe) (hc : X.calm = true) (hi : PI X tg iter (tXI X.K W w)) (hg : PG X tg (tG X.K vs g)) (hb : PSs X body (tXS X.K W f))
    (hs : ∀ x, foldedSetIterable iter X.env x = pure x := by intro _; rfl) : PS X (.For tg iter body [] pos) (tXS X.K W (sFor w g f)) :=
  ps_imp (ps_for hp hc hi hg hb hs) fun D' σ H ⟨ρ, s, μ, E, S, h⟩ => by
    have h := (show outOk X.K W D' H μ ((w ρ s).out ρ fun k s => forF k.ok g f k.its ρ s) from h).out E
    refine ⟨ρ, s, μ, E, S, h.mono fun wk s1 H1 μ1 e1 S1 h1 J ik => ?_⟩
    refine ⟨fun i m σ2 H2 => m = wk.its.length - i ∧ i ≤ wk.its.length ∧ ∃ ρ2 s2 μ2, ER X.K H2 μ2 ρ2 σ2 ∧ SR X.K H2 μ2 s2 ∧ Ext X.K H1 μ1 H2 μ2 ∧ outOk X.K W D' H2 μ2 (forF wk.ok g f (wk.its.drop i) ρ2 s2),
      ⟨_, rfl, Nat.zero_le _, ρ, s1, μ1, E.ext e1, S1, Ext.refl _ _, h1⟩, fun i m σ2 H2 hW => ?_⟩
    obtain ⟨rfl, hi, ρ2, s2, μ2, E2, S2, ex, h2⟩ := hW
    by_cases hlt : i < wk.its.length
    · have hd : wk.its[i]? = some wk.its[i] := List.getElem?_eq_getElem hlt
      rw [List.drop_eq_getElem_cons hlt] at h2
      unfold forF at h2
      split at h2
      · rename_i hok
        cases hgd : g wk.its[i] ρ2 with
        | none => rw [hgd] at h2; exact h2.elim
        | some ρ3 =>
        rw [hgd] at h2
        refine .inr ⟨ik.go H2 μ2 s2 i _ ex S2 hok hd, fun σ' H' => ∃ ρ2 s2 μ2, ER X.K H' μ2 ρ2 σ' ∧ SR X.K H' μ2 s2 ∧ Ext X.K H1 μ1 H' μ2 ∧ outOk X.K W D' H' μ2 (forF wk.ok g f (wk.its.drop (i + 1)) ρ2 s2), fun σ' H' w => ⟨wk.its.length - (i + 1), by omega, rfl, by omega, w⟩, fun x H3 hy => ?_⟩
        obtain ⟨e3, S3, r3, _⟩ := ik.yld H2 μ2 s2 i _ x H3 ex S2 hok hd hy
        refine ⟨ρ2, s2, μ2, _, E2.ext e3, S3, r3, ρ3, hgd, fun σ4 E4 _ => ?_⟩
        have h4 : outOk X.K W D' H3 μ2 (match f ρ3 s2 with
          | .nx ρ' st' => forF wk.ok g f (wk.its.drop (i + 1)) ρ' st'
          | .ct ρ' st' => forF wk.ok g f (wk.its.drop (i + 1)) ρ' st'
          | .bk ρ' st' => .nx ρ' st'
          | r => r) := outOk.at e3 h2
        refine ⟨ρ3, s2, μ2, E4, S3, ?_⟩
        cases e5 : f ρ3 s2 with
        | no => rw [e5] at h4; exact h4.elim
        | nx ρ' s' => rw [e5] at h4; exact fun σ6 H6 μ6 e6 E6 S6 => ⟨ρ', s', μ6, E6, S6, (ex.trans e3).trans e6, outOk.at e6 h4⟩
        | ct ρ' s' => rw [e5] at h4; exact fun σ6 H6 μ6 e6 E6 S6 => ⟨ρ', s', μ6, E6, S6, (ex.trans e3).trans e6, outOk.at e6 h4⟩
        | bk ρ' s' => rw [e5] at h4; exact h4
        | rt d s' => rw [e5] at h4; exact h4
        | xx ρ' x s' => rw [e5] at h4; exact h4
      · exact h2.elim
    · have e : i = wk.its.length := by omega
      subst e
      rw [List.drop_length] at h2
      unfold forF at h2
      split at h2
      · rename_i hok
        exact .inl ⟨ik.stop H2 μ2 s2 _ ex S2 hok (List.getElem?_eq_none (Nat.le_refl _)), h2 σ2 H2 μ2 (Ext.refl _ _) E2 S2⟩
      · exact h2.elim

/-! ### comprehensions -/
/-- nothing is let out -/
def W0 : WX := fun _ _ _ _ => False
open Classical in
noncomputable def compF (L : Nat) (ok : Stt → Prop) (g : XG) (t : XT) (f : XE) (ρ : En) : List D → Stt → R Unit
  | [], st => if ok st then .ok () st else .no
  | d :: ds, st => if ok st then (match g d ρ with
    | none => .no
    | some ρ1 => match t ρ1 st with
      | .ok true s => (match f ρ1 s with
        | .ok y s2 => (match lstAt s2 (.loc L) with
          | some p => if p.2.length < sizeLine then compF L ok g t f ρ ds (s2.set L (.lst (p.2 ++ [y]))) else .no
          | none => .no)
        | _ => .no)
      | .ok false s => compF L ok g t f ρ ds s
      | _ => .no) else .no
noncomputable def xLc (w : XI) (g : XG) (t : XT) (f : XE) (vs : List Nat) : XE := fun ρ st => (w ρ st).bind fun k s => (compF s.length k.ok g t f (wipeD ρ vs) k.its (s ++ [.lst []])).bind fun _ s' => .ok (.loc s.length) s'
def xYes : XT := fun _ st => .ok true st
theorem compF_ne {L : Nat} {ok : Stt → Prop} {g : XG} {t : XT} {f : XE} {ρ : En} : ∀ {ds : List D} {st : Stt} {e : Exn} {s : Stt}, compF L ok g t f ρ ds st ≠ .ex e s
  | [], st, e, s => by unfold compF; split <;> exact fun h => by cases h
  | d :: ds, st, e, s => by
    unfold compF
    split
    · split
      · exact fun h => by cases h
      · split
        · split
          · split
            · split
              · exact compF_ne
              · exact fun h => by cases h
            · exact fun h => by cases h
          · exact fun h => by cases h
        · exact compF_ne
        · exact fun h => by cases h
    · exact fun h => by cases h
theorem tLc_x {K : PySem.W.Frag} {w : XI} {g : XG} {gs vs : List Nat} {t : XT} {fe : XE} (hsub : ∀ i ∈ gs, i ∈ vs) {σ : L2.St} {H : Hp} {Q : VK} (h : tX K W (xLc w g t fe vs) σ H Q) : tLc (tXI K W w) (tG K gs g) (tXT K W0 t) (tX K W0 fe) vs σ H Q := by
  obtain ⟨ρ, s, μ, E, S, h⟩ := h
  refine ⟨ρ, s, μ, E, S, h.bind.mono fun wk s1 H1 μ1 e1 S1 h1 J ik Dp hD => ?_⟩
  have S1' : SR K (upd H1 Dp (.lst [])) (μ1 ++ [Dp]) (s1 ++ [.lst []]) := S1.newL hD .nil
  have e1' : Ext K H1 μ1 (upd H1 Dp (.lst [])) (μ1 ++ [Dp]) := ext_new hD _
  have hL : (μ1 ++ [Dp])[s1.length]? = some Dp := by rw [← S1.len]; simp
  cases hcf : compF s1.length wk.ok g t fe (wipeD ρ vs) wk.its (s1 ++ [.lst []]) with
  | no => rw [hcf] at h1; exact h1.elim
  | ex x s9 => exact absurd hcf compF_ne
  | ok u s9 =>
  rw [hcf] at h1
  refine ⟨fun i m H2 => m = wk.its.length - i ∧ i ≤ wk.its.length ∧ ∃ s2 μ2, SR K H2 μ2 s2 ∧ Ext K (upd H1 Dp (.lst [])) (μ1 ++ [Dp]) H2 μ2 ∧ compF s1.length wk.ok g t fe (wipeD ρ vs) (wk.its.drop i) s2 = .ok () s9,
    ⟨_, rfl, Nat.zero_le _, _, _, S1', Ext.refl _ _, hcf⟩, fun i m H2 hW => ?_⟩
  obtain ⟨rfl, hi, s2, μ2, S2, ex, h3⟩ := hW
  have ex1 : Ext K H1 μ1 H2 μ2 := e1'.trans ex
  by_cases hlt : i < wk.its.length
  · have hd : wk.its[i]? = some wk.its[i] := List.getElem?_eq_getElem hlt
    rw [List.drop_eq_getElem_cons hlt] at h3
    unfold compF at h3
    split at h3
    · rename_i hok
      split at h3
      · cases h3
      · rename_i ρ3 hg3
        refine .inr ⟨ik.go H2 μ2 s2 i _ ex1 S2 hok hd, fun H' => ∃ s2 μ2, SR K H' μ2 s2 ∧ Ext K (upd H1 Dp (.lst [])) (μ1 ++ [Dp]) H' μ2 ∧ compF s1.length wk.ok g t fe (wipeD ρ vs) (wk.its.drop (i + 1)) s2 = .ok () s9, fun H' w => ⟨wk.its.length - (i + 1), by omega, rfl, by omega, w⟩, fun x H3 hy => ?_⟩
        obtain ⟨e3, S3, r3, _⟩ := ik.yld H2 μ2 s2 i _ x H3 ex1 S2 hok hd hy
        refine ⟨wipeD ρ vs, s2, μ2, _, ((E.ext e1).ext (ex1.trans e3)).wipe vs, S3, r3, ρ3, hg3, fun σ4 E4 w4 => ⟨?_, ?_⟩⟩
        · rw [w4 vs hsub, wipe_wipe vs vs fun _ h => h]
        · refine ⟨ρ3, s2, μ2, E4, S3, ?_⟩
          split at h3
          · rename_i s4 ht
            rw [ht]
            intro H5 μ5 e5 S5
            split at h3
            · rename_i y s6 hf
              split at h3
              · rename_i p h7
                obtain ⟨n, acc⟩ := p
                split at h3
                · rename_i hz
                  obtain ⟨en, e7⟩ := lstAt_some h7
                  cases en
                  refine ⟨ρ3, s4, μ5, E4.ext e5, S5, ?_⟩
                  rw [hf]
                  intro H6 μ6 e6 S6 yv r6
                  have ex6 := ((ex.trans e3).trans e5).trans e6
                  have ha : μ6[s1.length]? = some Dp := ex6.get hL
                  obtain ⟨a, us, ea, hb, t6, q6⟩ := S6.lst e7 (.loc ha)
                  cases ea
                  have ex7 := ext_set S6 e7 ha (.lst (us ++ [yv]))
                  exact ⟨us, t6, by rw [← q6.length]; exact hz, _, μ6, S6.put e7 ha (o' := .lst (acc ++ [y])) ⟨us ++ [yv], upd_same, (q6.append (.cons r6 .nil)).ext ex7⟩, ex6.trans ex7, h3⟩
                · cases h3
              · cases h3
            · cases h3
          · rename_i s4 ht
            rw [ht]
            exact fun H5 μ5 e5 S5 => ⟨s4, μ5, S5, (ex.trans e3).trans e5, h3⟩
          · cases h3
    · cases h3
  · have e : i = wk.its.length := by omega
    subst e
    rw [List.drop_length] at h3
    unfold compF at h3
    split at h3
    · rename_i hok
      cases h3
      refine .inl ⟨ik.stop H2 μ2 _ _ ex1 S2 hok (List.getElem?_eq_none (Nat.le_refl _)), ?_⟩
      exact h1 H2 μ2 (e1'.trans ex) S2 _ (.loc (ex.get hL))
    · cases h3
theorem ts_nil : PTs X [] (tXT X.K W xYes) := ⟨fun pins s σ H Q I ⟨ρ, st, μ, E, S, h⟩ => pts_nil.run pins s σ H Q I (h.ok S)⟩
theorem ts_one {t : XT} (h : PT X c (tXT X.K W t)) : PTs X [c] (tXT X.K W t) := pts_one h
theorem e_lc {elt : Expr} {ifs : List Expr} {scope : Scope} {own : List (Str × Nat)} {w : XI} {g : XG} {gs : List Nat} {t : XT} {fe : XE} (hc : X.calm = true) (hN : X.N.Nodup) (ok : BlkOk X.N X.env.scope scope own) (hi : PI X tg iter (tXI X.K W w))
    (hg : ∀ (s : Shared) (H : Hp) (C : Addr) (cl : List (Str × Addr)) (fp : List Addr), PG (X.blk s H scope (compEnvC scope cl C X.env) fp) tg (tG X.K gs g)) (ht : ∀ (s : Shared) (H : Hp) (C : Addr) (cl : List (Str × Addr)) (fp : List Addr), PTs (X.blk s H scope (compEnvC scope cl C X.env) fp) ifs (tXT X.K W0 t))
    (he : ∀ (s : Shared) (H : Hp) (C : Addr) (cl : List (Str × Addr)) (fp : List Addr), PE (X.blk s H scope (compEnvC scope cl C X.env) fp) elt (tX X.K W0 fe)) (hsub : ∀ i ∈ gs, i ∈ own.map (·.2) := by decide) (hs : ∀ x, foldedSetIterable iter X.env x = pure x := by intro _; rfl) :
    PE X (.ListComp elt [⟨tg, iter, ifs, 0⟩] scope pos) (tX X.K W (xLc w g t fe (own.map (·.2)))) :=
  pe_imp (pe_lc hc hN hi ok hg ht he hs) fun _ _ _ h => tLc_x hsub h
theorem s_setLc (i : Nat) {y : Str} {py spos : Pos} {elt : Expr} {ifs : List Expr} {scope : Scope} {own : List (Str × Nat)} {w : XI} {g : XG} {gs : List Nat} {t : XT} {fe : XE} (hc : X.calm = true) (hN : X.N.Nodup) (ok : BlkOk X.N X.env.scope scope own) (hi : PI X tg iter (tXI X.K W w))
    (hg : ∀ (s : Shared) (H : Hp) (C : Addr) (cl : List (Str × Addr)) (fp : List Addr), PG (X.blk s H scope (compEnvC scope cl C X.env) fp) tg (tG X.K gs g)) (ht : ∀ (s : Shared) (H : Hp) (C : Addr) (cl : List (Str × Addr)) (fp : List Addr), PTs (X.blk s H scope (compEnvC scope cl C X.env) fp) ifs (tXT X.K W0 t))
    (he : ∀ (s : Shared) (H : Hp) (C : Addr) (cl : List (Str × Addr)) (fp : List Addr), PE (X.blk s H scope (compEnvC scope cl C X.env) fp) elt (tX X.K W0 fe))
    (hsw : swapsWith (.ListComp elt [⟨tg, iter, ifs, 0⟩] scope pos) (some (.Name y py)) spos.line X.env = pure true) (hy : X.N[i]? = some y := by rfl) (hyl : X.env.scope.names.lookup y = some .local := by rfl) (hsub : ∀ i ∈ gs, i ∈ own.map (·.2) := by decide) (hs : ∀ x, foldedSetIterable iter X.env x = pure x := by intro _; rfl) :
    PS X (.Assign [.Name y py] (.ListComp elt [⟨tg, iter, ifs, 0⟩] scope pos) spos) (tXS X.K W (sSet i (xLc w g t fe (own.map (·.2))))) :=
  ps_imp (L2.ps_setLc hc hN hy hyl hsw hi ok hg ht he hs) fun D' σ H ⟨ρ, s, μ, E, S, h⟩ => by
    refine tLc_x hsub (tX_of E S (h.out E) fun d s1 H1 μ1 v e1 E1 S1 r q => ?_)
    exact q _ H1 μ1 (Ext.refl _ _) (E1.set r i) S1
end

/-! ### defs -/
abbrev Fn := List D → Stt → R D
def spX (K : PySem.W.Frag) (n : Nat) (f : Fn) : Sp := fun vs H Q E => vs.length = n ∧ ∃ ds st μ, SR K H μ st ∧ Rls K H μ ds vs ∧ RO K (fun e H' μ' => ∀ d, XR K H' μ' e d → E (.ref e.cls) d H') H μ (QD K Q) (f ds st)
def Out.ret : Out → R D
  | .rt d st => .ok d st
  | .nx _ st => .ok .non st
  | .xx _ e st => .ex e st
  | _ => .no
def runB (n : Nat) (f : XS) : Fn := fun ds st => (f (ds.map some ++ List.replicate (n - ds.length) none) st).ret
theorem start_er {K : PySem.W.Frag} {H : Hp} {μ : List Addr} {N : List Str} : ∀ {ds : List D} {vs : List V}, Rls K H μ ds vs → ER K H μ (ds.map some ++ List.replicate (N.length - ds.length) none) (L2.start N vs) := fun {ds vs} r => by
  refine ⟨by simp [L2.start, r.length], fun i d h => ?_⟩
  by_cases hi : i < ds.length
  · rw [List.getElem?_append_left (by simpa using hi), List.getElem?_map] at h
    obtain ⟨d', h1, h2⟩ := Option.map_eq_some_iff.mp h
    cases h2
    obtain ⟨v, h3, h4⟩ := r.get h1
    refine ⟨v, ?_, h4⟩
    unfold L2.start
    have hv : i < vs.length := by rw [← r.length]; exact hi
    rw [List.getElem?_append_left (by simpa using hv), List.getElem?_map, h3]
    rfl
  · rw [List.getElem?_append_right (by simpa using hi), List.getElem?_replicate] at h
    split at h <;> cases h
section
variable {P : Program} {w : World} {K : PySem.W.Frag} {mg : Str → Option Value} {base : Heap}
/-- what the context of a def's body gives -/
structure Ctx (X : Cx) (W : WX) : Prop where
  calm : X.calm = true
  tk : L2.Takes X W
  own : PassesOwn (model X.prog X.w) X.A X.env X.xe
/-- a def of the text: its body's derivation -/
theorem ok_def {x qual : Str} {st : Stmt} {f : Addr} {fd : FuncData} {N ps : List Str} {k : Nat} {fb : XS} (F : Fun K x qual st f fd) (S : FnScope N ps (defScope st))
    (hb : ∀ (cdv : Value) (A : Around) (outer : List Env) (s : Shared) (H : Hp) (E : XK), Room k (A.deeper (envOfC qual (defScope st) s.heap.objs.size f cdv)) → Ctx (cxOf (L2.CX P w) P w K mg base N qual (defScope st) f cdv A outer s H E) (fun c d _ H => E c d H) → PSs (cxOf (L2.CX P w) P w K mg base N qual (defScope st) f cdv A outer s H E) (defBody st) (tXS K (fun c d _ H => E c d H) fb)) :
    FnOk P w K mg base (L2.CX P w) (k + 1) f fd ps (spX K ps.length (runB N.length fb)) := by
  refine F.okX S (fun vs H Q E h => h.1) (fun cdv A outer s H vs Q E hr h => ?_)
  obtain ⟨hl, ds, st, μ, SS, r, h⟩ := h
  refine ⟨_, hb cdv A outer s H E hr ⟨rfl, takes_of rfl rfl rfl rfl, passes_of rfl⟩, ?_⟩
  unfold runB at h
  refine ⟨_, st, μ, start_er r, SS, ?_⟩
  cases e : fb (ds.map some ++ List.replicate (N.length - ds.length) none) st with
  | no => rw [e] at h; exact h.elim
  | rt d' s' => rw [e] at h; exact fun v H' μ' ex S' r' => h H' μ' ex S' v r'
  | nx ρ' s' => rw [e] at h; exact fun σ H' μ' ex _ S' => h H' μ' ex S' .non .non
  | bk _ _ => rw [e] at h; exact h.elim
  | ct _ _ => rw [e] at h; exact h.elim
  | xx ρ' x s' => rw [e] at h; exact fun σ H' μ' ex _ S' => h H' μ' ex S'
theorem FnOk.sem {CX : CXT} {k n : Nat} {f : Addr} {fd : FuncData} {ps : List Str} {g g' : Fn} (F : FnOk P w K mg base CX k f fd ps (spX K n g)) (h : ∀ ds st, g' ds st ≠ .no → g ds st = g' ds st) : FnOk P w K mg base CX k f fd ps (spX K n g') :=
  F.imp fun vs H Q E ⟨hl, ds, st, μ, S, r, q⟩ => ⟨hl, ds, st, μ, S, r, by rw [h ds st fun e => by rw [e] at q; exact q]; exact q⟩
end

/-! ### calls -/
def Len (g : XA) (n : Nat) : Prop := ∀ ρ st r s', g ρ st = .ok r s' → r.length = n
theorem len_nil : Len xNil 0 := fun _ _ _ _ h => by cases h; rfl
theorem len_cons {f : XE} {g : XA} {n : Nat} (h : Len g n) : Len (xCons f g) (n + 1) := fun ρ st r s' e => by
  unfold xCons at e
  cases h1 : f ρ st with
  | no => rw [h1] at e; cases e
  | ex _ _ => rw [h1] at e; cases e
  | ok d s1 =>
    rw [h1] at e
    have e : ((g ρ s1).bind fun ds s => R.ok (d :: ds) s) = .ok r s' := e
    cases h2 : g ρ s1 with
    | no => rw [h2] at e; cases e
    | ex _ _ => rw [h2] at e; cases e
    | ok ds s2 =>
      rw [h2] at e
      cases e
      rw [List.length_cons, h _ _ _ _ h2]
def xFn (g : Fn) (ga : XA) : XE := fun ρ st => (ga ρ st).bind g
section
variable {X : Cx} {k n : Nat} {f C : Addr} {fd : FuncData} {ps : List Str} {g : Fn} {x m : Str} {p pos apos : Pos} {e o : Expr} {es : List Expr} {ga : XA} {fo : XE} {W : WX}
theorem tXA_eq {K : PySem.W.Frag} {f : XA} {σ : L2.St} {H : Hp} {μ : List Addr} {ρ : En} {st : Stt} {P : List D → Stt → Hp → List Addr → Prop} {Q : List V → Hp → Prop} (E : ER K H μ ρ σ) (S : SR K H μ st) (h : RO K (wx K W σ) H μ P (f ρ st))
    (k : ∀ d st' H' μ' v, f ρ st = .ok d st' → Ext K H μ H' μ' → ER K H' μ' ρ σ → SR K H' μ' st' → Rls K H' μ' d v → P d st' H' μ' → Q v H') : tXA K W f σ H Q := by
  refine ⟨ρ, st, μ, E, S, ?_⟩
  cases e : f ρ st with
  | no => rw [e] at h; exact h
  | ex _ _ => rw [e] at h; exact h
  | ok d s => rw [e] at h; exact fun H' μ' ex S' v r => k d s H' μ' v e ex (E.ext ex) S' r (h H' μ' ex S')
/-- f(e, ..) -/
theorem e_call (F : FnOk X.prog X.w X.K X.mg X.base (L2.CX X.prog X.w) k f fd ps (spX X.K (es.length + 1) g)) (tk : L2.Takes X W) (hr : Room k X.A) (hm : X.mg x = some (.ref f)) (hk : PySem.W.keepIn X.K (.ref f) = true) (hb : Binds X.K fd ps []) (ha : PA X (e :: es) (tXA X.K W ga)) (hg : Gl X x := by rfl) (hdb : (x == ("__debug__" : Str)) = false := by decide)
    (he : starEach (e :: es) X.env = (false, eval e X.env) :: starEach es X.env := by rfl) (hpl : (backTo pos (starEach es X.env)).any (·.1) = false := by rfl) (hlen : Len ga (es.length + 1) := by repeat (first | exact len_nil | apply len_cons)) : PE X (.Call (.Name x p) (e :: es) [] pos) (tX X.K W (xFn g ga)) :=
  pe_imp (pe_callS F hr hg hm hk hb (fun σ => passAt tk σ) ha hdb he hpl) fun σ H Q ⟨ρ, st, μ, E, S, h⟩ =>
    tXA_eq E S h.bind fun ds s1 H1 μ1 vs eq e1 E1 S1 r1 h1 => ⟨by rw [← r1.length]; exact hlen _ _ _ _ eq, ds, s1, μ1, S1, r1, h1⟩
/-- f() -/
def tCallS0 (sp : Sp) (E : L2.St → XK) : TE := fun σ H Q => sp [] H Q (E σ)
theorem pe_callS0 {CX : CXT} {sp : Sp} {E : L2.St → XK} (F : FnOk X.prog X.w X.K X.mg X.base CX k f fd ps sp) (hr : Room k X.A) (hg : Gl X x) (hm : X.mg x = some (.ref f)) (hk : PySem.W.keepIn X.K (.ref f) = true) (hb : Binds X.K fd ps []) (hx : ∀ σ, PassesAt CX X σ (E σ))
    (hdb : (x == ("__debug__" : Str)) = false := by decide) : PE X (.Call (.Name x p) [] [] pos) (tCallS0 sp E) := by
  refine ⟨fun pins s σ H Q I h => ?_⟩
  refine wpAny_Call_Name_kw (ld_glob I hg hm ?_ hdb)
  exact PySem.W.callWith_K0 I.kIn hk (run_fnS (us := []) (vs := []) F hr hb (hx σ) I .nil h)
theorem e_call0 (F : FnOk X.prog X.w X.K X.mg X.base (L2.CX X.prog X.w) k f fd ps (spX X.K 0 g)) (tk : L2.Takes X W) (hr : Room k X.A) (hm : X.mg x = some (.ref f)) (hk : PySem.W.keepIn X.K (.ref f) = true) (hb : Binds X.K fd ps []) (hg : Gl X x := by rfl) (hdb : (x == ("__debug__" : Str)) = false := by decide) : PE X (.Call (.Name x p) [] [] pos) (tX X.K W (xFn g xNil)) :=
  pe_imp (pe_callS0 F hr hg hm hk hb (fun σ => passAt tk σ) hdb) fun σ H Q ⟨ρ, st, μ, E, S, h⟩ => ⟨rfl, [], st, μ, S, .nil, h⟩
/-- o.m(e, ..) -/
def hasM (C : Addr) (m : Str) (d : D) (st : Stt) : R Unit := match insAt C st d with
  | some p => if p.2.lookup m = none then .ok () st else .no
  | none => .no
def xMeth (C : Addr) (m : Str) (g : Fn) (fo : XE) (ga : XA) : XE := fun ρ st => (fo ρ st).bind fun d s => (hasM C m d s).bind fun _ s => (ga ρ s).bind fun ds s => g (d :: ds) s
theorem RO.hasM {K : PySem.W.Frag} {Wd : Exn → Hp → List Addr → Prop} {H : Hp} {μ : List Addr} {Q : Unit → Stt → Hp → List Addr → Prop} {d : D} {st : Stt} {v : V} (S : SR K H μ st) (r : Rl K H μ d v) (h : RO K Wd H μ Q (hasM C m d st)) : ∃ a dx vs, v = .ref a ∧ H a = some (.ins C dx vs) ∧ vs.lookup m = none ∧ Q () st H μ := by
  unfold Rg.hasM at h
  split at h
  · rename_i p hp
    obtain ⟨n, fs⟩ := p
    split at h
    · rename_i hl
      obtain ⟨rfl, h5⟩ := insAt_some hp
      obtain ⟨a, dx, vs, rfl, ha, t, q⟩ := S.ins h5 r
      exact ⟨a, dx, vs, rfl, t, q.lookN hl, h.ok S⟩
    · exact h.elim
  · exact h.elim
def tMethS (C : Addr) (m : Str) (sp : Sp) (E : L2.St → XK) (ta : TE) (t : TA) : TE := fun σ H Q => ta σ H fun x H1 => ∃ a dx fs, x = .ref a ∧ H1 a = some (.ins C dx fs) ∧ fs.lookup m = none ∧ t σ H1 fun vs H2 => sp (x :: vs) H2 Q (E σ)
theorem pe_methSs {CX : CXT} {sp : Sp} {E : L2.St → XK} {ta : TE} {t : TA} {pl : Sem Bool} (he : PE X o ta) (c : Cls X.K C) (hm : Meth X.K C m f) (F : FnOk X.prog X.w X.K X.mg X.base CX k f fd ps sp) (hr : Room k X.A) (hb : Binds X.K fd ps []) (hx : ∀ σ, PassesAt CX X σ (E σ)) (ha : PA X (e :: es) t)
    (hst : starEach (e :: es) X.env = (false, eval e X.env) :: starEach es X.env := by rfl) (hpl : (backTo pos (starEach es X.env)).any (·.1) = false := by rfl)
    (ht : eval (.Call (.Attribute o m apos) (e :: es) [] pos) X.env = (do
      let ov ← eval o X.env
      standAt apos.atName
      let (f, first) ← holding [ov] (getMethod ov m pl)
      callWith pos f first (backTo pos (starEach (e :: es) X.env)) (backToKw pos (keywordEach [] X.env))) := by rfl) :
    PE X (.Call (.Attribute o m apos) (e :: es) [] pos) (tMethS C m sp E ta t) := by
  refine ⟨fun pins s σ H Q I h => ?_⟩
  refine PySem.W.methodCall_KW (pl := pl) (thn (he.run pins s σ H _ I h) fun u s1 ⟨x, H1, I1, rx, a, dx, fs, ex, ea, l, q⟩ => ?_) ht
  subst ex
  obtain rfl : u = Value.ref a := rx
  refine getmeth_ok I1 ea c hm l ?_
  refine PySem.W.callWith_K (first := [.ref a]) (h₀ := X.base) I.ok.mod.kin hm.kp (thn (ha.run pos pins s1 σ H1 _ I1 q) fun us s2 ⟨vs, H2, I2, r, q2⟩ => ⟨I2.kIn, ?_⟩) hst hpl
  exact run_fnS (us := .ref a :: us) (vs := .ref a :: vs) F hr hb (hx σ) I2 (.cons rfl r) q2
theorem pe_methSs0 {CX : CXT} {sp : Sp} {E : L2.St → XK} {ta : TE} {pl : Sem Bool} (he : PE X o ta) (c : Cls X.K C) (hm : Meth X.K C m f) (F : FnOk X.prog X.w X.K X.mg X.base CX k f fd ps sp) (hr : Room k X.A) (hb : Binds X.K fd ps []) (hx : ∀ σ, PassesAt CX X σ (E σ))
    (ht : eval (.Call (.Attribute o m apos) [] [] pos) X.env = (do
      let ov ← eval o X.env
      standAt apos.atName
      let (f, first) ← holding [ov] (getMethod ov m pl)
      callWith pos f first (backTo pos (starEach [] X.env)) (backToKw pos (keywordEach [] X.env))) := by rfl) :
    PE X (.Call (.Attribute o m apos) [] [] pos) (tMethS C m sp E ta tNil) := by
  refine ⟨fun pins s σ H Q I h => ?_⟩
  refine PySem.W.methodCall_KW (pl := pl) (thn (he.run pins s σ H _ I h) fun u s1 ⟨x, H1, I1, rx, a, dx, fs, ex, ea, l, q⟩ => ?_) ht
  subst ex
  obtain rfl : u = Value.ref a := rx
  refine getmeth_ok I1 ea c hm l ?_
  exact PySem.W.callWith_K0 (first := [.ref a]) I1.kIn hm.kp (run_fnS (us := [.ref a]) (vs := [.ref a]) F hr hb (hx σ) I1 (.cons rfl .nil) q)
theorem e_meth (c : Cls X.K C) (hm : Meth X.K C m f) (F : FnOk X.prog X.w X.K X.mg X.base (L2.CX X.prog X.w) k f fd ps (spX X.K (es.length + 2) g)) (tk : L2.Takes X W) (hr : Room k X.A) (hb : Binds X.K fd ps []) (ho : PE X o (tX X.K W fo)) (ha : PA X (e :: es) (tXA X.K W ga)) {pl : Sem Bool}
    (hst : starEach (e :: es) X.env = (false, eval e X.env) :: starEach es X.env := by rfl) (hpl : (backTo pos (starEach es X.env)).any (·.1) = false := by rfl)
    (ht : eval (.Call (.Attribute o m apos) (e :: es) [] pos) X.env = (do
      let ov ← eval o X.env
      standAt apos.atName
      let (f, first) ← holding [ov] (getMethod ov m pl)
      callWith pos f first (backTo pos (starEach (e :: es) X.env)) (backToKw pos (keywordEach [] X.env))) := by rfl) (hlen : Len ga (es.length + 1) := by repeat (first | exact len_nil | apply len_cons)) :
    PE X (.Call (.Attribute o m apos) (e :: es) [] pos) (tX X.K W (xMeth C m g fo ga)) :=
  pe_imp (pe_methSs (pl := pl) ho c hm F hr hb (fun σ => passAt tk σ) ha hst hpl ht) fun σ H Q ⟨ρ, st, μ, E, S, h⟩ =>
    tX_of E S h.bind fun x s1 H1 μ1 xv e1 E1 S1 r1 h1 => by
      obtain ⟨a, dx, vs, ev, t, l, q⟩ := h1.bind.hasM S1 r1
      refine ⟨a, dx, vs, ev, t, l, ?_⟩
      refine tXA_eq E1 S1 q.bind fun ds s2 H2 μ2 us eq e2 E2 S2 r2 h2 => ?_
      exact ⟨by rw [List.length_cons, ← r2.length, hlen _ _ _ _ eq], x :: ds, s2, μ2, S2, .cons (r1.ext e2) r2, h2⟩
theorem e_meth0 (c : Cls X.K C) (hm : Meth X.K C m f) (F : FnOk X.prog X.w X.K X.mg X.base (L2.CX X.prog X.w) k f fd ps (spX X.K 1 g)) (tk : L2.Takes X W) (hr : Room k X.A) (hb : Binds X.K fd ps []) (ho : PE X o (tX X.K W fo)) {pl : Sem Bool}
    (ht : eval (.Call (.Attribute o m apos) [] [] pos) X.env = (do
      let ov ← eval o X.env
      standAt apos.atName
      let (f, first) ← holding [ov] (getMethod ov m pl)
      callWith pos f first (backTo pos (starEach [] X.env)) (backToKw pos (keywordEach [] X.env))) := by rfl) :
    PE X (.Call (.Attribute o m apos) [] [] pos) (tX X.K W (xMeth C m g fo xNil)) :=
  pe_imp (pe_methSs0 (pl := pl) ho c hm F hr hb (fun σ => passAt tk σ) ht) fun σ H Q ⟨ρ, st, μ, E, S, h⟩ =>
    tX_of E S h.bind fun x s1 H1 μ1 xv e1 E1 S1 r1 h1 => by
      obtain ⟨a, dx, vs, ev, t, l, q⟩ := h1.bind.hasM S1 r1
      exact ⟨a, dx, vs, ev, t, l, rfl, [x], s1, μ1, S1, .cons r1 .nil, q⟩
/-- C(e, ..) -/
def mkIns (C : Addr) (g : Fn) (ds : List D) (st : Stt) : R D := (g (.loc st.length :: ds) (st ++ [.ins C []])).bind fun d s => match d with
  | .non => .ok (.loc st.length) s
  | _ => .no
def xMake (C : Addr) (g : Fn) (ga : XA) : XE := fun ρ st => (ga ρ st).bind (mkIns C g)
def tMakeS (C : Addr) (sp : Sp) (E : L2.St → XK) (t : TA) : TE := fun σ H Q => t σ H fun vs H1 => ∀ x dx, H1 x = none → H1 dx = none → dx ≠ x → sp (.ref x :: vs) (upd (upd H1 dx (.own x)) x (.ins C dx [])) (fun v H2 => v = .non ∧ Q (.ref x) H2) (E σ)
theorem run_makeS {CX : CXT} {sp : Sp} {E : L2.St → XK} {pins : List (Addr × Obj)} {σ : L2.St} {H : Hp} {s : Shared} {Q : VK} {us : List Value} {vs : List V} (M : Mk X.K C f) (F : FnOk X.prog X.w X.K X.mg X.base CX k f fd ps sp) (hr : Room (k + 1) X.A) (hb : Binds X.K fd ps [])
    (hx : PassesAt CX X σ (E σ)) (I : Inv X pins σ H s) (r : Vals vs us)
    (h : ∀ x dx, H x = none → H dx = none → dx ≠ x → sp (.ref x :: vs) (upd (upd H dx (.own x)) x (.ins C dx [])) (fun v H2 => v = .non ∧ Q (.ref x) H2) (E σ)) :
    wpAny (model X.prog X.w) X.A (call (.ref C) us) (EP X pins σ Q) X.xe s := by
  have hq := h (s.heap.objs.size + 1) s.heap.objs.size (I.hok.fresh (Nat.le_succ _)) (I.hok.fresh (Nat.le_refl _)) (Nat.ne_of_lt (Nat.lt_succ_self _))
  have I2 := Inv.made (C := C) I
  have r2 : Vals (V.ref (s.heap.objs.size + 1) :: vs) (Value.ref (s.heap.objs.size + 1) :: us) := .cons rfl r
  have hl : (Value.ref (s.heap.objs.size + 1) :: us).length = ps.length := by
    have e := r2.length
    rw [F.len _ _ _ _ hq] at e
    exact e.symm
  have b := hb _ (Value.ref (s.heap.objs.size + 1) :: us) I2.kIn (by rw [List.append_nil]; exact hl)
  rw [List.append_nil] at b
  refine wpAny_call (make_map (f := f) I.kIn M.makes M.init (beq_iff_eq.mp M.fn) (codeAny_mono (F.run _ X.stack _ _ ⟨Value.ref (s.heap.objs.size + 1) :: us, []⟩ (Value.ref (s.heap.objs.size + 1) :: us) _ _ (E σ) (hr.make C us [])
    (I2.env0.make C us []) b r2 hq) fun r s' hq' => ?_))
  cases r with
  | error e => exact hx pins _ _ e s' I2 hq'
  | ok fl =>
    cases fl with
    | ret u =>
      obtain ⟨v, H', I3, rv, ev, q3⟩ := I2.after hq'
      subst ev
      exact ⟨rv, ⟨V.ref (s.heap.objs.size + 1), H', I3, rfl, q3⟩⟩
    | next => exact False.elim hq'
    | brk => exact False.elim hq'
    | cont => exact False.elim hq'
theorem pe_makeS {CX : CXT} {sp : Sp} {E : L2.St → XK} {t : TA} (M : Mk X.K C f) (F : FnOk X.prog X.w X.K X.mg X.base CX k f fd ps sp) (hr : Room (k + 1) X.A) (hg : Gl X x) (hm : X.mg x = some (.ref C)) (hb : Binds X.K fd ps []) (hx : ∀ σ, PassesAt CX X σ (E σ))
    (ha : PA X (e :: es) t) (hdb : (x == ("__debug__" : Str)) = false := by decide) (he : starEach (e :: es) X.env = (false, eval e X.env) :: starEach es X.env := by rfl) (hpl : (backTo pos (starEach es X.env)).any (·.1) = false := by rfl) :
    PE X (.Call (.Name x p) (e :: es) [] pos) (tMakeS C sp E t) := by
  refine ⟨fun pins s σ H Q I h => ?_⟩
  refine wpAny_Call_Name_kw (ld_glob I hg hm ?_ hdb)
  refine PySem.W.callWith_K (h₀ := X.base) I.ok.mod.kin M.kp (thn (ha.run pos pins s σ H _ I h) fun us s1 ⟨vs, H1, I1, r, q⟩ => ⟨I1.kIn, ?_⟩) he hpl
  exact run_makeS M F hr hb (hx σ) I1 r q
theorem pe_makeS0 {CX : CXT} {sp : Sp} {E : L2.St → XK} (M : Mk X.K C f) (F : FnOk X.prog X.w X.K X.mg X.base CX k f fd ps sp) (hr : Room (k + 1) X.A) (hg : Gl X x) (hm : X.mg x = some (.ref C)) (hb : Binds X.K fd ps []) (hx : ∀ σ, PassesAt CX X σ (E σ))
    (hdb : (x == ("__debug__" : Str)) = false := by decide) : PE X (.Call (.Name x p) [] [] pos) (tMakeS C sp E tNil) := by
  refine ⟨fun pins s σ H Q I h => ?_⟩
  refine wpAny_Call_Name_kw (ld_glob I hg hm ?_ hdb)
  exact PySem.W.callWith_K0 I.kIn M.kp (run_makeS (us := []) M F hr hb (hx σ) I .nil h)
theorem mk_ok {K : PySem.W.Frag} {n : Nat} {ds : List D} {st : Stt} {H : Hp} {μ : List Addr} {E : XK} {Q : VK} {vs : List V} (S : SR K H μ st) (r : Rls K H μ ds vs) (hn : vs.length = n) (h : RO K (fun e H' μ' => ∀ d, XR K H' μ' e d → E (.ref e.cls) d H') H μ (QD K Q) (mkIns C g ds st)) :
    ∀ x dx, H x = none → H dx = none → dx ≠ x → spX K (n + 1) g (.ref x :: vs) (upd (upd H dx (.own x)) x (.ins C dx [])) (fun v H2 => v = .non ∧ Q (.ref x) H2) E := fun x dx hx hdx hne => by
  have hx2 : upd H dx (.own x) x = none := by rw [upd_ne (Ne.symm hne)]; exact hx
  have S1 := S.side hdx (.own x)
  have e1 : Ext K H μ (upd H dx (.own x)) μ := ext_side hdx _
  have e2 : Ext K (upd H dx (.own x)) μ (upd (upd H dx (.own x)) x (.ins C dx [])) (μ ++ [x]) := ext_new hx2 _
  have S2 : SR K (upd (upd H dx (.own x)) x (.ins C dx [])) (μ ++ [x]) (st ++ [.ins C []]) := S1.new (o := .ins C []) hx2 ⟨dx, [], upd_same, .nil⟩
  have hl : (μ ++ [x])[st.length]? = some x := by rw [← S.len]; simp
  refine ⟨by rw [List.length_cons, hn], .loc st.length :: ds, _, _, S2, .cons (.loc hl) (r.ext (e1.trans e2)), ?_⟩
  refine (h.bind.at (e1.trans e2)).mono fun d s H' μ' e S' q v rv => ?_
  cases d with
  | non =>
    cases rv
    exact ⟨rfl, q.ok S' _ (.loc (e.get hl))⟩
  | bl _ => exact q.elim
  | int _ => exact q.elim
  | str _ => exact q.elim
  | tup _ => exact q.elim
  | loc _ => exact q.elim
  | cl _ => exact q.elim
  | opq _ _ => exact q.elim
  | exo _ _ _ _ => exact q.elim
theorem e_make (M : Mk X.K C f) (F : FnOk X.prog X.w X.K X.mg X.base (L2.CX X.prog X.w) k f fd ps (spX X.K (es.length + 2) g)) (tk : L2.Takes X W) (hr : Room (k + 1) X.A) (hm : X.mg x = some (.ref C)) (hb : Binds X.K fd ps []) (ha : PA X (e :: es) (tXA X.K W ga)) (hg : Gl X x := by rfl) (hdb : (x == ("__debug__" : Str)) = false := by decide) (he : starEach (e :: es) X.env = (false, eval e X.env) :: starEach es X.env := by rfl) (hpl : (backTo pos (starEach es X.env)).any (·.1) = false := by rfl) (hlen : Len ga (es.length + 1) := by repeat (first | exact len_nil | apply len_cons)) :
    PE X (.Call (.Name x p) (e :: es) [] pos) (tX X.K W (xMake C g ga)) :=
  pe_imp (pe_makeS M F hr hg hm hb (fun σ => passAt tk σ) ha hdb he hpl) fun σ H Q ⟨ρ, st, μ, E, S, h⟩ =>
    tXA_eq E S h.bind fun ds s1 H1 μ1 vs eq e1 E1 S1 r1 h1 => mk_ok S1 r1 (by rw [← r1.length]; exact hlen _ _ _ _ eq) h1
theorem e_make0 (M : Mk X.K C f) (F : FnOk X.prog X.w X.K X.mg X.base (L2.CX X.prog X.w) k f fd ps (spX X.K 1 g)) (tk : L2.Takes X W) (hr : Room (k + 1) X.A) (hm : X.mg x = some (.ref C)) (hb : Binds X.K fd ps []) (hg : Gl X x := by rfl) (hdb : (x == ("__debug__" : Str)) = false := by decide) :
    PE X (.Call (.Name x p) [] [] pos) (tX X.K W (xMake C g xNil)) :=
  pe_imp (pe_makeS0 M F hr hg hm hb (fun σ => passAt tk σ) hdb) fun σ H Q ⟨ρ, st, μ, E, S, h⟩ => mk_ok S .nil rfl h
end
end Rg

set_option Elab.async false
set_option linter.all false
set_option maxRecDepth 100000
namespace Rg
open PySem PySem.Spec PyProof.Rows L2

/-! ### tuples of the module -/
mutual
theorem WT.ok {K : PySem.W.Frag} {H : Hp} {μ : List Addr} : ∀ {d : D} {u : Value}, WT K d u → ∃ v, RelV v u ∧ Rl K H μ d v
  | _, _, .non => ⟨.non, rfl, .non⟩
  | _, _, .bl b => ⟨.bl b, rfl, .bl b⟩
  | _, _, .int i t => ⟨.int i, ⟨t, rfl⟩, .int i⟩
  | _, _, .str x t => ⟨.str x, ⟨t, rfl⟩, .str x⟩
  | _, _, .fnr k a => ⟨.ref a, rfl, .opq k a⟩
  | _, _, .tup (a := a) (its := its) h1 h2 h3 h4 h5 => by
    obtain ⟨vs, r1, r2⟩ := WT.oks h5
    exact ⟨.ref a, rfl, .tup (.inr ⟨_, its, _, h1, h2, h3, h4, r1⟩) r2⟩
theorem WT.oks {K : PySem.W.Frag} {H : Hp} {μ : List Addr} : ∀ {ds : List D} {us : List Value}, Paired (WT K) ds us → ∃ vs, Vals vs us ∧ Rls K H μ ds vs
  | _, _, .nil => ⟨[], .nil, .nil⟩
  | _, _, .cons h t => by
    obtain ⟨v, r1, r2⟩ := WT.ok (H := H) (μ := μ) h
    obtain ⟨vs, q1, q2⟩ := WT.oks (H := H) (μ := μ) t
    exact ⟨v :: vs, .cons r1 q1, .cons r2 q2⟩
end
section
variable {X : Cx} {a b c e : Expr} {es : List Expr} {fa fb fc : XE} {pos : Pos} {W : WX}
theorem e_gw {x : Str} {d : D} {u : Value} (hm : X.mg x = some u) (t : WT X.K d u) (hg : Gl X x := by rfl) (hd : (x == ("__debug__" : Str)) = false := by decide) : PE X (.Name x pos) (tX X.K W (xC d)) := by
  obtain ⟨v, r, _⟩ := WT.ok (H := fun _ => none) (μ := []) t
  exact pe_imp (pe_glob hg hm r hd) fun σ H Q ⟨ρ, st, μ, E, S, h⟩ => by
    obtain ⟨v', r', q⟩ := WT.ok (H := H) (μ := μ) t
    rw [r.inj r']
    exact h.ok S v' q

/-! ### and, or as values -/
theorem e_and {rest : List Expr} (ha : PE X a (tX X.K W fa)) (hb : PE X (.BoolOp .And (b :: rest) pos) (tX X.K W fb)) : PE X (.BoolOp .And (a :: b :: rest) pos) (tX X.K W (xAndV fa fb)) :=
  pe_imp (pe_andT ha hb) fun σ H Q ⟨ρ, st, μ, E, S, h⟩ =>
    tX_of E S h.bind fun x s1 H1 μ1 xv e1 E1 S1 r1 h1 => by
      obtain ⟨k, t, _, q⟩ := h1.bind.isT S1 r1
      refine ⟨k, t, ?_⟩
      cases k with
      | true => exact ⟨ρ, s1, μ1, E1, S1, q⟩
      | false => exact q.ok S1 xv r1
theorem e_or {rest : List Expr} (ha : PE X a (tX X.K W fa)) (hb : PE X (.BoolOp .Or (b :: rest) pos) (tX X.K W fb)) : PE X (.BoolOp .Or (a :: b :: rest) pos) (tX X.K W (xOrV fa fb)) :=
  pe_imp (pe_orT ha hb) fun σ H Q ⟨ρ, st, μ, E, S, h⟩ =>
    tX_of E S h.bind fun x s1 H1 μ1 xv e1 E1 S1 r1 h1 => by
      obtain ⟨k, t, _, q⟩ := h1.bind.isT S1 r1
      refine ⟨k, t, ?_⟩
      cases k with
      | true => exact q.ok S1 xv r1
      | false => exact ⟨ρ, s1, μ1, E1, S1, q⟩
end
variable {K : PySem.W.Frag}
/-! ### one operand -/
def oNeg : Op1 := fun d st => match d with
  | .int i => some (.int (-i), st)
  | _ => none
theorem does_neg : Does1 K (rU fun i => .int (-i)) oNeg := fun x st d st' xv H μ Q rx S h q => by
  unfold oNeg at h
  split at h
  · cases h
    cases rx
    exact ⟨_, rfl, q _ H μ (Ext.refl _ _) S (.int _)⟩
  · cases h
def oInv : Op1 := fun d st => match d with
  | .int i => some (.int (Builtin.bitNot i), st)
  | _ => none
theorem does_inv : Does1 K (rU fun i => .int (Builtin.bitNot i)) oInv := fun x st d st' xv H μ Q rx S h q => by
  unfold oInv at h
  split at h
  · cases h
    cases rx
    exact ⟨_, rfl, q _ H μ (Ext.refl _ _) S (.int _)⟩
  · cases h
/-! ### bits -/
abbrev oAnd : Op2 := oI CAny fun i j => .int (Builtin.bitAnd i j)
abbrev oOr : Op2 := oI CAny fun i j => .int (Builtin.bitOr i j)
abbrev oXor : Op2 := oI CAny fun i j => .int (Builtin.bitXor i j)
abbrev oShl : Op2 := oI CPow fun i j => .int (i * 2 ^ j.toNat)
theorem does_and : Does K (rI0 fun i j => .int (Builtin.bitAnd i j)) oAnd := does_I0
theorem does_orB : Does K (rI0 fun i j => .int (Builtin.bitOr i j)) oOr := does_I0
theorem does_xor : Does K (rI0 fun i j => .int (Builtin.bitXor i j)) oXor := does_I0
theorem does_shl : Does K (rI CPow fun i j => .int (i * 2 ^ j.toNat)) oShl := does_I
/-! ### is None, is a bool -/
def isNon : D → Bool
  | .non => true
  | _ => false
theorem isNon_ok {H : Hp} {μ : List Addr} {d : D} {v : V} (r : Rl K H μ d v) : decide (v = .non) = isNon d := by
  cases r <;> simp [isNon]
def oIsN : Op2 := fun x y st => match y with
  | .non => some (.bl (isNon x), st)
  | _ => none
def oNotN : Op2 := fun x y st => match y with
  | .non => some (.bl (!isNon x), st)
  | _ => none
theorem does_isN : Does K rIsN oIsN := fun x y st d st' xv yv H μ Q rx ry S h q => by
  unfold oIsN at h
  split at h
  · cases h
    cases ry
    refine ⟨rfl, ?_⟩
    rw [isNon_ok rx]
    exact q _ H μ (Ext.refl _ _) S (.bl _)
  · cases h
theorem does_notN : Does K rNotN oNotN := fun x y st d st' xv yv H μ Q rx ry S h q => by
  unfold oNotN at h
  split at h
  · cases h
    cases ry
    refine ⟨rfl, ?_⟩
    rw [isNon_ok rx]
    exact q _ H μ (Ext.refl _ _) S (.bl _)
  · cases h
/-! ### in -/
def fv : D → Option V
  | .non => some .non
  | .bl b => some (.bl b)
  | .int i => some (.int i)
  | .str x => some (.str x)
  | _ => none
theorem fv_ok {H : Hp} {μ : List Addr} {d : D} {v w : V} (r : Rl K H μ d v) (h : fv d = some w) : v = w ∧ flatV v = true := by
  cases r <;> first | (cases h; exact ⟨rfl, rfl⟩) | cases h
theorem fvs_ok {H : Hp} {μ : List Addr} : ∀ {ds : List D} {vs ws : List V}, Rls K H μ ds vs → ds.mapM fv = some ws → vs = ws ∧ vs.all flatV = true
  | [], vs, ws, r, h => by
    rw [List.mapM_nil] at h
    cases h
    rw [r.nil_inv]
    exact ⟨rfl, rfl⟩
  | d :: ds, vs, ws, r, h => by
    rw [List.mapM_cons] at h
    obtain ⟨p, h1, h⟩ := Option.bind_eq_some_iff.mp h
    obtain ⟨qs, h2, h⟩ := Option.bind_eq_some_iff.mp h
    cases h
    obtain ⟨v, us, rfl, ra, rb⟩ := r.cons_inv
    obtain ⟨rfl, f1⟩ := fv_ok ra h1
    obtain ⟨rfl, f2⟩ := fvs_ok rb h2
    exact ⟨rfl, by rw [List.all_cons, f1, f2]; rfl⟩
def inTxt (i j : Str) : Bool := match i.cps.toList with
  | [c] => decide (c ∈ j.cps.toList)
  | _ => !(Builtin.Str.occurrences j i 0 j.length 1).isEmpty
/-- x in y: a text, a list or tuple of flat items -/
def inOf (st : Stt) (x y : D) : Option Bool := match y with
  | .str j => match x with
    | .str i => some (inTxt i j)
    | _ => none
  | y => (items st y).bind fun ds => (fv x).bind fun w => (ds.mapM fv).map fun ws => inV w ws
def oIn : Op2 := fun x y st => (inOf st x y).map fun b => (.bl b, st)
def oNotIn : Op2 := fun x y st => (inOf st x y).map fun b => (.bl !b, st)
def rInAny (K : PySem.W.Frag) (neg : Bool) : R2 := fun x y H Q => (∃ (c : Nat) (z : Str), x = .str ⟨#[c]⟩ ∧ y = .str z ∧ Q (.bl (if neg then !decide (c ∈ z.cps.toList) else decide (c ∈ z.cps.toList))) H) ∨
  ((∃ i j, x = .str i ∧ y = .str j ∧ Q (.bl (if neg then !(!(Builtin.Str.occurrences j i 0 j.length 1).isEmpty) else !(Builtin.Str.occurrences j i 0 j.length 1).isEmpty)) H) ∨ rIn K neg x y H Q)
theorem op_inAny {X : Cx} : OpR X (compareOp .In) (rInAny X.K false) := op_in_sign.or (op_in_str.or op_in_seq)
theorem op_notInAny {X : Cx} : OpR X (compareOp .NotIn) (rInAny X.K true) := op_notIn_sign.or (op_notIn_str.or op_notIn_seq)
theorem inOf_ok {neg : Bool} {x y : D} {st : Stt} {b : Bool} {xv yv : V} {H : Hp} {μ : List Addr} {Q : VK} (rx : Rl K H μ x xv) (ry : Rl K H μ y yv) (S : SR K H μ st) (h : inOf st x y = some b) (q : Q (.bl (if neg then !b else b)) H) : rInAny K neg xv yv H Q := by
  have seq : ∀ {y : D} {yv : V}, Rl K H μ y yv → ((items st y).bind fun ds => (fv x).bind fun w => (ds.mapM fv).map fun ws => inV w ws) = some b → rIn K neg xv yv H Q := fun ry h => by
    obtain ⟨ds, h1, h⟩ := Option.bind_eq_some_iff.mp h
    obtain ⟨w, h2, h⟩ := Option.bind_eq_some_iff.mp h
    obtain ⟨ws, h3, h⟩ := Option.map_eq_some_iff.mp h
    subst h
    obtain ⟨a, us, rfl, hq, q1⟩ := items_seq (K := K) S h1 ry
    obtain ⟨rfl, f1⟩ := fv_ok rx h2
    obtain ⟨rfl, f2⟩ := fvs_ok q1 h3
    exact ⟨a, us, rfl, hq, f1, f2, q⟩
  cases y with
  | str j =>
    cases x with
    | str i =>
      cases rx
      cases ry
      cases h
      unfold inTxt at q
      cases hc : i.cps.toList with
      | nil => rw [hc] at q; exact .inr (.inl ⟨i, j, rfl, rfl, by cases neg <;> exact q⟩)
      | cons c r =>
        cases r with
        | nil =>
          rw [hc] at q
          refine .inl ⟨c, j, ?_, rfl, by cases neg <;> exact q⟩
          obtain ⟨cs⟩ := i
          have : cs = #[c] := by
            obtain ⟨l⟩ := cs
            have hc : l = [c] := hc
            rw [hc]
          rw [this]
        | cons c2 r2 => rw [hc] at q; exact .inr (.inl ⟨i, j, rfl, rfl, by cases neg <;> exact q⟩)
    | non => cases h
    | bl _ => cases h
    | int _ => cases h
    | tup _ => cases h
    | cl _ => cases h
    | opq _ _ => cases h
    | exo _ _ _ _ => cases h
    | loc _ => cases h
  | non => cases h
  | bl _ => cases h
  | int _ => cases h
  | tup _ => exact .inr (.inr (seq ry h))
  | cl _ => exact .inr (.inr (seq ry h))
  | opq _ _ => cases h
  | exo _ _ _ _ => cases h
  | loc _ => exact .inr (.inr (seq ry h))
theorem does_in : Does K (rInAny K false) oIn := fun x y st d st' xv yv H μ Q rx ry S h q => by
  obtain ⟨b, h1, h2⟩ := Option.map_eq_some_iff.mp h
  cases h2
  exact inOf_ok rx ry S h1 (q _ H μ (Ext.refl _ _) S (.bl _))
theorem does_notIn : Does K (rInAny K true) oNotIn := fun x y st d st' xv yv H μ Q rx ry S h q => by
  obtain ⟨b, h1, h2⟩ := Option.map_eq_some_iff.mp h
  cases h2
  exact inOf_ok rx ry S h1 (q _ H μ (Ext.refl _ _) S (.bl _))
/-! ### dicts -/
theorem KR.find {H : Hp} {μ : List Addr} {k : Key} : ∀ {kd : List (Key × D)} {kv : List (Key × V)}, KR K H μ kd kv →
    (∀ d, (kd.find? fun p => decide (p.1 = k)).map (·.2) = some d → ∃ v, valV kv k = some v ∧ Rl K H μ d v) ∧ ((kd.find? fun p => decide (p.1 = k)) = none → valV kv k = none)
  | _, _, .nil => ⟨fun d h => by simp at h, fun _ => rfl⟩
  | (a, x) :: kd, (b, y) :: kv, .cons r t => by
    obtain ⟨e, r⟩ := r
    have e : a = b := e
    subst e
    obtain ⟨i1, i2⟩ := KR.find t
    unfold valV
    by_cases h : a = k
    · have hd : decide (a = k) = true := decide_eq_true h
      simp only [List.find?, hd]
      exact ⟨fun d e => ⟨y, rfl, by simp at e; rw [← e]; exact r⟩, fun z => by simp at z⟩
    · have hd : decide (a = k) = false := decide_eq_false h
      simp only [List.find?, hd]
      exact ⟨i1, i2⟩
def getD' (kvs : List (Key × D)) (k : Key) : Option D := (kvs.find? fun p => decide (p.1 = k)).map (·.2)
/-- d[k] -/
def oGet : Op2 := fun x y st => (dctAt st x).bind fun p => (keyD y).bind fun k => (getD' p.2 k).map fun d => (d, st)
def oHas : Op2 := fun y x st => (dctAt st x).bind fun p => (keyD y).map fun k => (.bl (getD' p.2 k).isSome, st)
def oHasnt : Op2 := fun y x st => (dctAt st x).bind fun p => (keyD y).map fun k => (.bl (!(getD' p.2 k).isSome), st)
section
variable {X : Cx} {a b c e o i : Expr} {es : List Expr} {fa fb fc fo fi : XE} {pos : Pos} {W : WX}
theorem e_get (hu : X.A.units + 1 < cLine) (ho : PE X o (tX X.K W fo)) (hi : PE X i (tX X.K W fi)) (hs : NoSl i := by exact fun _ _ => rfl) : PE X (.Subscript o i pos) (tX X.K W (x2 oGet fo fi)) :=
  pe_imp (pe_dget hu ho hi hs) fun σ H Q ⟨ρ, st, μ, E, S, h⟩ => by
    refine tX_of E S h.bind fun x s1 H1 μ1 xv e1 E1 S1 r1 h1 => ?_
    refine tX_of E1 S1 h1.bind fun y s2 H2 μ2 yv e2 E2 S2 r2 h2 => ?_
    obtain ⟨d, s3, h3, k⟩ := h2.of
    obtain ⟨⟨n, kvs⟩, h4, h3⟩ := Option.bind_eq_some_iff.mp h3
    obtain ⟨key, h5, h3⟩ := Option.bind_eq_some_iff.mp h3
    obtain ⟨dd, h6, h3⟩ := Option.map_eq_some_iff.mp h3
    cases h3
    obtain ⟨rfl, e4⟩ := dctAt_some h4
    have := keyD_ok r2 h5
    subst this
    obtain ⟨a, us, rfl, ha, t, q1⟩ := S2.dct e4 (r1.ext e2)
    obtain ⟨v, hv, r⟩ := (q1.find (k := key)).1 _ h6
    exact ⟨a, v, rfl, by rw [← hv]; exact DGet.k t, k H2 μ2 (Ext.refl _ _) S2 v r⟩
theorem has_ok {K : PySem.W.Frag} {H : Hp} {μ : List Addr} {st : Stt} {x y : D} {xv yv : V} {n : Nat} {kvs : List (Key × D)} {key : Key} (S : SR K H μ st) (rx : Rl K H μ x xv) (ry : Rl K H μ y yv) (h4 : dctAt st x = some (n, kvs)) (h5 : keyD y = some key) :
    ∃ a o, xv = .ref a ∧ DGet H a yv o ∧ o.isSome = (getD' kvs key).isSome := by
  obtain ⟨rfl, e4⟩ := dctAt_some h4
  have := keyD_ok ry h5
  subst this
  obtain ⟨a, us, rfl, ha, t, q1⟩ := S.dct e4 rx
  refine ⟨a, _, rfl, DGet.k t, ?_⟩
  unfold getD'
  cases hf : kvs.find? fun p => decide (p.1 = key) with
  | none => rw [(q1.find (k := key)).2 hf]; rfl
  | some p =>
    obtain ⟨v, hv, _⟩ := (q1.find (k := key)).1 p.2 (by rw [hf]; rfl)
    rw [hv]
    rfl
theorem c_has (hu : X.A.units + 1 < cLine) (hi : PE X i (tX X.K W fi)) (ho : PE X o (tX X.K W fo)) : PC X .In i o (tX X.K W (x2 oHas fi fo)) :=
  ⟨fun pins s σ H Q I ⟨ρ, st, μ, E, S, h⟩ => (pc_din hu hi ho).run pins s σ H Q I (by
    refine tX_of E S h.bind fun y s1 H1 μ1 yv e1 E1 S1 r1 h1 => ?_
    refine tX_of E1 S1 h1.bind fun x s2 H2 μ2 xv e2 E2 S2 r2 h2 => ?_
    obtain ⟨d, s3, h3, k⟩ := h2.of
    obtain ⟨⟨n, kvs⟩, h4, h3⟩ := Option.bind_eq_some_iff.mp h3
    obtain ⟨key, h5, h3⟩ := Option.map_eq_some_iff.mp h3
    cases h3
    obtain ⟨a, o, ea, g, eo⟩ := has_ok S2 r2 (r1.ext e2) h4 h5
    exact ⟨a, o, ea, g, by rw [eo]; exact k H2 μ2 (Ext.refl _ _) S2 _ (.bl _)⟩)⟩
theorem c_hasnt (hu : X.A.units + 1 < cLine) (hi : PE X i (tX X.K W fi)) (ho : PE X o (tX X.K W fo)) : PC X .NotIn i o (tX X.K W (x2 oHasnt fi fo)) :=
  ⟨fun pins s σ H Q I ⟨ρ, st, μ, E, S, h⟩ => (pc_dnotin hu hi ho).run pins s σ H Q I (by
    refine tX_of E S h.bind fun y s1 H1 μ1 yv e1 E1 S1 r1 h1 => ?_
    refine tX_of E1 S1 h1.bind fun x s2 H2 μ2 xv e2 E2 S2 r2 h2 => ?_
    obtain ⟨d, s3, h3, k⟩ := h2.of
    obtain ⟨⟨n, kvs⟩, h4, h3⟩ := Option.bind_eq_some_iff.mp h3
    obtain ⟨key, h5, h3⟩ := Option.map_eq_some_iff.mp h3
    cases h3
    obtain ⟨a, o, ea, g, eo⟩ := has_ok S2 r2 (r1.ext e2) h4 h5
    exact ⟨a, o, ea, g, by rw [eo]; exact k H2 μ2 (Ext.refl _ _) S2 _ (.bl _)⟩)⟩
theorem e_pc {op : CmpOp} {f : XE} (h : PC X op a b (tX X.K W f)) (hm : behindInMarks op b = false := by rfl) : PE X (.Compare a [op] [b] pos) (tX X.K W f) := pe_cmp h hm
theorem t_pc {op : CmpOp} {f : XE} (h : PC X op a b (tX X.K W f)) (hm : behindInMarks op b = false := by rfl) : PT X (.Compare a [op] [b] pos) (tXT X.K W (xB f)) :=
  pt_imp (pt_cmp h hm) fun σ H Q h => tX_bl h
/-- {k: v, ..} of constants -/
def mergeD (more : List (Key × D)) : List (Key × D) := more.foldl (fun acc kv => putD acc kv.1 kv.2) []
theorem kr_merge {K : PySem.W.Frag} {H : Hp} {μ : List Addr} : ∀ {more : List (Key × D)} {mv : List (Key × V)} {kd : List (Key × D)} {kv : List (Key × V)}, KR K H μ more mv → KR K H μ kd kv → KR K H μ (more.foldl (fun acc kv => putD acc kv.1 kv.2) kd) (mergeK kv mv)
  | _, _, _, _, .nil, r => r
  | (a, x) :: more, (b, y) :: mv, kd, kv, .cons h t, r => by
    obtain ⟨e, h⟩ := h
    have e : a = b := e
    subst e
    show KR K H μ (more.foldl _ (putD kd a x)) (mergeK (putK kv a y) mv)
    exact kr_merge t (kr_put h r)
def xDispC (kvs : List (Key × D)) : XE := fun _ st => .ok (.loc st.length) (st ++ [.dct (mergeD kvs)])
/-- keys and values that are written down -/
inductive CP (X : Cx) : List (TE × TE) → List (Key × D) → Prop
  | nil : CP X [] []
  | consS {x : Str} {d : D} {v : V} {r : List (TE × TE)} {kvs : List (Key × D)} : (∀ H μ, Rl X.K H μ d v) → CP X r kvs → CP X ((tC (.str x), tC v) :: r) ((.inr x, d) :: kvs)
  | consI {x : Int} {d : D} {v : V} {r : List (TE × TE)} {kvs : List (Key × D)} : (∀ H μ, Rl X.K H μ d v) → CP X r kvs → CP X ((tC (.int x), tC v) :: r) ((.inl x, d) :: kvs)
theorem CP.len {trs : List (TE × TE)} {kvs : List (Key × D)} (h : CP X trs kvs) : kvs.length = trs.length := by
  induction h with
  | nil => rfl
  | consS _ _ ih => simp [ih]
  | consI _ _ ih => simp [ih]
theorem CP.run {trs : List (TE × TE)} {kvs : List (Key × D)} (h : CP X trs kvs) : ∀ {σ : L2.St} {H : Hp} {Q : List (V × V) → Hp → Prop}, (∀ kv, (∀ μ, KR X.K H μ kvs kv) → Q (kv.map fun p => (kV p.1, p.2)) H) → tPairs trs σ H Q := by
  induction h with
  | nil => exact fun h => h [] fun _ => .nil
  | @consS x d v r kvs r1 _ ih => exact fun {σ H Q} h => ih fun kv hk => h ((.inr x, v) :: kv) fun μ => .cons ⟨rfl, r1 H μ⟩ (hk μ)
  | @consI x d v r kvs r1 _ ih => exact fun {σ H Q} h => ih fun kv hk => h ((.inl x, v) :: kv) fun μ => .cons ⟨rfl, r1 H μ⟩ (hk μ)
theorem e_dispC {keys : List (Option Expr)} {values : List Expr} {trs : List (TE × TE)} {kvs : List (Key × D)} (h : PPs X pos keys values trs) (hc : CP X trs kvs) (hall : keys.all (·.isSome) = true := by rfl) (hl : keys.length = values.length := by rfl) (h0 : keys ≠ [] := by simp) (h15 : keys.length ≤ 15 := by decide) (h16 : trs.length ≤ 15 := by decide) : PE X (.Dict keys values pos) (tX X.K W (xDispC kvs)) :=
  pe_imp (pe_disp h hall hl h0 h15) fun σ H Q ⟨ρ, st, μ, E, S, h⟩ => by
    intro p hp
    refine hc.run fun kv hk => ⟨upd_same, kv, rfl, ?_, ?_⟩
    · rw [← Paired.length (hk []), hc.len]
      exact h16
    · rw [upd_upd]
      have e : Ext X.K H μ (upd H p (.dK (mergeK [] kv))) (μ ++ [p]) := ext_new hp _
      refine h _ (μ ++ [p]) e (S.new (o := .dct (mergeD kvs)) hp ⟨_, upd_same, ?_⟩) _ (loc_new S)
      have := kr_merge (hk μ) (.nil : KR X.K (upd H p (.dK [])) μ [] [])
      exact ((KR.ext · this) : Ext X.K (upd H p (.dK [])) μ (upd H p (.dK (mergeK [] kv))) (μ ++ [p]) → _) ⟨fun a vs h => by have z := sqT_upd (u := .dK (mergeK [] kv)) (p := p) (fun w e => by rw [upd_same] at e; cases e; exact ⟨fun _ z => HO.noConfusion z, fun _ _ z => (by cases z), fun _ z => (by cases z)⟩) h; rw [upd_upd] at z; exact z, fun a vs h => by have z := cl_upd (u := .dK (mergeK [] kv)) (p := p) (fun w e => by rw [upd_same] at e; cases e; exact ⟨fun _ z => HO.noConfusion z, fun _ _ z => (by cases z), fun _ z => (by cases z)⟩) h; rw [upd_upd] at z; exact z, fun a vs h => by have z := xd_upd (u := .dK (mergeK [] kv)) (p := p) (fun w e => by rw [upd_same] at e; cases e; exact ⟨fun _ z => HO.noConfusion z, fun _ _ z => (by cases z), fun _ z => (by cases z)⟩) h; rw [upd_upd] at z; exact z, [p], rfl⟩
end
end Rg

set_option Elab.async false
set_option linter.all false
set_option maxRecDepth 100000
namespace Rg
open PySem PySem.Spec PyProof.Rows L2
variable {K : PySem.W.Frag}
/-! ### slices of texts too -/
def oSlA (x : D) (lo hi : Option Int) (st : Stt) : Option (D × Stt) := match x with
  | .str z => if z.length ≤ sizeLine then some (.str (cutS z lo hi), st) else none
  | x => oSl x lo hi st
section
variable {X : Cx} {a : Expr} {fa : XE} {pos : Pos} {W : WX}
theorem e_slA {lo hi : Option Expr} {fl fu : XO} {p2 : Pos} (ha : PE X a (tX X.K W fa)) (hl : PO X lo (tXO X.K W fl)) (hu : PO X hi (tXO X.K W fu)) : PE X (.Subscript a (.Slice lo hi none p2) pos) (tX X.K W (xSl oSlA fa fl fu)) :=
  pe_imp (pe_slice ((sl_list.or sl_tupA).or sl_str) ha hl hu) fun σ H Q ⟨ρ, st, μ, E, S, h⟩ => by
    refine tX_of E S h.bind fun x s1 H1 μ1 xv e1 E1 S1 r1 h1 => ?_
    refine tXO_of E1 S1 h1.bind fun l s2 H2 μ2 e2 E2 S2 h2 => ?_
    refine tXO_of E2 S2 h2.bind fun u s3 H3 μ3 e3 E3 S3 h3 => ?_
    obtain ⟨d, s4, h4, k⟩ := h3.of
    have r3 := (r1.ext e2).ext e3
    have seq : oSl x l u s3 = some (d, s4) → (rSlL X.K xv l u H3 Q ∨ rSlA X.K xv l u H3 Q) := fun h4 => by
      unfold oSl at h4
      split at h4
      · rename_i ds
        cases h4
        obtain ⟨a, vs, rfl, hq, q1⟩ := seqT (K := X.K) r3
        refine .inr ⟨a, vs, rfl, hq, fun hw => ?_, fun _ n hn => ?_⟩
        · rw [← q1.length] at hw
          refine k H3 μ3 (Ext.refl _ _) S3 _ ?_
          rw [cut_whole hw]
          exact .tup hq q1
        · exact k _ μ3 (ext_tup hn _) (S3.tup hn _) _ (.tup (.inl (.inl upd_same)) ((cut_rls q1 _ _).ext (ext_tup hn _)))
      · rename_i n
        obtain ⟨ds, hd, h4⟩ := Option.map_eq_some_iff.mp h4
        cases h4
        obtain ⟨a, vs, rfl, hq, q1⟩ := S3.seqL (K := X.K) hd r3
        exact .inl ⟨a, vs, rfl, hq, fun n hn => k _ _ (ext_new hn _) (S3.newL hn (cut_rls q1 _ _)) _ (loc_new S3)⟩
      · cases h4
        obtain ⟨a, vs, rfl, hq, q1⟩ := seqC (K := X.K) r3
        exact .inl ⟨a, vs, rfl, hq, fun n hn => k _ _ (ext_new hn _) (S3.newL hn (cut_rls q1 _ _)) _ (loc_new S3)⟩
      · cases h4
    cases x with
    | str z =>
      have h4 : (if z.length ≤ sizeLine then some (D.str (cutS z l u), s3) else none) = some (d, s4) := h4
      by_cases hz : z.length ≤ sizeLine
      · rw [if_pos hz] at h4
        cases h4
        cases r3
        exact .inr ⟨z, rfl, hz, k H3 μ3 (Ext.refl _ _) S3 _ (.str _)⟩
      · rw [if_neg hz] at h4
        cases h4
    | non => exact .inl (seq h4)
    | bl _ => exact .inl (seq h4)
    | int _ => exact .inl (seq h4)
    | tup _ => exact .inl (seq h4)
    | loc _ => exact .inl (seq h4)
    | cl _ => exact .inl (seq h4)
    | opq _ _ => exact .inl (seq h4)
    | exo _ _ _ _ => exact .inl (seq h4)
end
/-! ### products -/
def repS (x : Str) (n : Int) : Str := if n < 1 then Str.empty else if (n == 1 || x.length == 0) = true then x else ⟨(List.replicate n.toNat x.cps).foldl (· ++ ·) #[]⟩
def rRepS : R2 := fun x y H Q => ∃ i j, x = .str i ∧ y = .int j ∧ i.length ≤ 1000 ∧ -1000 ≤ j ∧ j ≤ 1000 ∧ Q (.str (repS i j)) H
theorem op_repS {X : Cx} : OpR X (binaryOp .Mult) rRepS := by
  intro pins s σ H x y v u Q I rx ry h
  obtain ⟨i, j, rfl, rfl, h1, h2, h3, q⟩ := h
  obtain ⟨t, rfl⟩ := rx
  obtain ⟨t', rfl⟩ := ry
  have hm : i.length * j.toNat ≤ 1000 * 1000 := Nat.mul_le_mul h1 (by omega)
  have hsl : (1000 * 1000 : Nat) ≤ sizeLine := by decide
  refine PySem.P.mul_str (by
      have e1 : decide (j < -(2 ^ 63 : Int)) = false := decide_eq_false (by omega)
      have e2 : decide (j ≥ 2 ^ 63) = false := decide_eq_false (by omega)
      rw [e1, e2]; rfl) (fun h4 _ => ?_) (fun h4 _ => ?_) ?_
  · have : (2 ^ 63 - 1) / j ≥ (2 ^ 63 - 1) / 1000 := by
      have hj : 0 < j := by omega
      rw [ge_iff_le, Int.le_ediv_iff_mul_le hj]
      have : (2 ^ 63 - 1) / 1000 * j ≤ (2 ^ 63 - 1) / 1000 * 1000 := Int.mul_le_mul_of_nonneg_left h3 (by decide)
      omega
    have : ((2 ^ 63 - 1 : Int)) / 1000 = 9223372036854775 := by decide
    omega
  · unfold Builtin.Str.tooLong
    first
      | exact decide_eq_false (by omega)
      | (simp; omega)
  · unfold repS at q
    split
    · rw [if_pos (by assumption)] at q
      exact ⟨by decide, .str _, H, I.tok _, ⟨_, rfl⟩, q⟩
    · rw [if_neg (by assumption)] at q
      split
      · rw [if_pos (by assumption)] at q
        exact ⟨.str _, H, I, ⟨_, rfl⟩, q⟩
      · rw [if_neg (by assumption)] at q
        refine ⟨?_, .str _, H, I.tok _, ⟨_, rfl⟩, q⟩
        have key : ∀ (n : Nat) (acc : Array Nat), (List.foldl (fun x1 x2 => x1 ++ x2) acc (List.replicate n i.cps)).size = acc.size + n * i.cps.size := by
          intro n
          induction n with
          | zero => intro acc; simp
          | succ n ih =>
            intro acc
            rw [List.replicate_succ, List.foldl_cons, ih, Array.size_append, Nat.succ_mul]
            omega
        show (List.foldl (fun x1 x2 => x1 ++ x2) #[] (List.replicate j.toNat i.cps)).size ≤ sizeLine
        rw [key, Nat.mul_comm]
        have hm : i.cps.size * j.toNat ≤ 1000 * 1000 := hm
        simp only [List.size_toArray, List.length_nil, Nat.zero_add]
        omega
def oMulA : Op2 := fun x y st => match x, y with
  | .int i, .int j => if CMul i j then some (.int (i * j), st) else none
  | .str i, .int j => if i.length ≤ 1000 ∧ -1000 ≤ j ∧ j ≤ 1000 then some (.str (repS i j), st) else none
  | _, _ => none
def rMulA : R2 := fun x y H Q => rI CMul (fun i j => .int (i * j)) x y H Q ∨ rRepS x y H Q
theorem op_mulA {X : Cx} : OpR X (binaryOp .Mult) rMulA := op_mul.or op_repS
theorem does_mulA : Does K rMulA oMulA := fun x y st d st' xv yv H μ Q rx ry S h q => by
  unfold oMulA at h
  split at h
  · split at h
    · rename_i hc
      cases h
      cases rx
      cases ry
      exact .inl ⟨_, _, rfl, rfl, hc, q _ H μ (Ext.refl _ _) S (.int _)⟩
    · cases h
  · split at h
    · rename_i hc
      cases h
      cases rx
      cases ry
      exact .inr ⟨_, _, rfl, rfl, hc.1, hc.2.1, hc.2.2, q _ H μ (Ext.refl _ _) S (.str _)⟩
    · cases h
  · cases h
/-! ### ord -/
def fOrd : BF := fun xs st => match xs with
  | [.str x] => if x.length = 1 then some (.int (x.cps.getD 0 0 : Nat), st) else none
  | _ => none
theorem does_ord : DoesN K (fun xs H Q => ∃ x, xs = [.str x] ∧ x.length = 1 ∧ Q (.int (x.cps.getD 0 0 : Nat)) H) fOrd := fun xs st d st' vs H μ Q r S h q => by
  unfold fOrd at h
  split at h
  · split at h
    · rename_i hx
      cases h
      obtain ⟨v, rfl, rv⟩ := rls1 r
      cases rv
      exact ⟨_, rfl, hx, q _ H μ (Ext.refl _ _) S (.int _)⟩
    · cases h
  · cases h
theorem FnOk.none {P : Program} {w : World} {mg : Str → Option Value} {base : Heap} {CX : CXT} {k n : Nat} {f : Addr} {fd : FuncData} {ps : List Str} : FnOk P w K mg base CX k f fd ps (spX K n fun _ _ => .no) :=
  ⟨fun vs H Q E h => by obtain ⟨_, _, _, _, _, _, h⟩ := h; exact h.elim, fun A outer s H args us vs Q E _ _ _ _ h => by obtain ⟨_, _, _, _, _, _, h⟩ := h; exact h.elim⟩
end Rg

set_option Elab.async false
set_option linter.all false
set_option maxRecDepth 100000
namespace Rg
open PySem PySem.Spec PyProof.Rows L2
/-- what is promised of the law's def -/
def spLaw (K : PySem.W.Frag) : Sp := fun vs H Q _ => ∃ (a : Addr) (ns : List Int), vs = [.ref a] ∧ CL K H a (ns.map V.int) ∧ ns.length ≤ 63 ∧ ∀ H', Q (.bl true) H'
theorem cl_only {K : PySem.W.Frag} {H : Hp} {a : Addr} {xs : List V} (o : Only H) (h : SqL K H a xs) : CL K H a xs := by
  rcases h with h | h
  · rcases h with h | ⟨u, h⟩
    · rcases o a with e | ⟨u, ys, e⟩
      · rw [e] at h; cases h
      · rw [e] at h; cases h
    · exact .inl ⟨u, h⟩
  · exact .inr h
theorem sp_law {K : PySem.W.Frag} {H : Hp} {a : Addr} {ns : List Int} (hl : ns.length ≤ 63) (o : Only H) (h : SqL K H a (ns.map V.int)) : spLaw K [.ref a] H (fun v _ => v = .bl true) fun _ _ _ => False :=
  ⟨a, ns, rfl, cl_only o h, hl, fun _ => rfl⟩
theorem law_ok {P : Program} {w : World} {K : PySem.W.Frag} {mg : Str → Option Value} {base : Heap} {CX : CXT} {k : Nat} {f : Addr} {fd : FuncData} {ps : List Str} {g : Fn} (F : FnOk P w K mg base CX k f fd ps (spX K 1 g))
    (h : ∀ ns : List Int, ns.length ≤ 63 → ∃ st, g [.cl (ns.map D.int)] [] = .ok (.bl true) st) : FnOk P w K mg base CX k f fd ps (spLaw K) :=
  F.imp fun vs H Q E ⟨a, ns, e, c, hl, q⟩ => by
    subst e
    obtain ⟨st, hg⟩ := h ns hl
    refine ⟨rfl, [.cl (ns.map D.int)], [], [], ⟨rfl, List.nodup_nil, fun n o z => by simp at z⟩, .cons (.cl c (Rls.ints ns)) .nil, ?_⟩
    rw [hg]
    intro H' μ' _ _ v r
    cases r
    exact q H'
theorem cx_no {P : Program} {w : World} {H : Hp} {s : Shared} {e : Value} {s' : Shared} (h : L2.CX P w [] H s (fun _ _ _ => False) e s') : False := by
  obtain ⟨_, _, _, _, _, _, _, _, _, _, _, _, z⟩ := h
  exact z
end Rg

set_option Elab.async false
set_option linter.all false
set_option maxRecDepth 100000
namespace Rg
open PySem PySem.Spec PyProof.Rows L2
/-! ### loops by invariants -/
theorem forF_inv {ok : Stt → Prop} {g : XG} {f : XS} {its : List D} (I : Nat → En → Stt → Prop) (hok : ∀ i ρ st, i ≤ its.length → I i ρ st → ok st)
    (step : ∀ i d ρ st, its[i]? = some d → I i ρ st → ∃ ρ1, g d ρ = some ρ1 ∧ ∃ ρ' st', (f ρ1 st = .nx ρ' st' ∨ f ρ1 st = .ct ρ' st') ∧ I (i + 1) ρ' st') {ρ : En} {st : Stt} (h0 : I 0 ρ st) :
    ∃ ρ' st', forF ok g f its ρ st = .nx ρ' st' ∧ I its.length ρ' st' := by
  have key : ∀ (n : Nat) (i : Nat) (ρ : En) (st : Stt), its.length - i = n → i ≤ its.length → I i ρ st → ∃ ρ' st', forF ok g f (its.drop i) ρ st = .nx ρ' st' ∧ I its.length ρ' st' := by
    intro n
    induction n with
    | zero =>
      intro i ρ st hn hi h
      have : i = its.length := by omega
      subst this
      rw [List.drop_length]
      unfold forF
      rw [if_pos (hok _ _ _ (Nat.le_refl _) h)]
      exact ⟨ρ, st, rfl, h⟩
    | succ n ih =>
      intro i ρ st hn hi h
      have hlt : i < its.length := by omega
      rw [List.drop_eq_getElem_cons hlt]
      unfold forF
      rw [if_pos (hok _ _ _ hi h)]
      obtain ⟨ρ1, h1, ρ', st', h2, h3⟩ := step i its[i] ρ st (List.getElem?_eq_getElem hlt) h
      rw [h1]
      obtain ⟨ρ2, st2, h4, h5⟩ := ih (i + 1) ρ' st' (by omega) hlt h3
      refine ⟨ρ2, st2, ?_, h5⟩
      rcases h2 with h2 | h2 <;> (simp only [h2]; exact h4)
  have := key its.length 0 ρ st (by omega) (Nat.zero_le _) h0
  rwa [List.drop_zero] at this
theorem compF_inv {L : Nat} {ok : Stt → Prop} {g : XG} {t : XT} {f : XE} {ρ : En} {its : List D} (I : Nat → Stt → List D → Prop) (hok : ∀ i st acc, i ≤ its.length → I i st acc → ok st)
    (step : ∀ i d st acc, its[i]? = some d → I i st acc → ∃ ρ1, g d ρ = some ρ1 ∧ ∃ b s1, t ρ1 st = .ok b s1 ∧ (b = false → I (i + 1) s1 acc) ∧
      (b = true → ∃ y s2, f ρ1 s1 = .ok y s2 ∧ lstAt s2 (.loc L) = some (L, acc) ∧ acc.length < sizeLine ∧ I (i + 1) (s2.set L (.lst (acc ++ [y]))) (acc ++ [y]))) {st : Stt} (h0 : I 0 st []) :
    ∃ st' acc, compF L ok g t f ρ its st = .ok () st' ∧ I its.length st' acc := by
  have key : ∀ (n : Nat) (i : Nat) (st : Stt) (acc : List D), its.length - i = n → i ≤ its.length → I i st acc → ∃ st' acc', compF L ok g t f ρ (its.drop i) st = .ok () st' ∧ I its.length st' acc' := by
    intro n
    induction n with
    | zero =>
      intro i st acc hn hi h
      have : i = its.length := by omega
      subst this
      rw [List.drop_length]
      unfold compF
      rw [if_pos (hok _ _ _ (Nat.le_refl _) h)]
      exact ⟨st, acc, rfl, h⟩
    | succ n ih =>
      intro i st acc hn hi h
      have hlt : i < its.length := by omega
      rw [List.drop_eq_getElem_cons hlt]
      unfold compF
      rw [if_pos (hok _ _ _ hi h)]
      obtain ⟨ρ1, h1, b, s1, h2, hf, ht⟩ := step i its[i] st acc (List.getElem?_eq_getElem hlt) h
      simp only [h1, h2]
      cases b with
      | false => exact ih (i + 1) s1 acc (by omega) hlt (hf rfl)
      | true =>
        obtain ⟨y, s2, h3, h4, h5, h6⟩ := ht rfl
        simp only [h3, h4, if_pos h5]
        exact ih (i + 1) _ _ (by omega) hlt h6
  have := key its.length 0 st [] (by omega) (Nat.zero_le _) h0
  rwa [List.drop_zero] at this
end Rg

set_option Elab.async false
set_option linter.all false
set_option maxRecDepth 100000
namespace Rg
open PySem PySem.Spec PyProof.Rows L2
/-! ### running, by simp -/
@[simp] theorem x2_run (f : Op2) (fa fb : XE) (ρ : En) (st : Stt) : x2 f fa fb ρ st = (fa ρ st).bind fun x s1 => (fb ρ s1).bind fun y s2 => R.of (f x y s2) := (rfl)
@[simp] theorem x1_run (f : Op1) (fa : XE) (ρ : En) (st : Stt) : x1 f fa ρ st = (fa ρ st).bind fun x s1 => R.of (f x s1) := (rfl)
@[simp] theorem xB_run (f : XE) (ρ : En) (st : Stt) : xB f ρ st = (f ρ st).bind isB := (rfl)
@[simp] theorem xTr_run (f : XE) (ρ : En) (st : Stt) : xTr f ρ st = (f ρ st).bind isT := (rfl)
@[simp] theorem xNot_run (f : XT) (ρ : En) (st : Stt) : xNot f ρ st = (f ρ st).bind fun b s => .ok (!b) s := (rfl)
@[simp] theorem xNotV_run (f : XE) (ρ : En) (st : Stt) : xNotV f ρ st = (f ρ st).bind fun d s => (isT d s).bind fun b s => .ok (.bl !b) s := (rfl)
@[simp] theorem xAnd_run (f g : XT) (ρ : En) (st : Stt) : xAnd f g ρ st = (f ρ st).bind fun b s => if b = true then g ρ s else .ok false s := (rfl)
@[simp] theorem xOr_run (f g : XT) (ρ : En) (st : Stt) : xOr f g ρ st = (f ρ st).bind fun b s => if b = true then .ok true s else g ρ s := (rfl)
@[simp] theorem xAndV_run (f g : XE) (ρ : En) (st : Stt) : xAndV f g ρ st = (f ρ st).bind fun d s => (isT d s).bind fun b s => if b = true then g ρ s else .ok d s := (rfl)
@[simp] theorem xOrV_run (f g : XE) (ρ : En) (st : Stt) : xOrV f g ρ st = (f ρ st).bind fun d s => (isT d s).bind fun b s => if b = true then .ok d s else g ρ s := (rfl)
@[simp] theorem xIte_run (t : XT) (f g : XE) (ρ : En) (st : Stt) : xIte t f g ρ st = (t ρ st).bind fun b s => if b = true then f ρ s else g ρ s := (rfl)
@[simp] theorem xCh_run (f f' : Op2) (fa fb fc : XE) (ρ : En) (st : Stt) : xCh f f' fa fb fc ρ st = (fa ρ st).bind fun x s1 => (fb ρ s1).bind fun y s2 => (R.of (f x y s2)).bind fun z s3 => (isB z s3).bind fun k s4 => if k = true then (fc ρ s4).bind fun w s5 => R.of (f' y w s5) else .ok (.bl false) s4 := (rfl)
@[simp] theorem xNil_run (ρ : En) (st : Stt) : xNil ρ st = .ok [] st := (rfl)
@[simp] theorem xCons_run (f : XE) (g : XA) (ρ : En) (st : Stt) : xCons f g ρ st = (f ρ st).bind fun d s => (g ρ s).bind fun ds s => .ok (d :: ds) s := (rfl)
@[simp] theorem xTup_run (g : XA) (ρ : En) (st : Stt) : xTup g ρ st = (g ρ st).bind mkTup := (rfl)
@[simp] theorem xLst_run (g : XA) (ρ : En) (st : Stt) : xLst g ρ st = (g ρ st).bind mkLst := (rfl)
@[simp] theorem xDict0_run (ρ : En) (st : Stt) : xDict0 ρ st = .ok (.loc st.length) (st ++ [.dct []]) := (rfl)
@[simp] theorem xDispC_run (kvs : List (Key × D)) (ρ : En) (st : Stt) : xDispC kvs ρ st = .ok (.loc st.length) (st ++ [.dct (mergeD kvs)]) := (rfl)
@[simp] theorem xCall_run (f : BF) (g : XA) (ρ : En) (st : Stt) : xCall f g ρ st = (g ρ st).bind fun ds s => R.of (f ds s) := (rfl)
@[simp] theorem xFn_run (g : Fn) (ga : XA) (ρ : En) (st : Stt) : xFn g ga ρ st = (ga ρ st).bind g := (rfl)
@[simp] theorem xMt_run (t : Stt → D → Bool) (f : MtF) (fo : XE) (g : XA) (ρ : En) (st : Stt) : xMt t f fo g ρ st = (fo ρ st).bind fun d s => (isRc t d s).bind fun _ s => (g ρ s).bind fun ds s => R.of (f d ds s) := (rfl)
@[simp] theorem xMeth_run (C : Addr) (m : Str) (g : Fn) (fo : XE) (ga : XA) (ρ : En) (st : Stt) : xMeth C m g fo ga ρ st = (fo ρ st).bind fun d s => (hasM C m d s).bind fun _ s => (ga ρ s).bind fun ds s => g (d :: ds) s := (rfl)
@[simp] theorem xMake_run (C : Addr) (g : Fn) (ga : XA) (ρ : En) (st : Stt) : xMake C g ga ρ st = (ga ρ st).bind (mkIns C g) := (rfl)
@[simp] theorem xSl_run (g : D → Option Int → Option Int → Stt → Option (D × Stt)) (fa : XE) (lo hi : XO) (ρ : En) (st : Stt) : xSl g fa lo hi ρ st = (fa ρ st).bind fun p s => (lo ρ s).bind fun l s => (hi ρ s).bind fun u s => R.of (g p l u s) := (rfl)
@[simp] theorem xON_run (ρ : En) (st : Stt) : xON ρ st = .ok none st := (rfl)
@[simp] theorem xOS_run (f : XE) (ρ : En) (st : Stt) : xOS f ρ st = (f ρ st).bind fun d s => (isI d s).bind fun i s => .ok (some i) s := (rfl)
@[simp] theorem xYes_run (ρ : En) (st : Stt) : xYes ρ st = .ok true st := (rfl)
@[simp] theorem xIt_run (f : XE) (ρ : En) (st : Stt) : xIt f ρ st = (f ρ st).bind wkOf := (rfl)
@[simp] theorem xRange_run (g : XA) (ρ : En) (st : Stt) : xRange g ρ st = (g ρ st).bind wkRange := (rfl)
@[simp] theorem xRange2_run (g : XA) (ρ : En) (st : Stt) : xRange2 g ρ st = (g ρ st).bind wkRange2 := (rfl)
@[simp] theorem xLc_run (w : XI) (g : XG) (t : XT) (f : XE) (vs : List Nat) (ρ : En) (st : Stt) : xLc w g t f vs ρ st = (w ρ st).bind fun k s => (compF s.length k.ok g t f (wipeD ρ vs) k.its (s ++ [.lst []])).bind fun _ s' => .ok (.loc s.length) s' := (rfl)
@[simp] theorem gN_run (i : Nat) (d : D) (ρ : En) : gN i d ρ = some (ρ.set i (some d)) := (rfl)
/-! statements -/
@[simp] theorem sNil_run (ρ : En) (st : Stt) : sNil ρ st = .nx ρ st := (rfl)
@[simp] theorem sCons_run (f g : XS) (ρ : En) (st : Stt) : sCons f g ρ st = (f ρ st).seq g := (rfl)
@[simp] theorem sSet_run (i : Nat) (f : XE) (ρ : En) (st : Stt) : sSet i f ρ st = (f ρ st).out ρ fun d s => .nx (ρ.set i (some d)) s := (rfl)
@[simp] theorem sAsg_run (f : XE) (g : XG) (ρ : En) (st : Stt) : sAsg f g ρ st = (f ρ st).out ρ (gOut g ρ) := (rfl)
@[simp] theorem sExpr_run (f : XE) (ρ : En) (st : Stt) : sExpr f ρ st = (f ρ st).out ρ fun _ s => .nx ρ s := (rfl)
@[simp] theorem sRet_run (f : XE) (ρ : En) (st : Stt) : sRet f ρ st = (f ρ st).out ρ fun d s => .rt d s := (rfl)
@[simp] theorem sIf_run (t : XT) (f g : XS) (ρ : En) (st : Stt) : sIf t f g ρ st = (t ρ st).out ρ fun b s => if b = true then f ρ s else g ρ s := (rfl)
@[simp] theorem sSubL_run (fo fi fv : XE) (ρ : En) (st : Stt) : sSubL fo fi fv ρ st = (fv ρ st).out ρ fun v s => (fo ρ s).out ρ fun o s => (fi ρ s).out ρ fun i s => setL o i v ρ s := (rfl)
@[simp] theorem sPut_run (fo fi fv : XE) (ρ : En) (st : Stt) : sPut fo fi fv ρ st = (fv ρ st).out ρ fun v s => (fo ρ s).out ρ fun o s => (fi ρ s).out ρ fun i s => setDk o i v ρ s := (rfl)
@[simp] theorem sAug_run (i : Nat) (f : Op2) (fe : XE) (ρ : En) (st : Stt) : sAug i f fe ρ st = (xV i ρ st).out ρ fun x s => (fe ρ s).out ρ fun y s => (R.of (f x y s)).out ρ fun z s => .nx (ρ.set i (some z)) s := (rfl)
@[simp] theorem sAugL_run (fop : Op2) (fo fi fe : XE) (ρ : En) (st : Stt) : sAugL fop fo fi fe ρ st = (fo ρ st).out ρ fun o s => (fi ρ s).out ρ fun i s => (R.of (oIxL o i s)).out ρ fun x s => (fe ρ s).out ρ fun y s => (R.of (fop x y s)).out ρ fun z s => setL o i z ρ s := (rfl)
@[simp] theorem sFldX_run (C : Addr) (f : Str) (fo fv : XE) (ρ : En) (st : Stt) : sFldX C f fo fv ρ st = (fv ρ st).out ρ fun v s => (fo ρ s).out ρ fun o s => setF C f o v ρ s := (rfl)
@[simp] theorem sFor_run (w : XI) (g : XG) (f : XS) (ρ : En) (st : Stt) : sFor w g f ρ st = (w ρ st).out ρ fun k s => forF k.ok g f k.its ρ s := (rfl)
@[simp] theorem ret_rt (d : D) (st : Stt) : (Out.rt d st).ret = .ok d st := (rfl)
@[simp] theorem ret_nx (ρ : En) (st : Stt) : (Out.nx ρ st).ret = .ok .non st := (rfl)
@[simp] theorem ret_xx (ρ : En) (e : Exn) (st : Stt) : (Out.xx ρ e st).ret = .ex e st := (rfl)
@[simp] theorem ret_ite (c : Prop) [Decidable c] (a b : Out) : (if c then a else b).ret = if c then a.ret else b.ret := by split <;> rfl
@[simp] theorem seq_ite (c : Prop) [Decidable c] (a b : Out) (g : XS) : (if c then a else b).seq g = if c then a.seq g else b.seq g := by split <;> rfl
@[simp] theorem out_ite {α : Type} (c : Prop) [Decidable c] (a b : R α) (ρ : En) (k : α → Stt → Out) : (if c then a else b).out ρ k = if c then a.out ρ k else b.out ρ k := by split <;> rfl
@[simp] theorem bind_ite {α β : Type} (c : Prop) [Decidable c] (a b : R α) (f : α → Stt → R β) : (if c then a else b).bind f = if c then a.bind f else b.bind f := by split <;> rfl
theorem xV_some {i : Nat} {ρ : En} {d : D} (st : Stt) (h : ρ[i]? = some (some d)) : xV i ρ st = .ok d st := by unfold xV; rw [h]
@[simp] theorem xV_0 (d : D) (ρ : En) (st : Stt) : xV 0 (some d :: ρ) st = .ok d st := (rfl)
@[simp] theorem xV_s (i : Nat) (o : Option D) (ρ : En) (st : Stt) : xV (i + 1) (o :: ρ) st = xV i ρ st := by unfold xV; simp
@[simp] theorem xV_1 (o : Option D) (d : D) (ρ : En) (st : Stt) : xV 1 (o :: some d :: ρ) st = .ok d st := (rfl)
@[simp] theorem xV_2 (a b : Option D) (d : D) (ρ : En) (st : Stt) : xV 2 (a :: b :: some d :: ρ) st = .ok d st := (rfl)
@[simp] theorem xV_3 (a b c : Option D) (d : D) (ρ : En) (st : Stt) : xV 3 (a :: b :: c :: some d :: ρ) st = .ok d st := (rfl)
@[simp] theorem xV_4 (a b c e : Option D) (d : D) (ρ : En) (st : Stt) : xV 4 (a :: b :: c :: e :: some d :: ρ) st = .ok d st := (rfl)
@[simp] theorem xV_5 (a b c e f : Option D) (d : D) (ρ : En) (st : Stt) : xV 5 (a :: b :: c :: e :: f :: some d :: ρ) st = .ok d st := (rfl)
@[simp] theorem xV_6 (a b c e f g : Option D) (d : D) (ρ : En) (st : Stt) : xV 6 (a :: b :: c :: e :: f :: g :: some d :: ρ) st = .ok d st := (rfl)
@[simp] theorem xV_7 (a b c e f g h : Option D) (d : D) (ρ : En) (st : Stt) : xV 7 (a :: b :: c :: e :: f :: g :: h :: some d :: ρ) st = .ok d st := (rfl)
@[simp] theorem xV_8 (a b c e f g h k : Option D) (d : D) (ρ : En) (st : Stt) : xV 8 (a :: b :: c :: e :: f :: g :: h :: k :: some d :: ρ) st = .ok d st := (rfl)
/-! operations -/
@[simp] theorem oAdd_i (i j : Int) (st : Stt) : oAdd (.int i) (.int j) st = some (.int (i + j), st) := (rfl)
@[simp] theorem oSub_i (i j : Int) (st : Stt) : oSub (.int i) (.int j) st = some (.int (i - j), st) := (rfl)
@[simp] theorem oLt_i (i j : Int) (st : Stt) : oLt (.int i) (.int j) st = some (.bl (decide (i < j)), st) := (rfl)
@[simp] theorem oLe_i (i j : Int) (st : Stt) : oLe (.int i) (.int j) st = some (.bl (decide (i ≤ j)), st) := (rfl)
@[simp] theorem oGt_i (i j : Int) (st : Stt) : oGt (.int i) (.int j) st = some (.bl (decide (j < i)), st) := (rfl)
@[simp] theorem oGe_i (i j : Int) (st : Stt) : oGe (.int i) (.int j) st = some (.bl (decide (j ≤ i)), st) := (rfl)
theorem oMod_i {i j : Int} (h : 0 < j) (st : Stt) : oMod (.int i) (.int j) st = some (.int (i % j), st) := if_pos h
theorem oDiv_i {i j : Int} (h : 0 < j) (h2 : j < 1073741824) (st : Stt) : oDiv (.int i) (.int j) st = some (.int (i / j), st) := if_pos ⟨h, h2⟩
theorem oMulA_r {i j : Int} (h : -(2 ^ 64) < j ∧ j < 2 ^ 64) (st : Stt) : oMulA (.int i) (.int j) st = some (.int (i * j), st) := if_pos (.inr h)
theorem oMulA_l {i j : Int} (h : -(2 ^ 64) < i ∧ i < 2 ^ 64) (st : Stt) : oMulA (.int i) (.int j) st = some (.int (i * j), st) := if_pos (.inl h)
@[simp] theorem oEq_i (i j : Int) (st : Stt) : oEq (.int i) (.int j) st = some (.bl (decide (i = j)), st) := by
  show (some (D.bl (i == j), st)) = _
  rw [Bool.beq_eq_decide_eq]
@[simp] theorem oNe_i (i j : Int) (st : Stt) : oNe (.int i) (.int j) st = some (.bl (!decide (i = j)), st) := by
  show (some (D.bl (!(i == j)), st)) = _
  rw [Bool.beq_eq_decide_eq]
theorem toD_str {x : Str} (h : PyData.strOk x = true) (n : Nat) (st : Stt) : toD st (n + 1) (.str x) = some (.str x) := if_pos h
theorem oEq_s {x y : Str} (hx : PyData.strOk x = true) (hy : PyData.strOk y = true) (st : Stt) : oEq (.str x) (.str y) st = some (.bl (decide (x = y)), st) := by
  unfold oEq deq
  rw [toD_str hx, toD_str hy]
  show (some (D.bl (x == y), st)) = _
  rw [Bool.beq_eq_decide_eq]
theorem oNe_s {x y : Str} (hx : PyData.strOk x = true) (hy : PyData.strOk y = true) (st : Stt) : oNe (.str x) (.str y) st = some (.bl (!decide (x = y)), st) := by
  unfold oNe deq
  rw [toD_str hx, toD_str hy]
  show (some (D.bl (!(x == y)), st)) = _
  rw [Bool.beq_eq_decide_eq]
@[simp] theorem fInt_i (i : Int) (st : Stt) : fInt [.int i] st = some (.int i, st) := (rfl)
@[simp] theorem fInt_b (k : Bool) (st : Stt) : fInt [.bl k] st = some (.int (if k then 1 else 0), st) := (rfl)
@[simp] theorem fAbs_i (i : Int) (st : Stt) : fAbs [.int i] st = some (.int (if i < 0 then -i else i), st) := (rfl)
@[simp] theorem items_tup (st : Stt) (ds : List D) : items st (.tup ds) = some ds := (rfl)
@[simp] theorem items_cl (st : Stt) (ds : List D) : items st (.cl ds) = some ds := (rfl)
theorem items_loc {st : Stt} {n : Nat} {ds : List D} (h : st[n]? = some (.lst ds)) : items st (.loc n) = some ds := by show (match st[n]? with | some (.lst ds) => some ds | _ => none) = _; rw [h]
theorem lstAt_loc {st : Stt} {n : Nat} {ds : List D} (h : st[n]? = some (.lst ds)) : lstAt st (.loc n) = some (n, ds) := by show (match st[n]? with | some (.lst ds) => some (n, ds) | _ => none) = _; rw [h]
theorem dctAt_loc {st : Stt} {n : Nat} {ds : List (Key × D)} (h : st[n]? = some (.dct ds)) : dctAt st (.loc n) = some (n, ds) := by show (match st[n]? with | some (.dct ds) => some (n, ds) | _ => none) = _; rw [h]
theorem insAt_loc {st : Stt} {n : Nat} {C : Addr} {fs : List (Str × D)} (h : st[n]? = some (.ins C fs)) : insAt C st (.loc n) = some (n, fs) := by
  show (match st[n]? with | some (.ins C' fs) => if C' = C then some (n, fs) else none | _ => none) = _
  rw [h]
  exact if_pos rfl
theorem fLen_of {st : Stt} {d : D} {ds : List D} (h : items st d = some ds) : fLen [d] st = some (.int ds.length, st) := by
  cases d with
  | str x => cases h
  | non => cases h
  | bl _ => cases h
  | int _ => cases h
  | tup _ => cases h; rfl
  | cl _ => cases h; rfl
  | opq _ _ => cases h
  | exo _ _ _ _ => cases h
  | loc _ => show (items st _).map _ = _; rw [h]; rfl
theorem fLen_s {x : Str} (h : x.length ≤ sizeLine) (st : Stt) : fLen [.str x] st = some (.int x.length, st) := if_pos h
theorem atI_of {α : Type} {xs : List α} {i : Int} {x : α} (h0 : 0 ≤ i) (h : xs[i.toNat]? = some x) : atI xs i = some x := by
  have hl : i.toNat < xs.length := (List.getElem?_eq_some_iff.mp h).1
  unfold atI ixN
  rw [if_pos h0, if_pos (by omega)]
  exact h
theorem atI_lit {α : Type} {xs : List α} {n : Nat} {x : α} (h : xs[n]? = some x) : atI xs (n : Int) = some x := atI_of (Int.natCast_nonneg n) (by simpa using h)
theorem oIx_of {st : Stt} {d x : D} {ds : List D} {i : Int} (h : items st d = some ds) (hx : atI ds i = some x) : oIx d (.int i) st = some (x, st) := by
  cases d with
  | str x => cases h
  | non => cases h
  | bl _ => cases h
  | int _ => cases h
  | tup _ => cases h; show (some _).bind _ = _; simp [hx]
  | cl _ => cases h; show (some _).bind _ = _; simp [hx]
  | opq _ _ => cases h
  | exo _ _ _ _ => cases h
  | loc _ => show (items st _).bind _ = _; rw [h]; simp [hx]
theorem setL_of {st : Stt} {o : D} {n : Nat} {ds : List D} {k : Int} {j : Nat} (h : lstAt st o = some (n, ds)) (hj : ixN ds.length k = some j) (v : D) (ρ : En) : setL o (.int k) v ρ st = .nx ρ (st.set n (.lst (ds.set j v))) := by
  unfold setL
  rw [h]
  simp only [hj]
theorem mkLst_of {ds : List D} (h : ds.length ≤ sizeLine) (st : Stt) : mkLst ds st = .ok (.loc st.length) (st ++ [.lst ds]) := if_pos h
theorem mkTup_of {ds : List D} (h : ds.length ≤ sizeLine) (st : Stt) : mkTup ds st = .ok (.tup ds) st := if_pos h
/-! texts by their codes -/
def okL (l : List Nat) : Bool := l.all (· < 0x110000)
theorem strOk_l (l : List Nat) : PyData.strOk ⟨l.toArray⟩ = okL l := by
  unfold PyData.strOk okL
  simp
@[simp] theorem oEq_l (x y : List Nat) (st : Stt) : oEq (.str ⟨x.toArray⟩) (.str ⟨y.toArray⟩) st = if okL x = true ∧ okL y = true then some (.bl (decide (x = y)), st) else none := by
  by_cases h : okL x = true
  · by_cases h2 : okL y = true
    · rw [if_pos ⟨h, h2⟩, oEq_s (by rw [strOk_l]; exact h) (by rw [strOk_l]; exact h2)]
      simp
    · rw [if_neg fun z => h2 z.2]
      unfold oEq deq
      have : toD st 60 (.str ⟨y.toArray⟩) = none := if_neg (by rw [strOk_l]; exact h2)
      rw [this]
      simp
  · rw [if_neg fun z => h z.1]
    unfold oEq deq
    have : toD st 60 (.str ⟨x.toArray⟩) = none := if_neg (by rw [strOk_l]; exact h)
    rw [this]
    rfl
@[simp] theorem oNe_l (x y : List Nat) (st : Stt) : oNe (.str ⟨x.toArray⟩) (.str ⟨y.toArray⟩) st = if okL x = true ∧ okL y = true then some (.bl (!decide (x = y)), st) else none := by
  have := oEq_l x y st
  unfold oEq at this
  unfold oNe
  cases h : deq st (.str ⟨x.toArray⟩) (.str ⟨y.toArray⟩) with
  | none => rw [h] at this; split at this <;> simp_all
  | some b =>
    rw [h] at this
    split at this
    · rename_i hc
      rw [if_pos hc]
      simp at this
      simp [this]
    · cases this
@[simp] theorem okL_nil : okL [] = true := (rfl)
@[simp] theorem okL_cons (a : Nat) (l : List Nat) : okL (a :: l) = (decide (a < 1114112) && okL l) := by simp [okL]
end Rg

set_option Elab.async false
set_option linter.all false
set_option maxRecDepth 100000
namespace Rg
open PySem PySem.Spec PyProof.Rows L2
variable {K : PySem.W.Frag}
/-! ### xs[::-1] -/
def litems (st : Stt) : D → Option (List D)
  | .tup _ => none
  | d => items st d
theorem litems_seq {H : Hp} {μ : List Addr} {st : Stt} {d : D} {ds : List D} {v : V} (S : SR K H μ st) (h : litems st d = some ds) (r : Rl K H μ d v) : ∃ a vs, v = .ref a ∧ SqL K H a vs ∧ Rls K H μ ds vs := by
  cases d with
  | opq _ _ => cases h
  | exo _ _ _ _ => cases h
  | tup _ => cases h
  | cl es => cases h; exact seqC r
  | loc n => exact S.seqL h r
  | non => cases h
  | bl _ => cases h
  | int _ => cases h
  | str _ => cases h
theorem litems_of {st : Stt} {d : D} {ds : List D} (h : litems st d = some ds) : items st d = some ds := by
  cases d <;> first | cases h; done | exact h
@[simp] theorem litems_cl (st : Stt) (ds : List D) : litems st (.cl ds) = some ds := (rfl)
theorem litems_loc {st : Stt} {n : Nat} {ds : List D} (h : st[n]? = some (.lst ds)) : litems st (.loc n) = some ds := by
  show (match st[n]? with | some (.lst ds) => some ds | _ => none) = _
  rw [h]
def oRev : Op1 := fun d st => (litems st d).map fun ds => (.loc st.length, st ++ [.lst ds.reverse])
section
variable {X : Cx} {a b c e : Expr} {es : List Expr} {fa fb fc : XE} {pos : Pos} {W : WX}
theorem e_revL {k : Nat} {p1 p2 p3 : Pos} (he : PE X e (tX X.K W fa)) : PE X (.Subscript e (.Slice none none (some (.UnaryOp .USub (.Constant (.int 1) k p1) p2)) p3) pos) (tX X.K W (x1 oRev fa)) :=
  pe_imp (pe_revL he) fun σ H Q ⟨ρ, st, μ, E, S, h⟩ => by
    refine tX_of E S h.bind fun x s1 H1 μ1 xv e1 E1 S1 r1 h1 => ?_
    obtain ⟨d, s3, h3, k⟩ := h1.of
    obtain ⟨ds, h4, h3⟩ := Option.map_eq_some_iff.mp h3
    cases h3
    obtain ⟨l, vs, rfl, hq, q⟩ := litems_seq S1 h4 r1
    exact ⟨l, vs, rfl, hq, fun p hp => k _ _ (ext_new hp _) (S1.newL hp q.reverse) _ (loc_new S1)⟩
/-! ### tuple(range(..)) -/
def rgD (i j : Int) : List D := (List.range (j - i).toNat).map fun k => .int (i + (k : Nat))
theorem rgD_ok {H : Hp} {μ : List Addr} (i j : Int) : Rls K H μ (rgD i j) (rgV i j) := by
  unfold rgD rgV
  generalize List.range (j - i).toNat = l
  induction l with
  | nil => exact .nil
  | cons k l ih => exact .cons (.int _) ih
def rgOld (i j : Int) : Prop := -(2 ^ 62) ≤ i ∧ i < 2 ^ 62 ∧ -(2 ^ 62) ≤ j ∧ j < 2 ^ 62 ∧ (j - i).toNat ≤ 2 ^ 24
/-- (by natural numbers: the kernel then compares no great ints) -/
def rgB : Int → Int → Bool
  | .ofNat m, .ofNat n => Nat.ble m 1000000 && Nat.ble n 1000000
  | _, _ => false
def rgOk (i j : Int) : Prop := rgB i j = true
instance (i j : Int) : Decidable (rgOk i j) := inferInstanceAs (Decidable (_ = true))
theorem rgOk_of {i j : Int} (h0 : 0 ≤ i) (h1 : i ≤ 1000000) (h2 : 0 ≤ j) (h3 : j ≤ 1000000) : rgOk i j := by
  obtain ⟨m, rfl⟩ := Int.eq_ofNat_of_zero_le h0
  obtain ⟨n, rfl⟩ := Int.eq_ofNat_of_zero_le h2
  show (Nat.ble m 1000000 && Nat.ble n 1000000) = true
  rw [Bool.and_eq_true, Nat.ble_eq, Nat.ble_eq]
  omega
theorem rgOk.old {i j : Int} (h : rgOk i j) : rgOld i j := by
  cases i with
  | negSucc m => cases j <;> cases h
  | ofNat m =>
    cases j with
    | negSucc n => cases h
    | ofNat n =>
      have h : (Nat.ble m 1000000 && Nat.ble n 1000000) = true := h
      rw [Bool.and_eq_true, Nat.ble_eq, Nat.ble_eq] at h
      show -(2 ^ 62) ≤ (m : Int) ∧ (m : Int) < 2 ^ 62 ∧ -(2 ^ 62) ≤ (n : Int) ∧ (n : Int) < 2 ^ 62 ∧ ((n : Int) - m).toNat ≤ 2 ^ 24
      refine ⟨?_, ?_, ?_, ?_, ?_⟩ <;> omega
def mkRgT (x y : D) (st : Stt) : R D := match x, y with
  | .int i, .int j => if rgOk i j then .ok (.tup (rgD i j)) st else .no
  | _, _ => .no
def mkRgL (x y : D) (st : Stt) : R D := match x, y with
  | .int i, .int j => if rgOk i j then .ok (.loc st.length) (st ++ [.lst (rgD i j)]) else .no
  | _, _ => .no
def xTupRg (fa fb : XE) : XE := fun ρ st => (fa ρ st).bind fun x s => (fb ρ s).bind fun y s => mkRgT x y s
def xLstRg (fa fb : XE) : XE := fun ρ st => (fa ρ st).bind fun x s => (fb ρ s).bind fun y s => mkRgL x y s
theorem rg_int {g : Int → Int → Stt → R D} {Wd : Exn → Hp → List Addr → Prop} {H : Hp} {μ : List Addr} {st : Stt} {Q : D → Stt → Hp → List Addr → Prop} {x y : D} {f : D → D → Stt → R D}
    (hf : ∀ x y st, f x y st = match x, y with | .int i, .int j => if rgOk i j then g i j st else .no | _, _ => .no) {xv yv : V} (rx : Rl K H μ x xv) (ry : Rl K H μ y yv) (h : RO K Wd H μ Q (f x y st)) :
    ∃ i j, xv = .int i ∧ yv = .int j ∧ rgOld i j ∧ RO K Wd H μ Q (g i j st) := by
  rw [hf] at h
  split at h
  · rename_i i j
    split at h
    · rename_i hk
      cases rx
      cases ry
      exact ⟨i, j, rfl, rfl, hk.old, h⟩
    · exact h.elim
  · exact h.elim
section
variable {p p2 q : Pos}
theorem e_tupRg1 (hm : X.mg "tuple" = none) (hm2 : X.mg "range" = none) (hc : X.calm = true) (hb : PE X b (tX X.K W fb)) (hg : Gl X "tuple" := by rfl) (hg2 : Gl X "range" := by rfl)
    (nb : starEach [b] X.env = (false, eval b X.env) :: starEach [] X.env := by rfl) (nc : starEach [.Call (.Name "range" p2) [b] [] q] X.env = (false, eval (.Call (.Name "range" p2) [b] [] q) X.env) :: starEach [] X.env := by rfl) :
    PE X (.Call (.Name "tuple" p) [.Call (.Name "range" p2) [b] [] q] [] pos) (tX X.K W (xTupRg (xC (.int 0)) fb)) :=
  pe_imp (pe_tupRg hc hg hm (prg_1 hg2 hm2 hb nb) nc) fun σ H Q ⟨ρ, st, μ, E, S, h⟩ => by
    have h : RO X.K (wx X.K W σ) H μ (QD X.K Q) ((fb ρ st).bind fun y s => mkRgT (.int 0) y s) := h
    refine tX_of E S h.bind fun y s2 H2 μ2 yv e2 E2 S2 r2 h2 => ?_
    obtain ⟨i, j, ei, rfl, hk, h3⟩ := rg_int (g := fun i j st => .ok (.tup (rgD i j)) st) (fun x y st => by unfold mkRgT; rfl) (.int 0) r2 h2
    cases ei
    exact ⟨j, rfl, hk, fun l hl => h3 _ μ2 (ext_tup hl _) (S2.tup hl _) _ (.tup (.inl (.inl upd_same)) (rgD_ok _ _))⟩
theorem e_tupRg2 (hm : X.mg "tuple" = none) (hm2 : X.mg "range" = none) (hc : X.calm = true) (ha : PE X a (tX X.K W fa)) (hb : PE X b (tX X.K W fb)) (hg : Gl X "tuple" := by rfl) (hg2 : Gl X "range" := by rfl)
    (na : starEach [a, b] X.env = (false, eval a X.env) :: starEach [b] X.env := by rfl) (nb : starEach [b] X.env = (false, eval b X.env) :: starEach [] X.env := by rfl)
    (hp : (backTo q (starEach [b] X.env)).any (·.1) = false := by rfl) (nc : starEach [.Call (.Name "range" p2) [a, b] [] q] X.env = (false, eval (.Call (.Name "range" p2) [a, b] [] q) X.env) :: starEach [] X.env := by rfl) :
    PE X (.Call (.Name "tuple" p) [.Call (.Name "range" p2) [a, b] [] q] [] pos) (tX X.K W (xTupRg fa fb)) :=
  pe_imp (pe_tupRg hc hg hm (prg_2 hg2 hm2 ha hb na nb hp) nc) fun σ H Q ⟨ρ, st, μ, E, S, h⟩ => by
    refine tX_of E S h.bind fun x s1 H1 μ1 xv e1 E1 S1 r1 h1 => ?_
    refine tX_of E1 S1 h1.bind fun y s2 H2 μ2 yv e2 E2 S2 r2 h2 => ?_
    obtain ⟨i, j, rfl, rfl, hk, h3⟩ := rg_int (g := fun i j st => .ok (.tup (rgD i j)) st) (fun x y st => by unfold mkRgT; rfl) (r1.ext e2) r2 h2
    exact ⟨i, j, rfl, rfl, hk, fun l hl => h3 _ μ2 (ext_tup hl _) (S2.tup hl _) _ (.tup (.inl (.inl upd_same)) (rgD_ok _ _))⟩
theorem e_lstRg1 (hm : X.mg "list" = none) (hm2 : X.mg "range" = none) (hc : X.calm = true) (hb : PE X b (tX X.K W fb)) (hg : Gl X "list" := by rfl) (hg2 : Gl X "range" := by rfl)
    (nb : starEach [b] X.env = (false, eval b X.env) :: starEach [] X.env := by rfl) (nc : starEach [.Call (.Name "range" p2) [b] [] q] X.env = (false, eval (.Call (.Name "range" p2) [b] [] q) X.env) :: starEach [] X.env := by rfl) :
    PE X (.Call (.Name "list" p) [.Call (.Name "range" p2) [b] [] q] [] pos) (tX X.K W (xLstRg (xC (.int 0)) fb)) :=
  pe_imp (pe_listRg hc hg hm (prg_1 hg2 hm2 hb nb) nc) fun σ H Q ⟨ρ, st, μ, E, S, h⟩ => by
    have h : RO X.K (wx X.K W σ) H μ (QD X.K Q) ((fb ρ st).bind fun y s => mkRgL (.int 0) y s) := h
    refine tX_of E S h.bind fun y s2 H2 μ2 yv e2 E2 S2 r2 h2 => ?_
    obtain ⟨i, j, ei, rfl, hk, h3⟩ := rg_int (g := fun i j st => .ok (.loc st.length) (st ++ [.lst (rgD i j)])) (fun x y st => by unfold mkRgL; rfl) (.int 0) r2 h2
    cases ei
    exact ⟨j, rfl, hk, fun l hl => h3 _ _ (ext_new hl _) (S2.newL hl (rgD_ok _ _)) _ (loc_new S2)⟩
end
/-! ### dicts of the module, keys are texts -/
def wget (kvs : List (Str × D)) (z : Str) : Option D := (kvs.find? fun p => p.1 == z).map (·.2)
inductive WE (K : PySem.W.Frag) (w : World) : List (Str × D) → List DictEntry → Prop
  | nil : WE K w [] []
  | cons {x : Str} {t : Tok} {h : Int} {u : Value} {d : D} {kvs : List (Str × D)} {es : List DictEntry} : h = PyData.keyHash w.params x → WT K d u → WE K w kvs es → WE K w ((x, d) :: kvs) (⟨h, .str x t, u⟩ :: es)
structure WD (K : PySem.W.Frag) (w : World) (p : Addr) (kvs : List (Str × D)) : Prop where
  at_ : ∃ es n, K.lookup p = some ⟨.type "dict", none, .dict es n, #[]⟩ ∧ WE K w kvs es.toList
  low : (p == sysModules) = false
theorem WE.lit {w : World} : ∀ {kvs : List (Str × D)} {es : List DictEntry}, WE K w kvs es → PySem.W.KeysLit w.params es
  | _, _, .nil => trivial
  | _, _, .cons h _ r => ⟨⟨_, _, rfl, h⟩, r.lit⟩
theorem WE.find {w : World} (z : Str) : ∀ {kvs : List (Str × D)} {es : List DictEntry}, WE K w kvs es → match wget kvs z with
    | some d => ∃ u, (es.find? fun e => Value.isStrOf z e.key).map (·.val) = some u ∧ WT K d u
    | none => (es.find? fun e => Value.isStrOf z e.key).map (·.val) = none
  | _, _, .nil => rfl
  | (x, d) :: kvs, _, .cons (t := t) (h := hh) (u := u) (es := es) h q r => by
    have ih := WE.find z r
    unfold wget at ih ⊢
    have e : Value.isStrOf z (Value.str x t) = (x == z) := rfl
    rw [List.find?_cons, List.find?_cons]
    show match Option.map (·.2) (match x == z with | true => some (x, d) | false => kvs.find? fun p => p.1 == z) with
      | some d => ∃ u', Option.map (·.val) (match Value.isStrOf z (Value.str x t) with | true => some (⟨hh, .str x t, u⟩ : DictEntry) | false => es.find? fun e => Value.isStrOf z e.key) = some u' ∧ WT K d u'
      | none => Option.map (·.val) (match Value.isStrOf z (Value.str x t) with | true => some (⟨hh, .str x t, u⟩ : DictEntry) | false => es.find? fun e => Value.isStrOf z e.key) = none
    rw [e]
    cases x == z with
    | true => exact ⟨u, rfl, q⟩
    | false => exact ih
theorem wd_find {w : World} {p : Addr} {kvs : List (Str × D)} (D' : WD K w p kvs) (z : Str) : ∃ es n, K.lookup p = some ⟨.type "dict", none, .dict es n, #[]⟩ ∧ PySem.W.KeysLit w.params es.toList ∧ match wget kvs z with
    | some d => ∃ u, findBy Value.isStrOf es z = some u ∧ WT K d u
    | none => findBy Value.isStrOf es z = none := by
  obtain ⟨es, n, hl, we⟩ := D'.at_
  refine ⟨es, n, hl, we.lit, ?_⟩
  have := we.find z
  unfold findBy
  obtain ⟨l⟩ := es
  rw [List.find?_toArray]
  exact this
def oWGet (kvs : List (Str × D)) : Op1 := fun d st => match d with
  | .str z => (wget kvs z).map fun d => (d, st)
  | _ => none
def oWHas (kvs : List (Str × D)) : Op1 := fun d st => match d with
  | .str z => some (.bl (wget kvs z).isSome, st)
  | _ => none
def oWHasnt (kvs : List (Str × D)) : Op1 := fun d st => match d with
  | .str z => some (.bl (!(wget kvs z).isSome), st)
  | _ => none
end
section
variable {X : Cx} {a b c e : Expr} {es : List Expr} {fa fb fc : XE} {pos : Pos} {W : WX} {kvs : List (Str × D)} {p : Addr}
/-- the rule, by the pairs -/
def rWGet (K : PySem.W.Frag) (p : Addr) (kvs : List (Str × D)) : R2 := fun x y H Q => ∃ z d, x = .ref p ∧ y = .str z ∧ wget kvs z = some d ∧ ∀ v u, WT K d u → RelV v u → Q v H
theorem ix_wd (w : WD X.K X.w p kvs) : IxR X (rWGet X.K p kvs) := by
  intro value slice pins s σ H x y v u Q I rx ry h hs
  obtain ⟨z, d, rfl, rfl, hg, q⟩ := h
  obtain rfl : v = Value.ref p := rx
  obtain ⟨t, rfl⟩ := ry
  obtain ⟨es, n, hl, hk, hf⟩ := wd_find w z
  rw [hg] at hf
  obtain ⟨u0, hf, wt⟩ := hf
  obtain ⟨v0, rv, _⟩ := WT.ok (H := H) (μ := []) wt
  have hm := PySem.W.mapOf_K (prog := X.prog) (w := X.w) I.kIn hl hk
  exact tail_any hm.typeIs slot_dict_getitem.lookup (wpAny_getItem_of (strKind_is X.prog X.w z t) hm hf ⟨v0, H, I.tok _, rv, q v0 u0 wt rv⟩) hs
def rWIn (p : Addr) (kvs : List (Str × D)) (neg : Bool) : R2 := fun x y H Q => ∃ z, x = .str z ∧ y = .ref p ∧ Q (.bl (if neg then !(wget kvs z).isSome else (wget kvs z).isSome)) H
theorem wd_some {K : PySem.W.Frag} {o : Option D} {r : Option Value} (h : match o with
    | some d => ∃ u, r = some u ∧ WT K d u
    | none => r = none) : r.isSome = o.isSome := by
  cases o with
  | none => rw [h]; rfl
  | some d => obtain ⟨u, e, _⟩ := h; rw [e]; rfl
theorem op_inW (w : WD X.K X.w p kvs) : OpR X (compareOp .In) (rWIn p kvs false) := by
  intro pins s σ H x y v u Q I rx ry h
  obtain ⟨z, rfl, rfl, q⟩ := h
  obtain ⟨t, rfl⟩ := rx
  cases ry
  obtain ⟨es, n, hl, hk, hf⟩ := wd_find w z
  exact wpAny_in_of (PySem.strKind_is X.prog X.w z t) w.low (PySem.W.mapOf_K (prog := X.prog) I.kIn hl hk) ⟨.bl _, H, I.tok _, rfl, by rw [wd_some hf]; exact q⟩
theorem op_notInW (w : WD X.K X.w p kvs) : OpR X (compareOp .NotIn) (rWIn p kvs true) := by
  intro pins s σ H x y v u Q I rx ry h
  obtain ⟨z, rfl, rfl, q⟩ := h
  obtain ⟨t, rfl⟩ := rx
  cases ry
  obtain ⟨es, n, hl, hk, hf⟩ := wd_find w z
  exact wpAny_notIn_of (PySem.strKind_is X.prog X.w z t) w.low (PySem.W.mapOf_K (prog := X.prog) I.kIn hl hk) ⟨.bl _, H, I.tok _, rfl, by rw [wd_some hf]; exact q⟩
theorem pc_op {op : CmpOp} {r : R2} {ta tb : TE} (ho : OpR X (compareOp op) r) (ha : PE X a ta) (hb : PE X b tb) : PC X op a b (tOp r ta tb) :=
  ⟨fun _ _ _ _ _ I h => binT ha hb I h fun v u s2 x y H2 I2 rx ry q => ho _ s2 _ H2 x y v u _ I2 rx ry q⟩
theorem e_wget {x : Str} {p1 : Pos} {i : Expr} {fi : XE} (hm : X.mg x = some (.ref p)) (w : WD X.K X.w p kvs) (hi : PE X i (tX X.K W fi)) (hg : Gl X x := by rfl) (hd : (x == ("__debug__" : Str)) = false := by decide) (hs : PlainIx i := by exact fun _ _ => rfl) :
    PE X (.Subscript (.Name x p1) i pos) (tX X.K W (x1 (oWGet kvs) fi)) :=
  pe_imp (pe_ix (ix_wd w) (pe_glob (v := .ref p) hg hm rfl hd) hi hs) fun σ H Q ⟨ρ, st, μ, E, S, h⟩ => by
    show tX X.K W fi σ H _
    refine tX_of E S h.bind fun y s2 H2 μ2 yv e2 E2 S2 r2 h2 => ?_
    obtain ⟨d, s3, h3, k⟩ := h2.of
    unfold oWGet at h3
    split at h3
    · rename_i z
      obtain ⟨dd, h4, h5⟩ := Option.map_eq_some_iff.mp h3
      obtain ⟨ed, es⟩ := Prod.mk.inj h5
      subst ed es
      cases r2
      refine ⟨z, dd, rfl, rfl, h4, fun v u wt rv => ?_⟩
      obtain ⟨v', rv', q⟩ := WT.ok (H := H2) (μ := μ2) wt
      rw [rv.inj rv']
      exact k H2 μ2 (Ext.refl _ _) S2 v' q
    · cases h3
theorem c_win {x : Str} {p1 : Pos} {i : Expr} {fi : XE} (hm : X.mg x = some (.ref p)) (w : WD X.K X.w p kvs) (hi : PE X i (tX X.K W fi)) (hg : Gl X x := by rfl) (hd : (x == ("__debug__" : Str)) = false := by decide) :
    PC X .In i (.Name x p1) (tX X.K W (x1 (oWHas kvs) fi)) :=
  ⟨fun pins s σ H Q I ⟨ρ, st, μ, E, S, h⟩ => (pc_op (op_inW w) hi (pe_glob (v := .ref p) hg hm rfl hd)).run pins s σ H Q I (by
    refine tX_of E S h.bind fun y s2 H2 μ2 yv e2 E2 S2 r2 h2 => ?_
    obtain ⟨d, s3, h3, k⟩ := h2.of
    unfold oWHas at h3
    split at h3
    · rename_i z
      cases h3
      cases r2
      exact ⟨z, rfl, rfl, k H2 μ2 (Ext.refl _ _) S2 _ (.bl _)⟩
    · cases h3)⟩
theorem c_wnotin {x : Str} {p1 : Pos} {i : Expr} {fi : XE} (hm : X.mg x = some (.ref p)) (w : WD X.K X.w p kvs) (hi : PE X i (tX X.K W fi)) (hg : Gl X x := by rfl) (hd : (x == ("__debug__" : Str)) = false := by decide) :
    PC X .NotIn i (.Name x p1) (tX X.K W (x1 (oWHasnt kvs) fi)) :=
  ⟨fun pins s σ H Q I ⟨ρ, st, μ, E, S, h⟩ => (pc_op (op_notInW w) hi (pe_glob (v := .ref p) hg hm rfl hd)).run pins s σ H Q I (by
    refine tX_of E S h.bind fun y s2 H2 μ2 yv e2 E2 S2 r2 h2 => ?_
    obtain ⟨d, s3, h3, k⟩ := h2.of
    unfold oWHasnt at h3
    split at h3
    · rename_i z
      cases h3
      cases r2
      exact ⟨z, rfl, rfl, k H2 μ2 (Ext.refl _ _) S2 _ (.bl _)⟩
    · cases h3)⟩
end
end Rg

set_option Elab.async false
set_option linter.all false
set_option maxRecDepth 100000
namespace Rg
open PySem PySem.Spec PyProof.Rows L2
variable {K : PySem.W.Frag}
/-! ### the order of texts -/
def leS (x y : Str) : Bool := !ltCps y.cps.toList x.cps.toList
theorem leS_iff (x y : Str) : leS x y = true ↔ x.cps.toList ≤ y.cps.toList := by
  unfold leS
  rw [ltCps_eq, Bool.not_eq_true', decide_eq_false_iff_not, List.not_lt]
theorem leS_trans (a b c : Str) (h : leS a b = true) (k : leS b c = true) : leS a c = true := by
  rw [leS_iff] at *
  exact List.le_trans h k
theorem leS_total (a b : Str) : (leS a b || leS b a) = true := by
  rw [Bool.or_eq_true, leS_iff, leS_iff]
  exact List.le_total _ _
theorem leS_anti {a b : Str} (h : leS a b = true) (k : leS b a = true) : a = b := by
  rw [leS_iff] at *
  have e := List.le_antisymm h k
  obtain ⟨⟨l⟩⟩ := a
  obtain ⟨⟨m⟩⟩ := b
  have e : l = m := e
  rw [e]
theorem rising_pw : ∀ (l : List Str) (p : Str), risingS p l = true → (p :: l).Pairwise fun a b => leS a b = true
  | [], p, _ => by simp
  | x :: r, p, h => by
    have h : (!ltCps x.cps.toList p.cps.toList && risingS x r) = true := h
    rw [Bool.and_eq_true] at h
    have ih := rising_pw r x h.2
    refine List.pairwise_cons.mpr ⟨fun y hy => ?_, ih⟩
    rcases List.mem_cons.mp hy with rfl | hy
    · exact h.1
    · exact leS_trans _ _ _ h.1 ((List.pairwise_cons.mp ih).1 y hy)
theorem sorted_pw : ∀ l : List Str, sortedS l = true → l.Pairwise fun a b => leS a b = true
  | [], _ => .nil
  | x :: r, h => rising_pw r x h
def sortS (l : List Str) : List Str := l.mergeSort leS
theorem sortS_is {l ys : List Str} (p : ys.Perm l) (h : ys.Pairwise fun a b => leS a b = true) : ys = sortS l :=
  List.Perm.eq_of_pairwise (le := fun a b => leS a b = true) (fun a b _ _ => leS_anti) h (List.pairwise_mergeSort leS_trans leS_total l) (p.trans (List.mergeSort_perm l leS).symm)
def leI (x y : Int) : Bool := decide (x ≤ y)
def sortI (l : List Int) : List Int := l.mergeSort leI
theorem leI_trans (a b c : Int) (h : leI a b = true) (k : leI b c = true) : leI a c = true := by
  unfold leI at *
  rw [decide_eq_true_iff] at *
  omega
theorem leI_total (a b : Int) : (leI a b || leI b a) = true := by
  unfold leI
  rw [Bool.or_eq_true, decide_eq_true_iff, decide_eq_true_iff]
  omega
theorem sortI_is {l ys : List Int} (p : ys.Perm l) (h : ys.Pairwise (· ≤ ·)) : ys = sortI l :=
  List.Perm.eq_of_pairwise (le := fun a b : Int => leI a b = true) (fun a b _ _ h k => Int.le_antisymm (of_decide_eq_true h) (of_decide_eq_true k)) (h.imp fun {_ _} z => by unfold leI; exact decide_eq_true z)
    (List.pairwise_mergeSort leI_trans leI_total l) (p.trans (List.mergeSort_perm l leI).symm)
/-! ### sorted -/
def intsOf : List D → Option (List Int)
  | [] => some []
  | .int b :: r => (intsOf r).map (b :: ·)
  | _ => none
theorem intsOf_map : ∀ (ds : List D) (bs : List Int), intsOf ds = some bs → ds = bs.map D.int
  | [], bs, h => by cases h; rfl
  | .int b :: r, bs, h => by
    obtain ⟨cs, h1, h2⟩ := Option.map_eq_some_iff.mp h
    subst h2
    rw [intsOf_map r cs h1]
    rfl
  | .non :: r, bs, h => by cases h
  | .bl _ :: r, bs, h => by cases h
  | .str _ :: r, bs, h => by cases h
  | .tup _ :: r, bs, h => by cases h
  | .cl _ :: r, bs, h => by cases h
  | .opq _ _ :: r, bs, h => by cases h
  | .exo _ _ _ _ :: r, bs, h => by cases h
  | .loc _ :: r, bs, h => by cases h
@[simp] theorem intsOf_ints : ∀ l : List Int, intsOf (l.map D.int) = some l
  | [] => rfl
  | i :: l => by
    show (intsOf (l.map D.int)).map (i :: ·) = _
    rw [intsOf_ints l]
    rfl
@[simp] theorem txts_strs : ∀ l : List Str, txts (l.map D.str) = some l
  | [] => rfl
  | i :: l => by
    show (txts (l.map D.str)).map (i :: ·) = _
    rw [txts_strs l]
    rfl
theorem ints_rls {H : Hp} {μ : List Addr} : ∀ (bs : List Int) (vs : List V), Rls K H μ (bs.map D.int) vs → vs = bs.map V.int
  | [], vs, r => r.nil_inv
  | b :: bs, vs, r => by
    obtain ⟨v, us, rfl, r1, r2⟩ := Rls.cons_inv r
    cases r1
    rw [ints_rls bs us r2]
    rfl
theorem Rls.txs {H : Hp} {μ : List Addr} : ∀ ns : List Str, Rls K H μ (ns.map D.str) (ns.map V.str)
  | [] => .nil
  | n :: ns => .cons (.str n) (Rls.txs ns)
/-- the keys of a dict, as values -/
def kD : Key → D
  | .inl i => .int i
  | .inr x => .str x
theorem kD_ok {H : Hp} {μ : List Addr} (k : Key) : Rl K H μ (kD k) (kV k) := by
  cases k with
  | inl i => exact .int i
  | inr x => exact .str x
theorem KR.keys {H : Hp} {μ : List Addr} : ∀ {kd : List (Key × D)} {kv : List (Key × V)}, KR K H μ kd kv → kv.map (·.1) = kd.map (·.1)
  | _, _, .nil => rfl
  | _, _, .cons h t => by rw [List.map_cons, List.map_cons, KR.keys t, h.1]
theorem keys_rls {H : Hp} {μ : List Addr} {kd : List (Key × D)} {kv : List (Key × V)} (r : KR K H μ kd kv) : Rls K H μ (kd.map fun p => kD p.1) (kv.map fun p => kV p.1) := by
  induction r with
  | nil => exact .nil
  | @cons x y _ _ h t ih =>
    have e : x.1 = y.1 := h.1
    exact .cons (show Rl K H μ (kD x.1) (kV y.1) by rw [← e]; exact kD_ok _) ih
def skeys : List Key → Option (List Str)
  | [] => some []
  | .inr x :: r => (skeys r).map (x :: ·)
  | _ => none
theorem skeys_map : ∀ (ks : List Key) (bs : List Str), skeys ks = some bs → ks = bs.map Sum.inr
  | [], bs, h => by cases h; rfl
  | .inr b :: r, bs, h => by
    obtain ⟨cs, h1, h2⟩ := Option.map_eq_some_iff.mp h
    subst h2
    rw [skeys_map r cs h1]
    rfl
  | .inl _ :: r, bs, h => by cases h
def ikeys : List Key → Option (List Int)
  | [] => some []
  | .inl x :: r => (ikeys r).map (x :: ·)
  | _ => none
theorem ikeys_map : ∀ (ks : List Key) (bs : List Int), ikeys ks = some bs → ks = bs.map Sum.inl
  | [], bs, h => by cases h; rfl
  | .inl b :: r, bs, h => by
    obtain ⟨cs, h1, h2⟩ := Option.map_eq_some_iff.mp h
    subst h2
    rw [ikeys_map r cs h1]
    rfl
  | .inr _ :: r, bs, h => by cases h
def sortD (ds : List D) : Option (List D) := if ds.length < 64 then match txts ds with
  | some xs => some ((sortS xs).map D.str)
  | none => (intsOf ds).map fun ns => (sortI ns).map D.int
  else none
def sortK (ks : List Key) : Option (List D) := if ks.length < 64 then match skeys ks with
  | some xs => some ((sortS xs).map D.str)
  | none => (ikeys ks).map fun ns => (sortI ns).map D.int
  else none
def fSorted : BF := fun xs st => match xs with
  | [d] => match dctAt st d with
    | some p => (sortK (p.2.map (·.1))).map fun ds => (.loc st.length, st ++ [.lst ds])
    | none => (litems st d).bind fun ds => (sortD ds).map fun es => (.loc st.length, st ++ [.lst es])
  | _ => none
abbrev rSortA (K : PySem.W.Frag) : List V → Hp → VK → Prop := fun vs H Q => rSortedS K vs H Q ∨ (rSorted K vs H Q ∨
  ((∃ (a : Addr) (kvs : List (Key × V)) (ks : List Str), vs = [.ref a] ∧ Rd H a (.dK kvs) ∧ kvs.map (·.1) = ks.map Sum.inr ∧ ks.length < 64 ∧ ∀ ys p, ys.Perm ks → sortedS ys = true → H p = none → Q (.ref p) (upd H p (.lst (ys.map V.str)))) ∨
  (∃ (a : Addr) (kvs : List (Key × V)) (ks : List Int), vs = [.ref a] ∧ Rd H a (.dK kvs) ∧ kvs.map (·.1) = ks.map Sum.inl ∧ ks.length < 64 ∧ ∀ (ys : List Int) (p : Addr), ys.Perm ks → ys.Pairwise (· ≤ ·) → H p = none → Q (.ref p) (upd H p (.lst (ys.map V.int))))))
theorem call_sortA {X : Cx} (hc : X.calm = true) : CallR X (.builtin "sorted") (rSortA X.K) := cr_sortedS.or (cr_sorted.or ((call_sortedD hc).or (call_sortedDI hc)))
theorem does_sorted : DoesN K (rSortA K) fSorted := fun xs st d st' vs H μ Q r S h q => by
  unfold fSorted at h
  split at h
  · rename_i d0
    obtain ⟨v, rfl, rv⟩ := rls1 r
    split at h
    · rename_i pp hp
      obtain ⟨n, kvs⟩ := pp
      obtain ⟨rfl, e4⟩ := dctAt_some hp
      obtain ⟨ds, h1, h⟩ := Option.map_eq_some_iff.mp h
      cases h
      obtain ⟨a, us, rfl, ha, t, q1⟩ := S.dct e4 rv
      unfold sortK at h1
      split at h1
      · rename_i h64
        rw [List.length_map] at h64
        have h64 : kvs.length < 64 := h64
        have hkeys := KR.keys q1
        split at h1
        · rename_i bs hb
          cases h1
          have hb := skeys_map _ _ hb
          have hl : bs.length = kvs.length := by
            have := congrArg List.length hb
            rw [List.length_map, List.length_map] at this
            exact (show kvs.length = _ from this).symm
          refine .inr (.inr (.inl ⟨a, us, bs, rfl, .inl t, hkeys.trans hb, by omega, fun ys p hy hs hn => ?_⟩))
          rw [sortS_is hy (sorted_pw _ hs)]
          exact q _ _ _ (ext_new hn _) (S.newL hn (Rls.txs _)) (loc_new S)
        · obtain ⟨ns, h2, h1⟩ := Option.map_eq_some_iff.mp h1
          cases h1
          have hb := ikeys_map _ _ h2
          have hl : ns.length = kvs.length := by
            have := congrArg List.length hb
            rw [List.length_map, List.length_map] at this
            exact (show kvs.length = _ from this).symm
          refine .inr (.inr (.inr ⟨a, us, ns, rfl, .inl t, hkeys.trans hb, by omega, fun ys p hy hs hn => ?_⟩))
          rw [sortI_is hy hs]
          exact q _ _ _ (ext_new hn _) (S.newL hn (Rls.ints _)) (loc_new S)
      · cases h1
    · obtain ⟨ds, h1, h⟩ := Option.bind_eq_some_iff.mp h
      obtain ⟨es, h2, h⟩ := Option.map_eq_some_iff.mp h
      cases h
      obtain ⟨a, us, rfl, hq, q1⟩ := litems_seq (K := K) S h1 rv
      unfold sortD at h2
      split at h2
      · rename_i h64
        split at h2
        · rename_i bs hb
          cases h2
          have hb := txts_map _ _ hb
          subst hb
          rw [List.length_map] at h64
          have := txts_rls _ _ q1
          subst this
          refine .inl ⟨a, bs, rfl, hq, h64, fun ys p hy hs hn => ?_⟩
          rw [sortS_is hy (sorted_pw _ hs)]
          exact q _ _ _ (ext_new hn _) (S.newL hn (Rls.txs _)) (loc_new S)
        · obtain ⟨ns, h3, h2⟩ := Option.map_eq_some_iff.mp h2
          cases h2
          have hb := intsOf_map _ _ h3
          subst hb
          rw [List.length_map] at h64
          have := ints_rls _ _ q1
          subst this
          refine .inr (.inl ⟨a, ns, rfl, hq, h64, fun ys p hy hs hn => ?_⟩)
          rw [sortI_is hy hs]
          exact q _ _ _ (ext_new hn _) (S.newL hn (Rls.ints _)) (loc_new S)
      · cases h2
  · cases h
/-! ### list(dict), dict(pairs) -/
def fListE : BF := fun xs st => match xs with
  | [d] => match dctAt st d with
    | some p => some (.loc st.length, st ++ [.lst (p.2.map fun kv => kD kv.1)])
    | none => fList [d] st
  | xs => fList xs st
abbrev rListE (K : PySem.W.Frag) : List V → Hp → VK → Prop := fun xs H Q => rListD' K xs H Q ∨ rListD xs H Q
theorem call_listE {X : Cx} (hc : X.calm = true) : CallR X (.type "list") (rListE X.K) := (call_listD' hc).or (call_list_dK hc)
theorem does_listE : DoesN K (rListE K) fListE := fun xs st d st' vs H μ Q r S h q => by
  unfold fListE at h
  split at h
  · rename_i d0
    split at h
    · rename_i pp hp
      obtain ⟨n, kvs⟩ := pp
      cases h
      obtain ⟨v, rfl, rv⟩ := rls1 r
      obtain ⟨rfl, e4⟩ := dctAt_some hp
      obtain ⟨a, us, rfl, ha, t, q1⟩ := S.dct e4 rv
      exact .inr ⟨a, us, rfl, t, fun l hl => q _ _ _ (ext_new hl _) (S.newL hl (keys_rls q1)) (loc_new S)⟩
    · exact .inl (does_list _ _ _ _ _ _ _ _ r S h q)
  · exact .inl (does_list _ _ _ _ _ _ _ _ r S h q)
/-- the pairs of a list -/
def pairsD : List D → Option (List (Key × D))
  | [] => some []
  | .tup [k, d] :: r => (keyD k).bind fun k => (pairsD r).map ((k, d) :: ·)
  | _ => none
theorem pairsD_ok {H : Hp} {μ : List Addr} : ∀ (ds : List D) (kvs : List (Key × D)) (vs : List V), pairsD ds = some kvs → Rls K H μ ds vs → ∃ (ps : List Addr) (us : List (Key × V)), vs = ps.map V.ref ∧ Paired (fun p kv => SqT K H p [kV kv.1, kv.2]) ps us ∧ KR K H μ kvs us
  | [], kvs, vs, h, r => by
    cases h
    cases r
    exact ⟨[], [], rfl, .nil, .nil⟩
  | .tup [k, d] :: ds, kvs, vs, h, r => by
    obtain ⟨key, h1, h⟩ := Option.bind_eq_some_iff.mp h
    obtain ⟨more, h2, h⟩ := Option.map_eq_some_iff.mp h
    subst h
    obtain ⟨v, rest, rfl, r1, r2⟩ := Rls.cons_inv r
    obtain ⟨ps, us, rfl, p1, p2⟩ := pairsD_ok ds more rest h2 r2
    obtain ⟨a, ws, rfl, hq, q1⟩ := seqT r1
    obtain ⟨x, y, rfl, rx, ry⟩ := rls2 q1
    have := keyD_ok rx h1
    subst this
    exact ⟨a :: ps, (key, y) :: us, rfl, .cons hq p1, .cons ⟨rfl, ry⟩ p2⟩
  | .tup [] :: _, _, _, h, _ => by cases h
  | .tup [_] :: _, _, _, h, _ => by cases h
  | .tup (_ :: _ :: _ :: _) :: _, _, _, h, _ => by cases h
  | .non :: _, _, _, h, _ => by cases h
  | .bl _ :: _, _, _, h, _ => by cases h
  | .int _ :: _, _, _, h, _ => by cases h
  | .str _ :: _, _, _, h, _ => by cases h
  | .cl _ :: _, _, _, h, _ => by cases h
  | .opq _ _ :: _, _, _, h, _ => by cases h
  | .exo _ _ _ _ :: _, _, _, h, _ => by cases h
  | .loc _ :: _, _, _, h, _ => by cases h
def fDict : BF := fun xs st => match xs with
  | [d] => (litems st d).bind fun ds => (pairsD ds).map fun kvs => (.loc st.length, st ++ [.dct (mergeD kvs)])
  | _ => none
abbrev rDictP (K : PySem.W.Frag) : List V → Hp → VK → Prop := fun xs H Q => ∃ (a : Addr) (ps : List Addr) (kvs : List (Key × V)), xs = [.ref a] ∧ SqL K H a (ps.map V.ref) ∧ Paired (fun p kv => SqT K H p [kV kv.1, kv.2]) ps kvs ∧
    ∀ p, H p = none → Q (.ref p) (upd H p (.dK (mergeK [] kvs)))
theorem call_dictA {X : Cx} (hc : X.calm = true) : CallR X (.type "dict") (rDictP X.K) := call_dictP hc
theorem does_dictP : DoesN K (rDictP K) fDict := fun xs st d st' vs H μ Q r S h q => by
  unfold fDict at h
  split at h
  · rename_i d0
    obtain ⟨ds, h1, h⟩ := Option.bind_eq_some_iff.mp h
    obtain ⟨kvs, h2, h⟩ := Option.map_eq_some_iff.mp h
    cases h
    obtain ⟨v, rfl, rv⟩ := rls1 r
    obtain ⟨a, us, rfl, hq, q1⟩ := litems_seq (K := K) S h1 rv
    obtain ⟨ps, ks, rfl, p1, p2⟩ := pairsD_ok _ _ _ h2 q1
    refine ⟨a, ps, ks, rfl, hq, p1, fun l hl => q _ _ _ (ext_new hl _) (S.new (o := .dct (mergeD kvs)) hl ⟨_, upd_same, ?_⟩) (loc_new S)⟩
    exact KR.ext (ext_new hl _) (kr_merge p2 (.nil : KR K H μ [] []))
  · cases h
end Rg

set_option Elab.async false
set_option linter.all false
set_option maxRecDepth 100000
set_option maxHeartbeats 3200000
namespace Rg
open PySem PySem.Spec PyProof.Rows L2
open PySem.Froz (sObj TxOk addTx add_x is_str)
variable {P : Program} {w : World} {A : Around} {E : Value → Shared → Prop} {s : Shared}
/-- the set of the texts l at a; it can be walked -/
structure TS (P : Program) (w : World) (h : Heap) (a : Addr) (l : List Str) : Prop where
  ob : ∃ D, h.get? a = some (sObj "set" D) ∧ TxOk P w D l ∧ Ris D.2.2.place.toList ∧ (w.params.followText "set-order" = true ∨ D.2.2.led = true)
  nd : l.Nodup
theorem TS.at {h h' : Heap} {a : Addr} {l : List Str} (t : TS P w h a l) (k : ∀ o, h.get? a = some o → h'.get? a = some o) : TS P w h' a l := by
  obtain ⟨⟨D, h1, h2⟩, nd⟩ := t
  exact ⟨⟨D, k _ h1, h2⟩, nd⟩
def ins1 (l : List Str) (k : Str) : List Str := if k ∈ l then l else k :: l
theorem tail_ris {ep : Nat} {es : Array (Int × Value)} {t : SetTable} {b : Bool} (h : Ris t.place.toList) : Ris (Froz.tailTx ep es t b).2.2.place.toList := by
  unfold Froz.tailTx
  split
  · exact (relayAll_ris t es _)
  · exact h
theorem tail_led {ep : Nat} {es : Array (Int × Value)} {t : SetTable} {b : Bool} : (Froz.tailTx ep es t b).2.2.led = t.led := by
  unfold Froz.tailTx
  split
  · exact (relayAll_led t es _)
  · rfl
theorem addTx_ris (h : Int) (v : Value) (D : Froz.SD) (r : Ris D.2.2.place.toList) : Ris (addTx h v D).2.2.place.toList := by
  unfold addTx
  refine tail_ris ?_
  have := layNew_ris D.2.2 D.1 h v r
  split <;> exact this
theorem addTx_led (h : Int) (v : Value) (D : Froz.SD) : (addTx h v D).2.2.led = D.2.2.led := by
  unfold addTx
  rw [tail_led]
  have := layNew_led D.2.2 D.1 h v
  split <;> exact this
/-- one text into the set -/
theorem ts_add {a : Addr} {l : List Str} {k : Str} {u : Tok} {Q : Bool → Shared → Prop} (t : TS P w s.heap a l) (hb : l.length + 1 < scanBound)
    (q : ∀ h' b, (∀ c o, c ≠ a → s.heap.get? c = some o → h'.get? c = some o) → TS P w h' a (ins1 l k) → Q b { s with heap := h' }) : wpAny (model P w) A (setAddHashed a (.str k u) (hashStr w k)) Q E s := by
  obtain ⟨⟨D, ho, F, r, hl⟩, nd⟩ := t
  by_cases hk : k ∈ l
  · have q := q s.heap false (fun c o _ e => e) ⟨⟨D, ho, by unfold ins1; rw [if_pos hk]; exact F, r, hl⟩, by unfold ins1; rw [if_pos hk]; exact nd⟩
    obtain ⟨es, ep, t⟩ := D
    have hf : t.fits es.size = true := F.fit
    have hel : ElemsOf (strKind P w) es.toList := F.el
    have hb0 : es.size < scanBound := by have z : es.size = l.length := F.sz; omega
    have hkey := is_str (P := P) (w := w) k u
    unfold setAddHashed setAddHashedIn
    refine wpAny_holding (wpAny_bind (wpAny_setState_of ho rfl hf ?_))
    dsimp only
    rw [byScan_of (x := Value.str k u) rfl hb0 hel, if_pos rfl]
    unfold setAddByScan
    refine wpAny_bind (wpAny_bind (wpAny_rule (wpAny_bind (wpAny_setScan_of (knd := strKind P w) (k := k) hkey ho rfl hf hel ?_))))
    cases hi : List.findIdx? (fun e => (strKind P w).is k e.2) es.toList with
    | some j => exact wpAny_pure (wpAny_pure q)
    | none =>
      obtain ⟨e, he, ke⟩ := (F.mem k).mp hk
      have z := List.findIdx?_eq_none_iff.mp hi e he
      rw [ke] at z
      cases z
  · have q := fun h' hs t => q h' true hs t
    refine add_x ho F hk hb (q _ (fun c o hc e => (Heap.get?_update_other _ _ (Ne.symm hc)).trans e) ⟨⟨_, Froz.get_upd _ ho rfl, by unfold ins1; rw [if_neg hk]; exact Froz.add_ok u F, addTx_ris _ _ _ r, hl.imp id fun z => (addTx_led _ _ _).trans z⟩, ?_⟩)
    unfold ins1
    rw [if_neg hk]
    exact List.nodup_cons.mpr ⟨hk, nd⟩
/-- the texts of a list, each once -/
def dedT (xs : List Str) : List Str := xs.foldl ins1 []
theorem ins1_mem (l : List Str) (k x : Str) : x ∈ ins1 l k ↔ x ∈ l ∨ x = k := by
  unfold ins1
  by_cases h : k ∈ l
  · rw [if_pos h]
    exact ⟨.inl, fun z => z.elim id fun e => e ▸ h⟩
  · rw [if_neg h, List.mem_cons]
    exact Or.comm
theorem ded_mem : ∀ (xs l : List Str) (x : Str), x ∈ xs.foldl ins1 l ↔ x ∈ l ∨ x ∈ xs
  | [], l, x => by simp
  | k :: xs, l, x => by
    rw [List.foldl_cons, ded_mem xs, ins1_mem, List.mem_cons]
    exact or_assoc
theorem ded_nd : ∀ (xs l : List Str), l.Nodup → (xs.foldl ins1 l).Nodup
  | [], l, h => h
  | k :: xs, l, h => by
    rw [List.foldl_cons]
    refine ded_nd xs _ ?_
    unfold ins1
    split
    · exact h
    · rename_i hk
      exact List.nodup_cons.mpr ⟨hk, h⟩
theorem ded_len : ∀ (xs l : List Str), (xs.foldl ins1 l).length ≤ l.length + xs.length
  | [], l => Nat.le_refl _
  | k :: xs, l => by
    rw [List.foldl_cons]
    refine Nat.le_trans (ded_len xs _) ?_
    unfold ins1
    rw [List.length_cons]
    split
    · omega
    · rw [List.length_cons]; omega
theorem take_ded {xs : List Str} {i : Nat} {x : Str} (h : xs[i]? = some x) : dedT (xs.take (i + 1)) = ins1 (dedT (xs.take i)) x := by
  unfold dedT
  rw [List.take_add_one, h, List.foldl_append]
  rfl
/-- the loop of set(..) over a list of texts -/
theorem fill_txt {I : Addr} {fp wr : List Addr} {G : Array GenState → Array GenState → Prop} {Pv : Nat → Value → Prop} {St : Nat → Shared → Prop} {R : Result → Shared → Prop} {xs : List Str}
    (W : WalksS P w A.in1 I fp wr G xs.length Pv St) (S : Addr) (hSf : S ∉ fp) (hb : xs.length + 1 < scanBound) (hval : ∀ i v, Pv i v → ∃ x t, xs[i]? = some x ∧ v = .str x t) :
    ∀ (k i : Nat) (s : Shared), xs.length - i = k → i ≤ xs.length → St i s → TS P w s.heap S (dedT (xs.take i)) →
      (∀ s', Moved (S :: wr) G s s' → TS P w s'.heap S (dedT xs) → R (.ok (.ret .none)) s') → codeAny (model P w) A (.builtin "set.update.loop" ⟨[.ref S, .ref I], []⟩) R s := by
  have hSw : S ∉ wr := fun h => hSf (W.sub _ h)
  have up : ∀ {s s' : Shared}, Moved wr G s s' → Moved (S :: wr) G s s' := fun m => m.mono fun b hb => List.mem_cons_of_mem _ hb
  intro k
  induction k with
  | zero =>
    intro i s hk hi hst t hR
    have e : i = xs.length := Nat.le_antisymm hi (Nat.sub_eq_zero_iff_le.mp hk)
    subst e
    rw [List.take_length] at t
    refine codeAny_builtin F.entry_set_update_loop ?_
    rw [Around.under_plainId F.plain_set_update_loop _]
    refine wpAny_bind (m := pyNext (.ref I)) (W.done s _ _ hst fun s' hm => ?_)
    exact wpAny_pure (hR s' (up hm) (t.at fun o e => hm.heap S o hSw e))
  | succ k ih =>
    intro i s hk hi hst t hR
    have hlt : i < xs.length := by omega
    refine codeAny_builtin F.entry_set_update_loop ?_
    rw [Around.under_plainId F.plain_set_update_loop _]
    refine wpAny_bind (m := pyNext (.ref I)) (W.item i s _ _ hlt hst fun v s' hP hst' hm => ?_)
    obtain ⟨x, tk, hx, rfl⟩ := hval i v hP
    have t' := t.at fun o e => hm.heap S o hSw e
    have hl : (dedT (xs.take i)).length ≤ i := by
      refine Nat.le_trans (ded_len _ _) ?_
      rw [List.length_nil, Nat.zero_add, List.length_take]
      exact Nat.min_le_left ..
    refine wpAny_bind (m := holding [Value.str x tk] (setAdd S (.str x tk))) (wpAny_holding ?_)
    unfold setAdd
    refine wpAny_holding (wpAny_bind ((strKind P w).pyHash (k := x) (is_str x tk) ?_))
    refine ts_add (s := { s' with toks := s'.toks + 1 }) t' (by omega) fun h' b sb tn => ?_
    rw [← take_ded hx] at tn
    refine wpAny_pure ⟨plainId_quiet F.plain_set_update_loop _, ih (i + 1) _ (by omega) hlt (W.frame _ s' _ _ hst' (Nat.le_add_right _ _) fun c hc o e => ?_) tn fun s2 hm2 t2 => hR s2 ?_ t2⟩
    · exact sb c o (fun z => hSf (z ▸ hc)) e
    · refine Moved.trans W.gtrans ((up hm).then_heap (Nat.le_add_right _ _) fun c o hc e => ?_) hm2
      exact sb c o (fun z => hc (z ▸ List.mem_cons_self ..)) e
theorem strs_get : ∀ {vs : List Value} {xs : List Str}, StrsAre vs xs → ∀ (i : Nat) (v : Value), vs[i]? = some v → ∃ x t, xs[i]? = some x ∧ v = .str x t
  | _, _, .nil, i, v, h => by simp at h
  | _, _, .cons x t h, 0, v, e => ⟨x, t, rfl, by simpa using e.symm⟩
  | _, _, .cons x t h, i + 1, v, e => by
    obtain ⟨y, u, h1, h2⟩ := strs_get h i v (by simpa using e)
    exact ⟨y, u, by simpa using h1, h2⟩
abbrev newSet (w : World) : Obj := { cls := .type "set", dict := none, data := .set #[] 0 (.fresh 0 0 (!w.params.followText "set-order")) }
theorem ts_new {h : Heap} {a : Addr} (e : h.get? a = some (newSet w)) : TS P w h a [] :=
  ⟨⟨(#[], 0, .fresh 0 0 (!w.params.followText "set-order")), e, TxOk.nil rfl, List.Pairwise.nil, by
    show _ ∨ (!w.params.followText "set-order") = true
    cases w.params.followText "set-order"
    · exact .inr rfl
    · exact .inl rfl⟩, List.nodup_nil⟩
theorem call_set_txt {l : Addr} {items : Array Value} {xs : List Str} {Q : Value → Shared → Prop} (hh : A.handled = none) (hl : s.heap.IsList l items) (hi : StrsAre items.toList xs) (hb : xs.length + 1 < scanBound)
    (h : ∀ (h' : Heap) (tk : Nat), TS P w h' s.heap.objs.size (dedT xs) → (∀ b o, s.heap.get? b = some o → h'.get? b = some o) → Q (.ref s.heap.objs.size) { s with heap := h', toks := tk }) :
    wpAny (model P w) A (call (.type "set") [.ref l]) Q E s := by
  have hn : items.size = xs.length := by rw [← Array.length_toList]; exact hi.length
  obtain ⟨c, tl, hmro⟩ := F.called_set.mro
  have hmade := F.called_set.made
  have hsub := F.called_set.sub
  refine wpAny_call (codeAny_of_tree (wpAny_pure ⟨Code.quiet_builtin _ (by decide +kernel), codeAny_builtin F.entry_type_call ?_⟩))
  rw [Around.under_plain (weight_type_call_type "set" [.ref l] []) rfl]
  have h1 := F.called_set.notType
  have h2 := F.called_set.canCreate
  have hct := F.typeCall_set_1 (.ref l)
  repeat (any_goals (first | assumption | wp_step))
  refine codeAny_mono (code_set_led1 (.ref l) (E := E) (Q₁ := fun obj s₁ => obj = .ref s.heap.objs.size ∧ s₁ = { s with heap := s.heap.push (newSet w) }) ⟨rfl, rfl⟩) fun r s₁ hr => ?_
  cases r with
  | error e => exact hr
  | ok fl =>
    cases fl with
    | ret obj =>
      obtain ⟨rfl, rfl⟩ := hr
      have hS : (s.heap.push (newSet w)).get? s.heap.objs.size = some (newSet w) := Heap.get?_push_size _ rfl
      have hT : Shared.TypeIs { s with heap := s.heap.push (newSet w) } (.ref s.heap.objs.size) "set" := ⟨_, hS, rfl⟩
      have hli := F.called_set.init.lookup
      have hbi := F.called_set.init.bind (.ref s.heap.objs.size)
      repeat (any_goals (first | assumption | wp_step))
      refine codeAny_mono (codeAny_call_builtin (R := wants (fun r s₂ => r = .none ∧ ∃ h' tk, s₂ = { s with heap := h', toks := tk } ∧ TS P w h' s.heap.objs.size (dedT xs) ∧ (∀ b o, s.heap.get? b = some o → h'.get? b = some o)) E) F.called_set.init.plain F.entry_set_init (check_set_init_1 hT ?_)) fun r₂ s₂ hr₂ => ?_
      · obtain ⟨⟨ocls, odict, odata, oslots⟩, hol, hcl, nl, hdl⟩ := hl
        simp only at hcl hdl
        subst hcl
        subst hdl
        have hol' : (s.heap.push (newSet w)).get? l = some { cls := .type "list", dict := odict, data := .seq items nl, slots := oslots } := Heap.get?_push_of_some _ hol
        have hsls := F.sub_list_set
        have hslf := F.sub_list_frozenset
        have hne : (Value.type "list" == Value.type "dict") = false := by decide
        have hl1 : (s.heap.push (newSet w)).IsList l items := ⟨_, hol', rfl, nl, rfl⟩
        unfold Builtin.«set.__init__» noKeywords Builtin.Frozenset.updateFrom
        generalize hPI : pyIter = PI
        wp_walk
        subst hPI
        refine wpAny_pyIter_list hl1 (wpAny_bind (wpAny_runValue ?_))
        have hlS : l < s.heap.objs.size := Heap.lt_size hol
        have hz : (s.heap.push (newSet w)).objs.size = s.heap.objs.size + 1 := Heap.size_push ..
        have hneI : l ≠ (s.heap.push (newSet w)).objs.size := by rw [hz]; exact Nat.ne_of_lt (Nat.lt_succ_of_lt hlS)
        have W := (Walks.list (prog := P) (w := w) (A := A.in1.in1.in1) (by simp [hh]) (s.heap.push (newSet w)).objs.size l hneI items).toS
        rw [hn] at W
        refine fill_txt W s.heap.objs.size (fun z => ?_) hb (fun i v hv => ?_) (xs.length - 0) 0 _ rfl (Nat.zero_le _) ⟨⟨_, Heap.get?_push_size _ rfl, rfl, rfl⟩, hl1.push _⟩ (ts_new (Heap.get?_push_of_some _ hS)) fun s' hm t => ?_
        · rw [hz] at z
          rcases List.mem_cons.mp z with z | z
          · exact Nat.lt_irrefl _ (Nat.lt_of_lt_of_eq (Nat.lt_succ_self _) z.symm)
          · exact Nat.lt_irrefl _ (Nat.lt_of_lt_of_eq hlS (List.mem_singleton.mp z))
        · have hv : items.toList[i]? = some v := by rw [Array.getElem?_toList]; exact hv
          exact strs_get hi i v hv
        · obtain ⟨h', g2, d', tk', os'⟩ := s'
          have eg : g2 = s.gens := hm.gens
          have ed : d' = s.drawn := hm.drawn
          have eo : os' = s.os := hm.os
          subst eg
          subst ed
          subst eo
          refine wpAny_pure (show wpAny _ _ (ret Value.none) _ _ _ from wpAny_pure ⟨rfl, h', tk', rfl, t, fun b o e => ?_⟩)
          have hb := Heap.lt_size e
          refine hm.heap b o (fun z => ?_) (Heap.get?_push_of_some _ (Heap.get?_push_of_some _ e))
          rw [hz] at z
          rcases List.mem_cons.mp z with z | z
          · exact Nat.lt_irrefl _ (Nat.lt_of_lt_of_eq hb z.symm)
          · exact Nat.lt_irrefl _ (Nat.lt_of_lt_of_le hb (Nat.le_of_lt (Nat.lt_of_lt_of_eq (Nat.lt_succ_self _) (List.mem_singleton.mp z).symm)))
      · cases r₂ with
        | error e => exact hr₂
        | ok fl₂ =>
          cases fl₂ with
          | ret r =>
            obtain ⟨rfl, h', tk, rfl, t, hk⟩ := hr₂
            repeat (any_goals (first | assumption | wp_step))
            exact h _ _ t hk
          | _ => exact hr₂.elim
    | _ => exact hr.elim
/-! ### sorted(set(..)), len(set(..)) -/
theorem perm_of_nd {α : Type} [DecidableEq α] : ∀ (l xs : List α), l.Nodup → (∀ x ∈ l, x ∈ xs) → xs.length = l.length → xs.Perm l
  | [], xs, _, _, h => by
    rw [List.length_nil, List.length_eq_zero_iff] at h
    rw [h]
  | x :: l, xs, nd, sub, h => by
    obtain ⟨n1, n2⟩ := List.nodup_cons.mp nd
    have hx := sub x (List.mem_cons_self ..)
    refine (List.perm_cons_erase hx).trans (.cons x (perm_of_nd l (xs.erase x) n2 (fun y hy => ?_) ?_))
    · exact (List.mem_erase_of_ne (fun e : y = x => n1 (by rw [← e]; exact hy))).mpr (sub y (List.mem_cons_of_mem _ hy))
    · rw [List.length_erase_of_mem hx, h, List.length_cons, Nat.add_sub_cancel]
theorem ts_out {es : Array (Int × Value)} {ep : Nat} {t : SetTable} {l : List Str} (F : TxOk P w (es, ep, t) l) (nd : l.Nodup) {vs : List Value} (p : vs.Perm (es.toList.map (·.2))) : ∃ xs, StrsAre vs xs ∧ xs.Perm l := by
  have str : ∀ v ∈ vs, ∃ x t, v = Value.str x t := fun v hv => by
    obtain ⟨e, he, q⟩ := List.mem_map.mp (p.mem_iff.mp hv)
    obtain ⟨⟨x, hx, _⟩, _⟩ := F.el e he
    obtain ⟨t, ht⟩ := Value.isStrOf_shape (x := x) (v := e.2) hx
    exact ⟨x, t, q.symm.trans ht⟩
  have mk : ∀ vs : List Value, (∀ v ∈ vs, ∃ x t, v = Value.str x t) → ∃ xs, StrsAre vs xs := fun vs => by
    induction vs with
    | nil => exact fun _ => ⟨[], .nil⟩
    | cons v vs ih =>
      intro h
      obtain ⟨xs, hx⟩ := ih fun u hu => h u (List.mem_cons_of_mem _ hu)
      obtain ⟨x, t, rfl⟩ := h v (List.mem_cons_self ..)
      exact ⟨x :: xs, .cons x t hx⟩
  obtain ⟨xs, hx⟩ := mk vs str
  have mem : ∀ x : Str, x ∈ xs ↔ ∃ t, Value.str x t ∈ vs := by
    clear str p mk
    induction hx with
    | nil => simp
    | cons y tk h ih =>
      intro x
      rw [List.mem_cons, ih x]
      constructor
      · rintro (rfl | ⟨u, h⟩)
        · exact ⟨tk, List.mem_cons_self ..⟩
        · exact ⟨u, List.mem_cons_of_mem _ h⟩
      · rintro ⟨u, h⟩
        rcases List.mem_cons.mp h with h | h
        · cases h; exact .inl rfl
        · exact .inr ⟨u, h⟩
  have all : ∀ x, x ∈ l ↔ x ∈ xs := fun x => by
    rw [F.mem x, mem x]
    constructor
    · rintro ⟨e, he, q⟩
      obtain ⟨t, ht⟩ := Value.isStrOf_shape (x := x) (v := e.2) q
      exact ⟨t, p.mem_iff.mpr (List.mem_map.mpr ⟨e, he, ht⟩)⟩
    · rintro ⟨t, ht⟩
      obtain ⟨e, he, q⟩ := List.mem_map.mp (p.mem_iff.mp ht)
      refine ⟨e, he, ?_⟩
      show (strKind P w).is x e.2 = true
      rw [q]
      exact is_str x t
  have len : xs.length = l.length := by
    have z : es.size = l.length := F.sz
    rw [← hx.length, p.length_eq, List.length_map, Array.length_toList, z]
  exact ⟨xs, hx, perm_of_nd l xs nd (fun x h => (all x).mp h) len⟩
theorem sorted_ts {a : Addr} {l : List Str} {Q : Value → Shared → Prop} (t : TS P w s.heap a l) (hh : A.handled = none) (h64 : l.length < 64)
    (q : ∀ s' p (out : List Value) (c : Nat) (ys : List Str), (∀ b o, s.heap.get? b = some o → s'.heap.get? b = some o) → s'.gens = s.gens → s'.os = s.os → s.heap.objs.size ≤ p →
      s'.heap.get? p = some (seqObj "list" out.toArray c) → StrsAre out ys → ys = sortS l → Q (.ref p) s') :
    wpAny (model P w) A (call (.builtin "sorted") [.ref a]) Q E s := by
  obtain ⟨⟨⟨es, ep, tb⟩, ho, F, r, hl⟩, nd⟩ := t
  have hsz : es.size = l.length := F.sz
  refine Calls.call_function_entry kind_sorted plain_sorted entry_sorted (args_sorted1 _) ?_
  unfold Builtin.«sorted»
  refine wpAny_bind (m := checkCount "sorted" 1 1 _) (wpAny_pure (wpAny_bind ?_))
  refine collect_set (A := A.in1) hh ⟨_, ho, rfl, rfl⟩ F.fit (by rw [show (es, ep, tb).1.size = es.size from rfl]; unfold scanBound; omega) r hl fun s1 vs k1 hz g1 o1 pm => ?_
  obtain ⟨xs, hx, px⟩ := ts_out F nd pm
  have hvl : vs.length = l.length := by rw [pm.length_eq, List.length_map, Array.length_toList]; exact hsz
  refine wpAny_bind (wpAny_newList ?_ (by rw [hvl, sizeLine_eq]; omega))
  have hoL : (s1.heap.push (seqObj "list" vs.toArray 0)).get? s1.heap.objs.size = some (seqObj "list" vs.toArray 0) := Heap.get?_push_size _ rfl
  refine wpAny_bind (wpAny_holding (wpAny_call_entry slot_list_sort ⟨_, hoL, rfl⟩ entry_list_sort
    (list_sort_treeK strKind_oneLt (s := { s1 with heap := s1.heap.push (seqObj "list" vs.toArray 0) }) hoL hx.keysOf (fun v₁ v₂ rest e => keyKind_strs (by rw [← e]; exact hx)) (by rw [hvl]; exact h64) fun st' hp hs => ⟨_, rfl, ?_⟩) (args_list_sort _)))
  obtain ⟨ys, g1', g2, g3⟩ := sorted_out_str hx hp hs
  obtain ⟨c, hc⟩ := sortedHeap_at (vs := vs) (out := (arrOf st').map (·.2)) hoL
  refine wpAny_pure ⟨_, rfl, q _ s1.heap.objs.size ((arrOf st').map (·.2)).toList c ys (fun b u e => ?_) g1 o1 hz (by rw [Array.toArray_toList]; exact hc) g1' (sortS_is (g2.trans px) (sorted_pw _ g3))⟩
  have e2 := k1 b u e
  have hlt := Heap.lt_size e2
  show (sortedHeap (s1.heap.push (seqObj "list" vs.toArray 0)) s1.heap.objs.size vs _).get? b = some u
  rw [sortedHeap_old (Nat.ne_of_lt hlt) (by rw [size_push']; exact Nat.lt_succ_of_lt hlt)]
  exact Heap.get?_push_of_some _ e2
def fSorSet (st : Stt) (d : D) : R D := match litems st d with
  | some ds => match txts ds with
    | some xs => if xs.length < 64 then .ok (.loc st.length) (st ++ [.lst ((sortS (dedT xs)).map D.str)]) else .no
    | none => .no
  | none => .no
def xSorSet (f : XE) : XE := fun ρ st => (f ρ st).bind fun d s => fSorSet s d
def fLenSet (st : Stt) (d : D) : R D := match litems st d with
  | some ds => match txts ds with
    | some xs => if xs.length < 4000 then .ok (.int (dedT xs).length) st else .no
    | none => .no
  | none => .no
def xLenSet (f : XE) : XE := fun ρ st => (f ρ st).bind fun d s => fLenSet s d
section
variable {X : Cx} {e : Expr} {fe : XE} {pos p p2 q : Pos} {W : WX}
theorem txt_list {H : Hp} {μ : List Addr} {st : Stt} {d : D} {v : V} {ds : List D} {xs : List Str} (S : SR X.K H μ st) (h : litems st d = some ds) (ht : txts ds = some xs) (r : Rl X.K H μ d v) {pins : List (Addr × Obj)} {σ : L2.St} {s : Shared} (I : Inv X pins σ H s) :
    ∃ a its, v = .ref a ∧ s.heap.IsList a its ∧ StrsAre its.toList xs := by
  obtain ⟨a, vs, rfl, hq, q⟩ := litems_seq S h r
  have := txts_map _ _ ht
  subst this
  have := txts_rls _ _ q
  subst this
  obtain ⟨its, rv, pl, hz⟩ := I.list hq
  exact ⟨a, its.toArray, rfl, pl.isList, by rw [List.toList_toArray]; exact strsAre_of rv⟩
theorem e_sorSet (hm : X.mg "sorted" = none) (hm2 : X.mg "set" = none) (hc : X.calm = true) (he : PE X e (tX X.K W fe)) (hg : Gl X "sorted" := by rfl) (hg2 : Gl X "set" := by rfl)
    (na : starEach [e] X.env = (false, eval e X.env) :: starEach [] X.env := by rfl) : PE X (.Call (.Name "sorted" p) [.Call (.Name "set" p2) [e] [] q] [] pos) (tX X.K W (xSorSet fe)) := by
  refine ⟨fun pins s σ H Q I ⟨ρ, st, μ, E', S, h⟩ => ?_⟩
  refine Call_ (ld_blt I hg hm boot_sorted (callWith_builtin1 (args_cons (Call_ (ld_blt I hg2 hm2 boot_set ?_)) rfl) rfl rfl))
  have he' := he.run pins s σ H _ I (tX_of E' S h.bind fun d s1 H1 μ1 v e1 E1 S1 r1 h1 => (show ∃ μ st d, SR X.K H1 μ st ∧ Rl X.K H1 μ d v ∧ RO X.K (wx X.K W σ) H1 μ (QD X.K Q) (fSorSet st d) from ⟨μ1, s1, d, S1, r1, h1⟩))
  refine callWith_type1 (args_cons (thn he' fun v s1 ⟨x, H1, I1, r1, μ1, st1, d, S1, rd, h1⟩ => args_nil ?_) na) na rfl
  unfold fSorSet at h1
  split at h1
  · rename_i ds hds
    split at h1
    · rename_i xs hxs
      split at h1
      · rename_i h64
        obtain ⟨a, its, rfl, hl, hs⟩ := txt_list S1 hds hxs rd I1
        cases r1
        refine call_set_txt (I1.ok.hd hc) hl hs (by unfold scanBound; omega) fun h' tk t hk => args_nil ?_
        have I2 : Inv X pins σ H1 { s1 with heap := h', toks := tk } := I1.kept hk
        have hlen : (dedT xs).length < 64 := Nat.lt_of_le_of_lt (Nat.le_trans (ded_len xs []) (by rw [List.length_nil, Nat.zero_add]; exact Nat.le_refl _)) h64
        refine sorted_ts (s := { s1 with heap := h', toks := tk }) t (I2.ok.hd hc) hlen fun s' p out c ys k g o hp hat hs2 ey => ?_
        subst ey
        have hlen2 : ((sortS (dedT xs)).map V.str).length ≤ sizeLine := by
          rw [List.length_map, sizeLine_eq]
          have : (sortS (dedT xs)).length = (dedT xs).length := (List.mergeSort_perm _ _).length_eq
          omega
        have hn : H1 p = none := I2.hok.fresh hp
        generalize hs2' : ({ s1 with heap := h', toks := tk } : Shared) = s2 at I2 k g o hp
        have J : Inv X pins σ (upd H1 p (.lst ((sortS (dedT xs)).map V.str))) { s2 with heap := s'.heap, gens := s'.gens, drawn := s'.drawn, toks := s'.toks } :=
          I2.call (ch := []) (Un.laid k hp hn) (I2.hok.laid k hp ⟨hlen2, out, c, vals_of_strs hs2, hat⟩) (by rw [g]; exact I2.bare) (fun _ z => nomatch z)
        have e : s' = { s2 with heap := s'.heap, gens := s'.gens, drawn := s'.drawn, toks := s'.toks } := by
          cases s'
          cases s2
          cases o
          rfl
        rw [e]
        exact ⟨.ref p, _, J, rfl, h1 _ _ (ext_new hn _) (S1.newL hn (Rls.txs _)) _ (loc_new S1)⟩
      · exact h1.elim
    · exact h1.elim
  · exact h1.elim
theorem e_lenSet (hm : X.mg "len" = none) (hm2 : X.mg "set" = none) (hc : X.calm = true) (he : PE X e (tX X.K W fe)) (hg : Gl X "len" := by rfl) (hg2 : Gl X "set" := by rfl)
    (na : starEach [e] X.env = (false, eval e X.env) :: starEach [] X.env := by rfl) : PE X (.Call (.Name "len" p) [.Call (.Name "set" p2) [e] [] q] [] pos) (tX X.K W (xLenSet fe)) := by
  refine ⟨fun pins s σ H Q I ⟨ρ, st, μ, E', S, h⟩ => ?_⟩
  refine Call_ (ld_blt I hg hm boot_len (callWith_builtin1 (args_cons (Call_ (ld_blt I hg2 hm2 boot_set ?_)) rfl) rfl rfl))
  have he' := he.run pins s σ H _ I (tX_of E' S h.bind fun d s1 H1 μ1 v e1 E1 S1 r1 h1 => (show ∃ μ st d, SR X.K H1 μ st ∧ Rl X.K H1 μ d v ∧ RO X.K (wx X.K W σ) H1 μ (QD X.K Q) (fLenSet st d) from ⟨μ1, s1, d, S1, r1, h1⟩))
  refine callWith_type1 (args_cons (thn he' fun v s1 ⟨x, H1, I1, r1, μ1, st1, d, S1, rd, h1⟩ => args_nil ?_) na) na rfl
  unfold fLenSet at h1
  split at h1
  · rename_i ds hds
    split at h1
    · rename_i xs hxs
      split at h1
      · rename_i h64
        obtain ⟨a, its, rfl, hl, hs⟩ := txt_list S1 hds hxs rd I1
        cases r1
        refine call_set_txt (I1.ok.hd hc) hl hs (by unfold scanBound; omega) fun h' tk t hk => args_nil ?_
        have I2 : Inv X pins σ H1 { s1 with heap := h', toks := tk } := I1.kept hk
        obtain ⟨⟨⟨es, ep, tb⟩, ho, F, r, hl⟩, nd⟩ := t
        have hsz : es.size = (dedT xs).length := F.sz
        have hlen : (dedT xs).length ≤ xs.length := Nat.le_trans (ded_len xs []) (by rw [List.length_nil, Nat.zero_add]; exact Nat.le_refl _)
        refine call_len_set ho ⟨rfl, rfl, rfl⟩ rfl F.fit (by rw [show (es, ep, tb).1.size = es.size from rfl, hsz]; omega) ⟨.int (dedT xs).length, H1, I2.tok _, ⟨_, by rw [show (es, ep, tb).1.size = es.size from rfl, hsz]⟩, ?_⟩
        exact h1 H1 μ1 (Ext.refl _ _) S1 _ (.int _)
      · exact h1.elim
    · exact h1.elim
  · exact h1.elim
end
end Rg

set_option Elab.async false
set_option linter.all false
set_option maxRecDepth 100000
namespace Rg
open PySem PySem.Spec PyProof.Rows L2
/-! ### stores that grow; cells behind an old store -/
theorem ax {α β : Type} {r : α → β → Prop} (h : ∀ x, ∃ y, r x y) : ∃ f : α → β, ∀ x, r x (f x) := Classical.axiomOfChoice h
@[simp] theorem at_0 (st : Stt) (a : O) (J : Stt) : (st ++ a :: J)[st.length]? = some a := by simp
@[simp] theorem at_add (st J : Stt) (n : Nat) : (st ++ J)[st.length + n]? = J[n]? := by
  rw [List.getElem?_append_right (by omega)]; simp
@[simp] theorem set_0 (st : Stt) (a x : O) (J : Stt) : (st ++ a :: J).set st.length x = st ++ x :: J := by
  rw [List.set_append_right _ _ (Nat.le_refl _)]; simp
@[simp] theorem set_add (st J : Stt) (n : Nat) (x : O) : (st ++ J).set (st.length + n) x = st ++ J.set n x := by
  rw [List.set_append_right _ _ (by omega)]; simp
theorem at_old {st : Stt} {n : Nat} {o : O} (h : st[n]? = some o) (J : Stt) : (st ++ J)[n]? = some o := by
  rw [List.getElem?_append_left (List.getElem?_eq_some_iff.mp h).1]; exact h
theorem at_lt {st : Stt} {n : Nat} (h : n < st.length) (J : Stt) : (st ++ J)[n]? = st[n]? := List.getElem?_append_left h
theorem set_lt {st : Stt} {n : Nat} (h : n < st.length) (J : Stt) (x : O) : (st ++ J).set n x = st.set n x ++ J := List.set_append_left _ _ h
/-! the partial readers, as matches on what stands there -/
@[simp] theorem items_at (st : Stt) (n : Nat) : items st (.loc n) = match st[n]? with | some (.lst ds) => some ds | _ => none := (rfl)
@[simp] theorem lstAt_at (st : Stt) (n : Nat) : lstAt st (.loc n) = match st[n]? with | some (.lst ds) => some (n, ds) | _ => none := (rfl)
@[simp] theorem dctAt_at (st : Stt) (n : Nat) : dctAt st (.loc n) = match st[n]? with | some (.dct ds) => some (n, ds) | _ => none := (rfl)
@[simp] theorem dctAt_str (st : Stt) (x : Str) : dctAt st (.str x) = none := (rfl)
@[simp] theorem dctAt_tup (st : Stt) (x : List D) : dctAt st (.tup x) = none := (rfl)
@[simp] theorem dctAt_cl (st : Stt) (x : List D) : dctAt st (.cl x) = none := (rfl)
@[simp] theorem litems_at (st : Stt) (n : Nat) : litems st (.loc n) = match st[n]? with | some (.lst ds) => some ds | _ => none := (rfl)
@[simp] theorem tyD_at (st : Stt) (n : Nat) : tyD st (.loc n) = match st[n]? with | some (.lst _) => some "list" | some (.dct _) => some "dict" | _ => none := (rfl)
@[simp] theorem tyD_str (st : Stt) (x : Str) : tyD st (.str x) = some "str" := (rfl)
@[simp] theorem tyD_tup (st : Stt) (x : List D) : tyD st (.tup x) = some "tuple" := (rfl)
@[simp] theorem tyD_cl (st : Stt) (x : List D) : tyD st (.cl x) = some "list" := (rfl)
@[simp] theorem tyD_int (st : Stt) (x : Int) : tyD st (.int x) = some "int" := (rfl)
@[simp] theorem tyD_bl (st : Stt) (x : Bool) : tyD st (.bl x) = some "bool" := (rfl)
@[simp] theorem tyD_non (st : Stt) : tyD st .non = some "NoneType" := (rfl)
@[simp] theorem isRc_lst (st : Stt) (n : Nat) : isRc isLst (.loc n) st = match st[n]? with | some (.lst _) => .ok () st | _ => .no := by
  have e : isLst st (.loc n) = match st[n]? with | some (.lst _) => true | _ => false := (rfl)
  unfold isRc
  rw [e]
  cases h : st[n]? with
  | none => simp
  | some o => cases o <;> simp
@[simp] theorem isRc_str (x : Str) (st : Stt) : isRc isStr (.str x) st = .ok () st := (rfl)
@[simp] theorem mAppend_at (st : Stt) (n : Nat) (d : D) : mAppend (.loc n) [d] st = match st[n]? with | some (.lst ds) => (if ds.length < sizeLine then some (.non, st.set n (.lst (ds ++ [d]))) else none) | _ => none := by
  unfold mAppend
  rw [lstAt_at]
  cases h : st[n]? with
  | none => simp
  | some o => cases o <;> simp
@[simp] theorem mPop_at (st : Stt) (n : Nat) : mPop (.loc n) [] st = match st[n]? with | some (.lst ds) => (ds[ds.length - 1]?).map fun d => (d, st.set n (.lst ds.dropLast)) | _ => none := by
  unfold mPop
  rw [lstAt_at]
  cases h : st[n]? with
  | none => simp
  | some o => cases o <;> simp
@[simp] theorem mExtT_at (st : Stt) (n : Nat) (es : List D) : mExtend (.loc n) [.tup es] st = match st[n]? with | some (.lst ds) => (if ds.length + es.length ≤ sizeLine then some (.non, st.set n (.lst (ds ++ es))) else none) | _ => none := by
  unfold mExtend
  simp only [lstAt_at]
  cases h : st[n]? with
  | none => simp
  | some o => cases o <;> simp
@[simp] theorem mExtL_at (st : Stt) (n m : Nat) : mExtend (.loc n) [.loc m] st = match st[n]? with | some (.lst ds) => (match st[m]? with | some (.lst es) => (if ds.length + es.length ≤ sizeLine then some (.non, st.set n (.lst (ds ++ es))) else none) | _ => none) | _ => none := by
  unfold mExtend
  simp only [lstAt_at]
  cases h : st[n]? with
  | none => simp
  | some o =>
    cases o with
    | lst ds =>
      cases h2 : st[m]? with
      | none => simp
      | some o => cases o <;> simp
    | _ => simp
@[simp] theorem isT_at (st : Stt) (n : Nat) : isT (.loc n) st = match st[n]? with | some (.lst ds) => .ok (!ds.isEmpty) st | some (.dct ds) => .ok (!ds.isEmpty) st | _ => .no := by
  unfold isT
  have : truth st (.loc n) = match st[n]? with | some (.lst ds) => some (!ds.isEmpty) | some (.dct ds) => some (!ds.isEmpty) | _ => none := (rfl)
  rw [this]
  cases h : st[n]? with
  | none => simp
  | some o => cases o <;> simp
@[simp] theorem isT_bl (b : Bool) (st : Stt) : isT (.bl b) st = .ok b st := (rfl)
@[simp] theorem isT_int (i : Int) (st : Stt) : isT (.int i) st = .ok (i != 0) st := (rfl)
@[simp] theorem isT_non (st : Stt) : isT .non st = .ok false st := (rfl)
@[simp] theorem isT_tup (ds : List D) (st : Stt) : isT (.tup ds) st = .ok (!ds.isEmpty) st := (rfl)
@[simp] theorem oRev_at (st : Stt) (n : Nat) : oRev (.loc n) st = match st[n]? with | some (.lst ds) => some (.loc st.length, st ++ [.lst ds.reverse]) | _ => none := by
  unfold oRev
  rw [litems_at]
  cases h : st[n]? with
  | none => simp
  | some o => cases o <;> simp
@[simp] theorem oAdd_ll (st : Stt) (m n : Nat) : oAdd (.loc m) (.loc n) st = match st[m]?, st[n]? with
    | some (.lst a), some (.lst b) => if a.length + b.length ≤ sizeLine then some (.loc st.length, st ++ [.lst (a ++ b)]) else none
    | _, _ => none := (rfl)
@[simp] theorem oAdd_ss (i j : Str) (st : Stt) : oAdd (.str i) (.str j) st = if i.length + j.length ≤ sizeLine then some (.str (i ++ j), st) else none := (rfl)
@[simp] theorem oAdd_tt (a b : List D) (st : Stt) : oAdd (.tup a) (.tup b) st = if a.length + b.length ≤ sizeLine then some (.tup (a ++ b), st) else none := (rfl)
@[simp] theorem fLen_at (st : Stt) (n : Nat) : fLen [.loc n] st = match st[n]? with | some (.lst ds) => some (.int ds.length, st) | _ => none := by
  show (items st (.loc n)).map _ = _
  rw [items_at]
  cases h : st[n]? with
  | none => simp
  | some o => cases o <;> simp
@[simp] theorem fLen_tup (ds : List D) (st : Stt) : fLen [.tup ds] st = some (.int ds.length, st) := fLen_of rfl
@[simp] theorem fLen_cl (ds : List D) (st : Stt) : fLen [.cl ds] st = some (.int ds.length, st) := fLen_of rfl
@[simp] theorem fLen_str (x : Str) (st : Stt) : fLen [.str x] st = if x.length ≤ sizeLine then some (.int x.length, st) else none := (rfl)
@[simp] theorem fTuple_tup (ds : List D) (st : Stt) : fTuple [.tup ds] st = some (.tup ds, st) := (rfl)
@[simp] theorem fTuple_at (st : Stt) (n : Nat) : fTuple [.loc n] st = match st[n]? with | some (.lst ds) => some (.tup ds, st) | _ => none := by
  show (items st (.loc n)).map _ = _
  rw [items_at]
  cases h : st[n]? with
  | none => simp
  | some o => cases o <;> simp
@[simp] theorem oIx_tup (ds : List D) (i : Int) (st : Stt) : oIx (.tup ds) (.int i) st = (atI ds i).map fun d => (d, st) := (rfl)
@[simp] theorem oIx_cl (ds : List D) (i : Int) (st : Stt) : oIx (.cl ds) (.int i) st = (atI ds i).map fun d => (d, st) := (rfl)
@[simp] theorem oIx_at (st : Stt) (n : Nat) (i : Int) : oIx (.loc n) (.int i) st = match st[n]? with | some (.lst ds) => (atI ds i).map fun d => (d, st) | _ => none := by
  show (items st (.loc n)).bind _ = _
  rw [items_at]
  cases h : st[n]? with
  | none => simp
  | some o => cases o <;> simp
@[simp] theorem oIx_str (z : Str) (i : Int) (st : Stt) : oIx (.str z) (.int i) st = if z.length ≤ sizeLine then (atI z.cps.toList i).map fun c => (.str ⟨#[c]⟩, st) else none := (rfl)
@[simp] theorem atI_neg1 {α : Type} {xs : List α} {x : α} : atI (xs ++ [x]) (-1) = some x := by
  unfold atI ixN
  rw [if_neg (by omega), if_pos (by simp; omega)]
  have e : ((-1 : Int) + ((xs ++ [x]).length : Int)).toNat = xs.length := by simp; omega
  show (xs ++ [x])[_]? = _
  rw [e]
  simp
@[simp] theorem atI_0 {α : Type} (x : α) (xs : List α) : atI (x :: xs) 0 = some x := by unfold atI ixN; simp
@[simp] theorem atI_1 {α : Type} (x y : α) (xs : List α) : atI (x :: y :: xs) 1 = some y := by
  unfold atI ixN; rw [if_pos (by omega), if_pos (by simp; omega)]; rfl
@[simp] theorem atI_2 {α : Type} (x y z : α) (xs : List α) : atI (x :: y :: z :: xs) 2 = some z := by
  unfold atI ixN; rw [if_pos (by omega), if_pos (by simp; omega)]; rfl
@[simp] theorem atI_3 {α : Type} (x y z w : α) (xs : List α) : atI (x :: y :: z :: w :: xs) 3 = some w := by
  unfold atI ixN; rw [if_pos (by omega), if_pos (by simp; omega)]; rfl
@[simp] theorem wkOf_at (st : Stt) (n : Nat) : wkOf (.loc n) st = match st[n]? with | some (.lst ds) => .ok ⟨ds, fun st => items st (.loc n) = some ds⟩ st | _ => .no := by
  show (match items st (.loc n) with | some ds => R.ok (⟨ds, fun st => items st (.loc n) = some ds⟩ : Wk) st | none => .no) = _
  rw [items_at]
  cases h : st[n]? with
  | none => simp
  | some o => cases o <;> simp
@[simp] theorem wkOf_tup (ds : List D) (st : Stt) : wkOf (.tup ds) st = .ok ⟨ds, fun _ => True⟩ st := (rfl)
@[simp] theorem wkOf_str (x : Str) (st : Stt) : wkOf (.str x) st = .ok ⟨signs x, fun _ => True⟩ st := (rfl)
@[simp] theorem oFld_at (C : Addr) (f : Str) (st : Stt) (n : Nat) : oFld C f (.loc n) st = match st[n]? with | some (.ins C' fs) => (if C' = C then (fs.lookup f).map fun x => (x, st) else none) | _ => none := by
  show ((match st[n]? with | some (.ins C' fs) => if C' = C then some (n, fs) else none | _ => none).bind fun p => (p.2.lookup f).map fun x => (x, st)) = _
  cases h : st[n]? with
  | none => simp
  | some o =>
    cases o with
    | ins C' fs => by_cases hc : C' = C <;> simp [hc]
    | _ => simp
@[simp] theorem setF_at (C : Addr) (f : Str) (st : Stt) (n : Nat) (v : D) (ρ : En) : setF C f (.loc n) v ρ st = match st[n]? with | some (.ins C' fs) => (if C' = C then (if fs.length < 1000 then .nx ρ (st.set n (.ins C (putFD f v fs))) else .no) else .no) | _ => .no := by
  show (match (match st[n]? with | some (.ins C' fs) => if C' = C then some (n, fs) else none | _ => none) with | some p => if p.2.length < 1000 then Out.nx ρ (st.set p.1 (.ins C (putFD f v p.2))) else .no | none => .no) = _
  cases h : st[n]? with
  | none => simp
  | some o =>
    cases o with
    | ins C' fs => by_cases hc : C' = C <;> simp [hc]
    | _ => simp
@[simp] theorem hasM_at (C : Addr) (m : Str) (n : Nat) (st : Stt) : hasM C m (.loc n) st = match st[n]? with | some (.ins C' fs) => (if C' = C then (match fs.lookup m with | none => .ok () st | some _ => .no) else .no) | _ => .no := by
  unfold hasM
  show (match (match st[n]? with | some (.ins C' fs) => if C' = C then some (n, fs) else none | _ => none) with | some p => _ | none => _) = _
  cases h : st[n]? with
  | none => simp
  | some o =>
    cases o with
    | ins C' fs => 
      by_cases hc : C' = C
      · simp [hc]
        cases hl : fs.lookup m <;> simp
      · simp [hc]
    | _ => simp
@[simp] theorem setL_at (n : Nat) (k : Int) (v : D) (ρ : En) (st : Stt) : setL (.loc n) (.int k) v ρ st = match st[n]? with | some (.lst ds) => (match ixN ds.length k with | some j => .nx ρ (st.set n (.lst (ds.set j v))) | none => .no) | _ => .no := by
  unfold setL
  rw [lstAt_at]
  cases h : st[n]? with
  | none => simp
  | some o => cases o <;> simp <;> rfl
@[simp] theorem ixN_neg1 (n : Nat) : ixN (n + 1) (-1) = some n := by unfold ixN; rw [if_neg (by omega), if_pos (by simp; omega)]; simp; omega
theorem le_sz {n : Nat} (h : n ≤ 16777216) : n ≤ sizeLine := by rw [sizeLine_eq]; exact h
theorem lt_sz {n : Nat} (h : n < 16777216) : n < sizeLine := by rw [sizeLine_eq]; exact h
@[simp] theorem runB_run (n : Nat) (f : XS) (ds : List D) (st : Stt) : runB n f ds st = (f (ds.map some ++ List.replicate (n - ds.length) none) st).ret := (rfl)
@[simp] theorem mkTup_run (ds : List D) (st : Stt) : mkTup ds st = if ds.length ≤ sizeLine then .ok (.tup ds) st else .no := (rfl)
@[simp] theorem mkLst_run (ds : List D) (st : Stt) : mkLst ds st = if ds.length ≤ sizeLine then .ok (.loc st.length) (st ++ [.lst ds]) else .no := (rfl)
/-! ### while: with a measure -/
theorem whileF_inv {c : XT} {f : XS} (I : Nat → En → Stt → Prop) (Q : En → Stt → Prop)
    (step : ∀ k ρ st, I k ρ st → (∃ s, c ρ st = .ok false s ∧ Q ρ s) ∨ ∃ s, c ρ st = .ok true s ∧ ∃ ρ' st', (f ρ s = .nx ρ' st' ∨ f ρ s = .ct ρ' st') ∧ ∃ j, j < k ∧ I j ρ' st') :
    ∀ (m k : Nat) (ρ : En) (st : Stt), k < m → I k ρ st → ∃ ρ' st', whileF c f m ρ st = .nx ρ' st' ∧ Q ρ' st'
  | 0, k, _, _, h, _ => absurd h (Nat.not_lt_zero k)
  | m + 1, k, ρ, st, h, hI => by
    unfold whileF
    rcases step k ρ st hI with ⟨s, h1, h2⟩ | ⟨s, h1, ρ', st', h2, j, hj, h3⟩
    · rw [h1]; exact ⟨ρ, s, rfl, h2⟩
    · rw [h1]
      obtain ⟨ρ2, st2, h4, h5⟩ := whileF_inv I Q step m j ρ' st' (by omega) h3
      refine ⟨ρ2, st2, ?_, h5⟩
      rcases h2 with h2 | h2 <;> (simp only [R.out_ok, if_true, h2]; exact h4)
theorem sWhile_inv {c : XT} {f : XS} (I : Nat → En → Stt → Prop) (Q : En → Stt → Prop)
    (step : ∀ k ρ st, I k ρ st → (∃ s, c ρ st = .ok false s ∧ Q ρ s) ∨ ∃ s, c ρ st = .ok true s ∧ ∃ ρ' st', (f ρ s = .nx ρ' st' ∨ f ρ s = .ct ρ' st') ∧ ∃ j, j < k ∧ I j ρ' st')
    {k : Nat} {ρ : En} {st : Stt} (hk : k < 100000000) (h : I k ρ st) : ∃ ρ' st', sWhile c f ρ st = .nx ρ' st' ∧ Q ρ' st' := whileF_inv I Q step WN k ρ st hk h
/-! ### for, one after another -/
@[simp] theorem forF_nil (g : XG) (f : XS) (ρ : En) (st : Stt) : forF (fun _ => True) g f [] ρ st = .nx ρ st := by unfold forF; simp
theorem forF_cons (g : XG) (f : XS) (d : D) (ds : List D) (ρ : En) (st : Stt) : forF (fun _ => True) g f (d :: ds) ρ st = match g d ρ with
    | none => .no
    | some ρ1 => match f ρ1 st with
      | .nx ρ' st' => forF (fun _ => True) g f ds ρ' st'
      | .ct ρ' st' => forF (fun _ => True) g f ds ρ' st'
      | .bk ρ' st' => .nx ρ' st'
      | r => r := by
  conv => lhs; unfold forF
  rw [if_pos trivial]
  all_goals rfl
@[simp] theorem compF_nil {L : Nat} (g : XG) (t : XT) (f : XE) (ρ : En) (st : Stt) : compF L (fun _ => True) g t f ρ [] st = .ok () st := by unfold compF; simp
theorem compF_cons {L : Nat} (g : XG) (t : XT) (f : XE) (ρ : En) (d : D) (ds : List D) (st : Stt) : compF L (fun _ => True) g t f ρ (d :: ds) st = match g d ρ with
    | none => .no
    | some ρ1 => match t ρ1 st with
      | .ok true s => (match f ρ1 s with
        | .ok y s2 => (match lstAt s2 (.loc L) with
          | some p => if p.2.length < sizeLine then compF L (fun _ => True) g t f ρ ds (s2.set L (.lst (p.2 ++ [y]))) else .no
          | none => .no)
        | _ => .no)
      | .ok false s => compF L (fun _ => True) g t f ρ ds s
      | _ => .no := by
  conv => lhs; unfold compF
  rw [if_pos trivial]
  all_goals rfl
/-! ### texts by their codes -/
@[simp] theorem app_l (x y : List Nat) : (⟨x.toArray⟩ : Str) ++ ⟨y.toArray⟩ = ⟨(x ++ y).toArray⟩ := by
  show (⟨x.toArray ++ y.toArray⟩ : Str) = _
  simp
@[simp] theorem len_l (x : List Nat) : (⟨x.toArray⟩ : Str).length = x.length := by show x.toArray.size = _; simp
@[simp] theorem cps_l (x : List Nat) : (⟨x.toArray⟩ : Str).cps.toList = x := (rfl)
theorem empty_l : Str.empty = ⟨([] : List Nat).toArray⟩ := (rfl)
@[simp] theorem beq_l (x y : List Nat) : ((⟨x.toArray⟩ : Str) == ⟨y.toArray⟩) = decide (x = y) := by
  rw [Bool.beq_eq_decide_eq]; simp
theorem join_l (a : List Nat) : ∀ (ys : List (List Nat)), Txt.join ⟨a.toArray⟩ (ys.map fun y => ⟨y.toArray⟩) = ⟨((ys.intersperse a).flatten).toArray⟩
  | [] => by
    show Builtin.Str.glued _ _ = _
    rw [StrLaws.glued_eq_join]; rfl
  | [y] => by
    show Builtin.Str.glued _ _ = _
    rw [StrLaws.glued_eq_join]
    show (⟨y.toArray⟩ : Str) = _
    simp
  | y :: z :: r => by
    have ih := join_l a (z :: r)
    unfold Txt.join at ih ⊢
    rw [StrLaws.glued_eq_join] at ih ⊢
    show (⟨y.toArray⟩ : Str) ++ ⟨a.toArray⟩ ++ Str.join _ _ = _
    rw [ih]
    simp
@[simp] theorem txts_l (ys : List (List Nat)) : txts (ys.map fun y => .str ⟨y.toArray⟩) = some (ys.map fun y => ⟨y.toArray⟩) := by
  induction ys with
  | nil => rfl
  | cons y ys ih => show (txts (ys.map _)).map _ = _; rw [ih]; rfl
@[simp] theorem inTxt_1 (c : Nat) (z : Str) : inTxt ⟨#[c]⟩ z = decide (c ∈ z.cps.toList) := (rfl)
@[simp] theorem inOf_ss (st : Stt) (i j : Str) : inOf st (.str i) (.str j) = some (inTxt i j) := (rfl)
@[simp] theorem inOf_st (st : Stt) (x : Str) (ds : List D) : inOf st (.str x) (.tup ds) = (ds.mapM fv).map fun ws => inV (.str x) ws := (rfl)
@[simp] theorem fv_str (x : Str) : fv (.str x) = some (.str x) := (rfl)
@[simp] theorem inV_nil (x : V) : inV x [] = false := (rfl)
@[simp] theorem inV_str (x y : Str) (ws : List V) : inV (.str x) (.str y :: ws) = ((x == y) || inV (.str x) ws) := by
  show (eqV (.str y) (.str x) || _) = _
  have : eqV (.str y) (.str x) = (x == y) := by
    rw [Bool.eq_iff_iff]
    first
    | (show (y == x) = true ↔ (x == y) = true; rw [beq_iff_eq, beq_iff_eq]; exact eq_comm)
    | (simp [eqV]; exact eq_comm)
  rw [this]; rfl
@[simp] theorem oIn_run (x y : D) (st : Stt) : oIn x y st = (inOf st x y).map fun b => (.bl b, st) := (rfl)
@[simp] theorem oNotIn_run (x y : D) (st : Stt) : oNotIn x y st = (inOf st x y).map fun b => (.bl !b, st) := (rfl)
@[simp] theorem oIsi_run (T : String) (d : D) (st : Stt) : oIsi T d st = (tyD st d).bind fun t => (kitB t T).map fun b => (.bl b, st) := (rfl)
@[simp] theorem oWGet_run (kvs : List (Str × D)) (z : Str) (st : Stt) : oWGet kvs (.str z) st = (wget kvs z).map fun d => (d, st) := (rfl)
@[simp] theorem oWHas_run (kvs : List (Str × D)) (z : Str) (st : Stt) : oWHas kvs (.str z) st = some (.bl (wget kvs z).isSome, st) := (rfl)
@[simp] theorem wget_nil (z : Str) : wget [] z = none := (rfl)
@[simp] theorem wget_cons (k : Str) (d : D) (kvs : List (Str × D)) (z : Str) : wget ((k, d) :: kvs) z = if (k == z) = true then some d else wget kvs z := by
  unfold wget
  rw [List.find?_cons]
  cases h : k == z <;> simp [h]
@[simp] theorem mJoin_run (a : Str) (d : D) (st : Stt) : mJoin (.str a) [d] st = (items st d).bind fun ds => (txts ds).bind fun ys => if (ys.map (·.length)).sum + ys.length * a.length ≤ 16777216 then some (.str (Txt.join a ys), st) else none := (rfl)
@[simp] theorem oIsN_run (x : D) (st : Stt) : oIsN x .non st = some (.bl (isNon x), st) := (rfl)
@[simp] theorem oNotN_run (x : D) (st : Stt) : oNotN x .non st = some (.bl (!isNon x), st) := (rfl)
@[simp] theorem isNon_non : isNon .non = true := (rfl)
@[simp] theorem isNon_tup (x : List D) : isNon (.tup x) = false := (rfl)
@[simp] theorem isNon_str (x : Str) : isNon (.str x) = false := (rfl)
@[simp] theorem isNon_loc (x : Nat) : isNon (.loc x) = false := (rfl)
@[simp] theorem isNon_int (x : Int) : isNon (.int x) = false := (rfl)
@[simp] theorem isNon_bl (x : Bool) : isNon (.bl x) = false := (rfl)
@[simp] theorem oNeg_i (i : Int) (st : Stt) : oNeg (.int i) st = some (.int (-i), st) := (rfl)
theorem gT_run (vs : List Nat) (ds : List D) (ρ : En) : gT vs (.tup ds) ρ = if ds.length = vs.length then some (List.foldl (fun (r : En) (p : Nat × D) => r.set p.1 (some p.2)) ρ (vs.zip ds)) else none := (rfl)
@[simp] theorem gOut_run (g : XG) (ρ : En) (d : D) (s : Stt) : gOut g ρ d s = match g d ρ with | some ρ' => .nx ρ' s | none => .no := by unfold gOut; cases g d ρ <;> rfl
@[simp] theorem kit_str_str : kitB "str" "str" = some true := by decide +kernel
@[simp] theorem kit_str_tuple : kitB "str" "tuple" = some false := by decide +kernel
@[simp] theorem kit_str_list : kitB "str" "list" = some false := by decide +kernel
@[simp] theorem kit_str_int : kitB "str" "int" = some false := by decide +kernel
@[simp] theorem kit_str_dict : kitB "str" "dict" = some false := by decide +kernel
@[simp] theorem kit_str_bool : kitB "str" "bool" = some false := by decide +kernel
@[simp] theorem kit_tuple_str : kitB "tuple" "str" = some false := by decide +kernel
@[simp] theorem kit_tuple_tuple : kitB "tuple" "tuple" = some true := by decide +kernel
@[simp] theorem kit_tuple_list : kitB "tuple" "list" = some false := by decide +kernel
@[simp] theorem kit_tuple_int : kitB "tuple" "int" = some false := by decide +kernel
@[simp] theorem kit_tuple_dict : kitB "tuple" "dict" = some false := by decide +kernel
@[simp] theorem kit_tuple_bool : kitB "tuple" "bool" = some false := by decide +kernel
@[simp] theorem kit_list_str : kitB "list" "str" = some false := by decide +kernel
@[simp] theorem kit_list_tuple : kitB "list" "tuple" = some false := by decide +kernel
@[simp] theorem kit_list_list : kitB "list" "list" = some true := by decide +kernel
@[simp] theorem kit_list_int : kitB "list" "int" = some false := by decide +kernel
@[simp] theorem kit_list_dict : kitB "list" "dict" = some false := by decide +kernel
@[simp] theorem kit_list_bool : kitB "list" "bool" = some false := by decide +kernel
@[simp] theorem kit_int_str : kitB "int" "str" = some false := by decide +kernel
@[simp] theorem kit_int_tuple : kitB "int" "tuple" = some false := by decide +kernel
@[simp] theorem kit_int_list : kitB "int" "list" = some false := by decide +kernel
@[simp] theorem kit_int_int : kitB "int" "int" = some true := by decide +kernel
@[simp] theorem kit_int_dict : kitB "int" "dict" = some false := by decide +kernel
@[simp] theorem kit_int_bool : kitB "int" "bool" = some false := by decide +kernel
@[simp] theorem kit_bool_str : kitB "bool" "str" = some false := by decide +kernel
@[simp] theorem kit_bool_tuple : kitB "bool" "tuple" = some false := by decide +kernel
@[simp] theorem kit_bool_list : kitB "bool" "list" = some false := by decide +kernel
@[simp] theorem kit_bool_int : kitB "bool" "int" = some true := by decide +kernel
@[simp] theorem kit_bool_dict : kitB "bool" "dict" = some false := by decide +kernel
@[simp] theorem kit_bool_bool : kitB "bool" "bool" = some true := by decide +kernel
@[simp] theorem kit_NoneType_str : kitB "NoneType" "str" = some false := by decide +kernel
@[simp] theorem kit_NoneType_tuple : kitB "NoneType" "tuple" = some false := by decide +kernel
@[simp] theorem kit_NoneType_list : kitB "NoneType" "list" = some false := by decide +kernel
@[simp] theorem kit_NoneType_int : kitB "NoneType" "int" = some false := by decide +kernel
@[simp] theorem kit_NoneType_dict : kitB "NoneType" "dict" = some false := by decide +kernel
@[simp] theorem kit_NoneType_bool : kitB "NoneType" "bool" = some false := by decide +kernel
@[simp] theorem kit_dict_str : kitB "dict" "str" = some false := by decide +kernel
@[simp] theorem kit_dict_tuple : kitB "dict" "tuple" = some false := by decide +kernel
@[simp] theorem kit_dict_list : kitB "dict" "list" = some false := by decide +kernel
@[simp] theorem kit_dict_int : kitB "dict" "int" = some false := by decide +kernel
@[simp] theorem kit_dict_dict : kitB "dict" "dict" = some true := by decide +kernel
@[simp] theorem kit_dict_bool : kitB "dict" "bool" = some false := by decide +kernel
@[simp] theorem szl : sizeLine = 16777216 := sizeLine_eq
@[simp] theorem bools_nil : bools [] = some [] := (rfl)
@[simp] theorem bools_cons (b : Bool) (r : List D) : bools (.bl b :: r) = (bools r).map (b :: ·) := (rfl)
@[simp] theorem fAll_at (st : Stt) (n : Nat) : fAll [.loc n] st = match st[n]? with | some (.lst ds) => (bools ds).map fun bs => (.bl (bs.all id), st) | _ => none := by
  show (items st (.loc n)).bind _ = _
  rw [items_at]
  cases h : st[n]? with
  | none => simp
  | some o => cases o <;> simp
@[simp] theorem signs_l (l : List Nat) : Rg.signs ⟨l.toArray⟩ = l.map fun c => D.str ⟨#[c]⟩ := (rfl)
@[simp] theorem sIx_none' (n d : Nat) : HT.sIx n d none = d := (rfl)
@[simp] theorem sIx_some' (n d : Nat) (v : Int) : HT.sIx n d (some v) = if v < 0 then (v + (n : Int)).toNat else min v.toNat n := (rfl)
@[simp] theorem cutD_run (ds : List D) (lo hi : Option Int) : cutD ds lo hi = (ds.drop (HT.sIx ds.length 0 lo)).take (HT.sIx ds.length ds.length hi - HT.sIx ds.length 0 lo) := (rfl)
@[simp] theorem oSlA_tup (ds : List D) (lo hi : Option Int) (st : Stt) : oSlA (.tup ds) lo hi st = some (.tup (cutD ds lo hi), st) := (rfl)
@[simp] theorem oSlA_str (z : Str) (lo hi : Option Int) (st : Stt) : oSlA (.str z) lo hi st = if z.length ≤ sizeLine then some (.str (cutS z lo hi), st) else none := (rfl)
@[simp] theorem fListE_tup (ds : List D) (st : Stt) : fListE [.tup ds] st = some (.loc st.length, st ++ [.lst ds]) := (rfl)
@[simp] theorem fListE_cl (ds : List D) (st : Stt) : fListE [.cl ds] st = some (.loc st.length, st ++ [.lst ds]) := (rfl)
@[simp] theorem fListE_at (st : Stt) (n : Nat) : fListE [.loc n] st = match st[n]? with | some (.lst ds) => some (.loc st.length, st ++ [.lst ds]) | some (.dct kvs) => some (.loc st.length, st ++ [.lst (kvs.map fun kv => kD kv.1)]) | _ => none := by
  unfold fListE fList
  simp only [dctAt_at, items_at]
  cases h : st[n]? with
  | none => simp
  | some o => cases o <;> simp
theorem whileF_succ (c : XT) (f : XS) (m : Nat) (ρ : En) (st : Stt) : whileF c f (m + 1) ρ st = (c ρ st).out ρ fun b s => if b = true then (match f ρ s with
      | .nx ρ' st' => whileF c f m ρ' st'
      | .ct ρ' st' => whileF c f m ρ' st'
      | .bk ρ' st' => .nx ρ' st'
      | r => r) else .nx ρ s := (rfl)
theorem sWhile_two : ∃ N : Nat, ∀ (c : XT) (f : XS) (ρ : En) (st : Stt), sWhile c f ρ st = whileF c f (N + 1 + 1) ρ st := ⟨99999998, fun _ _ _ _ => rfl⟩
@[simp] theorem xTupRg_run (fa fb : XE) (ρ : En) (st : Stt) : xTupRg fa fb ρ st = (fa ρ st).bind fun x s => (fb ρ s).bind fun y s => mkRgT x y s := (rfl)
@[simp] theorem xLstRg_run (fa fb : XE) (ρ : En) (st : Stt) : xLstRg fa fb ρ st = (fa ρ st).bind fun x s => (fb ρ s).bind fun y s => mkRgL x y s := (rfl)
@[simp] theorem mkRgT_run (i j : Int) (st : Stt) : mkRgT (.int i) (.int j) st = if rgOk i j then .ok (.tup (rgD i j)) st else .no := Eq.trans rfl rfl
@[simp] theorem mkRgL_run (i j : Int) (st : Stt) : mkRgL (.int i) (.int j) st = if rgOk i j then .ok (.loc st.length) (st ++ [.lst (rgD i j)]) else .no := Eq.trans rfl rfl
@[simp] theorem xSorSet_run (f : XE) (ρ : En) (st : Stt) : xSorSet f ρ st = (f ρ st).bind fun d s => fSorSet s d := (rfl)
@[simp] theorem xLenSet_run (f : XE) (ρ : En) (st : Stt) : xLenSet f ρ st = (f ρ st).bind fun d s => fLenSet s d := (rfl)
@[simp] theorem fSorSet_at (st : Stt) (n : Nat) : fSorSet st (.loc n) = match st[n]? with | some (.lst ds) => (match txts ds with | some xs => if xs.length < 64 then .ok (.loc st.length) (st ++ [.lst ((sortS (dedT xs)).map D.str)]) else .no | none => .no) | _ => .no := by
  unfold fSorSet
  rw [litems_at]
  cases h : st[n]? with
  | none => simp
  | some o => cases o <;> simp <;> rfl
@[simp] theorem fSorted_at (st : Stt) (n : Nat) : fSorted [.loc n] st = match st[n]? with
    | some (.lst ds) => (sortD ds).map fun es => (.loc st.length, st ++ [.lst es])
    | some (.dct kvs) => (sortK (kvs.map (·.1))).map fun ds => (.loc st.length, st ++ [.lst ds])
    | _ => none := by
  unfold fSorted
  simp only [dctAt_at, litems_at]
  cases h : st[n]? with
  | none => simp
  | some o => cases o <;> simp
@[simp] theorem fDict_at (st : Stt) (n : Nat) : fDict [.loc n] st = match st[n]? with | some (.lst ds) => (pairsD ds).map fun kvs => (.loc st.length, st ++ [.dct (mergeD kvs)]) | _ => none := by
  unfold fDict
  simp only [litems_at]
  cases h : st[n]? with
  | none => simp
  | some o => cases o <;> simp
@[simp] theorem wipeD_nil (ρ : En) : wipeD ρ [] = ρ := (rfl)
@[simp] theorem wipeD_cons (ρ : En) (v : Nat) (vs : List Nat) : wipeD ρ (v :: vs) = (wipeD ρ vs).set v none := (rfl)
end Rg

set_option Elab.async false
set_option linter.all false
set_option maxRecDepth 100000
set_option maxHeartbeats 1000000
namespace Rg
open PySem PySem.Spec PyProof.Rows L2
/-! ### exceptions -/
section
variable {X : Cx} {C : Addr} {bmB : List Value} {B newId initId : String}
/-- X() -/
theorem pmk_own0 {x : Str} {p pos : Pos} (F : ExcBaseFacts B newId initId bmB) (q : PySem.W.excIn X.K C bmB newId = true) (gC : X.mg x = some (.ref C)) (kC : PySem.W.keepIn X.K (.ref C) = true) (r : Raises X (.ref C)) (hg : Gl X x)
    (hdb : (x == ("__debug__" : Str)) = false := by decide) : PMk X (.Call (.Name x p) [] [] pos) (fun _ H Q => Q (.ref C) none H) := by
  intro pins s σ H Q I h
  refine wpAny_Call_Name_kw (ld_glob I hg gC ?_ hdb)
  refine PySem.W.callWith_K0 I.kIn kC ?_
  obtain ⟨bm, N, nm, qn, bs, hdct, sn, sub, ab, col, dd, k0, k1, k2, k3, k5, mN, hC, hN, hni, T⟩ := exc_obj I.kIn q
  refine wpAny_call_exc_subT F T hC hN hni (fun h' e hm => ?_) (by show 0 ≤ sizeLine; rw [sizeLine_eq]; omega)
  exact mk_of I hm r h (I.hok.gone hm.new)
end
def sRaise (C : Addr) : XS := fun ρ st => .xx ρ ⟨C, none⟩ st
/-- what a class of the program's errors must say -/
structure ExK (K : PySem.W.Frag) (C : Addr) : Prop where
  q : PySem.W.excIn K C [.type "ValueError", .type "Exception", .type "BaseException", .type "object"] "ValueError.__new__" = true
  kp : PySem.W.keepIn K (.ref C) = true
  b : PySem.W.subIn K (.ref C) (.type "BaseException") = some true
  t : PySem.W.typeIn K (.ref C) = some (.type "type")
section
variable {X : Cx} {x : Str} {p np pos pos' : Pos} {W : WX} {C : Addr}
theorem s_raise0 (E : ExK X.K C) (hc : X.calm = true) (tk : L2.Takes X W) (gC : X.mg x = some (.ref C)) (hg : Gl X x := by rfl) (hdb : (x == ("__debug__" : Str)) = false := by decide) :
    PS X (.Raise (some (.Call (.Name x p) [] [] pos')) none pos) (tXS X.K W (sRaise C)) :=
  ps_imp (ps_raise hc tk (pmk_own0 PySem.F.excBase_ValueError E.q gC E.kp (raises_own E.b E.t) hg hdb)) fun D' σ H ⟨ρ, s, μ, ER', S, h⟩ => h σ H μ (Ext.refl _ _) ER' S none rfl
/-- the suite lets nothing out -/
def noX : Out → Out
  | .xx _ _ _ => .no
  | o => o
def clr (i : Nat) : Out → Out
  | .nx ρ st => .nx (ρ.set i none) st
  | .bk ρ st => .bk (ρ.set i none) st
  | .ct ρ st => .ct (ρ.set i none) st
  | o => o
/-- what stands in the name: an exception without fields, or one with these in its dict -/
def excD (a dd : Addr) (e : Exn) : D := match e.fs with
  | none => .opq Str.empty a
  | some fs => .exo a dd (fs.map (·.1)) (fs.map (·.2))
/-- its dict, as the suite knows it -/
def XLk (e : Exn) (d : Option Addr) (dd : Addr) : Prop := match e.fs with
  | none => d = none
  | some _ => d = some dd
open Classical in
noncomputable def common (g : Addr × Addr → Out) : Out := if h : ∃ o, ∀ a, g a = o then h.choose else .no
theorem common_all {g : Addr × Addr → Out} (a : Addr × Addr) (h : common g ≠ .no) : g a = common g := by
  unfold common at h ⊢
  split at h
  · rename_i q
    rw [dif_pos q]
    exact q.choose_spec a
  · exact absurd rfl h
theorem common_of {g : Addr × Addr → Out} {o : Out} (h : ∀ a, g a = o) : common g = o := by
  have q : ∃ o, ∀ a, g a = o := ⟨o, h⟩
  unfold common
  rw [dif_pos q]
  have := q.choose_spec (0, 0)
  rw [h] at this
  exact this.symm
theorem fr_split {K : PySem.W.Frag} {H : Hp} {μ : List Addr} : ∀ {fs : List (Str × D)} {vs : List (Str × V)}, FR K H μ fs vs → Rls K H μ (fs.map (·.2)) (vs.map (·.2)) ∧ vs = (fs.map (·.1)).zip (vs.map (·.2))
  | _, _, .nil => ⟨.nil, rfl⟩
  | _, _, .cons (a := p) (b := q) r t => by
    obtain ⟨h1, h2⟩ := fr_split t
    refine ⟨.cons r.2 h1, ?_⟩
    simp only [List.map_cons, List.zip_cons_cons]
    rw [← h2, r.1]
theorem xr_excD {K : PySem.W.Frag} {H : Hp} {μ : List Addr} {e : Exn} {d : Option Addr} (h : XR K H μ e d) (a : Addr) : ∃ dd, XLk e d dd ∧ Rl K H μ (excD a dd e) (.ref a) := by
  unfold XR at h
  unfold XLk excD
  cases e1 : e.fs with
  | none => rw [e1] at h; exact ⟨0, h, .opq _ a⟩
  | some fs =>
    rw [e1] at h
    obtain ⟨dd, vs, h1, h2, h3⟩ := h
    obtain ⟨r, q⟩ := fr_split h3
    exact ⟨dd, h1, .exo (by rw [← q]; exact h2) r⟩
/-- try: f except C: g -/
def sTry0 (ca : Addr → Option Bool) (f g : XS) : XS := fun ρ st => match f ρ st with
  | .xx ρ' e s => (match ca e.cls with
    | some true => noX (g ρ' s)
    | some false => .xx ρ' e s
    | none => .no)
  | o => o
noncomputable def sTryA (ca : Addr → Option Bool) (i : Nat) (f : XS) (g : Addr × Addr → Exn → XS) : XS := fun ρ st => match f ρ st with
  | .xx ρ' e s => (match ca e.cls with
    | some true => common fun a => clr i (noX (g a e (ρ'.set i (some (excD a.1 a.2 e))) s))
    | some false => .xx ρ' e s
    | none => .no)
  | o => o
theorem outOk_noX {K : PySem.W.Frag} {W : WX} {D' : Ends} {H : Hp} {μ : List Addr} : ∀ {o : Out}, outOk K W D' H μ (noX o) → outOk K W0 D' H μ o
  | .no, h => h
  | .nx _ _, h => h
  | .rt _ _, h => h
  | .bk _ _, h => h
  | .ct _ _, h => h
  | .xx _ _ _, h => h.elim
theorem outOk_clr {K : PySem.W.Frag} {W : WX} {D' : Ends} {H : Hp} {μ : List Addr} {i : Nat} : ∀ {o : Out}, outOk K W D' H μ (clr i o) → outOk K W { nx := fun σ' H' => D'.nx (σ'.set i none) H', rt := D'.rt, bk := fun σ' H' => D'.bk (σ'.set i none) H', ct := fun σ' H' => D'.ct (σ'.set i none) H' } H μ o
  | .no, h => h
  | .nx _ _, h => fun σ H' μ' e E S => h (σ.set i none) H' μ' e (E.none i) S
  | .rt _ _, h => h
  | .bk _ _, h => fun σ H' μ' e E S => h (σ.set i none) H' μ' e (E.none i) S
  | .ct _ _, h => fun σ H' μ' e E S => h (σ.set i none) H' μ' e (E.none i) S
  | .xx _ _ _, h => h
/-- what is wished where e is caught -/
def tSu (K : PySem.W.Frag) (f : Exn → XS) (cls : Value) (d : Option Addr) : L2.TS := fun D' σ H => ∃ ρ st μ e, ER K H μ ρ σ ∧ SR K H μ st ∧ cls = .ref e.cls ∧ XR K H μ e d ∧ outOk K W0 D' H μ (f e ρ st)
variable {body suite : List Stmt} {b₀ : Stmt} {n : Str} {fb : XS} {ca : Addr → Option Bool}
theorem s_try0 {fs : XS} (hs : X.stack = X.env :: X.outer) (hf : X.env.frame = some X.env.locals) (hc : Names X x (.ref C)) (hca : ∀ D b, ca D = some b → PySem.W.exmOne X.K (.ref D) (.ref C) = some b) (tk : L2.Takes X W)
    (hb : ∀ (W : WX) (pn : List (Addr × Obj)) (xe : Value → Shared → Prop), L2.Takes (X.tr pn xe) W → PassesOwn (model X.prog X.w) X.A X.env xe → PSs (X.tr pn xe) body (tXS X.K W fb))
    (hsu : ∀ (a : Addr) (oe : Obj) (pn : List (Addr × Obj)), PSs (X.suite a ((a, oe) :: pn)) (b₀ :: suite) (tXS X.K W0 fs)) :
    PS X (.Try body [.ExceptHandler (some (.Name x np)) none (b₀ :: suite) pos'] [] [] pos) (tXS X.K W (sTry0 ca fb fs)) := by
  refine ps_imp (ps_try_only (tb := fun W => tXS X.K W fb) (ts := fun _ _ _ => tXS X.K W0 fs) hs hf hc tk hb (fun a oe cls d pn _ _ => hsu a oe pn)) fun D' σ H ⟨ρ, s, μ, E, S, h⟩ => ?_
  unfold sTry0 at h
  refine ⟨ρ, s, μ, E, S, ?_⟩
  cases e1 : fb ρ s with
  | no => rw [e1] at h; exact h
  | nx ρ' s' => rw [e1] at h; exact h
  | rt d s' => rw [e1] at h; exact h
  | bk ρ' s' => rw [e1] at h; exact h
  | ct ρ' s' => rw [e1] at h; exact h
  | xx ρ' e s' =>
    rw [e1] at h
    intro σ' H' μ' ex E' S' d hd
    dsimp only at h
    cases hm : ca e.cls with
    | none => rw [hm] at h; exact h.elim
    | some b =>
      rw [hm] at h
      refine ⟨b, hca _ _ hm, fun hb' a ha => ?_, fun hb' => ?_⟩
      · subst hb'
        exact ⟨ρ', s', μ', E', S', outOk.at ex (outOk_noX h)⟩
      · subst hb'
        exact h σ' H' μ' ex E' S' d hd
theorem pss_ex {Y : Cx} {l : List Stmt} {α : Type} {P : α → Prop} {t : α → L2.TS} (h : ∀ e, P e → PSs Y l (t e)) : PSs Y l (fun D σ H => ∃ e, P e ∧ t e D σ H) := ⟨fun pins s σ H D I ⟨e, p, q⟩ => (h e p).run pins s σ H D I q⟩
theorem s_tryA (i : Nat) {fs : Addr × Addr → Exn → XS} (hN : X.N.Nodup) (hs : X.stack = X.env :: X.outer) (hf : X.env.frame = some X.env.locals) (hi : X.N[i]? = some n) (hln : X.env.kindOf n = some .local) (hc : Names X x (.ref C)) (hca : ∀ D b, ca D = some b → PySem.W.exmOne X.K (.ref D) (.ref C) = some b) (tk : L2.Takes X W)
    (hb : ∀ (W : WX) (pn : List (Addr × Obj)) (xe : Value → Shared → Prop), L2.Takes (X.tr pn xe) W → PassesOwn (model X.prog X.w) X.A X.env xe → PSs (X.tr pn xe) body (tXS X.K W fb))
    (hsu : ∀ (a dd : Addr) (oe : Obj) (d : Option Addr) (pn : List (Addr × Obj)) (e : Exn), Zc (.ref e.cls) d oe → (∃ vs, oe.data = .fields vs) → XLk e d dd → PSs (X.suite a ((a, oe) :: pn)) (b₀ :: suite) (tXS X.K W0 (fs (a, dd) e))) :
    PS X (.Try body [.ExceptHandler (some (.Name x np)) (some n) (b₀ :: suite) pos'] [] [] pos) (tXS X.K W (sTryA ca i fb fs)) := by
  refine ps_imp (ps_try_as (i := i) (tb := fun W => tXS X.K W fb) (ts := fun a cls d D' σ H => ∃ p : Exn × Addr, (cls = .ref p.1.cls ∧ XLk p.1 d p.2) ∧ tXS X.K W0 (fs (a, p.2) p.1) D' σ H) hs hf hN hi hln hc tk hb
    (fun a oe cls d pn hz hv => pss_ex fun p ⟨he, hd⟩ => hsu a p.2 oe d pn p.1 (by rw [← he]; exact hz) hv hd)) fun D' σ H ⟨ρ, s, μ, E, S, h⟩ => ?_
  unfold sTryA at h
  refine ⟨ρ, s, μ, E, S, ?_⟩
  cases e1 : fb ρ s with
  | no => rw [e1] at h; exact h
  | nx ρ' s' => rw [e1] at h; exact h
  | rt d s' => rw [e1] at h; exact h
  | bk ρ' s' => rw [e1] at h; exact h
  | ct ρ' s' => rw [e1] at h; exact h
  | xx ρ' e s' =>
    rw [e1] at h
    intro σ' H' μ' ex E' S' d hd
    dsimp only at h
    cases hm : ca e.cls with
    | none => rw [hm] at h; exact h.elim
    | some b =>
      rw [hm] at h
      refine ⟨b, hca _ _ hm, fun hb' a ha => ?_, fun hb' => ?_⟩
      · subst hb'
        have h : outOk X.K W D' H μ (common fun a => clr i (noX (fs a e (ρ'.set i (some (excD a.1 a.2 e))) s'))) := h
        have hne : (common fun a => clr i (noX (fs a e (ρ'.set i (some (excD a.1 a.2 e))) s'))) ≠ .no := fun z => by rw [z] at h; exact h
        obtain ⟨dd, lk, rx⟩ := xr_excD hd a
        rw [← common_all (a, dd) hne] at h
        exact ⟨(e, dd), ⟨rfl, lk⟩, ρ'.set i (some (excD a dd e)), s', μ', E'.set rx i, S', outOk.at ex (outOk_noX (W := W) (outOk_clr h))⟩
      · subst hb'
        exact h σ' H' μ' ex E' S' d hd
/-- isinstance(e, T) of what is caught -/
def isE (sub : Option Bool) (p : Addr × Addr) (e : Exn) (x : D) (s : Stt) : R D := match x, sub with
  | .opq _ a', some b => if a' = p.1 ∧ e.fs.isNone = true then .ok (.bl b) s else .no
  | .exo a' dd' _ _, some b => if (a' = p.1 ∧ dd' = p.2) ∧ e.fs.isSome = true then .ok (.bl b) s else .no
  | _, _ => .no
def xIsE (sub : Option Bool) (p : Addr × Addr) (e : Exn) (i : Nat) : XE := fun ρ st => (xV i ρ st).bind (isE sub p e)
theorem inst_exd {Y : Cx} {pins : List (Addr × Obj)} {σ : L2.St} {H : Hp} {s : Shared} {a dd D : Addr} {oe : Obj} {vs : List (Str × V)} (I : Inv Y pins σ H s) (hg : s.heap.get? a = some oe) (hz : Zc (.ref D) (some dd) oe) (hf : ∃ vs, oe.data = .fields vs) (hx : H dd = some (.xd vs)) : ∃ od, PySem.W.InstAt s.heap a oe D (some od) := by
  obtain ⟨mA, hns, _⟩ := (I.hok dd _ hx : ObjOk Y.prog Y.w H s.heap dd (.xd vs))
  obtain ⟨od, ho, _⟩ := lookIn_ns hns
  obtain ⟨ws, hw⟩ := hf
  exact ⟨od, hg, hz.1, (by unfold PySem.W.notCls; rw [hw] <;> rfl), (by rw [hz.2]; exact ho)⟩
def rIsEd (K : PySem.W.Frag) (D a dd : Addr) : List V → Hp → VK → Prop := fun xs H Q => (∃ vs, H dd = some (.xd vs)) ∧ ∃ (c : V) (cv : Value) (b : Bool), xs = [.ref a, c] ∧ (∀ u, RelV c u → u = cv) ∧ PySem.W.kitOne K (.ref D) cv = some b ∧ Q (.bl b) H
theorem call_isEd {X : Cx} {a dd D : Addr} {oe : Obj} {pn : List (Addr × Obj)} (C : ExcC X.K D) (hz : Zc (.ref D) (some dd) oe) (hf : ∃ vs, oe.data = .fields vs) : CallR (X.suite a ((a, oe) :: pn)) (.builtin "isinstance") (rIsEd X.K D a dd) := by
  intro pins s σ H xs us Q I r ⟨⟨vs, hx⟩, c, cv, b, exs, hcv, e, q⟩
  subst exs
  have hcl : (PySem.W.clsIn X.K D).isSome = true := by
    obtain ⟨_, h1, _⟩ := PySem.W.any_some C.hd
    rw [h1] <;> rfl
  match us, r with
  | _, .cons rx (.cons rt .nil) =>
    cases rx
    cases (hcv _ rt : _ = cv)
    obtain ⟨od, J⟩ := inst_exd I (I.pin (a, oe) (List.mem_append.mpr (.inl List.mem_cons_self))).1 hz hf hx
    refine PySem.W.kia_one (PySem.W.kitx_exc hcl C.hg C.hk C.hs C.ha C.hn C.ht C.hm) I.kIn J e (fun z => nomatch z) fun tk => ?_
    exact ⟨.bl b, H, I.kept (t' := tk) (fun _ _ z => z), rfl, q⟩
theorem e_isE {Y : Cx} {a dd T : Addr} {oe : Obj} {pn : List (Addr × Obj)} {d : Option Addr} {e : Exn} {ea : Expr} {i : Nat} {y : Str} {p2 pos2 : Pos} {sub : Option Bool} (hY : Y = X.suite a ((a, oe) :: pn)) (hz : Zc (.ref e.cls) d oe) (hf : ∃ vs, oe.data = .fields vs) (hd : XLk e d dd)
    (hs : ∀ b, sub = some b → ExcC X.K e.cls ∧ PySem.W.kitOne X.K (.ref e.cls) (.ref T) = some b)
    (he : PE Y ea (tX Y.K W (xV i))) (hm : Y.mg "isinstance" = none) (hT : Y.mg y = some (.ref T)) (hg : Gl Y "isinstance" := by rfl) (hg2 : Gl Y y := by rfl) (hdb : (y == ("__debug__" : Str)) = false := by decide)
    (hst : starEach [ea, .Name y p2] Y.env = (false, eval ea Y.env) :: starEach [.Name y p2] Y.env := by rfl) (hpl : (backTo pos2 (starEach [.Name y p2] Y.env)).any (·.1) = false := by rfl) :
    PE Y (.Call (.Name "isinstance" p) [ea, .Name y p2] [] pos2) (tX Y.K W (xIsE sub (a, dd) e i)) := by
  refine ⟨fun pins s σ H Q I ⟨ρ, st, μ, E, S, h⟩ => ?_⟩
  subst hY
  have key : ∃ b x, sub = some b ∧ xV i ρ st = .ok x st ∧ ((∃ k0, x = .opq k0 a ∧ e.fs = none) ∨ ∃ ks ds, x = .exo a dd ks ds ∧ e.fs.isSome = true) ∧ RO X.K (wx X.K W σ) H μ (QD X.K Q) (.ok (.bl b) st) := by
    unfold xIsE at h
    cases e1 : xV i ρ st with
    | no => rw [e1] at h; exact h.elim
    | ex x s => unfold xV at e1; split at e1 <;> cases e1
    | ok x s =>
      have es : s = st := by unfold xV at e1; split at e1 <;> cases e1; rfl
      subst es
      rw [e1] at h
      have h2 : RO X.K (wx X.K W σ) H μ (QD X.K Q) (isE sub (a, dd) e x s) := h
      clear h
      unfold isE at h2
      split at h2
      · split at h2
        · rename_i hq
          obtain ⟨rfl, hn⟩ := hq
          exact ⟨_, _, rfl, rfl, .inl ⟨_, rfl, Option.isNone_iff_eq_none.mp hn⟩, h2⟩
        · exact h2.elim
      · split at h2
        · rename_i hq
          obtain ⟨⟨rfl, rfl⟩, hn⟩ := hq
          exact ⟨_, _, rfl, rfl, .inr ⟨_, _, rfl, hn⟩, h2⟩
        · exact h2.elim
      · exact h2.elim
  obtain ⟨b, x, e1, e3, e2, h⟩ := key
  obtain ⟨hC, hk⟩ := hs b e1
  unfold XLk at hd
  rcases e2 with ⟨k0, rfl, hn⟩ | ⟨ks, ds, rfl, hn⟩
  · rw [hn] at hd
    have hd' : d = none := hd
    subst hd'
    refine (pe_callB (call_isE hC hz hf) hg hm (by decide +kernel) (pa_cons he (pa_cons (pe_glob (v := .ref T) hg2 hT rfl hdb) pa_nil) hst) (by decide) (by decide) hst hpl).run pins s σ H Q I ?_
    refine tX_of E S (P := fun d st' _ _ => d = .opq k0 a ∧ st' = st) (by rw [e3]; exact fun _ _ _ _ => ⟨rfl, rfl⟩) fun x s1 H1 μ1 xv e4 E1 S1 r1 hx => ?_
    obtain ⟨hx, hs1⟩ := hx
    subst hx hs1
    cases r1
    exact ⟨.ref T, .ref T, b, rfl, fun u hu => hu, hk, h H1 μ1 e4 S1 _ (.bl b)⟩
  · obtain ⟨fs, hfs⟩ := Option.isSome_iff_exists.mp hn
    rw [hfs] at hd
    have hd' : d = some dd := hd
    subst hd'
    refine (pe_callB (call_isEd hC hz hf) hg hm (by decide +kernel) (pa_cons he (pa_cons (pe_glob (v := .ref T) hg2 hT rfl hdb) pa_nil) hst) (by decide) (by decide) hst hpl).run pins s σ H Q I ?_
    refine tX_of E S (P := fun d st' _ _ => d = .exo a dd ks ds ∧ st' = st) (by rw [e3]; exact fun _ _ _ _ => ⟨rfl, rfl⟩) fun x s1 H1 μ1 xv e4 E1 S1 r1 hx => ?_
    obtain ⟨hx, hs1⟩ := hx
    subst hx hs1
    cases r1 with
    | exo hxd rr => exact ⟨⟨_, hxd⟩, .ref T, .ref T, b, rfl, fun u hu => hu, hk, h H1 μ1 e4 S1 _ (.bl b)⟩
/-! e.f -/
def fldE (sub : Option Bool) (p : Addr × Addr) (f : Str) (x : D) (s : Stt) (e : Exn) : R D := match x, sub with
  | .exo a' dd' ks ds, some _ => if (a' = p.1 ∧ dd' = p.2) ∧ e.fs.isSome = true then (match (ks.zip ds).lookup f with
    | some d => .ok d s
    | none => .no) else .no
  | _, _ => .no
def xFldE (sub : Option Bool) (p : Addr × Addr) (e : Exn) (f : Str) (i : Nat) : XE := fun ρ st => (xV i ρ st).bind fun x s => fldE sub p f x s e
theorem zip_lookup {K : PySem.W.Frag} {H : Hp} {μ : List Addr} {f : Str} {d : D} : ∀ {ks : List Str} {ds : List D} {vs : List V}, Rls K H μ ds vs → (ks.zip ds).lookup f = some d → ∃ v, (ks.zip vs).lookup f = some v ∧ Rl K H μ d v
  | [], _, _, _, h => by cases h
  | _ :: _, _, _, .nil, h => by cases h
  | k :: ks, _, _, .cons (d := d0) (v := v0) r t, h => by
    rw [List.zip_cons_cons, List.lookup_cons] at h
    rw [List.zip_cons_cons, List.lookup_cons]
    by_cases hk : (f == k) = true
    · rw [hk] at h ⊢
      cases h
      exact ⟨v0, rfl, r⟩
    · have hk : (f == k) = false := by simpa using hk
      rw [hk] at h ⊢
      exact zip_lookup t h
theorem e_fldE {Y : Cx} {a dd : Addr} {oe : Obj} {pn : List (Addr × Obj)} {d : Option Addr} {e : Exn} {ea : Expr} {i : Nat} {f : Str} {pos2 : Pos} {sub : Option Bool} (hY : Y = X.suite a ((a, oe) :: pn)) (hz : Zc (.ref e.cls) d oe) (hf : ∃ vs, oe.data = .fields vs) (hd : XLk e d dd)
    (hs : ∀ b, sub = some b → XfC X.K e.cls ∧ PySem.W.findIn X.K (.ref e.cls) f = some none)
    (he : PE Y ea (tX Y.K W (xV i))) (hb : attributeBase ea f Y.env (eval ea Y.env) = eval ea Y.env := by rfl) :
    PE Y (.Attribute ea f pos2) (tX Y.K W (xFldE sub (a, dd) e f i)) := by
  subst hY
  cases sub with
  | none =>
    refine ⟨fun pins s σ H Q I ⟨ρ, st, μ, E, S, h⟩ => ?_⟩
    exfalso
    unfold xFldE at h
    cases e1 : xV i ρ st with
    | no => rw [e1] at h; exact h
    | ex x s => unfold xV at e1; split at e1 <;> cases e1
    | ok x s => rw [e1] at h; unfold fldE at h; cases x <;> exact h
  | some b =>
    obtain ⟨h1, hno⟩ := hs b rfl
    refine pe_imp (pe_xf h1 hno hz hf he hb) fun σ H Q ⟨ρ, st, μ, E, S, h⟩ => ?_
    refine tX_of E S h.bind fun x s1 H1 μ1 xv e1 E1 S1 r1 h1 => ?_
    unfold fldE at h1
    split at h1
    · rename_i a' dd' ks ds _
      split at h1
      · rename_i hq
        obtain ⟨⟨rfl, rfl⟩, hn⟩ := hq
        split at h1
        · rename_i y hy
          cases r1 with
          | exo hx rr =>
            obtain ⟨v, hv, rv⟩ := zip_lookup rr hy
            obtain ⟨fs, hfs⟩ := Option.isSome_iff_exists.mp hn
            unfold XLk at hd
            rw [hfs] at hd
            exact ⟨rfl, rfl, _, _, v, hd, hx, hv, h1.ok S1 v rv⟩
        · exact h1.elim
      · exact h1.elim
    · exact h1.elim
end
end Rg

set_option Elab.async false
set_option linter.all false
set_option maxRecDepth 100000
set_option maxHeartbeats 1000000
namespace Rg
open PySem PySem.Spec PyProof.Rows L2
variable {K : PySem.W.Frag}
/-! ### sorted, of data -/
def alikeB (ps : List PyData) : Bool := ps.all fun d => ps.all fun e => PySem.W.alike d e
def headed : PyData → Bool
  | .tuple (_ :: _) => true
  | _ => false
def plainB : PyData → Bool
  | .none => false
  | .tuple _ => false
  | _ => true
def sortableB (ps : List PyData) : Bool := ps.all headed || ps.all plainB
theorem alikeB_ok {ps : List PyData} (h : alikeB ps = true) : PySem.W.AllAlike ps := fun d hd e he => List.all_eq_true.mp (List.all_eq_true.mp h d hd) e he
theorem sortableB_ok {ps : List PyData} (h : sortableB ps = true) : PySem.W.Sortable ps := by
  unfold sortableB at h
  rw [Bool.or_eq_true] at h
  rcases h with h | h
  · refine .inl fun d hd => ?_
    have := List.all_eq_true.mp h d hd
    unfold headed at this
    split at this
    · exact ⟨_, _, rfl⟩
    · cases this
  · refine .inr fun d hd => ?_
    have := List.all_eq_true.mp h d hd
    unfold plainB at this
    split at this
    · cases this
    · cases this
    · rename_i h1 h2
      exact ⟨h1, h2⟩
/-- the order of what is sorted -/
def leP {α : Type} : α × PyData → α × PyData → Bool := PySem.W.dataLe false Prod.snd
def sortP {α : Type} (xs : List α) (ps : List PyData) : List α := ((xs.zip ps).mergeSort leP).map Prod.fst
def rSortD (K : PySem.W.Frag) : List V → Hp → VK → Prop := fun vs H Q => ∃ (a : Addr) (xs : List V) (ps : List PyData), vs = [.ref a] ∧ SqL K H a xs ∧ DpAll K H xs ps ∧ PySem.W.AllAlike ps ∧ PySem.W.Sortable ps ∧ (∀ p ∈ ps, p.depth ≤ 61) ∧
  ∀ l, H l = none → Q (.ref l) (upd H l (.lst (sortP xs ps)))
theorem DpAll.len {H : Hp} : ∀ {xs : List V} {ps : List PyData}, DpAll K H xs ps → xs.length = ps.length
  | _, _, .nil => rfl
  | _, _, .cons _ t => by simp [DpAll.len t]
theorem dpAll_each {X : Cx} {pins : List (Addr × Obj)} {σ : L2.St} {H : Hp} {s : Shared} (I : L2.Inv X pins σ H s) : ∀ {xs : List V} {ps : List PyData} {us : List Value}, DpAll X.K H xs ps → Vals xs us →
    PySem.W.EachIs (fun u (b : V × PyData) => RelV b.1 u ∧ ∃ as, Reads s.heap u b.2 as) us (xs.zip ps)
  | _, _, _, .nil, .nil => .nil
  | _, _, _, .cons d t, .cons r rs => .cons ⟨r, Dp.reads I _ _ _ d r⟩ (dpAll_each I t rs)
theorem each_imp {α β : Type} {R S : α → β → Prop} (h : ∀ a b, R a b → S a b) : ∀ {as : List α} {bs : List β}, PySem.W.EachIs R as bs → PySem.W.EachIs S as bs
  | _, _, .nil => .nil
  | _, _, .cons r t => .cons (h _ _ r) (each_imp h t)
theorem vals_each : ∀ {us : List Value} {bs : List (V × PyData)}, PySem.W.EachIs (fun u (b : V × PyData) => RelV b.1 u) us bs → Vals (bs.map Prod.fst) us
  | _, _, .nil => .nil
  | _, _, .cons r t => .cons r (vals_each t)
theorem zip_snd : ∀ (xs : List V) (ps : List PyData), xs.length = ps.length → (xs.zip ps).map Prod.snd = ps
  | [], [], _ => rfl
  | [], _ :: _, h => by simp at h
  | _ :: _, [], h => by simp at h
  | x :: xs, p :: ps, h => by simp [zip_snd xs ps (by simpa using h)]
theorem cr_sortD {X : Cx} (hu : X.A.units + 64 < cLine) : CallR X (.builtin "sorted") (rSortD X.K) := by
  intro pins s σ H vs us Q I r h
  obtain ⟨a, xs, ps, rfl, hs, dp, al, so, dep, q⟩ := h
  obtain ⟨its, rv, hl, hz⟩ := I.list hs
  rw [Vals.ref1 r]
  have e := dpAll_each I dp rv
  have ez := zip_snd xs ps (DpAll.len dp)
  have kp : ∀ b o, s.heap.get? b = some o → (PySem.W.sortingHeap (PySem.W.copyHeap s.heap its) (s.heap.objs.size + 1) its).get? b = some o := fun b o eb => PySem.W.sorting_copy_old eb
  have er : PySem.W.EachIs (fun u (b : V × PyData) => ∃ as, Reads (PySem.W.sortingHeap (PySem.W.copyHeap s.heap its) (s.heap.objs.size + 1) its) u b.2 as) its (xs.zip ps) := each_imp (fun u b h => by
    obtain ⟨_, as, h⟩ := h
    exact ⟨as, Reads.keeps kp h⟩) e
  have el : its.length ≤ sizeLine := by rw [← rv.length]; exact hz
  refine PySem.W.sorted_vals hl.isList (κ := PySem.W.dataKind (PySem.W.sortingHeap (PySem.W.copyHeap s.heap its) (s.heap.objs.size + 1) its) ps) (PySem.W.SortsAt.data ?_ al so fun d hd => ?_) el ?_
  · rw [← ez]
    exact PySem.W.each_map (R := fun u d => ∃ as, Reads (PySem.W.sortingHeap (PySem.W.copyHeap s.heap its) (s.heap.objs.size + 1) its) u d as) Prod.snd er
  · have := dep d hd
    show X.A.units + 1 + 1 + d.depth < cLine
    omega
  · have sd := PySem.W.sortVals_data (R := fun u (b : V × PyData) => RelV b.1 u) (enc := Prod.snd) false (each_imp (fun _ _ h => h.1) e) er (by rw [ez]; exact al)
    rw [ez] at sd
    have rv2 := vals_each sd
    obtain ⟨ep, he'⟩ := PyProof.Rows.sortedAll_at s.heap its (PySem.W.sortVals (PySem.W.dataKind (PySem.W.sortingHeap (PySem.W.copyHeap s.heap its) (s.heap.objs.size + 1) its) ps) false its its).toArray
    refine ⟨.ref _, upd H (s.heap.objs.size + 1) (.lst (sortP xs ps)), I.laid (t' := s.toks) (fun _ _ => PyProof.Rows.sortedAll_old) (Nat.le_succ _) ⟨?_, _, ep, rv2, he'⟩, rfl, q _ (I.hok.fresh (Nat.le_succ _))⟩
    have : (sortP xs ps).length = _ := rv2.length
    rw [this, PySem.W.sortVals_length false rfl]
    exact el
/-! over trees -/
theorem rls_sort {H : Hp} {μ : List Addr} {ds : List D} {vs : List V} (r : Rls K H μ ds vs) (ps : List PyData) : Rls K H μ (sortP ds ps) (sortP vs ps) := by
  have key : ∀ (ds : List D) (vs : List V) (ps : List PyData), Rls K H μ ds vs → PySem.W.EachIs (fun (x : D × PyData) (y : V × PyData) => Rl K H μ x.1 y.1 ∧ x.2 = y.2) (ds.zip ps) (vs.zip ps) := by
    intro ds
    induction ds with
    | nil => intro vs ps r; cases r; exact .nil
    | cons d ds ih =>
      intro vs ps r
      cases r with
      | cons r t =>
        cases ps with
        | nil => exact .nil
        | cons p ps => exact .cons ⟨r, rfl⟩ (ih _ ps t)
  have hk := key ds vs ps r
  have hs := PySem.W.sort_each (r := leP) (s := leP) hk fun p hp q hq => by
    have e1 := (hk.zip p hp).2
    have e2 := (hk.zip q hq).2
    show PySem.W.dataLe false Prod.snd p.1 q.1 = PySem.W.dataLe false Prod.snd p.2 q.2
    unfold PySem.W.dataLe PySem.W.sortLe
    simp only [e1, e2]
  have go : ∀ (l : List (D × PyData)) (m : List (V × PyData)), PySem.W.EachIs (fun (x : D × PyData) (y : V × PyData) => Rl K H μ x.1 y.1 ∧ x.2 = y.2) l m → Rls K H μ (l.map Prod.fst) (m.map Prod.fst) := by
    intro l
    induction l with
    | nil => intro m h; cases h; exact .nil
    | cons x l ih => intro m h; cases h with | cons h t => exact .cons h.1 (ih _ t)
  exact go _ _ hs
/-- sorted(xs) -/
noncomputable def fSortD : BF := fun xs st => match xs with
  | [d] => (litems st d).bind fun ds => (ds.mapM (toD st 60)).bind fun ps => if alikeB ps = true ∧ sortableB ps = true then some (.loc st.length, st ++ [.lst (sortP ds ps)]) else none
  | _ => none
theorem does_sortD : DoesN K (rSortD K) fSortD := fun xs st d st' vs H μ Q r S h q => by
  unfold fSortD at h
  split at h
  · obtain ⟨ds, h1, h⟩ := Option.bind_eq_some_iff.mp h
    obtain ⟨ps, h2, h⟩ := Option.bind_eq_some_iff.mp h
    split at h
    · rename_i hc
      cases h
      obtain ⟨v, rfl, rv⟩ := rls1 r
      obtain ⟨a, us, rfl, hq, q1⟩ := litems_seq (K := K) S h1 rv
      obtain ⟨b1, b2, b3⟩ := mapM_dp (toD_dp S 60) ds ps us h2 q1
      refine ⟨a, us, ps, rfl, hq, b1, alikeB_ok hc.1, sortableB_ok hc.2, fun p hp => ?_, fun l hl => q _ _ _ (ext_new hl _) (S.newL hl (rls_sort q1 ps)) (loc_new S)⟩
      have dm : ∀ (ps : List PyData) (p : PyData), p ∈ ps → p.depth ≤ PyData.depthAll ps := by
        intro ps
        induction ps with
        | nil => intro p h; cases h
        | cons x xs ih =>
          intro p h
          simp only [PyData.depthAll]
          rcases List.mem_cons.mp h with rfl | h
          · omega
          · have := ih p h; omega
      have := dm ps p hp
      omega
    · cases h
  · cases h
/-! ### sorted(d.items()) -/
def rItemsK : V → List V → Hp → VK → Prop := fun x xs H Q => ∃ (a : Addr) (kvs : List (Key × V)), x = .ref a ∧ xs = [] ∧ H a = some (.dK kvs) ∧ ∀ p, H p = none → Q (.ref p) (upd H p (L2.DX.itemsO p a))
theorem mt_itemsK {X : Cx} : MtR X "dict.items" rItemsK := by
  intro pins s σ H x xs v us Q I rx rxs h
  obtain ⟨a, kvs, rfl, rfl, ha, q⟩ := h
  cases rx
  cases rxs
  obtain ⟨z, hd, vs, rel, o, es, ep, ho, hx, hdat, _⟩ := dk_of I.hok ha
  refine DT.callItems (es := es) (ep := ep) hd ⟨o, ho, hx, hdat⟩ ?_
  have hf : H s.heap.objs.size = none := I.hok.fresh (Nat.le_refl _)
  exact ⟨.ref s.heap.objs.size, upd H s.heap.objs.size (L2.DX.itemsO s.heap.objs.size a), I.laid (t' := s.toks) (fun b u e => Heap.get?_push_of_some _ e) (Nat.le_refl _) (L2.DX.itemsO_ok (Heap.get?_push_size _ rfl)), rfl, q _ hf⟩
/-- the pairs as tuples: what is sorted -/
def kP : Key → PyData
  | .inl i => .int i
  | .inr x => .str x
def prD (l : List (Key × PyData)) : List PyData := l.map fun q => .tuple [kP q.1, q.2]
def rSortIt (K : PySem.W.Frag) : List V → Hp → VK → Prop := fun vs H Q => ∃ (p a : Addr) (kvs : List (Key × V)) (qs : List PyData), vs = [.ref p] ∧ H p = some (L2.DX.itemsO p a) ∧ H a = some (.dK kvs) ∧ DpAll K H (kvs.map (·.2)) qs ∧
  PySem.W.AllAlike (prD ((kvs.map (·.1)).zip qs)) ∧ PySem.W.Sortable (prD ((kvs.map (·.1)).zip qs)) ∧ (∀ p ∈ prD ((kvs.map (·.1)).zip qs), p.depth ≤ 61) ∧
  ∀ (H' : Hp) (l : Addr) (as : List Addr), (∀ b o, H b = some o → H' b = some o) → H l = none → as.length = kvs.length → H' l = some (.lst ((sortP as (prD ((kvs.map (·.1)).zip qs))).map V.ref)) →
    (∀ (j : Nat) (b : Addr) (kv : Key × V), as[j]? = some b → kvs[j]? = some kv → H' b = some (.tup [kV kv.1, kv.2])) → Q (.ref l) H'
theorem pairs_get {P : Program} {w : World} : ∀ {es : List DictEntry} {ws : List (Key × Value)} {j : Nat} {e : DictEntry}, Pairs (mixKind P w) es ws → es[j]? = some e → ∃ kv, ws[j]? = some kv ∧ (mixKind P w).is kv.1 e.key = true ∧ e.val = kv.2
  | _, _, _, _, .nil, h => by simp at h
  | _, _, 0, _, .cons h1 h2 t, h => by simp at h; subst h; exact ⟨_, rfl, h1, h2⟩
  | _, _, j + 1, _, .cons h1 h2 t, h => by
    obtain ⟨kv, a, b⟩ := pairs_get (j := j) t (by simpa using h)
    exact ⟨kv, by simpa using a, b⟩
theorem each_of_get {α β : Type} {R : α → β → Prop} : ∀ {as : List α} {bs : List β}, as.length = bs.length → (∀ (j : Nat) a b, as[j]? = some a → bs[j]? = some b → R a b) → PySem.W.EachIs R as bs
  | [], [], _, _ => .nil
  | [], _ :: _, h, _ => by simp at h
  | _ :: _, [], h, _ => by simp at h
  | a :: as, b :: bs, h, k => .cons (k 0 a b rfl rfl) (each_of_get (by simpa using h) fun j x y hx hy => k (j + 1) x y (by simpa using hx) (by simpa using hy))
theorem dpAll_get {H : Hp} : ∀ {xs : List V} {ps : List PyData} {j : Nat} {v : V}, DpAll K H xs ps → xs[j]? = some v → ∃ p, ps[j]? = some p ∧ Dp K H v p
  | _, _, _, _, .nil, h => by simp at h
  | _, _, 0, _, .cons d t, h => by simp at h; subst h; exact ⟨_, rfl, d⟩
  | _, _, j + 1, _, .cons d t, h => by
    obtain ⟨p, a, b⟩ := dpAll_get (j := j) t (by simpa using h)
    exact ⟨p, by simpa using a, b⟩
theorem prD_get {kvs : List (Key × V)} {qs : List PyData} {j : Nat} {kv : Key × V} {q : PyData} (h1 : kvs[j]? = some kv) (h2 : qs[j]? = some q) : (prD ((kvs.map (·.1)).zip qs))[j]? = some (.tuple [kP kv.1, q]) := by
  unfold prD
  have e : ((kvs.map (·.1)).zip qs)[j]? = some (kv.1, q) := List.getElem?_zip_eq_some.mpr ⟨by rw [List.getElem?_map, h1]; rfl, h2⟩
  rw [List.getElem?_map, e]
  rfl
theorem cr_sortIt {X : Cx} (hc : X.calm = true) (hu : X.A.units + 64 < cLine) : CallR X (.builtin "sorted") (rSortIt X.K) := by
  intro pins s σ H xs us Q I r h
  obtain ⟨p, a, kvs, qs, rfl, hp, ha, dp, al, so, dep, q⟩ := h
  obtain rfl := Vals.ref1 r
  have view : s.heap.IsItemsView p a := (show ObjOk X.prog X.w H s.heap p (L2.DX.itemsO p a) from I.hok p _ hp).1
  obtain ⟨z, hd, ws, rel, o, es, ep, ho, hx, hdat, hks, hps, hn⟩ := dk_of I.hok ha
  have l1 : kvs.length = ws.length := Paired.length rel
  have l2 : es.size = ws.length := by rw [← Array.length_toList]; exact Pairs.length hps
  have l3 : qs.length = kvs.length := by have := DpAll.len dp; rw [List.length_map] at this; exact this.symm
  have hh : X.A.handled = none := I.ok.hd hc
  generalize hds : prD ((kvs.map (·.1)).zip qs) = ds at *
  have l4 : ds.length = kvs.length := by rw [← hds]; unfold prD; rw [List.length_map, List.length_zip, List.length_map, l3, Nat.min_self]
  refine DT.sortedI (es := es) (ep := ep) hh view ⟨o, ho, hx, hdat⟩ (by rw [l2, ← l1]; exact z) fun h' tk as hk hlt hl hG => ?_
  have lak : as.length = kvs.length := by omega
  have nd : as.Nodup := List.Pairwise.imp (fun h => Nat.ne_of_lt h) hG.rise
  have pr : ∀ (j : Nat) (b : Addr), as[j]? = some b → ∃ (kv : Key × V) (q : PyData) (ku vu : Value), kvs[j]? = some kv ∧ ds[j]? = some (.tuple [kP kv.1, q]) ∧ RelV (kV kv.1) ku ∧ RelV kv.2 vu ∧ (∃ bs, Reads s.heap ku (kP kv.1) bs) ∧ (∃ bs, Reads s.heap vu q bs) ∧ h'.get? b = some { cls := .type "tuple", data := .seq #[ku, vu] } := by
    intro j b hj
    obtain ⟨en, he, hg⟩ := hG.pairs j b hj
    obtain ⟨w2, hw, hk1, hk2⟩ := pairs_get hps (j := j) (e := en) (by rw [Array.getElem?_toList]; exact he)
    have hj2 : j < kvs.length := by rw [l1]; exact (List.getElem?_eq_some_iff.mp hw).1
    have hkv : kvs[j]? = some kvs[j] := List.getElem?_eq_getElem hj2
    obtain ⟨kv0, g1, g2, g3⟩ := L2.DX.pget rel hw
    rw [hkv] at g1
    cases g1
    obtain ⟨q, hq, hdp⟩ := dpAll_get dp (j := j) (v := kvs[j].2) (by rw [List.getElem?_map, hkv]; rfl)
    refine ⟨kvs[j], q, en.key, en.val, hkv, by rw [← hds]; exact prD_get hkv hq, ?_, by rw [hk2]; exact g3, ?_, Dp.reads I _ _ _ hdp (by rw [hk2]; exact g3), hg⟩
    · rcases keyIs_shape hk1 with ⟨i, t, e1, e2⟩ | ⟨x, t, e1, e2⟩
      · rw [g2, e1, e2]; exact ⟨t, rfl⟩
      · rw [g2, e1, e2]; exact ⟨t, rfl⟩
    · rcases keyIs_shape hk1 with ⟨i, t, e1, e2⟩ | ⟨x, t, e1, e2⟩
      · rw [g2, e1, e2]; exact ⟨_, Reads.int i t⟩
      · rw [g2, e1, e2]; exact ⟨_, Reads.str x t⟩
  have hob : (h'.push { cls := .type "list", data := .seq (as.map Value.ref).toArray }).get? h'.objs.size = some (seqObj "list" (as.map Value.ref).toArray 0) := Heap.get?_push_size _ rfl
  have kb : ∀ b o, s.heap.get? b = some o → (h'.push { cls := .type "list", data := .seq (as.map Value.ref).toArray }).get? b = some o := fun b o e => Heap.get?_push_of_some _ (hk b o e)
  have ne0 : ∀ b o, h'.get? b = some o → b ≠ h'.objs.size := fun b o e => Nat.ne_of_lt (Heap.lt_size e)
  generalize hh2 : h'.push { cls := .type "list", data := .seq (as.map Value.ref).toArray } = h2 at hob kb ⊢
  have ka : ∀ b o, h'.get? b = some o → h2.get? b = some o := fun b o e => by rw [← hh2]; exact Heap.get?_push_of_some _ e
  have old : ∀ b o, h'.get? b = some o → (PySem.W.sortingHeap h2 h'.objs.size (as.map Value.ref)).get? b = some o := fun b o e => PySem.W.sortingHeap_old (ne0 _ _ e) (ka _ _ e)
  have er : PySem.W.EachIs (fun u (b : Addr × PyData) => u = Value.ref b.1 ∧ ∃ bs, Reads (PySem.W.sortingHeap h2 h'.objs.size (as.map Value.ref)) u b.2 bs) (as.map Value.ref) (as.zip ds) := by
    refine each_of_get (by rw [List.length_map, List.length_zip, lak, l4, Nat.min_self]) fun j u b hu hb => ?_
    obtain ⟨e1, e2⟩ := List.getElem?_zip_eq_some.mp hb
    rw [List.getElem?_map, e1] at hu
    cases hu
    refine ⟨rfl, ?_⟩
    obtain ⟨kv, q, ku, vu, g1, g2, g3, g4, ⟨as1, g5⟩, ⟨as2, g6⟩, g7⟩ := pr j _ e1
    rw [e2] at g2
    rw [Option.some.inj g2]
    have kp : ∀ b o, s.heap.get? b = some o → (PySem.W.sortingHeap h2 h'.objs.size (as.map Value.ref)).get? b = some o := fun b o e => old b o (hk b o e)
    exact ⟨_, Reads.tuple (old _ _ g7) rfl rfl (.cons (Reads.keeps kp g5) (.cons (Reads.keeps kp g6) .nil))⟩
  have ez : (as.zip ds).map Prod.snd = ds := by
    rw [List.map_snd_zip]; omega
  have el : (as.map Value.ref).length ≤ sizeLine := by rw [List.length_map, lak]; exact z
  refine wpAny_call_entry PyProof.Rows.slot_list_sort ⟨_, hob, rfl⟩ PyProof.Rows.entry_list_sort
    (PySem.W.list_sort_vals (κ := PySem.W.dataKind (PySem.W.sortingHeap h2 h'.objs.size (as.map Value.ref)) ds) hob (PySem.W.SortsAt.data ?_ al so fun d hd => ?_) el ⟨.none, rfl, ?_⟩) (PyProof.Rows.args_list_sort _)
  · rw [← ez]
    exact PySem.W.each_map (R := fun u d => ∃ bs, Reads (PySem.W.sortingHeap h2 h'.objs.size (as.map Value.ref)) u d bs) Prod.snd (each_imp (fun _ _ h => h.2) er)
  · have := dep d hd
    show X.A.units + 1 + 1 + d.depth < cLine
    omega
  · have sd := PySem.W.sortVals_data (R := fun u (b : Addr × PyData) => u = Value.ref b.1) (enc := Prod.snd) false (each_imp (fun _ _ h => h.1) er) (each_imp (fun _ _ h => h.2) er) (by rw [ez]; exact al)
    rw [ez] at sd
    generalize hsv : PySem.W.sortVals (PySem.W.dataKind (PySem.W.sortingHeap h2 h'.objs.size (as.map Value.ref)) ds) false (as.map Value.ref) (as.map Value.ref) = sv at sd ⊢
    have rv : Vals ((sortP as ds).map V.ref) sv := by
      have go : ∀ (us : List Value) (l : List (Addr × PyData)), PySem.W.EachIs (fun u (b : Addr × PyData) => u = Value.ref b.1) us l → Vals ((l.map Prod.fst).map V.ref) us := by
        intro us
        induction us with
        | nil => intro l h; cases h; exact .nil
        | cons u us ih => intro l h; cases h with | cons h t => exact .cons h (ih _ t)
      exact go _ _ sd
    have kF : ∀ b o, b ≠ h'.objs.size → h2.get? b = some o → (sortedHeap h2 h'.objs.size (as.map Value.ref) sv.toArray).get? b = some o := fun b o hb e => (PyProof.Rows.sortedHeap_old hb (Heap.lt_size e)).trans e
    have kS : ∀ b o, s.heap.get? b = some o → (sortedHeap h2 h'.objs.size (as.map Value.ref) sv.toArray).get? b = some o := fun b o e => kF b o (ne0 _ _ (hk b o e)) (kb b o e)
    obtain ⟨eF, heF⟩ := PyProof.Rows.sortedHeap_at (vs := as.map Value.ref) (out := sv.toArray) hob
    have I1 : L2.Inv X pins σ H { s with heap := sortedHeap h2 h'.objs.size (as.map Value.ref) sv.toArray, toks := tk } := I.kept (t' := tk) kS
    have hn0 : H h'.objs.size = none := I.hok.fresh (Nat.le_of_lt hlt)
    have hlen : ((sortP as ds).map V.ref).length ≤ sizeLine := by
      rw [rv.length, ← hsv, PySem.W.sortVals_length false rfl]; exact el
    have I2 : L2.Inv X pins σ (upd H h'.objs.size (.lst ((sortP as ds).map V.ref))) { s with heap := sortedHeap h2 h'.objs.size (as.map Value.ref) sv.toArray, toks := tk } :=
      I1.take (h' := sortedHeap h2 h'.objs.size (as.map Value.ref) sv.toArray) (t' := tk) (fun b ob _ e => e) (I.fpOk (Nat.le_of_lt hlt) hn0) ⟨hlen, sv, eF, rv, heF⟩
    obtain ⟨H2, I3, g, qt⟩ := L2.DX.takeT (P := fun b vs => ∃ (j : Nat) (kv : Key × V), as[j]? = some b ∧ kvs[j]? = some kv ∧ vs = [kV kv.1, kv.2]) I as _ I2 nd fun b hb => by
      obtain ⟨j, hj⟩ := List.mem_iff_getElem?.mp hb
      obtain ⟨kv, q, ku, vu, g1, g2, g3, g4, _, _, g7⟩ := pr j _ hj
      have hbl : s.heap.objs.size ≤ b := Nat.le_of_lt (hG.above b hb)
      refine ⟨hbl, ?_, [kV kv.1, kv.2], ⟨j, kv, hj, g1, rfl⟩, fun H3 => ⟨(by rw [sizeLine_eq]; show 2 ≤ 16777216; omega), [ku, vu], .cons g3 (.cons g4 .nil), ⟨_, kF _ _ (ne0 _ _ g7) (ka _ _ g7), rfl, 0, rfl⟩⟩⟩
      rw [upd_ne (ne0 _ _ g7)]
      exact I.hok.fresh hbl
    have gr : ∀ b o, H b = some o → H2 b = some o := fun b o e => g b o (by rw [upd_ne (ne_of_none e hn0)]; exact e)
    refine ⟨.ref h'.objs.size, H2, I3, rfl, q H2 h'.objs.size as gr hn0 lak (g _ _ upd_same) fun j b kv hj hkv => ?_⟩
    obtain ⟨vs, ⟨i, kv', h1, h2', h3⟩, hH⟩ := qt b (List.mem_of_getElem? hj)
    have eij : i = j := (List.getElem?_inj (List.getElem?_eq_some_iff.mp h1).1 nd).mp (h1.trans hj.symm)
    subst eij
    rw [hkv] at h2'
    cases h2'
    rw [h3] at hH
    exact hH
/-- sorted(d.items()) -/
noncomputable def sortItF (d : D) (st : Stt) : R D := match dctAt st d with
  | some p => (match (p.2.map (·.2)).mapM (toD st 59) with
    | some qs => if alikeB (prD ((p.2.map (·.1)).zip qs)) = true ∧ sortableB (prD ((p.2.map (·.1)).zip qs)) = true then .ok (.loc st.length) (st ++ [.lst (sortP (p.2.map fun kv => .tup [kD kv.1, kv.2]) (prD ((p.2.map (·.1)).zip qs)))]) else .no
    | none => .no)
  | none => .no
noncomputable def xSortIt (fa : XE) : XE := fun ρ st => (fa ρ st).bind sortItF
theorem kr_snd {H : Hp} {μ : List Addr} : ∀ {kd : List (Key × D)} {kv : List (Key × V)}, KR K H μ kd kv → Rls K H μ (kd.map (·.2)) (kv.map (·.2)) ∧ kd.map (·.1) = kv.map (·.1)
  | _, _, .nil => ⟨.nil, rfl⟩
  | _, _, .cons r t => by
    obtain ⟨a, b⟩ := kr_snd t
    exact ⟨.cons r.2 a, by rw [List.map_cons, List.map_cons, b, r.1]⟩
theorem ext_old {H H' : Hp} {μ : List Addr} {l : Addr} (k : ∀ b o, H b = some o → H' b = some o) : Ext K H μ H' (μ ++ [l]) := ⟨fun a vs h => by
  rcases h with (h | ⟨o, h⟩) | h
  · exact .inl (.inl (k _ _ h))
  · exact .inl (.inr ⟨o, k _ _ h⟩)
  · exact .inr h, fun a vs h => by
  rcases h with ⟨o, h⟩ | h
  · exact .inl ⟨o, k _ _ h⟩
  · exact .inr h, fun a vs h => k _ _ h, [l], rfl⟩
theorem SR.newOf {H H' : Hp} {μ : List Addr} {st : Stt} (S : SR K H μ st) {p : Addr} (hp : H p = none) (k : ∀ b o, H b = some o → H' b = some o) {o : O} (ho : OR K H' (μ ++ [p]) o p) : SR K H' (μ ++ [p]) (st ++ [o]) := by
  refine ⟨by simp [S.len], ?_, fun n o' h => ?_⟩
  · rw [List.nodup_append]
    refine ⟨S.nd, by simp, fun a ha b hb e => ?_⟩
    simp only [List.mem_singleton] at hb
    subst hb
    subst e
    exact S.fresh hp ha
  · by_cases hn : n < st.length
    · rw [List.getElem?_append_left hn] at h
      obtain ⟨a, ha, hq⟩ := S.obj n o' h
      obtain ⟨w, hw, _⟩ := hq.has
      exact ⟨a, (ext_old (K := K) (l := p) k).get ha, hq.keep (ext_old k) ((k _ _ hw).trans hw.symm)⟩
    · rw [List.getElem?_append_right (by omega)] at h
      have e : n - st.length = 0 := by
        have := (List.getElem?_eq_some_iff.mp h).1
        simp at this
        omega
      rw [e] at h
      have e2 : o = o' := by simpa using h
      subst e2
      refine ⟨p, ?_, ho⟩
      have e3 : n = μ.length := by
        rw [S.len]
        omega
      rw [e3]
      simp
/-- what lies in H' by the places of as -/
theorem rls_sortA {H' : Hp} {μ : List Addr} {ds : List D} {as : List Addr} (hl : as.length = ds.length) (ps : List PyData) (h : ∀ (j : Nat) (b : Addr) (d : D), as[j]? = some b → ds[j]? = some d → Rl K H' μ d (.ref b)) : Rls K H' μ (sortP ds ps) ((sortP as ps).map V.ref) := by
  have r : Rls K H' μ ds (as.map V.ref) := by
    induction as generalizing ds with
    | nil => cases ds with | nil => exact .nil | cons d ds => simp at hl
    | cons a as ih =>
      cases ds with
      | nil => simp at hl
      | cons d ds => exact .cons (h 0 a d rfl rfl) (ih (by simpa using hl) fun j b e hb he => h (j + 1) b e (by simpa using hb) (by simpa using he))
  have e : (sortP as ps).map V.ref = sortP (as.map V.ref) ps := by
    have hz : (as.map V.ref).zip ps = (as.zip ps).map fun z => (V.ref z.1, z.2) := by
      rw [List.zip_map_left]; rfl
    unfold sortP
    rw [hz, ← PySem.W.sort_maps (r := leP) (s := leP) (fun z : Addr × PyData => (V.ref z.1, z.2)) (fun _ _ _ _ => rfl), List.map_map, List.map_map]
    rfl
  rw [e]
  exact rls_sort r ps
section
variable {X : Cx} {o : Expr} {fo : XE} {apos cpos p pos : Pos} {W : WX}
theorem e_sortIt (hu : X.A.units + 64 < cLine) (hc : X.calm = true) (hm : X.mg "sorted" = none) (he : PE X o (tX X.K W fo)) (hg : Gl X "sorted" := by rfl)
    (hbase : attributeBase o "items" X.env (eval o X.env) = eval o X.env := by rfl) (hline : (apos.endLine == cpos.line) = true := by rfl)
    (hs : starEach [.Call (.Attribute o "items" apos) [] [] cpos] X.env = (false, eval (.Call (.Attribute o "items" apos) [] [] cpos) X.env) :: starEach [] X.env := by rfl) :
    PE X (.Call (.Name "sorted" p) [.Call (.Attribute o "items" apos) [] [] cpos] [] pos) (tX X.K W (xSortIt fo)) :=
  pe_imp (pe_callB (cr_sortIt hc hu) hg hm (by decide +kernel) (pa_cons (pe_bm0 PySem.F.plainAttrs_dict PySem.F.slot_dict_items PySem.F.type_dict_items mt_itemsK he hbase hline) pa_nil hs) (by decide) (by decide) hs (by rfl)) fun σ H Q ⟨ρ, st, μ, E, S, h⟩ => by
    refine tX_of E S h.bind fun d s1 H1 μ1 xv e1 E1 S1 r1 h1 => ?_
    unfold sortItF at h1
    cases hd : dctAt s1 d with
    | none => rw [hd] at h1; exact h1.elim
    | some pr =>
      rw [hd] at h1
      obtain ⟨n, kvs⟩ := pr
      dsimp only at h1
      obtain ⟨rfl, e9⟩ := dctAt_some hd
      obtain ⟨a, us, rfl, ha, t, q1⟩ := S1.dct e9 r1
      cases hq : (kvs.map (·.2)).mapM (toD s1 59) with
      | none => rw [hq] at h1; exact h1.elim
      | some qs =>
        rw [hq] at h1
        dsimp only at h1
        split at h1
        · rename_i hh
          obtain ⟨k1, k2⟩ := kr_snd q1
          refine ⟨.inr (.inr (.inl ⟨rfl, .inl ⟨us, t⟩⟩)), a, us, rfl, rfl, t, fun v hv => ?_⟩
          have t' : upd H1 v (L2.DX.itemsO v a) a = some (.dK us) := by rw [upd_ne (ne_of_none t hv)]; exact t
          have S1' := S1.side hv (L2.DX.itemsO v a)
          have k1' := k1.ext (ext_side (K := X.K) (μ := μ1) hv (L2.DX.itemsO v a))
          obtain ⟨b1, b2, b3⟩ := mapM_dp (toD_dp S1' 59) _ _ _ hq k1'
          refine ⟨v, a, us, qs, rfl, upd_same, t', b1, ?_, ?_, ?_, fun H' l as hk hl hlen hlist htup => ?_⟩
          · rw [← k2]; exact alikeB_ok hh.1
          · rw [← k2]; exact sortableB_ok hh.2
          · intro p hp
            unfold prD at hp
            obtain ⟨z, hz, rfl⟩ := List.mem_map.mp hp
            have dm : ∀ (ps : List PyData) (p : PyData), p ∈ ps → p.depth ≤ PyData.depthAll ps := by
              intro ps
              induction ps with
              | nil => intro p h; cases h
              | cons x xs ih =>
                intro p h
                simp only [PyData.depthAll]
                rcases List.mem_cons.mp h with rfl | h
                · omega
                · have := ih p h; omega
            have h2 := dm qs z.2 (List.of_mem_zip hz).2
            have h3 : (kP z.1).depth ≤ 1 := by cases z.1 <;> simp [kP, PyData.depth]
            simp only [PyData.depth, PyData.depthAll]
            omega
          · have hk' : ∀ b o, H1 b = some o → H' b = some o := fun b o e => hk b o (by rw [upd_ne (ne_of_none e hv)]; exact e)
            have hl' : H1 l = none := by
              by_cases e : l = v
              · rw [e]; exact hv
              · rw [upd_ne e] at hl; exact hl
            have ex := ext_old (K := X.K) (μ := μ1) (l := l) hk'
            have rs : Rls X.K H' (μ1 ++ [l]) (sortP (kvs.map fun kv => D.tup [kD kv.1, kv.2]) (prD ((kvs.map (·.1)).zip qs))) ((sortP as (prD ((us.map (·.1)).zip qs))).map V.ref) := by
              rw [← k2]
              refine rls_sortA (by rw [List.length_map, hlen]; exact (Paired.length q1).symm) _ fun j b d hb hd => ?_
              rw [List.getElem?_map] at hd
              obtain ⟨kv, hkv, rfl⟩ := Option.map_eq_some_iff.mp hd
              have hj : j < us.length := by rw [← Paired.length q1]; exact (List.getElem?_eq_some_iff.mp hkv).1
              have hus : us[j]? = some us[j] := List.getElem?_eq_getElem hj
              obtain ⟨kv0, g1, g2, g3⟩ := L2.DX.pget q1 hus
              rw [hkv] at g1
              cases g1
              refine .tup (.inl (.inl (htup j b _ hb hus))) (.cons ?_ (.cons (g3.ext ex) .nil))
              rw [← g2]
              exact kD_ok kv.1
            exact h1 H' (μ1 ++ [l]) ex (S1.newOf hl' hk' ⟨_, hlist, rs⟩) _ (.loc (by rw [← S1.len]; simp))
        · exact h1.elim
end
end Rg

set_option Elab.async false
set_option linter.all false
set_option maxRecDepth 100000
set_option maxHeartbeats 1000000
namespace Rg
open PySem PySem.Spec PyProof.Rows L2
/-! ### cells that nothing names are dropped where a def returns -/
mutual
/-- names no cell from n on -/
inductive Low (n : Nat) : D → Prop
  | non : Low n .non
  | bl (b : Bool) : Low n (.bl b)
  | int (i : Int) : Low n (.int i)
  | str (x : Str) : Low n (.str x)
  | tup {ds : List D} : Lows n ds → Low n (.tup ds)
  | loc {k : Nat} : k < n → Low n (.loc k)
  | cl {ds : List D} : Lows n ds → Low n (.cl ds)
  | opq (k : Str) (a : Addr) : Low n (.opq k a)
  | exo (a dd : Addr) (ks : List Str) {ds : List D} : Lows n ds → Low n (.exo a dd ks ds)
inductive Lows (n : Nat) : List D → Prop
  | nil : Lows n []
  | cons {d : D} {ds : List D} : Low n d → Lows n ds → Lows n (d :: ds)
end
theorem lows_iff {n : Nat} : ∀ {ds : List D}, Lows n ds ↔ ∀ d ∈ ds, Low n d
  | [] => ⟨fun _ d h => (by cases h), fun _ => Lows.nil⟩
  | d :: ds => by
    refine ⟨fun h e he => ?_, fun h => Lows.cons (h d (by simp)) (lows_iff.mpr fun e he => h e (by simp [he]))⟩
    cases h with
    | cons a b =>
      rcases List.mem_cons.mp he with rfl | he
      · exact a
      · exact (lows_iff.mp b) e he
@[simp] theorem low_non (n : Nat) : Low n .non ↔ True := ⟨fun _ => trivial, fun _ => .non⟩
@[simp] theorem low_bl (n : Nat) (b : Bool) : Low n (.bl b) ↔ True := ⟨fun _ => trivial, fun _ => .bl b⟩
@[simp] theorem low_int (n : Nat) (i : Int) : Low n (.int i) ↔ True := ⟨fun _ => trivial, fun _ => .int i⟩
@[simp] theorem low_str (n : Nat) (x : Str) : Low n (.str x) ↔ True := ⟨fun _ => trivial, fun _ => .str x⟩
@[simp] theorem low_opq (n : Nat) (k : Str) (a : Addr) : Low n (.opq k a) ↔ True := ⟨fun _ => trivial, fun _ => .opq k a⟩
@[simp] theorem low_loc (n k : Nat) : Low n (.loc k) ↔ k < n := ⟨fun h => by cases h; assumption, fun h => .loc h⟩
@[simp] theorem low_tup (n : Nat) (ds : List D) : Low n (.tup ds) ↔ ∀ d ∈ ds, Low n d := ⟨fun h => by cases h with | tup h => exact lows_iff.mp h, fun h => .tup (lows_iff.mpr h)⟩
@[simp] theorem low_cl (n : Nat) (ds : List D) : Low n (.cl ds) ↔ ∀ d ∈ ds, Low n d := ⟨fun h => by cases h with | cl h => exact lows_iff.mp h, fun h => .cl (lows_iff.mpr h)⟩
def LowO (n : Nat) : O → Prop
  | .lst ds => ∀ d ∈ ds, Low n d
  | .dct kvs => ∀ p ∈ kvs, Low n p.2
  | .ins _ fs => ∀ p ∈ fs, Low n p.2
  | .dtt kvs => ∀ p ∈ kvs, Low n p.2
@[simp] theorem lowO_lst (n : Nat) (ds : List D) : LowO n (.lst ds) ↔ ∀ d ∈ ds, Low n d := .rfl
@[simp] theorem lowO_dct (n : Nat) (ds : List (Key × D)) : LowO n (.dct ds) ↔ ∀ p ∈ ds, Low n p.2 := .rfl
@[simp] theorem lowO_dtt (n : Nat) (ds : List (List Key × D)) : LowO n (.dtt ds) ↔ ∀ p ∈ ds, Low n p.2 := .rfl
@[simp] theorem lowO_ins (n : Nat) (C : Addr) (ds : List (Str × D)) : LowO n (.ins C ds) ↔ ∀ p ∈ ds, Low n p.2 := .rfl
section
variable {K : PySem.W.Frag} {H : Hp} {μ l : List Addr}
mutual
theorem Rl.low : ∀ {d : D} {v : V}, Rl K H μ d v → Low μ.length d
  | _, _, .non => .non
  | _, _, .bl b => .bl b
  | _, _, .int i => .int i
  | _, _, .str x => .str x
  | _, _, .tup _ r => .tup (Rls.low r)
  | _, _, .loc h => .loc (List.getElem?_eq_some_iff.mp h).1
  | _, _, .cl _ r => .cl (Rls.low r)
  | _, _, .opq k a => .opq k a
  | _, _, .exo _ r => .exo _ _ _ (Rls.low r)
theorem Rls.low : ∀ {ds : List D} {vs : List V}, Rls K H μ ds vs → Lows μ.length ds
  | _, _, .nil => .nil
  | _, _, .cons r t => .cons (Rl.low r) (Rls.low t)
end
mutual
theorem Rl.down : ∀ {d : D} {v : V}, Rl K H (μ ++ l) d v → Low μ.length d → Rl K H μ d v
  | _, _, .non, _ => .non
  | _, _, .bl b, _ => .bl b
  | _, _, .int i, _ => .int i
  | _, _, .str x, _ => .str x
  | _, _, .tup h r, w => .tup h (Rls.down r (by cases w; assumption))
  | _, _, .loc h, w => .loc (by cases w with | loc w => rw [List.getElem?_append_left w] at h; exact h)
  | _, _, .cl h r, w => .cl h (Rls.down r (by cases w; assumption))
  | _, _, .opq k a, _ => .opq k a
  | _, _, .exo h r, w => .exo h (Rls.down r (by cases w; assumption))
theorem Rls.down : ∀ {ds : List D} {vs : List V}, Rls K H (μ ++ l) ds vs → Lows μ.length ds → Rls K H μ ds vs
  | _, _, .nil, _ => .nil
  | _, _, .cons r t, w => by
    cases w with
    | cons a b => exact .cons (Rl.down r a) (Rls.down t b)
end
theorem KR.low : ∀ {kd : List (Key × D)} {kv : List (Key × V)}, KR K H μ kd kv → ∀ p ∈ kd, Low μ.length p.2
  | _, _, .nil, p, h => by cases h
  | _, _, .cons r t, p, h => by
    rcases List.mem_cons.mp h with rfl | h
    · exact r.2.low
    · exact KR.low t p h
theorem TR.low : ∀ {kd : List (List Key × D)} {kv : List (List Key × V)}, TR K H μ kd kv → ∀ p ∈ kd, Low μ.length p.2
  | _, _, .nil, p, h => by cases h
  | _, _, .cons r t, p, h => by
    rcases List.mem_cons.mp h with rfl | h
    · exact r.2.low
    · exact TR.low t p h
theorem FR.low : ∀ {kd : List (Str × D)} {kv : List (Str × V)}, FR K H μ kd kv → ∀ p ∈ kd, Low μ.length p.2
  | _, _, .nil, p, h => by cases h
  | _, _, .cons r t, p, h => by
    rcases List.mem_cons.mp h with rfl | h
    · exact r.2.low
    · exact FR.low t p h
theorem KR.down : ∀ {kd : List (Key × D)} {kv : List (Key × V)}, KR K H (μ ++ l) kd kv → (∀ p ∈ kd, Low μ.length p.2) → KR K H μ kd kv
  | _, _, .nil, _ => .nil
  | _, _, .cons r t, h => .cons ⟨r.1, r.2.down (h _ (by simp))⟩ (KR.down t fun p hp => h p (by simp [hp]))
theorem TR.down : ∀ {kd : List (List Key × D)} {kv : List (List Key × V)}, TR K H (μ ++ l) kd kv → (∀ p ∈ kd, Low μ.length p.2) → TR K H μ kd kv
  | _, _, .nil, _ => .nil
  | _, _, .cons r t, h => .cons ⟨r.1, r.2.down (h _ (by simp))⟩ (TR.down t fun p hp => h p (by simp [hp]))
theorem FR.down : ∀ {kd : List (Str × D)} {kv : List (Str × V)}, FR K H (μ ++ l) kd kv → (∀ p ∈ kd, Low μ.length p.2) → FR K H μ kd kv
  | _, _, .nil, _ => .nil
  | _, _, .cons r t, h => .cons ⟨r.1, r.2.down (h _ (by simp))⟩ (FR.down t fun p hp => h p (by simp [hp]))
theorem OR.low {o : O} {a : Addr} (h : OR K H μ o a) : LowO μ.length o := by
  cases o with
  | lst ds => obtain ⟨vs, _, r⟩ := h; exact lows_iff.mp r.low
  | dct ds => obtain ⟨vs, _, r⟩ := h; exact r.low
  | ins C ds => obtain ⟨_, vs, _, r⟩ := h; exact r.low
  | dtt ds => obtain ⟨vs, _, r⟩ := h; exact r.low
theorem OR.down {o : O} {a : Addr} (h : OR K H (μ ++ l) o a) (w : LowO μ.length o) : OR K H μ o a := by
  cases o with
  | lst ds => obtain ⟨vs, e, r⟩ := h; exact ⟨vs, e, r.down (lows_iff.mpr w)⟩
  | dct ds => obtain ⟨vs, e, r⟩ := h; exact ⟨vs, e, r.down w⟩
  | ins C ds => obtain ⟨dx, vs, e, r⟩ := h; exact ⟨dx, vs, e, r.down w⟩
  | dtt ds => obtain ⟨vs, e, r⟩ := h; exact ⟨vs, e, r.down w⟩
end
/-- of the old cells, those that changed name no new cell -/
def OldOk (st s : Stt) : Prop := st.length ≤ s.length ∧ ∀ k, k < st.length → s[k]? = st[k]? ∨ ∃ o, s[k]? = some o ∧ LowO st.length o
/-- the fields of an exception name no new cell -/
def LowX (n : Nat) (e : Exn) : Prop := ∀ fs, e.fs = some fs → ∀ p ∈ fs, Low n p.2
open Classical in
noncomputable def gcR (st : Stt) : R D → R D
  | .no => .no
  | .ex e s => if OldOk st s ∧ LowX st.length e then .ex e (s.take st.length) else .ex e s
  | .ok d s => if OldOk st s ∧ Low st.length d then .ok d (s.take st.length) else (match d with
    | .loc k => if OldOk st s ∧ st.length ≤ k ∧ ∃ o, s[k]? = some o ∧ LowO st.length o then .ok (.loc st.length) (s.take st.length ++ (s[k]?).toList) else .ok d s
    | _ => .ok d s)
open Classical in
theorem gcR_ex (st : Stt) (e : Exn) (s : Stt) : gcR st (.ex e s) = if OldOk st s ∧ LowX st.length e then .ex e (s.take st.length) else .ex e s := rfl
open Classical in
theorem gcR_ok (st : Stt) (d : D) (s : Stt) : gcR st (.ok d s) = if OldOk st s ∧ Low st.length d then .ok d (s.take st.length) else (match d with
    | .loc k => if OldOk st s ∧ st.length ≤ k ∧ ∃ o, s[k]? = some o ∧ LowO st.length o then .ok (.loc st.length) (s.take st.length ++ (s[k]?).toList) else .ok d s
    | _ => .ok d s) := rfl
noncomputable def gcB (g : Fn) : Fn := fun ds st => gcR st (g ds st)
theorem sr_take {K : PySem.W.Frag} {H H' : Hp} {μ l : List Addr} {st s : Stt} (S : SR K H μ st) (S' : SR K H' (μ ++ l) s) (ho : OldOk st s) : SR K H' μ (s.take st.length) ∧ ∀ (k : Nat) (o : O), s[k]? = some o → k < st.length → LowO μ.length o := by
  have hn := S.len
  have low : ∀ (k : Nat) (o : O), s[k]? = some o → k < st.length → LowO μ.length o := fun k o hk hlt => by
    rcases ho.2 k hlt with h | ⟨o', h, w⟩
    · rw [hk] at h
      obtain ⟨a, _, r⟩ := S.obj k o h.symm
      exact r.low
    · rw [hk] at h
      cases h
      rw [hn]
      exact w
  refine ⟨⟨by rw [List.length_take, hn, Nat.min_eq_left ho.1], S.nd, fun k o hk => ?_⟩, low⟩
  by_cases hlt : k < st.length
  · rw [List.getElem?_take_of_lt hlt] at hk
    obtain ⟨a, ha, r⟩ := S'.obj k o hk
    rw [List.getElem?_append_left (by rw [hn]; exact hlt)] at ha
    exact ⟨a, ha, r.down (low k o hk hlt)⟩
  · rw [List.getElem?_eq_none (by rw [List.length_take]; omega)] at hk
    cases hk
theorem xr_down {K : PySem.W.Frag} {H : Hp} {μ l : List Addr} {e : Exn} {d : Option Addr} (h : XR K H (μ ++ l) e d) (w : LowX μ.length e) : XR K H μ e d := by
  unfold XR at h ⊢
  cases e1 : e.fs with
  | none => rw [e1] at h; exact h
  | some fs =>
    rw [e1] at h
    obtain ⟨dd, vs, h1, h2, h3⟩ := h
    exact ⟨dd, vs, h1, h2, h3.down (w fs e1)⟩
theorem gc_ok {K : PySem.W.Frag} {Wd : Exn → Hp → List Addr → Prop} (hW : ∀ e H μ l, LowX μ.length e → Wd e H μ → Wd e H (μ ++ l)) {H : Hp} {μ : List Addr} {st : Stt} {Q : VK} (S : SR K H μ st) : ∀ {r : R D}, RO K Wd H μ (QD K Q) (gcR st r) → RO K Wd H μ (QD K Q) r
  | .no, h => h
  | .ex e s, h => by
    rw [gcR_ex] at h
    split at h
    · rename_i hc
      intro H' μ' ex S'
      obtain ⟨l, rfl⟩ := ex.more
      have ex' : Ext K H μ H' μ := ⟨ex.tups, ex.cls, ex.xds, [], by simp⟩
      exact hW _ _ _ _ (by rw [S.len]; exact hc.2) (h H' μ ex' (sr_take S S' hc.1).1)
    · exact h
  | .ok d s, h => by
    rw [gcR_ok] at h
    split at h
    · rename_i hc
      intro H' μ' ex S' v rv
      obtain ⟨l, rfl⟩ := ex.more
      have ex' : Ext K H μ H' μ := ⟨ex.tups, ex.cls, ex.xds, [], by simp⟩
      exact h H' μ ex' (sr_take S S' hc.1).1 v (rv.down (by rw [S.len]; exact hc.2))
    · split at h
      · rename_i k _
        split at h
        · rename_i hc
          obtain ⟨ho, hk, o, hs, hlo⟩ := hc
          intro H' μ' ex S' v rv
          obtain ⟨l, rfl⟩ := ex.more
          obtain ⟨T, low⟩ := sr_take S S' ho
          obtain ⟨a, ha, r⟩ := S'.obj k o hs
          cases rv with
          | loc hb =>
          rw [ha] at hb
          cases hb
          have hn := S.len
          have e2 : (s[k]?).toList = [o] := by rw [hs]; rfl
          have na : a ∉ μ := fun hm => by
            obtain ⟨i, hi⟩ := List.getElem?_of_mem hm
            have hlt : i < μ.length := (List.getElem?_eq_some_iff.mp hi).1
            have : (μ ++ l)[i]? = some a := by rw [List.getElem?_append_left hlt]; exact hi
            have := (List.getElem?_inj (by rw [List.length_append]; omega) S'.nd).mp (this.trans ha.symm)
            omega
          have ex' : Ext K H μ H' (μ ++ [a]) := ⟨ex.tups, ex.cls, ex.xds, [a], rfl⟩
          have ex2 : Ext K H' μ H' (μ ++ [a]) := ⟨fun _ _ h => h, fun _ _ h => h, fun _ _ h => h, [a], rfl⟩
          have r2 : OR K H' (μ ++ [a]) o a := (r.down (by rw [hn]; exact hlo)).keep ex2 rfl
          rw [e2] at h
          refine h H' (μ ++ [a]) ex' ⟨?_, ?_, fun i o' hi => ?_⟩ (.ref a) (.loc (by rw [← hn]; simp))
          · rw [List.length_append, List.length_append, T.len]; rfl
          · rw [List.nodup_append]
            refine ⟨S.nd, by simp, fun x hx y hy e => ?_⟩
            simp only [List.mem_singleton] at hy
            subst hy
            subst e
            exact na hx
          · by_cases hlt : i < (s.take st.length).length
            · rw [List.getElem?_append_left hlt] at hi
              obtain ⟨b, hb, q⟩ := T.obj i o' hi
              refine ⟨b, ?_, q.keep ex2 rfl⟩
              rw [List.getElem?_append_left (by rw [T.len]; exact hlt)]
              exact hb
            · rw [List.getElem?_append_right (by omega)] at hi
              have e : i - (s.take st.length).length = 0 := by
                have h1 := (List.getElem?_eq_some_iff.mp hi).1
                simp only [List.length_singleton] at h1
                omega
              rw [e] at hi
              have e2 : o = o' := by simpa using hi
              subst e2
              refine ⟨a, ?_, r2⟩
              have e3 : i = μ.length := by rw [T.len]; omega
              rw [e3]
              simp
        · exact h
      · exact h
section
variable {P : Program} {w : World} {K : PySem.W.Frag} {mg : Str → Option Value} {base : Heap}
theorem fnGc {CX : CXT} {k n : Nat} {f : Addr} {fd : FuncData} {ps : List Str} {g : Fn} (F : FnOk P w K mg base CX k f fd ps (spX K n g)) : FnOk P w K mg base CX k f fd ps (spX K n (gcB g)) :=
  F.imp fun vs H Q E ⟨hl, ds, st, μ, S, r, q⟩ => ⟨hl, ds, st, μ, S, r, gc_ok (fun e H μ l he h d hd => h d (xr_down hd he)) S q⟩
end
/-! what it does -/
theorem oldOk_app (st J : Stt) : OldOk st (st ++ J) := ⟨by simp, fun k hk => .inl (List.getElem?_append_left hk)⟩
theorem gc_low {g : Fn} {ds : List D} {st J : Stt} {d : D} (h : g ds st = .ok d (st ++ J)) (w : Low st.length d) : gcB g ds st = .ok d st := by
  unfold gcB
  rw [h]
  first | rw [gcR_ok] | rw [gcR_ex]
  rw [if_pos ⟨oldOk_app st J, w⟩]
  simp
theorem gc_new {g : Fn} {ds : List D} {st J : Stt} {k : Nat} {o : O} (h : g ds st = .ok (.loc k) (st ++ J)) (hk : st.length ≤ k) (ho : (st ++ J)[k]? = some o) (w : LowO st.length o) : gcB g ds st = .ok (.loc st.length) (st ++ [o]) := by
  unfold gcB
  rw [h]
  first | rw [gcR_ok] | rw [gcR_ex]
  rw [if_neg (by rw [low_loc]; omega)]
  simp only
  rw [if_pos ⟨oldOk_app st J, hk, o, ho, w⟩, ho]
  simp
theorem oldOk_set {st s : Stt} (hl : s.length = st.length) (J : Stt) (h : ∀ k, k < st.length → s[k]? = st[k]? ∨ ∃ o, s[k]? = some o ∧ LowO st.length o) : OldOk st (s ++ J) := ⟨by simp; omega, fun k hk => by
  rw [List.getElem?_append_left (by omega)]
  exact h k hk⟩
theorem gc_set {g : Fn} {ds : List D} {st s J : Stt} {d : D} (h : g ds st = .ok d (s ++ J)) (hl : s.length = st.length) (hs : ∀ k, k < st.length → s[k]? = st[k]? ∨ ∃ o, s[k]? = some o ∧ LowO st.length o) (w : Low st.length d) : gcB g ds st = .ok d s := by
  unfold gcB
  rw [h]
  first | rw [gcR_ok] | rw [gcR_ex]
  rw [if_pos ⟨oldOk_set hl J hs, w⟩, ← hl]
  simp
theorem gc_setN {g : Fn} {ds : List D} {st s J : Stt} {k : Nat} {o : O} (h : g ds st = .ok (.loc k) (s ++ J)) (hl : s.length = st.length) (hs : ∀ k, k < st.length → s[k]? = st[k]? ∨ ∃ o, s[k]? = some o ∧ LowO st.length o) (hk : st.length ≤ k) (ho : (s ++ J)[k]? = some o) (w : LowO st.length o) : gcB g ds st = .ok (.loc st.length) (s ++ [o]) := by
  unfold gcB
  rw [h]
  first | rw [gcR_ok] | rw [gcR_ex]
  rw [if_neg (by rw [low_loc]; omega)]
  simp only
  rw [if_pos ⟨oldOk_set hl J hs, hk, o, ho, w⟩, ho, ← hl]
  simp
theorem gc_exF {g : Fn} {ds : List D} {st J : Stt} {e : Exn} (h : g ds st = .ex e (st ++ J)) (w : LowX st.length e) : gcB g ds st = .ex e st := by
  unfold gcB
  rw [h, gcR_ex, if_pos ⟨oldOk_app st J, w⟩]
  simp
theorem gc_ex {g : Fn} {ds : List D} {st J : Stt} {C : Addr} (h : g ds st = .ex ⟨C, none⟩ (st ++ J)) : gcB g ds st = .ex ⟨C, none⟩ st := gc_exF h fun _ h => by cases h
theorem gc_no {g : Fn} {ds : List D} {st : Stt} (h : g ds st = .no) : gcB g ds st = .no := by unfold gcB; rw [h]; rfl
end Rg

set_option Elab.async false
set_option linter.all false
set_option maxRecDepth 100000
set_option maxHeartbeats 1000000
namespace Rg
open PySem PySem.Spec PyProof.Rows L2
theorem kit_own {K : PySem.W.Frag} {C D : Addr} {b : Bool} (hd : PySem.W.hasDictIn K C = true) (ht : PySem.W.typeIn K (.ref C) = some (.type "type")) (h : PySem.W.subIn K (.ref D) (.ref C) = some b) (hb : D = C → b = true) : PySem.W.kitOne K (.ref D) (.ref C) = some b := by
  unfold PySem.W.kitOne
  split
  · rename_i e
    have e : Value.ref D = Value.ref C := beq_iff_eq.mp e
    rw [hb (Value.ref.inj e)]
  · obtain ⟨cd, hc, _⟩ := PySem.W.any_some hd
    have e2 : ((PySem.W.clsIn K C).isSome && PySem.W.typeIn K (.ref C) == some (.type "type")) = true := by rw [hc, ht] <;> rfl
    show (if ((PySem.W.clsIn K C).isSome && PySem.W.typeIn K (.ref C) == some (.type "type")) = true then PySem.W.subIn K (.ref D) (.ref C) else none) = some b
    rw [if_pos e2]
    exact h
/-! ### helpers for the mathematics -/
abbrev tx (l : List Nat) : Str := ⟨l.toArray⟩
theorem gcE {g : Fn} {ds : List D} {st : Stt} {d : D} (h : ∃ J, g ds st = .ok d (st ++ J)) (w : Low st.length d) : gcB g ds st = .ok d st := by
  obtain ⟨J, h⟩ := h
  exact gc_low h w
theorem gcN {g : Fn} {ds : List D} {st : Stt} {o : O} (h : ∃ J k, g ds st = .ok (.loc k) (st ++ J) ∧ st.length ≤ k ∧ (st ++ J)[k]? = some o) (w : LowO st.length o) : gcB g ds st = .ok (.loc st.length) (st ++ [o]) := by
  obtain ⟨J, k, h, hk, ho⟩ := h
  exact gc_new h hk ho w
theorem gcX {g : Fn} {ds : List D} {st : Stt} {C : Addr} (h : ∃ J, g ds st = .ex ⟨C, none⟩ (st ++ J)) : gcB g ds st = .ex ⟨C, none⟩ st := by
  obtain ⟨J, h⟩ := h
  exact gc_ex h
theorem gcXF {g : Fn} {ds : List D} {st : Stt} {e : Exn} (h : ∃ J, g ds st = .ex e (st ++ J)) (w : LowX st.length e) : gcB g ds st = .ex e st := by
  obtain ⟨J, h⟩ := h
  exact gc_exF h w
theorem gcS {g : Fn} {ds : List D} {st s : Stt} {d : D} (h : ∃ J, g ds st = .ok d (s ++ J)) (hl : s.length = st.length) (hs : ∀ k, k < st.length → s[k]? = st[k]? ∨ ∃ o, s[k]? = some o ∧ LowO st.length o) (w : Low st.length d) : gcB g ds st = .ok d s := by
  obtain ⟨J, h⟩ := h
  exact gc_set h hl hs w
theorem gcSN {g : Fn} {ds : List D} {st s : Stt} {o : O} (h : ∃ J k, g ds st = .ok (.loc k) (s ++ J) ∧ st.length ≤ k ∧ (s ++ J)[k]? = some o) (hl : s.length = st.length) (hs : ∀ k, k < st.length → s[k]? = st[k]? ∨ ∃ o, s[k]? = some o ∧ LowO st.length o) (w : LowO st.length o) : gcB g ds st = .ok (.loc st.length) (s ++ [o]) := by
  obtain ⟨J, k, h, hk, ho⟩ := h
  exact gc_setN h hl hs hk ho w
theorem gc_bl {g : Fn} {ds : List D} {st s : Stt} {b : Bool} (h : g ds st = .ok (.bl b) s) : ∃ s', gcB g ds st = .ok (.bl b) s' := by
  unfold gcB
  rw [h, gcR_ok]
  split
  · exact ⟨_, rfl⟩
  · exact ⟨_, rfl⟩
@[simp] theorem noX_rt (d : D) (s : Stt) : noX (.rt d s) = .rt d s := (rfl)
@[simp] theorem noX_nx (d : En) (s : Stt) : noX (.nx d s) = .nx d s := (rfl)
@[simp] theorem clr_rt (i : Nat) (d : D) (s : Stt) : clr i (.rt d s) = .rt d s := (rfl)
@[simp] theorem clr_nx (i : Nat) (d : En) (s : Stt) : clr i (.nx d s) = .nx (d.set i none) s := (rfl)
@[simp] theorem sRaise_run (C : Addr) (ρ : En) (st : Stt) : sRaise C ρ st = .xx ρ ⟨C, none⟩ st := (rfl)
@[simp] theorem xIsE_run (sub : Option Bool) (a : Addr × Addr) (e : Exn) (i : Nat) (ρ : En) (st : Stt) : xIsE sub a e i ρ st = (xV i ρ st).bind (isE sub a e) := (rfl)
@[simp] theorem isE_run (b : Bool) (a : Addr × Addr) (C : Addr) (s : Stt) : isE (some b) a ⟨C, none⟩ (.opq Str.empty a.1) s = .ok (.bl b) s := if_pos ⟨rfl, rfl⟩
@[simp] theorem isE_runF (b : Bool) (a : Addr × Addr) (C : Addr) (fs : List (Str × D)) (ks : List Str) (ds : List D) (s : Stt) : isE (some b) a ⟨C, some fs⟩ (.exo a.1 a.2 ks ds) s = .ok (.bl b) s := if_pos ⟨⟨rfl, rfl⟩, rfl⟩
@[simp] theorem excD_none (a dd C : Addr) : excD a dd ⟨C, none⟩ = .opq Str.empty a := (rfl)
@[simp] theorem excD_some (a dd C : Addr) (fs : List (Str × D)) : excD a dd ⟨C, some fs⟩ = .exo a dd (fs.map (·.1)) (fs.map (·.2)) := (rfl)
@[simp] theorem xFldE_run (sub : Option Bool) (a : Addr × Addr) (e : Exn) (f : Str) (i : Nat) (ρ : En) (st : Stt) : xFldE sub a e f i ρ st = (xV i ρ st).bind fun x s => fldE sub a f x s e := (rfl)
@[simp] theorem fldE_run (b : Bool) (a : Addr × Addr) (C : Addr) (fs : List (Str × D)) (f : Str) (ks : List Str) (ds : List D) (s : Stt) : fldE (some b) a f (.exo a.1 a.2 ks ds) s ⟨C, some fs⟩ = match (ks.zip ds).lookup f with | some d => .ok d s | none => .no := if_pos ⟨⟨rfl, rfl⟩, rfl⟩
@[simp] theorem common_c (o : Out) : common (fun _ => o) = o := common_of fun _ => rfl
@[simp] theorem sTryA_run (ca : Addr → Option Bool) (i : Nat) (f : XS) (g : Addr × Addr → Exn → XS) (ρ : En) (st : Stt) : sTryA ca i f g ρ st = match f ρ st with
  | .xx ρ' e s => (match ca e.cls with
    | some true => common fun a => clr i (noX (g a e (ρ'.set i (some (excD a.1 a.2 e))) s))
    | some false => .xx ρ' e s
    | none => .no)
  | o => o := by unfold sTryA; rfl
@[simp] theorem sTry0_run (ca : Addr → Option Bool) (f g : XS) (ρ : En) (st : Stt) : sTry0 ca f g ρ st = match f ρ st with
  | .xx ρ' e s => (match ca e.cls with
    | some true => noX (g ρ' s)
    | some false => .xx ρ' e s
    | none => .no)
  | o => o := by unfold sTry0; rfl
@[simp] theorem xSortIt_run (fa : XE) (ρ : En) (st : Stt) : xSortIt fa ρ st = (fa ρ st).bind sortItF := (rfl)
@[simp] theorem xEnum_run (g : XA) (ρ : En) (st : Stt) : xEnum g ρ st = (g ρ st).bind wkEnum := (rfl)
@[simp] theorem xZip_run (g : XA) (ρ : En) (st : Stt) : xZip g ρ st = (g ρ st).bind wkZip := (rfl)
@[simp] theorem oSlA_at (st : Stt) (n : Nat) (lo hi : Option Int) : oSlA (.loc n) lo hi st = match st[n]? with | some (.lst ds) => some (.loc st.length, st ++ [.lst (cutD ds lo hi)]) | _ => none := by
  show (items st (.loc n)).map _ = _
  rw [items_at]
  cases h : st[n]? with
  | none => simp
  | some o => cases o <;> simp
@[simp] theorem wkEnum_at (st : Stt) (n : Nat) : wkEnum [.loc n] st = match st[n]? with | some (.lst ds) => .ok ⟨enumD ds, fun st => items st (.loc n) = some ds⟩ st | _ => .no := by
  unfold wkEnum
  simp only [items_at]
  cases h : st[n]? with
  | none => simp
  | some o => cases o <;> simp
@[simp] theorem wkZip_at (st : Stt) (n m : Nat) : wkZip [.loc n, .loc m] st = match st[n]? with | some (.lst ds) => (match st[m]? with | some (.lst es) => .ok ⟨zipD ds es, fun st => items st (.loc n) = some ds ∧ items st (.loc m) = some es⟩ st | _ => .no) | _ => .no := by
  unfold wkZip
  simp only [items_at]
  cases h : st[n]? with
  | none => simp
  | some o =>
    cases o with
    | lst ds =>
      cases h2 : st[m]? with
      | none => simp
      | some o => cases o <;> simp
    | _ => simp
theorem wkRange_i {i : Int} (h0 : 0 ≤ i) (h : i ≤ 1000000) (st : Stt) : wkRange [.int i] st = .ok ⟨intsD 0 i.toNat, fun _ => True⟩ st := if_pos ⟨by omega, by omega⟩
theorem wkRange_n {n : Nat} (h : n ≤ 1000000) (st : Stt) : wkRange [.int (n : Int)] st = .ok ⟨intsD 0 n, fun _ => True⟩ st := wkRange_i (by omega) (by omega) st
theorem cutD_from (ds : List D) (k : Nat) : cutD ds (some (k : Int)) none = ds.drop k := by
  rw [cutD_run]
  simp only [sIx_some', sIx_none']
  rw [if_neg (by omega), Int.toNat_natCast]
  by_cases h : k ≤ ds.length
  · rw [Nat.min_eq_left h, List.take_of_length_le (by simp)]
  · rw [Nat.min_eq_right (by omega), List.drop_length, List.drop_eq_nil_of_le (by omega)]; simp
theorem cutD_from1 (ds : List D) : cutD ds (some 1) none = ds.drop 1 := cutD_from ds 1
theorem cutD_to (ds : List D) (k : Nat) : cutD ds none (some (k : Int)) = ds.take k := by
  rw [cutD_run]
  simp only [sIx_some', sIx_none']
  rw [if_neg (by omega), Int.toNat_natCast, List.drop_zero, Nat.sub_zero]
  by_cases h : k ≤ ds.length
  · rw [Nat.min_eq_left h]
  · rw [Nat.min_eq_right (by omega), List.take_of_length_le (Nat.le_refl _), List.take_of_length_le (by omega)]
theorem cutD_neg1 (ds : List D) : cutD ds none (some (-1)) = ds.dropLast := by
  rw [cutD_run]
  simp only [sIx_some', sIx_none']
  rw [if_pos (by omega), List.drop_zero, Nat.sub_zero, List.dropLast_eq_take]
  congr 1
  omega
/-! comprehensions whose parts make nothing -/
theorem comp_map {L : Nat} {ok : Stt → Prop} {g : XG} {t : XT} {f : XE} {ρ : En} {φ : D → D} {st : Stt} (hL : L = st.length) (hok : ∀ l, ok (st ++ [.lst l])) : ∀ (ds acc : List D),
    (∀ d ∈ ds, ∃ ρ1, g d ρ = some ρ1 ∧ ∀ l, t ρ1 (st ++ [.lst l]) = .ok true (st ++ [.lst l]) ∧ f ρ1 (st ++ [.lst l]) = .ok (φ d) (st ++ [.lst l])) → acc.length + ds.length < 16777216 →
    compF L ok g t f ρ ds (st ++ [.lst acc]) = .ok () (st ++ [.lst (acc ++ ds.map φ)])
  | [], acc, _, _ => by unfold compF; rw [if_pos (hok _)]; simp
  | d :: ds, acc, h, hz => by
    obtain ⟨ρ1, h1, h2⟩ := h d (by simp)
    obtain ⟨h3, h4⟩ := h2 acc
    have ih := comp_map (φ := φ) hL hok ds (acc ++ [φ d]) (fun e he => h e (by simp [he])) (by simp at hz ⊢; omega)
    unfold compF
    rw [if_pos (hok _), h1]
    simp only [h3, h4]
    have e : lstAt (st ++ [.lst acc]) (.loc L) = some (L, acc) := lstAt_loc (by rw [hL]; simp)
    have hz2 : acc.length < sizeLine := by rw [sizeLine_eq]; simp at hz; omega
    simp only [e, if_pos hz2]
    have e2 : (st ++ [O.lst acc]).set L (.lst (acc ++ [φ d])) = st ++ [.lst (acc ++ [φ d])] := by rw [hL]; simp
    rw [e2, ih]
    simp
/-- .. with a test -/
theorem comp_fil {L : Nat} {ok : Stt → Prop} {g : XG} {t : XT} {f : XE} {ρ : En} {p : D → Bool} {φ : D → D} {st : Stt} (hL : L = st.length) (hok : ∀ l, ok (st ++ [.lst l])) : ∀ (ds acc : List D),
    (∀ d ∈ ds, ∃ ρ1, g d ρ = some ρ1 ∧ ∀ l, t ρ1 (st ++ [.lst l]) = .ok (p d) (st ++ [.lst l]) ∧ (p d = true → f ρ1 (st ++ [.lst l]) = .ok (φ d) (st ++ [.lst l]))) → acc.length + ds.length < 16777216 →
    compF L ok g t f ρ ds (st ++ [.lst acc]) = .ok () (st ++ [.lst (acc ++ (ds.filter p).map φ)])
  | [], acc, _, _ => by unfold compF; rw [if_pos (hok _)]; simp
  | d :: ds, acc, h, hz => by
    obtain ⟨ρ1, h1, h2⟩ := h d (by simp)
    obtain ⟨h3, h4⟩ := h2 acc
    unfold compF
    rw [if_pos (hok _), h1]
    simp only [h3]
    cases hp : p d with
    | false =>
      simp only [hp]
      have ih := comp_fil (p := p) (φ := φ) hL hok ds acc (fun e he => h e (by simp [he])) (by simp at hz ⊢; omega)
      rw [ih]
      simp [hp]
    | true =>
      simp only [hp]
      have ih := comp_fil (p := p) (φ := φ) hL hok ds (acc ++ [φ d]) (fun e he => h e (by simp [he])) (by simp at hz ⊢; omega)
      simp only [h4 hp]
      have e : lstAt (st ++ [.lst acc]) (.loc L) = some (L, acc) := lstAt_loc (by rw [hL]; simp)
      have hz2 : acc.length < sizeLine := by rw [sizeLine_eq]; simp at hz; omega
      simp only [e, if_pos hz2]
      have e2 : (st ++ [O.lst acc]).set L (.lst (acc ++ [φ d])) = st ++ [.lst (acc ++ [φ d])] := by rw [hL]; simp
      rw [e2, ih]
      simp [hp]
@[simp] theorem bools_map' {α : Type} (p : α → Bool) : ∀ l : List α, bools (l.map fun c => D.bl (p c)) = some (l.map p)
  | [] => rfl
  | c :: l => by rw [List.map_cons, bools_cons, bools_map' p l]; rfl
theorem forF_nil' {ok : Stt → Prop} {g : XG} {f : XS} {ρ : En} {st : Stt} (h : ok st) : forF ok g f [] ρ st = .nx ρ st := by unfold forF; exact if_pos h
theorem forF_cons' {ok : Stt → Prop} {g : XG} {f : XS} {d : D} {ds : List D} {ρ ρ1 : En} {st : Stt} (h : ok st) (hg : g d ρ = some ρ1) : forF ok g f (d :: ds) ρ st = match f ρ1 st with
    | .nx ρ' st' => forF ok g f ds ρ' st'
    | .ct ρ' st' => forF ok g f ds ρ' st'
    | .bk ρ' st' => .nx ρ' st'
    | r => r := by
  conv => lhs; unfold forF
  rw [if_pos h, hg]
  all_goals rfl
/-- while: so many turns lead there -/
def Turns (c : XT) (f : XS) (ρ : En) (st : Stt) (ρ' : En) (st' : Stt) (B : Nat) : Prop := ∃ k, k ≤ B ∧ ∀ m, whileF c f (m + k) ρ st = whileF c f m ρ' st'
theorem Turns.refl {c : XT} {f : XS} {ρ : En} {st : Stt} : Turns c f ρ st ρ st 0 := ⟨0, Nat.le_refl _, fun _ => rfl⟩
theorem Turns.trans {c : XT} {f : XS} {ρ ρ1 ρ2 : En} {st st1 st2 : Stt} {A B : Nat} (h : Turns c f ρ st ρ1 st1 A) (g : Turns c f ρ1 st1 ρ2 st2 B) : Turns c f ρ st ρ2 st2 (A + B) := by
  obtain ⟨k, h1, h2⟩ := h
  obtain ⟨l, g1, g2⟩ := g
  exact ⟨l + k, by omega, fun m => by rw [← Nat.add_assoc, h2, g2]⟩
theorem Turns.one {c : XT} {f : XS} {ρ ρ1 : En} {st s st1 : Stt} (h : c ρ st = .ok true s) (g : f ρ s = .nx ρ1 st1) : Turns c f ρ st ρ1 st1 1 := ⟨1, Nat.le_refl _, fun m => by
  rw [whileF_succ, h]
  simp only [R.out_ok, if_true, g]⟩
theorem Turns.le {c : XT} {f : XS} {ρ ρ1 : En} {st st1 : Stt} {A B : Nat} (h : Turns c f ρ st ρ1 st1 A) (hl : A ≤ B) : Turns c f ρ st ρ1 st1 B := by
  obtain ⟨k, h1, h2⟩ := h
  exact ⟨k, by omega, h2⟩
theorem Turns.run {c : XT} {f : XS} {ρ ρ1 : En} {st st1 s : Stt} {B : Nat} (h : Turns c f ρ st ρ1 st1 B) (hB : B < 1000000) (he : c ρ1 st1 = .ok false s) : sWhile c f ρ st = .nx ρ1 s := by
  obtain ⟨k, h1, h2⟩ := h
  have e : WN = (WN - k - 1 + 1) + k := by unfold WN; omega
  show whileF c f WN ρ st = _
  rw [e, h2, whileF_succ, he]
  simp
/-- .. and the next turn returns -/
theorem Turns.ret {c : XT} {f : XS} {ρ ρ1 : En} {st st1 s s2 : Stt} {d : D} {B : Nat} (h : Turns c f ρ st ρ1 st1 B) (hB : B < 1000000) (he : c ρ1 st1 = .ok true s) (hf : f ρ1 s = .rt d s2) : sWhile c f ρ st = .rt d s2 := by
  obtain ⟨k, h1, h2⟩ := h
  have e : WN = (WN - k - 1 + 1) + k := by unfold WN; omega
  show whileF c f WN ρ st = _
  rw [e, h2, whileF_succ, he]
  simp [hf]
/-- for: a step that keeps the slots' form -/
theorem forF_step {ok : Stt → Prop} {g : XG} {f : XS} {its : List D} {α : Type} (E : α → En) (S : α → Stt) (nx : α → D → α) (hok : ∀ x, ok (S x))
    (step : ∀ x d, d ∈ its → ∃ ρ1, g d (E x) = some ρ1 ∧ (f ρ1 (S x) = .nx (E (nx x d)) (S (nx x d)) ∨ f ρ1 (S x) = .ct (E (nx x d)) (S (nx x d)))) : ∀ (x : α), forF ok g f its (E x) (S x) = .nx (E (its.foldl nx x)) (S (its.foldl nx x)) := by
  induction its with
  | nil => intro x; unfold forF; rw [if_pos (hok x)]; rfl
  | cons d ds ih =>
    intro x
    obtain ⟨ρ1, h1, h2⟩ := step x d (by simp)
    unfold forF
    rw [if_pos (hok x), h1]
    have := ih (fun x e he => step x e (by simp [he])) (nx x d)
    rcases h2 with h2 | h2 <;> (simp only [h2]; exact this)
/-! data that equals itself -/
theorem eqv_refl_toD {st : Stt} : ∀ (n : Nat) (d : D) (p : PyData), toD st n d = some p → PyData.eqv p p = true := by
  have all : ∀ (n : Nat), (∀ d p, toD st n d = some p → PyData.eqv p p = true) → ∀ (ds : List D) (ps : List PyData), ds.mapM (toD st n) = some ps → PyData.eqvAll ps ps = true := by
    intro n hn ds
    induction ds with
    | nil => intro ps h; rw [List.mapM_nil] at h; cases h; simp [PyData.eqvAll]
    | cons d ds ih =>
      intro ps h
      rw [List.mapM_cons] at h
      obtain ⟨p, h1, h⟩ := Option.bind_eq_some_iff.mp h
      obtain ⟨qs, h2, h⟩ := Option.bind_eq_some_iff.mp h
      cases h
      rw [PySem.W.eqv_all_cons, hn d p h1, ih qs h2]
      rfl
  intro n
  induction n with
  | zero => intro d p h; cases h
  | succ n ih =>
    intro d p h
    cases d with
    | non => cases h; simp [PyData.eqv]
    | bl b => cases h; simp [PyData.eqv]
    | int i => cases h; simp [PyData.eqv]
    | opq _ _ => cases h
    | exo _ _ _ _ => cases h
    | str x =>
      have h : (if PyData.strOk x = true then some (PyData.str x) else none) = some p := h
      split at h
      · cases h; simp [PyData.eqv]
      · cases h
    | tup ds =>
      obtain ⟨qs, h1, h2⟩ := Option.map_eq_some_iff.mp (show (ds.mapM (toD st n)).map PyData.tuple = some p from h)
      subst h2
      rw [PyData.eqv]; exact all n ih ds qs h1
    | cl ds =>
      obtain ⟨qs, h1, h2⟩ := Option.map_eq_some_iff.mp (show (ds.mapM (toD st n)).map PyData.list = some p from h)
      subst h2
      rw [PyData.eqv]; exact all n ih ds qs h1
    | loc k =>
      have h : (match st[k]? with
        | some (.lst ds) => (ds.mapM (toD st n)).map PyData.list
        | _ => none) = some p := h
      split at h
      · obtain ⟨qs, h1, h2⟩ := Option.map_eq_some_iff.mp h
        subst h2
        rw [PyData.eqv]; exact all n ih _ qs h1
      · cases h
theorem deq_self {st : Stt} {x : D} {p : PyData} (h : toD st 60 x = some p) : deq st x x = some true := by
  unfold deq
  rw [h]
  simp [eqv_refl_toD 60 x p h]
/-- two lists with the same data -/
theorem deq_lists {st : Stt} {m n : Nat} {ds : List D} {ps : List PyData} (h1 : st[m]? = some (.lst ds)) (h2 : st[n]? = some (.lst ds)) (h : ds.mapM (toD st 59) = some ps) : deq st (.loc m) (.loc n) = some true := by
  have e : ∀ k, st[k]? = some (.lst ds) → toD st 60 (.loc k) = some (.list ps) := fun k hk => by
    show (match st[k]? with | some (.lst ds) => (ds.mapM (toD st 59)).map PyData.list | _ => none) = _
    rw [hk]
    show (ds.mapM (toD st 59)).map PyData.list = _
    rw [h]; rfl
  have r := eqv_refl_toD 60 _ _ (e m h1)
  unfold deq
  rw [e m h1, e n h2]
  simp [r]
theorem oNe_same {st : Stt} {x y : D} (h : deq st x y = some true) : oNe x y st = some (.bl false, st) := by unfold oNe; rw [h]; rfl
theorem oEq_same {st : Stt} {x y : D} (h : deq st x y = some true) : oEq x y st = some (.bl true, st) := by unfold oEq; rw [h]; rfl
/-- plain data: no places, not too deep, texts that are some -/
def okD : Nat → D → Bool
  | 0, _ => false
  | n + 1, d => match d with
    | .non => true
    | .bl _ => true
    | .int _ => true
    | .str x => PyData.strOk x
    | .tup ds => ds.all (okD n)
    | .cl ds => ds.all (okD n)
    | _ => false
def datD : Nat → D → PyData
  | 0, _ => .none
  | n + 1, d => match d with
    | .non => .none
    | .bl b => .bool b
    | .int i => .int i
    | .str x => .str x
    | .tup ds => .tuple (ds.map (datD n))
    | .cl ds => .list (ds.map (datD n))
    | _ => .none
theorem mapM_ok {st : Stt} {n : Nat} (h : ∀ d, okD n d = true → toD st n d = some (datD n d)) : ∀ ds : List D, ds.all (okD n) = true → ds.mapM (toD st n) = some (ds.map (datD n))
  | [], _ => rfl
  | d :: ds, k => by
    rw [List.all_cons, Bool.and_eq_true] at k
    rw [List.mapM_cons, h d k.1, mapM_ok h ds k.2]
    rfl
theorem toD_ok {st : Stt} : ∀ (n : Nat) (d : D), okD n d = true → toD st n d = some (datD n d)
  | 0, _, h => by cases h
  | n + 1, d, h => by
    cases d with
    | non => rfl
    | bl _ => rfl
    | int _ => rfl
    | str x => exact if_pos h
    | tup ds =>
      show (ds.mapM (toD st n)).map PyData.tuple = _
      rw [mapM_ok (toD_ok n) ds h]; rfl
    | cl ds =>
      show (ds.mapM (toD st n)).map PyData.list = _
      rw [mapM_ok (toD_ok n) ds h]; rfl
    | loc _ => cases h
    | opq _ _ => cases h
    | exo _ _ _ _ => cases h
theorem okD_mono : ∀ (n : Nat) (d : D), okD n d = true → okD (n + 1) d = true
  | 0, _, h => by cases h
  | n + 1, d, h => by
    cases d with
    | non => rfl
    | bl _ => rfl
    | int _ => rfl
    | str x => exact h
    | tup ds => exact List.all_eq_true.mpr fun d hd => okD_mono n d (List.all_eq_true.mp h d hd)
    | cl ds => exact List.all_eq_true.mpr fun d hd => okD_mono n d (List.all_eq_true.mp h d hd)
    | loc _ => cases h
    | opq _ _ => cases h
    | exo _ _ _ _ => cases h
theorem okD_le {m n : Nat} {d : D} (hmn : m ≤ n) (h : okD m d = true) : okD n d = true := by
  induction hmn with
  | refl => exact h
  | step _ ih => exact okD_mono _ _ ih
theorem okD_low : ∀ (n : Nat) (d : D) (k : Nat), okD n d = true → Low k d
  | 0, _, _, h => by cases h
  | n + 1, d, k, h => by
    cases d with
    | non => exact .non
    | bl b => exact .bl b
    | int i => exact .int i
    | str x => exact .str x
    | tup ds => exact (low_tup k ds).mpr fun d hd => okD_low n d k (List.all_eq_true.mp h d hd)
    | cl ds => exact (low_cl k ds).mpr fun d hd => okD_low n d k (List.all_eq_true.mp h d hd)
    | loc _ => cases h
    | opq _ _ => cases h
    | exo _ _ _ _ => cases h
end Rg

set_option Elab.async false
set_option linter.all false
set_option maxRecDepth 100000
set_option maxHeartbeats 1000000
/-! ### t[::-1], t a tuple -/
namespace RgT
open PySem PySem.Calls PyProof.Rows PySem.W HT
section
variable {pg : Program} {wd : World} {Ar : Around} {Er : Value → Shared → Prop} {sh : Shared}
theorem adj_rev (n : Nat) : Builtin.Slice.sliceAdjust none none (-1) (n : Int) = ((n : Int) - 1, -1) := by
  unfold Builtin.Slice.sliceAdjust
  simp
theorem pl_rev (n : Nat) : Builtin.Slice.slicePlaces ((n : Int) - 1) (-1) (-1) = n := by
  unfold Builtin.Slice.slicePlaces
  have z : ¬ ((-1 : Int) > 0) := by omega
  rw [if_neg z]
  split <;> simp <;> omega
theorem app_rev {c : Addr} {v3 : Value} {n : Nat} {Qr : Int × Int × Nat → Shared → Prop} (hs : sh.heap.IsSliceOf c .none .none v3) (p3 : IsPart v3 (some (-1))) (hq : Qr ((n : Int) - 1, -1, n) sh) :
    wpAny (model pg wd) Ar (Builtin.Slice.sliceApplied (.ref c) (pure (n : Int))) Qr Er sh := by
  obtain ⟨oc, h1, h2, h3⟩ := id hs
  unfold Builtin.Slice.sliceApplied Builtin.Slice.sliceFields
  have f1 := fun {Q} (q : Q Value.none sh) => wpAny_field (M := model pg wd) (A := Ar) (E := Er) h1 h3 (x := .none) (i := 0) (Q := Q) rfl q
  refine wpAny_bind (wpAny_bind (f1 (wpAny_bind (wpAny_field h1 h3 (x := .none) rfl (wpAny_bind (wpAny_field h1 h3 (x := v3) rfl (wpAny_pure ?_)))))))
  refine wpAny_bind (slicePart_ p3 ?_)
  show wpAny _ _ (if ((-1 : Int) == 0) = true then _ else _) _ _ sh
  rw [if_neg (by decide)]
  refine wpAny_bind (slicePart_none (wpAny_bind (slicePart_none (wpAny_bind (wpAny_pure ?_)))))
  show wpAny _ _ (match Builtin.Slice.sliceAdjust none none (-1) (n : Int) with | (x, y) => pure (x, (-1 : Int), Builtin.Slice.slicePlaces x y (-1))) _ _ sh
  rw [adj_rev]
  show wpAny _ _ (pure ((n : Int) - 1, (-1 : Int), Builtin.Slice.slicePlaces ((n : Int) - 1) (-1) (-1))) _ _ sh
  rw [pl_rev]
  exact wpAny_pure hq
theorem fm_some {α β : Type} {f : α → Option β} {g : α → β} : ∀ l : List α, (∀ x ∈ l, f x = some (g x)) → l.filterMap f = l.map g
  | [], _ => rfl
  | x :: l, h => by rw [List.filterMap_cons, h x (by simp), fm_some l fun y hy => h y (by simp [hy])]; rfl
theorem pick_rev (xs : Array Value) : ((List.range xs.size).filterMap fun (m : Nat) => xs[((xs.size : Int) - 1 + (m : Int) * (-1)).toNat]?) = xs.toList.reverse := by
  apply List.ext_getElem?
  intro i
  have e : ((List.range xs.size).filterMap fun (m : Nat) => xs[((xs.size : Int) - 1 + (m : Int) * (-1)).toNat]?) = (List.range xs.size).map fun m => xs.toList.reverse.getD m .none := by
    refine fm_some _ fun m hm => ?_
    have hm := List.mem_range.mp hm
    have e1 : ((xs.size : Int) - 1 + (m : Int) * (-1)).toNat = xs.size - 1 - m := by omega
    rw [e1, List.getD_eq_getElem?_getD, List.getElem?_reverse (by simpa using hm), Array.length_toList, Array.getElem?_toList]
    have : xs.size - 1 - m < xs.size := by omega
    rw [Array.getElem?_eq_getElem this]
    rfl
  rw [e, List.getElem?_map]
  by_cases h : i < xs.size
  · rw [List.getElem?_range h, Option.map_some, List.getD_eq_getElem?_getD]
    have : i < xs.toList.reverse.length := by simpa using h
    rw [List.getElem?_eq_getElem this]
    rfl
  · rw [List.getElem?_eq_none (by simpa using h), List.getElem?_eq_none (by simpa using h)]
    rfl
theorem item_rev {t c : Addr} {xs : Array Value} {v3 : Value} {Qr : Value → Shared → Prop} (ht : IsTup sh.heap t xs) (hs : sh.heap.IsSliceOf c .none .none v3) (p3 : IsPart v3 (some (-1)))
    (hq : Qr (.ref sh.heap.objs.size) { sh with heap := sh.heap.push { cls := .type "tuple", data := .seq xs.toList.reverse.toArray } }) (hz : xs.size ≤ sizeLine) : wpAny (model pg wd) Ar (getItem (.ref t) (.ref c)) Qr Er sh := by
  have hok : sizeOk (.seq xs.toList.reverse.toArray) := by
    show xs.toList.reverse.toArray.size ≤ sizeLine
    simpa using hz
  obtain ⟨oc, h1, h2, h3⟩ := id hs
  have hT : sh.TypeIs (.ref c) "slice" := ⟨oc, h1, h2⟩
  unfold getItem
  try with_reducible refine wpAny_holding ?_
  first | refine wpAny_bind (wpAny_pure ?_) | skip
  refine wpAny_bind (wpAny_sequenceKey ht.typeIs (by decide) ?_)
  have sl := PyProof.Rows.slot_tuple_getitem
  refine wpAny_bind (wpAny_callSpecial?_slot (name := Str.ofString "__getitem__") ht.typeIs sl (wpAny_call_entry sl ht.typeIs entry_tuple_getitem ?_ (args_tuple_getitem _ _)))
  show wpAny _ _ (Builtin.Tuple.tupleItemsOf (.ref t) >>= _) _ _ sh
  refine wpAny_bind (tupleItemsOf_ ht (wpAny_bind (wpAny_typeOf hT ?_)))
  rw [if_pos (by decide)]
  refine wpAny_bind (app_rev hs p3 ?_)
  have hno : ¬ ((((xs.size : Int) - 1 == 0 && (-1 : Int) == 1 && xs.size == xs.size)) = true) := by simp
  show wpAny _ _ (if (((xs.size : Int) - 1 == 0 && (-1 : Int) == 1 && xs.size == xs.size)) = true then _ else _) _ _ sh
  rw [if_neg hno, pick_rev]
  first
    | exact wpAny_bind (m := Builtin.Tuple.tupleExact _) (wpAny_newObj_type (wpAny_pure ⟨_, rfl, wpAny_pure hq⟩) hok)
    | exact wpAny_bind (m := Builtin.Tuple.tupleExact _) (wpAny_newObj_type (wpAny_bind (wpAny_pure (wpAny_pure ⟨_, rfl, wpAny_pure hq⟩))) hok)
    | exact wpAny_bind (wpAny_bind (m := Builtin.Tuple.tupleExact _) (wpAny_newObj_type (wpAny_pure (wpAny_pure ⟨_, rfl, wpAny_pure hq⟩)) hok))
    | exact wpAny_bind (wpAny_bind (m := Builtin.Tuple.tupleExact _) (wpAny_newObj_type (wpAny_pure ⟨_, rfl, wpAny_pure hq⟩) hok))
end
end RgT
namespace Rg
open PySem PySem.Spec PyProof.Rows L2
def tRevT (K : PySem.W.Frag) (te : TE) : TE := fun σ H Q => te σ H fun x H1 => ∃ a xs, x = .ref a ∧ SqT K H1 a xs ∧ ∀ p, H1 p = none → Q (.ref p) (upd H1 p (.tup xs.reverse))
section
variable {X : Cx} {W : WX}
theorem pe_revT {ex : Expr} {te : TE} {k : Nat} {q1 q2 q3 pos : Pos} (he : PE X ex te) : PE X (.Subscript ex (.Slice none none (some (.UnaryOp .USub (.Constant (.int 1) k q1) q2)) q3) pos) (tRevT X.K te) := by
  refine ⟨fun pins s σ H Q I h => ?_⟩
  refine Subscript_ (thn (he.run pins s σ H _ I h) fun v s1 ⟨x, H1, I1, r1, a, xs, ex', hx, q⟩ => ?_)
  subst ex'
  cases r1
  have hst : PO X (some (.UnaryOp .USub (.Constant (.int 1) k q1) q2)) (tPart (tUn (rU fun i => .int (-i)) (tC (.int 1)))) := po_some (pe_un un_neg pe_int)
  refine wpAny_Slice (thn (po_none.run pins s1 σ H1 (fun o G => o = none ∧ G = H1) I1 ⟨rfl, rfl⟩) fun vl s2 ⟨l, H2, I2, pl, el, e2⟩ => ?_)
  subst el e2
  refine thn (po_none.run pins s2 σ H2 (fun o G => o = none ∧ G = H2) I2 ⟨rfl, rfl⟩) fun vu s3 ⟨u, H3, I3, pu, eu, e3⟩ => ?_
  subst eu e3
  refine thn (hst.run pins s3 σ H3 (fun o G => o = some (-1) ∧ G = H3) I3 ⟨1, rfl, -1, rfl, rfl, rfl⟩) fun vs s4 ⟨o, H4, I4, pt, eo, e4⟩ => ?_
  subst eo e4
  cases pl
  cases pu
  have I5 : L2.Inv X pins σ H4 { s4 with heap := s4.heap.push { cls := .type "slice", data := .fields #[.none, .none, vs] } } := I4.kept (t' := s4.toks) fun b ob g => Heap.get?_push_of_some _ g
  obtain ⟨its, r, ht, hz⟩ := I5.tuple hx
  have hlen := r.length
  refine tail_any (ops := [.ref a, .ref s4.heap.objs.size]) ht.typeIs PyProof.Rows.slot_tuple_getitem.lookup ?_ (by with_unfolding_all rfl)
  refine RgT.item_rev ht (Heap.IsSliceOf.new _ .none .none vs) pt ?_ (by rw [List.size_toArray]; omega)
  refine ⟨.ref _, _, I5.laid (t' := s4.toks) (o := .tup xs.reverse) (fun b ob g => Heap.get?_push_of_some _ g) (Nat.le_refl _) ?_, rfl, q _ (I5.hok.fresh (Nat.le_refl _))⟩
  exact ⟨by rw [List.length_reverse]; omega, its.reverse, r.reverse, ⟨_, Heap.get?_push_size _ rfl, rfl, 0, rfl⟩⟩
theorem pe_or {e : Expr} {t t' : TE} (h : PE X e t) (h' : PE X e t') : PE X e (fun σ H Q => t σ H Q ∨ t' σ H Q) := ⟨fun pins s σ H Q I q => by
  rcases q with q | q
  · exact h.run pins s σ H Q I q
  · exact h'.run pins s σ H Q I q⟩
/-- xs[::-1], a list or a tuple -/
def oRev2 : Op1 := fun d st => match d with
  | .tup ds => some (.tup ds.reverse, st)
  | d => oRev d st
theorem e_rev2 {e : Expr} {fa : XE} {k : Nat} {p1 p2 p3 pos : Pos} (he : PE X e (tX X.K W fa)) : PE X (.Subscript e (.Slice none none (some (.UnaryOp .USub (.Constant (.int 1) k p1) p2)) p3) pos) (tX X.K W (x1 oRev2 fa)) :=
  pe_imp (pe_or (pe_revL he) (pe_revT he)) fun σ H Q ⟨ρ, st, μ, E, S, h⟩ => by
    cases hf : fa ρ st with
    | no => 
      have h : RO X.K (wx X.K W σ) H μ (QD X.K Q) ((fa ρ st).bind fun x s1 => R.of (oRev2 x s1)) := h
      rw [hf] at h
      exact h.elim
    | ex e s =>
      have h : RO X.K (wx X.K W σ) H μ (QD X.K Q) ((fa ρ st).bind fun x s1 => R.of (oRev2 x s1)) := h
      rw [hf] at h
      exact .inl ⟨ρ, st, μ, E, S, by rw [hf]; exact h⟩
    | ok d s =>
      have h : RO X.K (wx X.K W σ) H μ (QD X.K Q) ((fa ρ st).bind fun x s1 => R.of (oRev2 x s1)) := h
      rw [hf] at h
      have h : RO X.K (wx X.K W σ) H μ (QD X.K Q) (R.of (oRev2 d s)) := h
      obtain ⟨z, s3, h3, k⟩ := h.of
      have hc : (∃ ds, d = .tup ds) ∨ oRev2 d s = oRev d s := by
        cases d with
        | tup ds => exact .inl ⟨ds, rfl⟩
        | _ => exact .inr rfl
      rcases hc with ⟨ds, rfl⟩ | hc
      · right
        cases h3
        refine ⟨ρ, st, μ, E, S, ?_⟩
        rw [hf]
        intro H1 μ1 e1 S1 v r
        obtain ⟨a, vs, rfl, hq, q⟩ := seqT (K := X.K) r
        refine ⟨a, vs, rfl, hq, fun p hp => ?_⟩
        exact k _ μ1 (e1.trans (ext_tup hp _)) (S1.tup hp _) _ (.tup (.inl (.inl upd_same)) (q.reverse.ext (ext_tup hp _)))
      · left
        rw [hc] at h3
        unfold oRev at h3
        obtain ⟨ds, h4, h3⟩ := Option.map_eq_some_iff.mp h3
        cases h3
        refine ⟨ρ, st, μ, E, S, ?_⟩
        rw [hf]
        intro H1 μ1 e1 S1 v r
        obtain ⟨l, vs, rfl, hq, q⟩ := litems_seq S1 h4 r
        exact ⟨l, vs, rfl, hq, fun p hp => k _ _ (e1.trans (ext_new hp _)) (S1.newL hp q.reverse) _ (loc_new S1)⟩
end
@[simp] theorem oRev2_tup (ds : List D) (st : Stt) : oRev2 (.tup ds) st = some (.tup ds.reverse, st) := (rfl)
@[simp] theorem oRev2_at (st : Stt) (n : Nat) : oRev2 (.loc n) st = match st[n]? with | some (.lst ds) => some (.loc st.length, st ++ [.lst ds.reverse]) | _ => none := oRev_at st n
end Rg

set_option Elab.async false
set_option linter.all false
set_option maxRecDepth 100000
set_option maxHeartbeats 1000000
namespace Rg
open PySem PySem.Spec PyProof.Rows L2
/-! ### sorted(d.items()), the keys texts -/
theorem mapM_mem {α β : Type} {f : α → Option β} : ∀ {ds : List α} {qs : List β}, ds.mapM f = some qs → ∀ q ∈ qs, ∃ d ∈ ds, f d = some q
  | [], qs, h, q, hq => by rw [List.mapM_nil] at h; cases h; cases hq
  | d :: ds, qs, h, q, hq => by
    rw [List.mapM_cons] at h
    obtain ⟨p, h1, h⟩ := Option.bind_eq_some_iff.mp h
    obtain ⟨ps, h2, h⟩ := Option.bind_eq_some_iff.mp h
    cases h
    rcases List.mem_cons.mp hq with rfl | hq
    · exact ⟨d, by simp, h1⟩
    · obtain ⟨e, he, h3⟩ := mapM_mem h2 q hq
      exact ⟨e, by simp [he], h3⟩
theorem mapM_len {α β : Type} {f : α → Option β} : ∀ {ds : List α} {qs : List β}, ds.mapM f = some qs → ds.length = qs.length
  | [], qs, h => by rw [List.mapM_nil] at h; cases h; rfl
  | d :: ds, qs, h => by
    rw [List.mapM_cons] at h
    obtain ⟨p, h1, h⟩ := Option.bind_eq_some_iff.mp h
    obtain ⟨ps, h2, h⟩ := Option.bind_eq_some_iff.mp h
    cases h
    simp [mapM_len h2]
theorem nodup_inj {α β : Type} {f : α → β} : ∀ {l : List α}, (l.map f).Nodup → ∀ x ∈ l, ∀ y ∈ l, f x = f y → x = y
  | [], _, x, h, _, _, _ => by cases h
  | a :: l, hn, x, hx, y, hy, e => by
    rw [List.map_cons, List.nodup_cons] at hn
    rcases List.mem_cons.mp hx with h1 | h1 <;> rcases List.mem_cons.mp hy with h2 | h2
    · rw [h1, h2]
    · rw [h1] at e
      exact absurd (List.mem_map.mpr ⟨y, h2, e.symm⟩) hn.1
    · rw [h2] at e
      exact absurd (List.mem_map.mpr ⟨x, h1, e⟩) hn.1
    · exact nodup_inj hn.2 x h1 y h2 e
abbrev sdI (kvs : List (List Nat × D)) : List (Key × D) := kvs.map fun p => (Sum.inr (tx p.1), p.2)
theorem sortIt_ok {st : Stt} {n : Nat} {kvs : List (List Nat × D)} {qs : List PyData} (hst : st[n]? = some (.dct (sdI kvs))) (hq : (kvs.map (·.2)).mapM (toD st 59) = some qs) (hal : ∀ p ∈ qs, ∀ q ∈ qs, PySem.W.alike p q = true) (nd : (kvs.map (·.1)).Nodup) :
    ∃ out : List (List Nat × D), out.Perm kvs ∧ out.Pairwise (fun p q => p.1 < q.1) ∧ sortItF (.loc n) st = .ok (.loc st.length) (st ++ [.lst (out.map fun p => .tup [.str (tx p.1), p.2])]) := by
  have hlen : kvs.length = qs.length := by have := mapM_len hq; simpa using this
  have e1 : (sdI kvs).map (·.2) = kvs.map (·.2) := by simp [sdI, Function.comp_def]
  have e2 : prD (((sdI kvs).map (·.1)).zip qs) = (kvs.zip qs).map fun z => PyData.tuple [.str (tx z.1.1), z.2] := by
    unfold prD
    have : (sdI kvs).map (·.1) = kvs.map fun p => Sum.inr (tx p.1) := by simp [sdI, Function.comp_def]
    rw [this, List.zip_map_left, List.map_map]
    rfl
  have hz1 : (kvs.zip qs).map (·.1) = kvs := List.map_fst_zip (by omega)
  have al : ∀ z ∈ kvs.zip qs, ∀ w ∈ kvs.zip qs, PySem.W.alike z.2 w.2 = true := fun z hz w hw => hal _ (List.of_mem_zip hz).2 _ (List.of_mem_zip hw).2
  have hA : alikeB (prD (((sdI kvs).map (·.1)).zip qs)) = true := by
    rw [e2]
    unfold alikeB
    refine List.all_eq_true.mpr fun d hd => List.all_eq_true.mpr fun e he => ?_
    obtain ⟨z, hz, rfl⟩ := List.mem_map.mp hd
    obtain ⟨w, hw, rfl⟩ := List.mem_map.mp he
    have := al z hz w hw
    simp [PySem.W.alike, PySem.W.alikeAll, this]
  have hS : sortableB (prD (((sdI kvs).map (·.1)).zip qs)) = true := by
    rw [e2]
    unfold sortableB
    rw [Bool.or_eq_true]
    refine .inl (List.all_eq_true.mpr fun d hd => ?_)
    obtain ⟨z, hz, rfl⟩ := List.mem_map.mp hd
    rfl
  have inj : ∀ z ∈ kvs.zip qs, ∀ w ∈ kvs.zip qs, z.1.1 = w.1.1 → z = w := by
    refine nodup_inj (f := fun z : (List Nat × D) × PyData => z.1.1) ?_
    have : (kvs.zip qs).map (fun z => z.1.1) = kvs.map (·.1) := by
      conv => rhs; rw [← hz1]
      rw [List.map_map]; rfl
    rw [this]; exact nd
  have rf : ∀ z ∈ kvs.zip qs, PyData.eqv z.2 z.2 = true := fun z hz => by
    obtain ⟨d, _, hd⟩ := mapM_mem hq z.2 (List.of_mem_zip hz).2
    exact eqv_refl_toD 59 d _ hd
  have key := PySem.W.sort_maps (r := fun z w : (List Nat × D) × PyData => decide (z.1.1 ≤ w.1.1)) (s := leP) (fun z => (D.tup [.str (tx z.1.1), z.1.2], PyData.tuple [.str (tx z.1.1), z.2])) (l := kvs.zip qs) (fun z hz w hw => by
    show _ = !PySem.W.dataLt (.tuple [.str (tx w.1.1), w.2]) (.tuple [.str (tx z.1.1), z.2])
    rw [PySem.W.dataLt_pair (by simp [PySem.W.alike]) (al w hw z hz)]
    by_cases h : w.1.1 = z.1.1
    · have := inj w hw z hz h
      subst this
      simp [PyData.eqv, rf w hw]
    · have h2 : ¬ PyData.eqv (.str (tx w.1.1)) (.str (tx z.1.1)) = true := by
        simp only [PyData.eqv]
        simpa using h
      rw [if_neg h2, PySem.W.dataLt_str, cps_l, cps_l, PySem.W.not_lt_str])
  generalize hm : (kvs.zip qs).mergeSort (fun z w : (List Nat × D) × PyData => decide (z.1.1 ≤ w.1.1)) = m at key
  have pm : m.Perm (kvs.zip qs) := by rw [← hm]; exact List.mergeSort_perm _ _
  have sm : m.Pairwise fun z w => decide (z.1.1 ≤ w.1.1) = true := by
    rw [← hm]
    refine List.pairwise_mergeSort (fun x y z h1 h2 => ?_) (fun x y => ?_) _
    · exact decide_eq_true (List.le_trans (of_decide_eq_true h1) (of_decide_eq_true h2))
    · rw [Bool.or_eq_true]
      rcases List.le_total x.1.1 y.1.1 with h | h
      · exact .inl (decide_eq_true h)
      · exact .inr (decide_eq_true h)
  have po : (m.map (·.1)).Perm kvs := by
    have := pm.map (·.1)
    rwa [hz1] at this
  refine ⟨m.map (·.1), po, ?_, ?_⟩
  · have n2 : ((m.map (·.1)).map (·.1)).Nodup := (po.map (·.1)).nodup_iff.mpr nd
    have n3 : (m.map (·.1)).Pairwise fun p q => p.1 ≠ q.1 := List.pairwise_map.mp n2
    have s2 : (m.map (·.1)).Pairwise fun p q => p.1 ≤ q.1 := List.pairwise_map.mpr (sm.imp fun h => of_decide_eq_true h)
    exact (s2.and n3).imp fun h => by
      rcases List.le_iff_lt_or_eq.mp h.1 with g | g
      · exact g
      · exact absurd g h.2
  · unfold sortItF
    rw [dctAt_loc hst]
    dsimp only
    rw [e1, hq]
    dsimp only
    rw [if_pos ⟨hA, hS⟩]
    congr 4
    unfold sortP
    rw [e2]
    have e3 : ((sdI kvs).map fun kv => D.tup [kD kv.1, kv.2]).zip ((kvs.zip qs).map fun z => PyData.tuple [.str (tx z.1.1), z.2]) = (kvs.zip qs).map fun z => (D.tup [.str (tx z.1.1), z.1.2], PyData.tuple [.str (tx z.1.1), z.2]) := by
      have : ((sdI kvs).map fun kv => D.tup [kD kv.1, kv.2]) = (kvs.zip qs).map fun z => D.tup [.str (tx z.1.1), z.1.2] := by
        conv => lhs; rw [← hz1]
        simp [sdI, Function.comp_def]
        intros; rfl
      rw [this, ← List.zip_map']
    rw [e3, ← key, List.map_map, List.map_map]
    rfl
theorem put_sd {kvs : List (List Nat × D)} (k : List Nat) (v : D) (nd : (kvs.map (·.1)).Nodup) : ∃ kvs', putD (sdI kvs) (.inr (tx k)) v = sdI kvs' ∧ (kvs'.map (·.1)).Nodup ∧ kvs'.length ≤ kvs.length + 1 ∧ ∀ p ∈ kvs', p ∈ kvs ∨ p = (k, v) := by
  unfold putD
  split
  · refine ⟨kvs.map fun p => if p.1 = k then (p.1, v) else p, ?_, ?_, by simp, ?_⟩
    · simp only [sdI, List.map_map]
      refine List.map_congr_left fun p _ => ?_
      show (if (Sum.inr (tx p.1) : Key) = Sum.inr (tx k) then _ else _) = _
      by_cases h : p.1 = k
      · simp [h]
      · have : ¬ (Sum.inr (tx p.1) : Key) = Sum.inr (tx k) := by simpa using h
        simp [h]
    · rw [List.map_map]
      have : (kvs.map ((·.1) ∘ fun p : List Nat × D => if p.1 = k then (p.1, v) else p)) = kvs.map (·.1) := List.map_congr_left fun p _ => by
        show (if p.1 = k then (p.1, v) else p).1 = p.1
        split <;> rfl
      rw [this]; exact nd
    · intro p hp
      obtain ⟨q, hq, rfl⟩ := List.mem_map.mp hp
      by_cases h : q.1 = k
      · right; simp [h]
      · left; simpa [h] using hq
  · rename_i hn
    refine ⟨kvs ++ [(k, v)], by simp [sdI], ?_, by simp, ?_⟩
    · rw [List.map_append, List.nodup_append]
      refine ⟨nd, by simp, fun x hx y hy e => hn ?_⟩
      simp only [List.map_cons, List.map_nil, List.mem_singleton] at hy
      subst hy
      subst e
      obtain ⟨p, hp, hpx⟩ := List.mem_map.mp hx
      rw [List.any_eq_true]
      refine ⟨(.inr (tx p.1), p.2), List.mem_map.mpr ⟨p, hp, rfl⟩, ?_⟩
      rw [← hpx]
      exact decide_eq_true rfl
    · intro p hp
      rcases List.mem_append.mp hp with h | h
      · exact .inl h
      · exact .inr (by simpa using h)
@[simp] theorem fListE_str (x : Str) (st : Stt) : fListE [.str x] st = if x.length ≤ sizeLine then some (.loc st.length, st ++ [.lst (signs x)]) else none := (rfl)
@[simp] theorem fMin2_i (i j : Int) (st : Stt) : fMin2 [.int i, .int j] st = some (.int (if j < i then j else i), st) := (rfl)
end Rg

set_option Elab.async false
set_option linter.all false
set_option maxRecDepth 100000
set_option maxHeartbeats 1000000
namespace Rg
open PySem PySem.Spec PyProof.Rows L2
/-! ### raise C(e): the class's own __init__ keeps the value in a field -/
/-- what __init__ does with a new exception -/
def spI1 (K : PySem.W.Frag) (C : Addr) (f : Str) : Sp := fun vs H Q _ => ∃ a v, vs = [.ref a, v] ∧ OexC K C ∧ PySem.W.findIn K (.ref C) f = some none ∧ H a = some (exo a C none) ∧
  ∀ dx, H dx = none → dx ≠ a → Q .non (upd (upd H dx (exd dx [(f, v)])) a (exo a C (some dx)))
section
variable {P : Program} {w : World} {K : PySem.W.Frag} {mg : Str → Option Value} {base : Heap}
theorem ok_init1 {x qual fld prm : Str} {st : Stmt} {f C : Addr} {fd : FuncData} {k : Nat} (F : Fun K x qual st f fd) (S : FnScope ["self", prm] ["self", prm] (defScope st))
    (hb : ∀ (cdv : Value) (A : Around) (outer : List Env) (s : Shared) (H : Hp) (E : XK), PSs (cxOf (L2.CX P w) P w K mg base ["self", prm] qual (defScope st) f cdv A outer s H E) (defBody st) (tSeq (tOst K fld (tVar 0) (tVar 1)) tNext)) :
    FnOk P w K mg base (L2.CX P w) (k + 1) f fd ["self", prm] (spI1 K C fld) := by
  refine F.okX S (fun vs H Q E h => by obtain ⟨_, _, e, _⟩ := h; rw [e]; rfl) (fun cdv A outer s H vs Q E hr h => ⟨_, hb cdv A outer s H E, ?_⟩)
  obtain ⟨a, v, rfl, T, hn, ha, q⟩ := h
  exact ⟨v, rfl, .ref a, rfl, a, C, rfl, T, hn, .inl ⟨ha, fun dx h1 h2 => q dx h1 h2⟩⟩
end
def sRaise1 (C : Addr) (f : Str) (g : XA) : XS := fun ρ st => (g ρ st).out ρ fun ds s => match ds with
  | [d] => .xx ρ ⟨C, some [(f, d)]⟩ s
  | _ => .no
@[simp] theorem sRaise1_run (C : Addr) (f : Str) (g : XA) (ρ : En) (st : Stt) : sRaise1 C f g ρ st = (g ρ st).out ρ fun ds s => match ds with
  | [d] => .xx ρ ⟨C, some [(f, d)]⟩ s
  | _ => .no := (rfl)
section
variable {X : Cx} {x : Str} {p pos pos' : Pos} {W : WX} {C fI : Addr} {e : Expr} {g : XA} {fld prm : Str} {k : Nat} {fd : FuncData}
theorem s_raise1 (T : OexC X.K C) (iC : PySem.W.findIn X.K (.ref C) "__init__" = some (some (.ref fI))) (tI : PySem.W.typeIn X.K (.ref fI) = some (.type "function")) (hn : PySem.W.findIn X.K (.ref C) fld = some none)
    (F1 : FnOk X.prog X.w X.K X.mg X.base (L2.CX X.prog X.w) k fI fd ["self", prm] (spI1 X.K C fld)) (hr : Room (k + 1) X.A) (hb : Binds X.K fd ["self", prm] []) (hc : X.calm = true) (tk : L2.Takes X W) (hm : X.mg x = some (.ref C))
    (ha : PA X [e] (tXA X.K W g)) (hg : Gl X x := by rfl) (hdb : (x == ("__debug__" : Str)) = false := by decide) (he : starEach [e] X.env = (false, eval e X.env) :: starEach [] X.env := by rfl) (hpl : (backTo pos (starEach [] X.env)).any (·.1) = false := by rfl) :
    PS X (.Raise (some (.Call (.Name x p) [e] [] pos)) none pos') (tXS X.K W (sRaise1 C fld g)) := by
  refine ps_imp (ps_raise hc tk (pmk_oex T iC tI F1 hr hb .nil passL hg hm ha hdb he hpl)) fun D' σ H ⟨ρ, s, μ, E, S, h⟩ => ?_
  refine tXA_of E S (h.out E) fun ds s1 H1 μ1 vs e1 E1 S1 r q => ?_
  cases r with
  | nil => exact q.elim
  | cons rd rt =>
    cases rt with
    | cons _ _ => exact q.elim
    | nil =>
      rename_i d v
      refine ⟨(by show 1 ≤ 1000; decide), fun a hna => ⟨a, v, rfl, T, hn, upd_same, fun dx hdx hne => ⟨rfl, dx, [(fld, v)], upd_same, (by rw [upd_ne hne, upd_same]), (by rw [upd_ne hne] at hdx; exact hdx), ?_⟩⟩⟩
      rw [upd_ne hne] at hdx
      have eh : upd (del (upd (upd (upd H1 a (exo a C none)) dx (exd dx [(fld, v)])) a (exo a C (some dx))) a) dx (.xd [(fld, v)]) = upd H1 dx (.xd [(fld, v)]) := by
        funext b
        by_cases h1 : b = dx
        · subst h1; rw [upd_same, upd_same]
        · rw [upd_ne h1, upd_ne h1]
          by_cases h2 : b = a
          · subst h2; rw [del_same]; exact hna.symm
          · rw [del_ne h2, upd_ne h2, upd_ne h1, upd_ne h2]
      rw [eh]
      have ex : Ext X.K H1 μ1 (upd H1 dx (.xd [(fld, v)])) μ1 := ext_side hdx _
      exact q σ _ μ1 ex (E1.ext ex) (S1.side hdx _) (some dx) ⟨dx, [(fld, v)], rfl, upd_same, .cons ⟨rfl, rd.ext ex⟩ .nil⟩
end
/-! ### int(x) of an int, a bool or a text -/
def fInt3 : BF := fun xs st => match xs with
  | [.int i] => some (.int i, st)
  | [.bl k] => some (.int (if k then 1 else 0), st)
  | [.str a] => if a.length ≤ 640 then (PySem.intText? a).map fun n => (.int n, st) else none
  | _ => none
@[simp] theorem fInt3_i (i : Int) (st : Stt) : fInt3 [.int i] st = some (.int i, st) := (rfl)
@[simp] theorem fInt3_b (k : Bool) (st : Stt) : fInt3 [.bl k] st = some (.int (if k then 1 else 0), st) := (rfl)
theorem fInt3_s (a : Str) (st : Stt) : fInt3 [.str a] st = if a.length ≤ 640 then (PySem.intText? a).map fun n => (.int n, st) else none := (rfl)
def rInt3 : List V → Hp → VK → Prop := fun xs H Q => ((∃ i, xs = [.int i] ∧ Q (.int i) H) ∨ ∃ k, xs = [.bl k] ∧ Q (.int (if k then 1 else 0)) H) ∨ ∃ a n, xs = [.str a] ∧ PySem.intText? a = some n ∧ a.length ≤ 640 ∧ Q (.int n) H
theorem call_int3 {X : Cx} : CallR X (.type "int") rInt3 := fun pins s σ H xs us Q I r h => h.elim (fun h => call_int1 pins s σ H xs us Q I r h) (fun h => call_int_str pins s σ H xs us Q I r h)
theorem does_int3 {K : PySem.W.Frag} : DoesN K rInt3 fInt3 := fun xs st d st' vs H μ Q r S h q => by
  unfold fInt3 at h
  split at h
  · cases h
    obtain ⟨v, rfl, rv⟩ := rls1 r
    cases rv
    exact .inl (.inl ⟨_, rfl, q _ H μ (Ext.refl _ _) S (.int _)⟩)
  · cases h
    obtain ⟨v, rfl, rv⟩ := rls1 r
    cases rv
    exact .inl (.inr ⟨_, rfl, q _ H μ (Ext.refl _ _) S (.int _)⟩)
  · split at h
    · rename_i hz
      obtain ⟨n, hn, h⟩ := Option.map_eq_some_iff.mp h
      cases h
      obtain ⟨v, rfl, rv⟩ := rls1 r
      cases rv
      exact .inr ⟨_, n, rfl, hn, hz, q _ H μ (Ext.refl _ _) S (.int _)⟩
    · cases h
  · cases h
/-! ### str(i) -/
def fStr : BF := fun xs st => match xs with
  | [.int i] => if i.natAbs.log2 < 1920 then some (.str (toString i), st) else none
  | _ => none
@[simp] theorem fStr_i (i : Int) (st : Stt) : fStr [.int i] st = if i.natAbs.log2 < 1920 then some (.str (toString i), st) else none := (rfl)
theorem does_str {K : PySem.W.Frag} : DoesN K (fun xs H Q => ∃ i, xs = [.int i] ∧ i.natAbs.log2 < 1920 ∧ Q (.str (toString i)) H) fStr := fun xs st d st' vs H μ Q r S h q => by
  unfold fStr at h
  split at h
  · split at h
    · rename_i hz
      cases h
      obtain ⟨v, rfl, rv⟩ := rls1 r
      cases rv
      exact ⟨_, rfl, hz, q _ H μ (Ext.refl _ _) S (.str _)⟩
    · cases h
  · cases h
/-! ### += on ints and texts -/
def oAug : Op2 := fun x y st => match x, y with
  | .int i, .int j => some (.int (i + j), st)
  | .str i, .str j => if i.length + j.length ≤ sizeLine then some (.str (i ++ j), st) else none
  | _, _ => none
@[simp] theorem oAug_i (i j : Int) (st : Stt) : oAug (.int i) (.int j) st = some (.int (i + j), st) := (rfl)
@[simp] theorem oAug_s (i j : Str) (st : Stt) : oAug (.str i) (.str j) st = if i.length + j.length ≤ sizeLine then some (.str (i ++ j), st) else none := (rfl)
def rAug : V → V → Hp → VK → Prop := fun x y H Q => (∃ i j, x = .int i ∧ y = .int j ∧ Q (.int (i + j)) H) ∨ ∃ i j, x = .str i ∧ y = .str j ∧ i.length + j.length ≤ sizeLine ∧ Q (.str (i ++ j)) H
theorem ip_aug {X : Cx} : PIp X .Add rAug := fun pins s σ H x y v u Q I r1 r2 h => h.elim (fun h => ip_add pins s σ H x y v u Q I r1 r2 h) (fun h => iop_add_str pins s σ H x y v u Q I r1 r2 h)
theorem in_aug {X : Cx} : InOp X .Add rAug := fun pins s σ H x y v u Q I r1 r2 h => ip_aug pins s σ H x y v u Q I r1 r2 h
theorem ip_A0 {K : PySem.W.Frag} : Does K rAug oAug := fun x y st d st' xv yv H μ Q rx ry S h q => by
  unfold oAug at h
  split at h
  · cases h; cases rx; cases ry
    exact .inl ⟨_, _, rfl, rfl, q _ H μ (Ext.refl _ _) S (.int _)⟩
  · split at h
    · rename_i hz
      cases h; cases rx; cases ry
      exact .inr ⟨_, _, rfl, rfl, hz, q _ H μ (Ext.refl _ _) S (.str _)⟩
    · cases h
  · cases h
/-- o.f += e -/
def sAugF (C : Addr) (f : Str) (fop : Op2) (fo fe : XE) : XS := fun ρ st => (fo ρ st).out ρ fun o s => (R.of (oFld C f o s)).out ρ fun x s => (fe ρ s).out ρ fun y s => (R.of (fop x y s)).out ρ fun z s => setF C f o z ρ s
@[simp] theorem sAugF_run (C : Addr) (f : Str) (fop : Op2) (fo fe : XE) (ρ : En) (st : Stt) : sAugF C f fop fo fe ρ st = (fo ρ st).out ρ fun o s => (R.of (oFld C f o s)).out ρ fun x s => (fe ρ s).out ρ fun y s => (R.of (fop x y s)).out ρ fun z s => setF C f o z ρ s := (rfl)
section
variable {X : Cx} {o value : Expr} {fo fv : XE} {pos tpos : Pos} {W : WX} {C : Addr} {f : Str}
theorem s_augF (c : Cls X.K C) (n : NoAttr X.K C f) (ho : PE X o (tX X.K W fo)) (hv : PE X value (tX X.K W fv)) : PS X (.AugAssign (.Attribute o f tpos) .Add value pos) (tXS X.K W (sAugF C f oAug fo fv)) :=
  ps_imp (ps_fldaug ho hv in_aug) fun D' σ H ⟨ρ, s, μ, E, S, h⟩ => by
    refine tX_of E S (h.out E) fun v s1 H1 μ1 vv e1 E1 S1 r1 hA => ?_
    obtain ⟨d, s2, h2, k⟩ := (hA.out E1).of
    obtain ⟨⟨m, fs⟩, h3, h2⟩ := Option.bind_eq_some_iff.mp h2
    obtain ⟨y, h4, h2⟩ := Option.map_eq_some_iff.mp h2
    cases h2
    obtain ⟨rfl, h5⟩ := insAt_some h3
    have r1' := r1
    obtain ⟨a, dx, vs, rfl, ha, t, q⟩ := S1.ins h5 r1
    obtain ⟨u, h6, r⟩ := q.look h4
    refine ⟨a, C, dx, vs, u, rfl, t, c, n, h6, ?_⟩
    have k2 := k H1 μ1 (Ext.refl _ _) S1
    refine tX_of E1 S1 (k2.out E1) fun w s3 H3 μ3 wv e3 E3 S3 r3 hC => ?_
    obtain ⟨z, s4, h7, k4⟩ := (hC.out E3).of
    refine ip_A0 d w s3 z s4 u wv H3 μ3 _ (r.ext e3) r3 S3 h7 fun zv H4 μ4 e4 S4 rz => ?_
    have k5 := k4 H4 μ4 e4 S4
    obtain ⟨a2, dx2, fs2, e5, t2, l2, q2⟩ := setF_ok (E3.ext e4) S4 (r1'.ext (e3.trans e4)) rz k5
    cases e5
    exact ⟨dx2, fs2, t2, l2, q2⟩
end
end Rg

set_option Elab.async false
set_option linter.all false
set_option maxRecDepth 100000
set_option maxHeartbeats 1000000
namespace Rg
open PySem PySem.Spec PyProof.Rows L2
/-! ### a local that holds a def -/
def disp (S : List (Str × Addr × Fn)) (k : Str) (f : Addr) : Option Fn := match S.lookup k with
  | some p => if p.1 = f then some p.2 else none
  | none => none
inductive Disp (X : Cx) (n lev : Nat) : List (Str × Addr × Fn) → Prop
  | nil : Disp X n lev []
  | cons {k : Nat} {f : Addr} {fd : FuncData} {ps : List Str} {g : Fn} {nm : Str} {r : List (Str × Addr × Fn)} : FnOk X.prog X.w X.K X.mg X.base (L2.CX X.prog X.w) k f fd ps (spX X.K n g) → k ≤ lev → PySem.W.keepIn X.K (.ref f) = true → Binds X.K fd ps [] → Disp X n lev r → Disp X n lev ((nm, f, g) :: r)
theorem Disp.at_ {X : Cx} {n lev : Nat} {k : Str} {f : Addr} {g : Fn} : ∀ {S : List (Str × Addr × Fn)}, Disp X n lev S → disp S k f = some g →
    ∃ k' fd ps, FnOk X.prog X.w X.K X.mg X.base (L2.CX X.prog X.w) k' f fd ps (spX X.K n g) ∧ k' ≤ lev ∧ PySem.W.keepIn X.K (.ref f) = true ∧ Binds X.K fd ps []
  | _, .nil, h => by cases h
  | _, .cons (f := f') (g := g') (nm := nm) (r := r) F hk hp hb t, h => by
    unfold disp at h
    by_cases e : k = nm
    · subst e
      simp only [List.lookup, beq_self_eq_true] at h
      split at h
      · rename_i e2
        cases h
        subst e2
        exact ⟨_, _, _, F, hk, hp, hb⟩
      · cases h
    · have b : (k == nm) = false := by simpa using e
      simp only [List.lookup, b] at h
      exact t.at_ h
def xCallL (i : Nat) (S : List (Str × Addr × Fn)) (ga : XA) : XE := fun ρ st => match ρ[i]? with
  | some (some (.opq k f)) => (match disp S k f with
    | some g => (ga ρ st).bind g
    | none => .no)
  | _ => .no
section
variable {X : Cx} {lev i : Nat} {S : List (Str × Addr × Fn)} {x m : Str} {p pos apos : Pos} {e o : Expr} {es : List Expr} {ga : XA} {fo : XE} {W : WX}
theorem e_callL (i : Nat) (Dd : Disp X (es.length + 1) lev S) (tk : L2.Takes X W) (hr : Room lev X.A) (ha : PA X (e :: es) (tXA X.K W ga)) (hN : X.N[i]? = some x := by rfl) (hv : Vis X.env.scope x := by first | exact Or.inl rfl | exact Or.inr (Or.inl rfl) | exact Or.inr (Or.inr rfl)) (hdb : (x == ("__debug__" : Str)) = false := by decide) (hcd : (x == ("__classdict__" : Str)) = false := by decide)
    (he : starEach (e :: es) X.env = (false, eval e X.env) :: starEach es X.env := by rfl) (hpl : (backTo pos (starEach es X.env)).any (·.1) = false := by rfl) (hlen : Len ga (es.length + 1) := by repeat (first | exact len_nil | apply len_cons)) : PE X (.Call (.Name x p) (e :: es) [] pos) (tX X.K W (xCallL i S ga)) := by
  refine ⟨fun pins s σ H Q I ⟨ρ, st, μ, E, SS, h⟩ => ?_⟩
  unfold xCallL at h
  split at h
  · rename_i k f hx
    split at h
    · rename_i g hg
      obtain ⟨v, hv1, hv2⟩ := E.val i _ hx
      cases hv2
      obtain ⟨k', fd, ps, F, hk', hkp, hb⟩ := Dd.at_ hg
      refine wpAny_Call_Name_kw (thn ((pe_var (pos := p) hN hv hdb hcd).run pins s σ H (fun v H1 => v = .ref f ∧ H1 = H) I ⟨.ref f, hv1, rfl, rfl⟩) fun u s1 ⟨v, H1, I1, r1, q1⟩ => ?_)
      obtain ⟨rfl, rfl⟩ := q1
      cases r1
      have ht : tXA X.K W ga σ H1 (fun vs H2 => spX X.K (es.length + 1) g vs H2 Q (fun c d H3 => W c d σ H3)) :=
        tXA_eq E SS h.bind fun ds s1 H1 μ1 vs eq e1 E1 S1 r1 h1 => ⟨by rw [← r1.length]; exact hlen _ _ _ _ eq, ds, s1, μ1, S1, r1, h1⟩
      refine PySem.W.callWith_K (h₀ := X.base) I.ok.mod.kin hkp (thn (ha.run pos pins s1 σ _ _ I1 ht) fun us s2 ⟨vs, H2, I2, r, q⟩ => ⟨I2.kIn, ?_⟩) he hpl
      exact run_fnS F (hr.mono hk') hb (passAt tk σ) I2 r q
    · exact h.elim
  · exact h.elim
end
/-! ### x.startswith(y) -/
def mStarts : MtF := fun x xs st => match x, xs with
  | .str a, [.str b] => some (.bl (Txt.startswith a b), st)
  | _, _ => none
abbrev rStarts : V → List V → Hp → VK → Prop := fun x xs H Q => ∃ a b, x = .str a ∧ xs = [.str b] ∧ Q (.bl (Txt.startswith a b)) H
theorem mt_startsR {X : Cx} : MtR X "str.startswith" rStarts := mt_startswith
theorem does_starts {K : PySem.W.Frag} : DoesM K rStarts mStarts := fun x xs st d st' v vs H μ Q r rs S h q => by
  unfold mStarts at h
  split at h
  · rename_i a b
    cases h
    cases r
    obtain ⟨w, rfl, rw'⟩ := rls1 rs
    cases rw'
    exact ⟨a, b, rfl, rfl, q _ H μ (Ext.refl _ _) S (.bl _)⟩
  · cases h
/-! ### d.get(k, x) -/
def isDct (st : Stt) (d : D) : Bool := (dctAt st d).isSome
def getOr (x y z : D) (s : Stt) : R D := R.of ((dctAt s x).bind fun p => (keyD y).map fun k => ((getD' p.2 k).getD z, s))
def xDGet (fo fi fz : XE) : XE := fun ρ st => (fo ρ st).bind fun x s => (isRc isDct x s).bind fun _ s => (fi ρ s).bind fun y s => (fz ρ s).bind fun z s => getOr x y z s
section
variable {X : Cx} {o e f : Expr} {fo fi fz : XE} {apos cpos : Pos} {W : WX}
theorem isDct_ok {K : PySem.W.Frag} {H : Hp} {μ : List Addr} {st : Stt} {d : D} {v : V} (S : SR K H μ st) (h : isDct st d = true) (r : Rl K H μ d v) : ∃ a, v = .ref a ∧ IsD H a := by
  obtain ⟨⟨n, kvs⟩, hp⟩ := Option.isSome_iff_exists.mp h
  obtain ⟨rfl, e4⟩ := dctAt_some hp
  obtain ⟨a, us, rfl, ha, t, q⟩ := S.dct e4 r
  exact ⟨a, rfl, .inl ⟨us, .inl t⟩⟩
theorem e_dget2 (hu : X.A.units + 1 < cLine) (ho : PE X o (tX X.K W fo)) (he : PE X e (tX X.K W fi)) (hf : PE X f (tX X.K W fz))
    (hbase : attributeBase o "get" X.env (eval o X.env) = eval o X.env := by rfl)
    (hfew : ((backTo cpos (starEach [e, f] X.env)).all (fun x => !x.1) && (backToKw cpos (keywordEach [] X.env)).all (fun x => x.1.isSome)
      && decide (([e, f] : List Expr).length + ([] : List Keyword).length + (if ([] : List Keyword).isEmpty then 0 else 1) < 30)) = true := by rfl)
    (hline : (apos.endLine == cpos.line) = true := by rfl) (htr : backTo cpos (starEach [e, f] X.env) = [(false, eval e X.env), (false, eval f X.env)] := by rfl) :
    PE X (.Call (.Attribute o "get" apos) [e, f] [] cpos) (tX X.K W (xDGet fo fi fz)) :=
  pe_imp (pe_dget2 hu ho he hf ⟨hbase, hfew, hline, htr⟩) fun σ H Q ⟨ρ, st, μ, E, S, h⟩ => by
    refine tX_of E S h.bind fun x s1 H1 μ1 xv e1 E1 S1 r1 h1 => ?_
    obtain ⟨hd, h2⟩ := h1.bind.isRc S1
    obtain ⟨a, rfl, ia⟩ := isDct_ok S1 hd r1
    refine ⟨a, rfl, ia, ?_⟩
    refine tX_of E1 S1 h2.bind fun y s2 H2 μ2 yv e2 E2 S2 r2 h3 => ?_
    refine tX_of E2 S2 h3.bind fun z s3 H3 μ3 zv e3 E3 S3 r3 h4 => ?_
    unfold getOr at h4
    obtain ⟨d, s4, h5, k⟩ := h4.of
    obtain ⟨⟨n, kvs⟩, h6, h5⟩ := Option.bind_eq_some_iff.mp h5
    obtain ⟨key, h7, h5⟩ := Option.map_eq_some_iff.mp h5
    cases h5
    obtain ⟨rfl, e4⟩ := dctAt_some h6
    have := keyD_ok (r2.ext e3) h7
    subst this
    obtain ⟨a', us, ea, ha, t, q1⟩ := S3.dct e4 ((r1.ext e2).ext e3)
    cases ea
    refine ⟨_, DGet.k t, ?_⟩
    cases hf : getD' kvs key with
    | none =>
      have : valV us key = none := (q1.find (k := key)).2 (by unfold getD' at hf; simpa using hf)
      rw [this]
      rw [hf] at k
      exact k H3 μ3 (Ext.refl _ _) S3 _ r3
    | some d =>
      obtain ⟨v, hv, rv⟩ := (q1.find (k := key)).1 d (by unfold getD' at hf; exact hf)
      have : valV us key = some v := hv
      rw [this]
      rw [hf] at k
      exact k H3 μ3 (Ext.refl _ _) S3 v rv
end
/-! ### for k in D, D a dict of the module with text keys -/
def Itm (ks : List Str) : It := ⟨fun i _ => i < ks.length, fun i H v H' => H' = H ∧ ∃ x, ks[i]? = some x ∧ v = .str x, fun i _ => ks.length ≤ i⟩
theorem WE.len {K : PySem.W.Frag} {w : World} : ∀ {kvs : List (Str × D)} {es : List DictEntry}, WE K w kvs es → es.length = kvs.length
  | _, _, .nil => rfl
  | _, _, .cons _ _ t => by simp [t.len]
theorem WE.get {K : PySem.W.Frag} {w : World} : ∀ {kvs : List (Str × D)} {es : List DictEntry} {i : Nat} {x : Str} {d : D}, WE K w kvs es → kvs[i]? = some (x, d) → ∃ en t, es[i]? = some en ∧ en.key = .str x t
  | _, _, i, _, _, .nil, h => by simp at h
  | _, _, 0, _, _, .cons _ _ _, h => by
    simp at h
    obtain ⟨rfl, rfl⟩ := h
    exact ⟨_, _, rfl, rfl⟩
  | _, _, i + 1, _, _, .cons _ _ t, h => by
    obtain ⟨en, tt, h1, h2⟩ := t.get (i := i) (by simpa using h)
    exact ⟨en, tt, by simpa using h1, h2⟩
theorem turn_wkeys {P : Program} {w : World} {K : PySem.W.Frag} {tg : Expr} {p : Addr} {kvs : List (Str × D)} {es : Array DictEntry} {n : Nat} (it : Addr) (hl : K.lookup p = some ⟨.type "dict", none, .dict es n, #[]⟩) (we : WE K w kvs es.toList) :
    Turn P w K tg (Itm (kvs.map (·.1))) [it] it (fun i h => h.IsKeyIter it p i kvs.length n) where
  mem := by simp
  obj := fun i h st b hb => by
    have e : b = it := by simpa using hb
    subst e
    obtain ⟨oi, e, c, dd⟩ := st
    exact ⟨oi, e, fun v z => by rw [dd] at z; cases z⟩
  keep := fun i h h' st k => st.at fun oi e => k it (by simp) oi e
  item := by
    intro X hP hw hK hc i pins s σ H E I hf st hg
    subst hP hw hK
    obtain ⟨f0, f1, f2, f3, f4, f5⟩ := hf it (by simp)
    have hi : i < kvs.length := by have : i < (kvs.map (·.1)).length := hg; simpa using this
    obtain ⟨x, d, hx⟩ : ∃ x d, kvs[i]? = some (x, d) := ⟨kvs[i].1, kvs[i].2, List.getElem?_eq_getElem hi⟩
    obtain ⟨en, t, h1, h2⟩ := we.get hx
    have hsz : es.size = kvs.length := by rw [← we.len, Array.length_toList]
    refine next_key_item st (I.kIn _ _ hl) rfl hsz (by rw [← Array.getElem?_toList]; exact h1) fun h' st' sb => ?_
    have I1 : Inv X pins σ H { s with heap := h' } := I.turned (t' := s.toks) (fun b ob hb e => (sb.2 b hb).trans e) f0 f1 f3 f4 f5
    obtain ⟨oi, e, c, dd⟩ := id st'
    exact ⟨en.key, rfl, go_of (s := { s with heap := h' }) e c dd (by decide) ⟨.str x, H, I1, ⟨t, h2⟩, ⟨rfl, x, by rw [List.getElem?_map, hx]; rfl, rfl⟩, st', fun b hb => (hf b hb).1⟩⟩
  done := by
    intro X hP hw hK hc i pins s σ H E I hf st hg
    subst hP hw hK
    obtain ⟨f0, f1, f2, f3, f4, f5⟩ := hf it (by simp)
    have hsz : es.size = kvs.length := by rw [← we.len, Array.length_toList]
    have hi : kvs.length ≤ i := by have : (kvs.map (·.1)).length ≤ i := hg; simpa using this
    exact next_key_end (I.ok.hd hc) st (I.kIn _ _ hl) rfl hsz hi fun h' eb => ⟨rfl, I.turned (t' := s.toks) (fun b ob hb e => eb b ob hb e) f0 f1 f3 f4 f5⟩
  self := fun A i s Q E st h => wpAny_pyIter_keyiter st h
def xWKeys (kvs : List (Str × D)) : XI := fun _ st => .ok ⟨kvs.map fun p => .str p.1, fun _ => True⟩ st
theorem itm_ok {K : PySem.W.Frag} {H : Hp} {μ : List Addr} (kvs : List (Str × D)) : ItOk K ⟨kvs.map fun p => .str p.1, fun _ => True⟩ (Itm (kvs.map (·.1))) H μ := by
  refine ⟨fun H2 μ2 st2 i d e S2 _ hd => ?_, fun H2 μ2 st2 i d v H3 e S2 _ hd hy => ?_, fun H2 μ2 st2 i e S2 _ hd => ?_⟩
  · have := (List.getElem?_eq_some_iff.mp hd).1
    show i < (kvs.map (·.1)).length
    simpa using this
  · obtain ⟨rfl, x, h1, rfl⟩ := hy
    have hd : (kvs.map fun p => D.str p.1)[i]? = some d := hd
    rw [List.getElem?_map] at h1 hd
    obtain ⟨q, h2, h3⟩ := Option.map_eq_some_iff.mp hd
    rw [h2] at h1
    cases h1
    subst h3
    exact ⟨Ext.refl _ _, S2, .str _, fun _ _ h => h⟩
  · have := List.getElem?_eq_none_iff.mp hd
    show (kvs.map (·.1)).length ≤ i
    simpa using this
theorem i_wkeys {X : Cx} {tg : Expr} {x : Str} {p1 : Pos} {p : Addr} {kvs : List (Str × D)} {W : WX} (hm : X.mg x = some (.ref p)) (w : WD X.K X.w p kvs) (hg : Gl X x := by rfl) (hd : (x == ("__debug__" : Str)) = false := by decide) : PI X tg (.Name x p1) (tXI X.K W (xWKeys kvs)) := by
  refine ⟨fun pins s σ H R I ⟨ρ, st, μ, E, S, h⟩ => ?_⟩
  refine thn ((pe_glob (pos := p1) (v := .ref p) hg hm rfl hd).run pins s σ H (fun v H1 => v = .ref p ∧ H1 = H) I ⟨rfl, rfl⟩) fun u s1 ⟨v, H1, I1, r1, q1⟩ => ?_
  obtain ⟨rfl, rfl⟩ := q1
  obtain rfl : u = Value.ref p := r1
  obtain ⟨es, n, hl, we⟩ := w.at_
  have hsz : es.size = kvs.length := by rw [← we.len, Array.length_toList]
  refine iter_keys w.low (I1.kIn _ _ hl) ⟨rfl, rfl, rfl⟩ rfl (pi_one (tk := s1.toks) I1 _ (turn_wkeys _ hl we) ⟨_, Heap.get?_push_size _ rfl, rfl, ?_⟩ (h.ok S _ (itm_ok kvs)))
  rw [hsz] <;> rfl
/-! ### x.replace(y, z), y and z written -/
def oRepl (y z : Str) : Op1 := fun d st => match d with
  | .str x => if x.length + (x.length + 1) * z.length ≤ 16777216 then some (.str (Txt.replace x y z), st) else none
  | _ => none
theorem pet_imp {X : Cx} {e : Expr} {t t' : TE} (h : PET X e t) (i : ∀ σ H Q, t' σ H Q → t σ H Q) : PET X e t' := fun pins s σ H Q h0 I q => h pins s σ H Q h0 I (i σ H Q q)
section
variable {X : Cx} {o e f a b : Expr} {fa fb : XE} {y z : Str} {j k : Nat} {c0 c1 apos pos p : Pos} {W : WX}
theorem et_1 (h : PE X e (tX X.K W fa)) : PET X e (tX X.K W fa) := CwR.PET.of h
theorem et_repl (ho : PET X o (tX X.K W fa)) (hyz : (y == z) = false := by decide)
    (hst : starEach [.Constant (.str y) j c0, .Constant (.str z) k c1] X.env = [(false, eval (.Constant (.str y) j c0) X.env), (false, eval (.Constant (.str z) k c1) X.env)] := by rfl)
    (hbase : attributeBase o "replace" X.env (eval o X.env) = eval o X.env := by rfl) (hline : (apos.endLine == pos.line) = true := by rfl) :
    PET X (.Call (.Attribute o "replace" apos) [.Constant (.str y) j c0, .Constant (.str z) k c1] [] pos) (tX X.K W (x1 (oRepl y z) fa)) :=
  pet_imp (CwR.pet_replT ho hyz hst hbase hline) fun σ H Q ⟨ρ, st, μ, E, S, h⟩ =>
    tX_of E S h.bind fun x s1 H1 μ1 xv e1 E1 S1 r1 h1 => by
      obtain ⟨d, s2, h2, k⟩ := h1.of
      unfold oRepl at h2
      split at h2
      · rename_i x
        split at h2
        · rename_i hz
          cases h2
          cases r1
          exact ⟨x, rfl, hz, k H1 μ1 (Ext.refl _ _) S1 _ (.str _)⟩
        · cases h2
      · cases h2
theorem et_op {op : Operator} {r : R2} {g : Op2} (ho : OpR X (binaryOp op) r) (hd : Does X.K r g) (ha : PET X a (tX X.K W fa)) (hb : PET X b (tX X.K W fb)) : PET X (.BinOp a op b pos) (tX X.K W (x2 g fa fb)) :=
  pet_imp (CwR.pet_op ho ha hb) fun _ _ _ h => tOp_x2 hd h
theorem st_ret (he : PET X e (tX X.K W fa)) : PSsT X [.Return (some e) pos] (tXS X.K W (sCons (sRet fa) sNil)) := by
  intro pins s σ H D' h0 I ⟨ρ, st, μ, E, S, h⟩
  have e0 : sCons (sRet fa) sNil ρ st = sRet fa ρ st := by
    unfold sCons sRet
    cases fa ρ st <;> rfl
  rw [e0] at h
  refine CwR.psst_one (CwR.pst_ret he) pins s σ H D' h0 I ?_
  exact tX_of E S (h.out E) fun d s1 H1 μ1 v e1 E1 S1 r q => q v H1 μ1 (Ext.refl _ _) S1 r
end
section
variable {P : Program} {w : World} {K : PySem.W.Frag} {mg : Str → Option Value} {base : Heap}
/-- a def whose body gives out a token -/
theorem ok_defT {x qual : Str} {st : Stmt} {f : Addr} {fd : FuncData} {N ps : List Str} {k : Nat} {fb : XS} (F : Fun K x qual st f fd) (S : FnScope N ps (defScope st)) (hnc : ∀ y ∈ (defScope st).names, y.2 ≠ .cell) (hps : 1 ≤ ps.length)
    (hb : ∀ (cdv : Value) (A : Around) (outer : List Env) (s : Shared) (H : Hp) (E : XK), Room k (A.deeper (envOfC qual (defScope st) s.heap.objs.size f cdv)) → Ctx (cxOf (L2.CX P w) P w K mg base N qual (defScope st) f cdv A outer s H E) (fun c d _ H => E c d H) → PSsT (cxOf (L2.CX P w) P w K mg base N qual (defScope st) f cdv A outer s H E) (defBody st) (tXS K (fun c d _ H => E c d H) fb)) :
    FnOk P w K mg base (L2.CX P w) (k + 1) f fd ps (spX K ps.length (runB N.length fb)) := by
  obtain ⟨oc, od, kV, doc, pm, an, cdv, ct, osl, rfl, lk, hcd⟩ := F.ex
  refine fn_ofT lk hcd S hnc hps (fun vs H Q E h => h.1) (fun A outer s H vs Q E hr h => ?_)
  obtain ⟨hl, ds, st, μ, SS, r, h⟩ := h
  refine ⟨_, hb cdv A outer s H E hr ⟨rfl, takes_of rfl rfl rfl rfl, passes_of rfl⟩, ?_⟩
  unfold runB at h
  refine ⟨_, st, μ, start_er r, SS, ?_⟩
  cases e : fb (ds.map some ++ List.replicate (N.length - ds.length) none) st with
  | no => rw [e] at h; exact h.elim
  | rt d' s' => rw [e] at h; exact fun v H' μ' ex S' r' => h H' μ' ex S' v r'
  | nx ρ' s' => rw [e] at h; exact fun σ H' μ' ex _ S' => h H' μ' ex S' .non .non
  | bk _ _ => rw [e] at h; exact h.elim
  | ct _ _ => rw [e] at h; exact h.elim
  | xx ρ' x s' => rw [e] at h; exact fun σ H' μ' ex _ S' => h H' μ' ex S'
end
/-! ### len(d) -/
def fLenD : BF := fun xs st => match xs with
  | [d] => (dctAt st d).map fun p => (.int p.2.length, st)
  | _ => none
abbrev rLenD : List V → Hp → VK → Prop := fun xs H Q => ∃ (a : Addr) (kvs : List (Key × V)), xs = [.ref a] ∧ Rd H a (.dK kvs) ∧ Q (.int kvs.length) H
theorem cr_lenD {X : Cx} : CallR X (.builtin "len") rLenD := by
  intro pins s σ H xs us Q I r h
  obtain ⟨a, kvs, rfl, e, q⟩ := h
  obtain ⟨u, rfl, rx⟩ := vals1 r
  obtain rfl : u = Value.ref a := rx
  exact d_len I e fun t s' I' => ⟨.int kvs.length, H, I', ⟨t, rfl⟩, q⟩
theorem does_lenD {K : PySem.W.Frag} : DoesN K rLenD fLenD := fun xs st d st' vs H μ Q r S h q => by
  unfold fLenD at h
  split at h
  · obtain ⟨⟨n, kvs⟩, h1, h⟩ := Option.map_eq_some_iff.mp h
    cases h
    obtain ⟨v, rfl, rv⟩ := rls1 r
    obtain ⟨rfl, e4⟩ := dctAt_some h1
    obtain ⟨a, us, rfl, ha, t, q1⟩ := S.dct e4 rv
    have hl : us.length = kvs.length := (Paired.length q1).symm
    exact ⟨a, us, rfl, .inl t, by rw [hl]; exact q _ H μ (Ext.refl _ _) S (.int _)⟩
  · cases h
/-! what they reckon -/
@[simp] theorem xCallL_run (i : Nat) (S : List (Str × Addr × Fn)) (ga : XA) (ρ : En) (st : Stt) : xCallL i S ga ρ st = match ρ[i]? with
  | some (some (.opq k f)) => (match disp S k f with
    | some g => (ga ρ st).bind g
    | none => .no)
  | _ => .no := (rfl)
@[simp] theorem disp_at (S : List (Str × Addr × Fn)) (k : Str) (f : Addr) : disp S k f = match S.lookup k with
  | some p => if p.1 = f then some p.2 else none
  | none => none := (rfl)
@[simp] theorem mStarts_run (a b : Str) (st : Stt) : mStarts (.str a) [.str b] st = some (.bl (Txt.startswith a b), st) := (rfl)
@[simp] theorem xDGet_run (fo fi fz : XE) (ρ : En) (st : Stt) : xDGet fo fi fz ρ st = (fo ρ st).bind fun x s => (isRc isDct x s).bind fun _ s => (fi ρ s).bind fun y s => (fz ρ s).bind fun z s => getOr x y z s := (rfl)
@[simp] theorem getOr_run (x y z : D) (s : Stt) : getOr x y z s = R.of ((dctAt s x).bind fun p => (keyD y).map fun k => ((getD' p.2 k).getD z, s)) := (rfl)
@[simp] theorem isRc_dct (st : Stt) (n : Nat) : isRc isDct (.loc n) st = match st[n]? with | some (.dct _) => .ok () st | _ => .no := by
  have e : isDct st (.loc n) = match st[n]? with | some (.dct _) => true | _ => false := by
    unfold isDct
    rw [dctAt_at]
    cases st[n]? with
    | none => rfl
    | some o => cases o <;> rfl
  unfold isRc
  rw [e]
  cases h : st[n]? with
  | none => rfl
  | some o => cases o <;> rfl
@[simp] theorem xWKeys_run (kvs : List (Str × D)) (ρ : En) (st : Stt) : xWKeys kvs ρ st = .ok ⟨kvs.map fun p => .str p.1, fun _ => True⟩ st := (rfl)
@[simp] theorem oRepl_run (y z x : Str) (st : Stt) : oRepl y z (.str x) st = if x.length + (x.length + 1) * z.length ≤ 16777216 then some (.str (Txt.replace x y z), st) else none := (rfl)
@[simp] theorem fLenD_run (d : D) (st : Stt) : fLenD [d] st = (dctAt st d).map fun p => (.int p.2.length, st) := (rfl)
end Rg

set_option Elab.async false
set_option linter.all false
set_option maxRecDepth 100000
set_option maxHeartbeats 1000000
namespace Rg
open PySem PySem.Spec PyProof.Rows L2
/-! ### {k: e, ..}: keys written down, values any -/
def dispEnd (n : Nat) (ks : List Key) (ds : List D) (s : Stt) : R D := match s[n]? with
  | some (.dct []) => .ok (.loc n) (s.set n (.dct (mergeD (ks.zip ds))))
  | _ => .no
def xDispV (ks : List Key) (ga : XA) : XE := fun ρ st => (ga ρ (st ++ [.dct []])).bind fun ds s => dispEnd st.length ks ds s
section
variable {X : Cx} {pos : Pos} {W : WX}
inductive CV (X : Cx) (W : WX) : List (TE × TE) → List Key → XA → Prop
  | nil : CV X W [] [] xNil
  | consS {x : Str} {f : XE} {r : List (TE × TE)} {ks : List Key} {g : XA} : CV X W r ks g → CV X W ((tC (.str x), tX X.K W f) :: r) (.inr x :: ks) (xCons f g)
  | consI {x : Int} {f : XE} {r : List (TE × TE)} {ks : List Key} {g : XA} : CV X W r ks g → CV X W ((tC (.int x), tX X.K W f) :: r) (.inl x :: ks) (xCons f g)
theorem CV.len {trs : List (TE × TE)} {ks : List Key} {ga : XA} (h : CV X W trs ks ga) : ks.length = trs.length := by
  induction h with
  | nil => rfl
  | consS _ ih => simp [ih]
  | consI _ ih => simp [ih]
theorem cv_cons {k : Key} {f : XE} {g : XA} {r : List (TE × TE)} {ks : List Key} {σ : L2.St}
    (ih : ∀ {ρ : En} {st : Stt} {μ : List Addr} {H : Hp} {Q : List (V × V) → Hp → Prop}, ER X.K H μ ρ σ → SR X.K H μ st → RO X.K (wx X.K W σ) H μ (fun ds s H' μ' => SR X.K H' μ' s → ∀ kv, KR X.K H' μ' (ks.zip ds) kv → kv.length = ks.length → Q (kv.map fun p => (kV p.1, p.2)) H') (g ρ st) → tPairs r σ H Q)
    {ρ : En} {st : Stt} {μ : List Addr} {H : Hp} {Q : List (V × V) → Hp → Prop} (E : ER X.K H μ ρ σ) (S : SR X.K H μ st) (h : RO X.K (wx X.K W σ) H μ (fun ds s H' μ' => SR X.K H' μ' s → ∀ kv, KR X.K H' μ' ((k :: ks).zip ds) kv → kv.length = (k :: ks).length → Q (kv.map fun p => (kV p.1, p.2)) H') (xCons f g ρ st)) :
    tX X.K W f σ H fun y H2 => tPairs r σ H2 fun ps H3 => Q ((kV k, y) :: ps) H3 := by
  refine tX_of E S h.bind fun d s1 H1 μ1 v e1 E1 S1 r1 h1 => ih E1 S1 (h1.bind.mono fun ds s H' μ' e' S' q SR' kv hk hl => ?_)
  have q' := q.ok S'
  exact q' SR' ((k, v) :: kv) (.cons ⟨rfl, r1.ext e'⟩ hk) (by simp [hl])
theorem CV.run {trs : List (TE × TE)} {ks : List Key} {ga : XA} (h : CV X W trs ks ga) {σ : L2.St} : ∀ {ρ : En} {st : Stt} {μ : List Addr} {H : Hp} {Q : List (V × V) → Hp → Prop}, ER X.K H μ ρ σ → SR X.K H μ st →
    RO X.K (wx X.K W σ) H μ (fun ds s H' μ' => SR X.K H' μ' s → ∀ kv, KR X.K H' μ' (ks.zip ds) kv → kv.length = ks.length → Q (kv.map fun p => (kV p.1, p.2)) H') (ga ρ st) → tPairs trs σ H Q := by
  induction h with
  | nil => exact fun E S h => (h.ok S) S [] .nil rfl
  | consS _ ih => exact fun E S h => cv_cons (k := .inr _) (fun E S h => ih E S h) E S h
  | consI _ ih => exact fun E S h => cv_cons (k := .inl _) (fun E S h => ih E S h) E S h
theorem e_dispV {keys : List (Option Expr)} {values : List Expr} {trs : List (TE × TE)} {ks : List Key} {ga : XA} (h : PPs X pos keys values trs) (hc : CV X W trs ks ga) (hall : keys.all (·.isSome) = true := by rfl) (hl : keys.length = values.length := by rfl) (h0 : keys ≠ [] := by simp) (h15 : keys.length ≤ 15 := by decide) (h16 : ks.length ≤ 15 := by decide) : PE X (.Dict keys values pos) (tX X.K W (xDispV ks ga)) :=
  pe_imp (pe_disp h hall hl h0 h15) fun σ H Q ⟨ρ, st, μ, E, S, h⟩ => by
    intro p hp
    have e0 : Ext X.K H μ (upd H p (.dK [])) (μ ++ [p]) := ext_new hp _
    have S0 : SR X.K (upd H p (.dK [])) (μ ++ [p]) (st ++ [.dct []]) := S.new (o := .dct []) hp ⟨[], upd_same, .nil⟩
    refine hc.run (E.ext e0) S0 ((h.at e0).bind.mono fun ds s H2 μ2 e2 S2 q SR' kv hk hkl => ?_)
    unfold dispEnd at q
    split at q
    · rename_i hn
      have hμ : (μ ++ [p])[st.length]? = some p := by rw [← S.len]; simp
      have ha : μ2[st.length]? = some p := e2.get hμ
      obtain ⟨a, vs, ea, ha', t, q1⟩ := SR'.dct hn (.loc ha)
      cases ea
      cases q1
      refine ⟨t, kv, rfl, by rw [hkl]; exact h16, ?_⟩
      have ex := ext_set SR' hn ha (.dK (mergeK [] kv))
      exact q _ μ2 ex (SR'.put hn ha (o' := .dct (mergeD (ks.zip ds))) ⟨_, upd_same, (kr_merge hk (.nil : KR X.K H2 μ2 [] [])).ext ex⟩) _ (.loc ha)
    · exact q.elim
end
@[simp] theorem xDispV_run (ks : List Key) (ga : XA) (ρ : En) (st : Stt) : xDispV ks ga ρ st = (ga ρ (st ++ [.dct []])).bind fun ds s => dispEnd st.length ks ds s := (rfl)
@[simp] theorem dispEnd_run (n : Nat) (ks : List Key) (ds : List D) (s : Stt) : dispEnd n ks ds s = match s[n]? with
  | some (.dct []) => .ok (.loc n) (s.set n (.dct (mergeD (ks.zip ds))))
  | _ => .no := (rfl)
end Rg

set_option Elab.async false
set_option linter.all false
set_option maxRecDepth 100000
set_option maxHeartbeats 4000000
namespace Law
open PySem PySem.Spec PyProof.Rows L2 Rg
theorem hu64 {k : Nat} {A : Around} (hr : Room k A) : A.units + 64 < cLine := by have := hr.un; omega
theorem takesW0 {X : Cx} : L2.Takes X W0 := fun _ _ x => takes0 _ _ x
def top (i : Nat) : Stmt := PySem.Challenge.pw_hewstream_k01_texts_in_pieces.main.body.getD i (.Pass ⟨0, 0, 0, 0⟩)
def inCls (i j : Nat) : Stmt := match top i with
  | .ClassDef (body := b) .. => b.getD j (.Pass ⟨0, 0, 0, 0⟩)
  | s => s
abbrev s_is_name : Stmt := top 15
abbrev s_sign_of : Stmt := top 16
abbrev s_is_integer : Stmt := top 17
abbrev s_Tokens_close : Stmt := inCls 19 2
abbrev s_tell_entity : Stmt := top 44
abbrev s_read_entity : Stmt := top 43
abbrev s_between_tokens : Stmt := top 30
abbrev s_tell_end : Stmt := top 40
abbrev s_read_end_name : Stmt := top 41
abbrev s_tell_start : Stmt := top 39
abbrev s_read_slash : Stmt := top 38
abbrev s_begin_entity : Stmt := top 42
abbrev s_read_value : Stmt := top 37
abbrev s_expect : Stmt := top 24
abbrev s_read_equals : Stmt := top 36
abbrev s_lengthened : Stmt := top 32
abbrev s_read_attribute : Stmt := top 35
abbrev s_read_valued : Stmt := top 33
abbrev s_read_gap : Stmt := top 34
abbrev s_read_name : Stmt := top 31
abbrev s_read_dashes : Stmt := top 29
abbrev s_read_dash : Stmt := top 28
abbrev s_read_comment : Stmt := top 27
abbrev s_read_bangs : Stmt := top 26
abbrev s_read_bang : Stmt := top 25
abbrev s_begin_element : Stmt := top 23
abbrev s_read_less : Stmt := top 22
abbrev s_read_content : Stmt := top 21
abbrev s_read_outside : Stmt := top 20
abbrev s_Tokens_feed : Stmt := inCls 19 1
abbrev s_Tokens_init : Stmt := inCls 19 0
abbrev s_read_text : Stmt := top 18
abbrev s_law_tape : Stmt := top 47
abbrev s_law_at : Stmt := top 48
abbrev s_law_pick : Stmt := top 49
abbrev s_law_signs : Stmt := top 50
abbrev s_law_attributes : Stmt := top 51
abbrev s_law_tree : Stmt := top 52
abbrev s_law_blanks : Stmt := top 53
abbrev s_law_remark : Stmt := top 54
abbrev s_law_written : Stmt := top 55
abbrev s_law_start : Stmt := top 56
abbrev s_law_element : Stmt := top 57
abbrev s_law_document : Stmt := top 58
abbrev s_law_bytes : Stmt := top 59
abbrev s_law_cuts : Stmt := top 60
abbrev s_law : Stmt := top 61
structure Ads where
  a_is_name : Addr
  d_is_name : FuncData
  a_sign_of : Addr
  d_sign_of : FuncData
  a_is_integer : Addr
  d_is_integer : FuncData
  a_Tokens_close : Addr
  d_Tokens_close : FuncData
  a_tell_entity : Addr
  d_tell_entity : FuncData
  a_read_entity : Addr
  d_read_entity : FuncData
  a_between_tokens : Addr
  d_between_tokens : FuncData
  a_tell_end : Addr
  d_tell_end : FuncData
  a_read_end_name : Addr
  d_read_end_name : FuncData
  a_tell_start : Addr
  d_tell_start : FuncData
  a_read_slash : Addr
  d_read_slash : FuncData
  a_begin_entity : Addr
  d_begin_entity : FuncData
  a_read_value : Addr
  d_read_value : FuncData
  a_expect : Addr
  d_expect : FuncData
  a_read_equals : Addr
  d_read_equals : FuncData
  a_lengthened : Addr
  d_lengthened : FuncData
  a_read_attribute : Addr
  d_read_attribute : FuncData
  a_read_valued : Addr
  d_read_valued : FuncData
  a_read_gap : Addr
  d_read_gap : FuncData
  a_read_name : Addr
  d_read_name : FuncData
  a_read_dashes : Addr
  d_read_dashes : FuncData
  a_read_dash : Addr
  d_read_dash : FuncData
  a_read_comment : Addr
  d_read_comment : FuncData
  a_read_bangs : Addr
  d_read_bangs : FuncData
  a_read_bang : Addr
  d_read_bang : FuncData
  a_begin_element : Addr
  d_begin_element : FuncData
  a_read_less : Addr
  d_read_less : FuncData
  a_read_content : Addr
  d_read_content : FuncData
  a_read_outside : Addr
  d_read_outside : FuncData
  a_Tokens_feed : Addr
  d_Tokens_feed : FuncData
  a_Tokens_init : Addr
  d_Tokens_init : FuncData
  a_read_text : Addr
  d_read_text : FuncData
  a_law_tape : Addr
  d_law_tape : FuncData
  a_law_at : Addr
  d_law_at : FuncData
  a_law_pick : Addr
  d_law_pick : FuncData
  a_law_signs : Addr
  d_law_signs : FuncData
  a_law_attributes : Addr
  d_law_attributes : FuncData
  a_law_tree : Addr
  d_law_tree : FuncData
  a_law_blanks : Addr
  d_law_blanks : FuncData
  a_law_remark : Addr
  d_law_remark : FuncData
  a_law_written : Addr
  d_law_written : FuncData
  a_law_start : Addr
  d_law_start : FuncData
  a_law_element : Addr
  d_law_element : FuncData
  a_law_document : Addr
  d_law_document : FuncData
  a_law_bytes : Addr
  d_law_bytes : FuncData
  a_law_cuts : Addr
  d_law_cuts : FuncData
  a_law : Addr
  d_law : FuncData
  c_Tokens : Addr
  w_ENTITIES : Addr
  w_READERS : Addr
noncomputable def is_name_i1 (a : Ads) : XS :=
 sIf (xOr (xNot (xTr (x1 (oIsi "str") (xV 0)))) (xNot (xB (xCh oLe oLe (xC (.int 1)) (xCall fLen (xCons (xV 0) (xNil))) (xC (.int 8))))))
 (sCons (sRet (xC (.bl false)))
 (sNil))
 (sNil)
noncomputable def f_is_name (a : Ads) : XS :=
 sCons (is_name_i1 a)
 (sCons (sRet (xAndV (x2 oIn (x2 oIx (xV 0) (xC (.int 0))) (xC (.str "abcdefghijklmnopqrstuvwxyz"))) (xCall fAll (xCons (xLc (xIt (xV 0)) (gN 1) (xYes) (x2 oIn (xV 1) (xC (.str "abcdefghijklmnopqrstuvwxyz0123456789"))) [1]) (xNil)))))
 (sNil))
noncomputable def m_is_name (a : Ads) : Fn := gcB (runB 2 (f_is_name a))
noncomputable def sign_of_i1 (a : Ads) : XS :=
 sIf (xOr (xB (x2 oLt (xV 0) (xC (.int 32)))) (xOr (xB (x2 oGt (xV 0) (xC (.int 126)))) (xB (x2 oEq (xV 0) (xC (.int 37))))))
 (sCons (sRet (xC (.str "")))
 (sNil))
 (sNil)
noncomputable def sign_of_i2 (a : Ads) : XS :=
 sIf (xB (x2 oEq (xV 0) (xC (.int 10))))
 (sCons (sRet (xC (.str "\n")))
 (sNil))
 (sNil)
noncomputable def sign_of_i3 (a : Ads) : XS :=
 sIf (xB (x2 oEq (xV 0) (xC (.int 9))))
 (sCons (sRet (xC (.str "\t")))
 (sNil))
 (sNil)
noncomputable def f_sign_of (a : Ads) : XS :=
 sCons (sign_of_i3 a)
 (sCons (sign_of_i2 a)
 (sCons (sign_of_i1 a)
 (sCons (sRet (x2 oIx (xC (.str " !\"#$ &'()*+,-./0123456789:;<=>?@ABCDEFGHIJKLMNOPQRSTUVWXYZ[\\]^_`abcdefghijklmnopqrstuvwxyz{|}~")) (x2 oSub (xV 0) (xC (.int 32)))))
 (sNil))))
noncomputable def m_sign_of (a : Ads) : Fn := gcB (runB 1 (f_sign_of a))
noncomputable def f_is_integer (a : Ads) : XS :=
 sCons (sRet (xAndV (x1 (oIsi "int") (xV 0)) (xNotV (x1 (oIsi "bool") (xV 0)))))
 (sNil)
noncomputable def m_is_integer (a : Ads) : Fn := gcB (runB 1 (f_is_integer a))
noncomputable def Tokens_close_i1 (a : Ads) : XS :=
 sIf (xOr (xNot (xTr (x1 (oFld a.c_Tokens "ended") (xV 0)))) (xB (x2 oNe (x1 (oFld a.c_Tokens "reading") (xV 0)) (xC (.str "outside")))))
 (sCons (sNo)
 (sNil))
 (sNil)
noncomputable def f_Tokens_close (a : Ads) : XS :=
 sCons (Tokens_close_i1 a)
 (sNil)
noncomputable def m_Tokens_close (a : Ads) : Fn := gcB (runB 1 (f_Tokens_close a))
noncomputable def tell_entity_i1 (a : Ads) : XS :=
 sIf (xB (x2 oEq (x1 (oFld a.c_Tokens "around") (xV 0)) (xC (.str "value"))))
 (sCons (sExpr (xMt isLst mAppend (x1 (oFld a.c_Tokens "signs") (xV 0)) (xCons (xV 1) (xNil))))
 (sNil))
 (sCons (sExpr (xMt isLst mAppend (x1 (oFld a.c_Tokens "told") (xV 0)) (xCons (xTup (xCons (xC (.str "char")) (xCons (xV 1) (xNil)))) (xNil))))
 (sNil))
noncomputable def f_tell_entity (a : Ads) : XS :=
 sCons (tell_entity_i1 a)
 (sCons (sFldX a.c_Tokens "reading" (xV 0) (x1 (oFld a.c_Tokens "around") (xV 0)))
 (sNil))
noncomputable def m_tell_entity (a : Ads) : Fn := gcB (runB 2 (f_tell_entity a))
noncomputable def read_entity_i1 (a : Ads) : XS :=
 sIf (xB (x1 (oWHas [("lt;", (.str "<")), ("gt;", (.str ">")), ("amp;", (.str "&")), ("quot;", (.str "\""))]) (x1 (oFld a.c_Tokens "entity") (xV 0))))
 (sCons (sExpr (xFn (m_tell_entity a) (xCons (xV 0) (xCons (x1 (oWGet [("lt;", (.str "<")), ("gt;", (.str ">")), ("amp;", (.str "&")), ("quot;", (.str "\""))]) (x1 (oFld a.c_Tokens "entity") (xV 0))) (xNil)))))
 (sNil))
 (sNil)
noncomputable def read_entity_i2 (a : Ads) : XS :=
 sIf (xNot (xTr (xCall fAny (xCons (xLc (xWKeys [("lt;", (.str "<")), ("gt;", (.str ">")), ("amp;", (.str "&")), ("quot;", (.str "\""))]) (gN 2) (xYes) (xMt isStr mStarts (xV 2) (xCons (x1 (oFld a.c_Tokens "entity") (xV 0)) (xNil))) [2]) (xNil)))))
 (sCons (sNo)
 (sNil))
 (sNil)
noncomputable def f_read_entity (a : Ads) : XS :=
 sCons (sAugF a.c_Tokens "entity" oAug (xV 0) (xV 1))
 (sCons (read_entity_i2 a)
 (sCons (read_entity_i1 a)
 (sNil)))
noncomputable def m_read_entity (a : Ads) : Fn := gcB (runB 3 (f_read_entity a))
noncomputable def between_tokens_i1 (a : Ads) : XS :=
 sIf (xTr (x1 (oFld a.c_Tokens "names") (xV 0)))
 (sCons (sRet (xC (.str "content")))
 (sNil))
 (sNil)
noncomputable def f_between_tokens (a : Ads) : XS :=
 sCons (between_tokens_i1 a)
 (sCons (sRet (xC (.str "outside")))
 (sNil))
noncomputable def m_between_tokens (a : Ads) : Fn := gcB (runB 1 (f_between_tokens a))
noncomputable def f_tell_end (a : Ads) : XS :=
 sCons (sExpr (xMt isLst mAppend (x1 (oFld a.c_Tokens "told") (xV 0)) (xCons (xTup (xCons (xC (.str "end")) (xCons (xMt isLst mPop (x1 (oFld a.c_Tokens "names") (xV 0)) xNil) (xNil)))) (xNil))))
 (sCons (sFldX a.c_Tokens "ended" (xV 0) (xNotV (x1 (oFld a.c_Tokens "names") (xV 0))))
 (sCons (sFldX a.c_Tokens "reading" (xV 0) (xFn (m_between_tokens a) (xCons (xV 0) (xNil))))
 (sNil)))
noncomputable def m_tell_end (a : Ads) : Fn := gcB (runB 1 (f_tell_end a))
noncomputable def read_end_name_i1 (a : Ads) : XS :=
 sIf (xB (x2 oNe (xV 1) (x2 oIx (xV 2) (x1 (oFld a.c_Tokens "matched") (xV 0)))))
 (sCons (sNo)
 (sNil))
 (sNil)
noncomputable def read_end_name_i2 (a : Ads) : XS :=
 sIf (xB (x2 oNotIn (xV 1) (xC (.str " \t\n"))))
 (sCons (sNo)
 (sNil))
 (sNil)
noncomputable def read_end_name_i3 (a : Ads) : XS :=
 sIf (xB (x2 oEq (xV 1) (xC (.str ">"))))
 (sCons (sExpr (xFn (m_tell_end a) (xCons (xV 0) (xNil))))
 (sNil))
 (sCons (read_end_name_i2 a)
 (sNil))
noncomputable def read_end_name_i4 (a : Ads) : XS :=
 sIf (xB (x2 oLt (x1 (oFld a.c_Tokens "matched") (xV 0)) (xCall fLen (xCons (xV 2) (xNil)))))
 (sCons (read_end_name_i1 a)
 (sCons (sAugF a.c_Tokens "matched" oAug (xV 0) (xC (.int 1)))
 (sNil)))
 (sCons (read_end_name_i3 a)
 (sNil))
noncomputable def f_read_end_name (a : Ads) : XS :=
 sCons (sSet 2 (x2 oIx (x1 (oFld a.c_Tokens "names") (xV 0)) (x1 oNeg (xC (.int 1)))))
 (sCons (read_end_name_i4 a)
 (sNil))
noncomputable def m_read_end_name (a : Ads) : Fn := gcB (runB 3 (f_read_end_name a))
noncomputable def f_tell_start (a : Ads) : XS :=
 sCons (sSet 1 (xCall fSorted (xCons (x1 (oFld a.c_Tokens "pairs") (xV 0)) (xNil))))
 (sCons (sExpr (xMt isLst mAppend (x1 (oFld a.c_Tokens "told") (xV 0)) (xCons (xTup (xCons (xC (.str "start")) (xCons (x1 (oFld a.c_Tokens "name") (xV 0)) (xCons (xCall fTuple (xCons (xLc (xIt (xV 1)) (gN 2) (xYes) (xTup (xCons (xV 2) (xCons (x2 oGet (x1 (oFld a.c_Tokens "pairs") (xV 0)) (xV 2)) (xNil)))) [2]) (xNil))) (xNil))))) (xNil))))
 (sCons (sExpr (xMt isLst mAppend (x1 (oFld a.c_Tokens "names") (xV 0)) (xCons (x1 (oFld a.c_Tokens "name") (xV 0)) (xNil))))
 (sNil)))
noncomputable def m_tell_start (a : Ads) : Fn := gcB (runB 3 (f_tell_start a))
noncomputable def read_slash_i1 (a : Ads) : XS :=
 sIf (xB (x2 oNe (xV 1) (xC (.str ">"))))
 (sCons (sNo)
 (sNil))
 (sNil)
noncomputable def f_read_slash (a : Ads) : XS :=
 sCons (read_slash_i1 a)
 (sCons (sExpr (xFn (m_tell_start a) (xCons (xV 0) (xNil))))
 (sCons (sExpr (xFn (m_tell_end a) (xCons (xV 0) (xNil))))
 (sNil)))
noncomputable def m_read_slash (a : Ads) : Fn := gcB (runB 2 (f_read_slash a))
noncomputable def f_begin_entity (a : Ads) : XS :=
 sCons (sFldX a.c_Tokens "around" (xV 0) (xV 1))
 (sCons (sFldX a.c_Tokens "entity" (xV 0) (xC (.str "")))
 (sCons (sFldX a.c_Tokens "reading" (xV 0) (xC (.str "entity")))
 (sNil)))
noncomputable def m_begin_entity (a : Ads) : Fn := gcB (runB 2 (f_begin_entity a))
noncomputable def read_value_i1 (a : Ads) : XS :=
 sIf (xB (x2 oEq (xV 1) (xC (.str "&"))))
 (sCons (sExpr (xFn (m_begin_entity a) (xCons (xV 0) (xCons (xC (.str "value")) (xNil)))))
 (sNil))
 (sCons (sExpr (xMt isLst mAppend (x1 (oFld a.c_Tokens "signs") (xV 0)) (xCons (xV 1) (xNil))))
 (sNil))
noncomputable def read_value_i2 (a : Ads) : XS :=
 sIf (xB (x2 oEq (xV 1) (xC (.str "<"))))
 (sCons (sNo)
 (sNil))
 (sCons (read_value_i1 a)
 (sNil))
noncomputable def read_value_i3 (a : Ads) : XS :=
 sIf (xB (x2 oEq (xV 1) (xC (.str "\""))))
 (sCons (sPut (x1 (oFld a.c_Tokens "pairs") (xV 0)) (x1 (oFld a.c_Tokens "attribute") (xV 0)) (xMt isStr mJoin (xC (.str "")) (xCons (x1 (oFld a.c_Tokens "signs") (xV 0)) (xNil))))
 (sCons (sFldX a.c_Tokens "reading" (xV 0) (xC (.str "valued")))
 (sNil)))
 (sCons (read_value_i2 a)
 (sNil))
noncomputable def f_read_value (a : Ads) : XS :=
 sCons (read_value_i3 a)
 (sNil)
noncomputable def m_read_value (a : Ads) : Fn := gcB (runB 2 (f_read_value a))
noncomputable def expect_i1 (a : Ads) : XS :=
 sIf (xB (x2 oNe (xV 1) (xV 2)))
 (sCons (sNo)
 (sNil))
 (sNil)
noncomputable def f_expect (a : Ads) : XS :=
 sCons (expect_i1 a)
 (sCons (sFldX a.c_Tokens "reading" (xV 0) (xV 3))
 (sNil))
noncomputable def m_expect (a : Ads) : Fn := gcB (runB 4 (f_expect a))
noncomputable def f_read_equals (a : Ads) : XS :=
 sCons (sExpr (xFn (m_expect a) (xCons (xV 0) (xCons (xV 1) (xCons (xC (.str "\"")) (xCons (xC (.str "value")) (xNil)))))))
 (sCons (sFldX a.c_Tokens "signs" (xV 0) (xLst (xNil)))
 (sNil))
noncomputable def m_read_equals (a : Ads) : Fn := gcB (runB 2 (f_read_equals a))
noncomputable def lengthened_i1 (a : Ads) : XS :=
 sIf (xB (x2 oGe (xCall fLen (xCons (xV 1) (xNil))) (xC (.int 8))))
 (sCons (sNo)
 (sNil))
 (sNil)
noncomputable def f_lengthened (a : Ads) : XS :=
 sCons (lengthened_i1 a)
 (sCons (sRet (x2 oAdd (xV 1) (xV 2)))
 (sNil))
noncomputable def m_lengthened (a : Ads) : Fn := gcB (runB 3 (f_lengthened a))
noncomputable def read_attribute_i1 (a : Ads) : XS :=
 sIf (xAnd (xB (x2 oEq (xCall fLen (xCons (x1 (oFld a.c_Tokens "attribute") (xV 0)) (xNil))) (xC (.int 8)))) (xB (x2 oHas (x1 (oFld a.c_Tokens "attribute") (xV 0)) (x1 (oFld a.c_Tokens "pairs") (xV 0)))))
 (sCons (sNo)
 (sNil))
 (sNil)
noncomputable def read_attribute_i2 (a : Ads) : XS :=
 sIf (xAnd (xB (x2 oEq (xV 1) (xC (.str "=")))) (xB (x2 oHasnt (x1 (oFld a.c_Tokens "attribute") (xV 0)) (x1 (oFld a.c_Tokens "pairs") (xV 0)))))
 (sCons (sFldX a.c_Tokens "reading" (xV 0) (xC (.str "equals")))
 (sNil))
 (sCons (sNo)
 (sNil))
noncomputable def read_attribute_i3 (a : Ads) : XS :=
 sIf (xB (x2 oIn (xV 1) (xC (.str "abcdefghijklmnopqrstuvwxyz0123456789"))))
 (sCons (sFldX a.c_Tokens "attribute" (xV 0) (xFn (m_lengthened a) (xCons (xV 0) (xCons (x1 (oFld a.c_Tokens "attribute") (xV 0)) (xCons (xV 1) (xNil))))))
 (sCons (read_attribute_i1 a)
 (sNil)))
 (sCons (read_attribute_i2 a)
 (sNil))
noncomputable def f_read_attribute (a : Ads) : XS :=
 sCons (read_attribute_i3 a)
 (sNil)
noncomputable def m_read_attribute (a : Ads) : Fn := gcB (runB 2 (f_read_attribute a))
noncomputable def read_valued_i1 (a : Ads) : XS :=
 sIf (xB (x2 oEq (xV 1) (xC (.str ">"))))
 (sCons (sExpr (xFn (m_tell_start a) (xCons (xV 0) (xNil))))
 (sCons (sFldX a.c_Tokens "reading" (xV 0) (xC (.str "content")))
 (sNil)))
 (sCons (sNo)
 (sNil))
noncomputable def read_valued_i2 (a : Ads) : XS :=
 sIf (xB (x2 oEq (xV 1) (xC (.str "/"))))
 (sCons (sFldX a.c_Tokens "reading" (xV 0) (xC (.str "slash")))
 (sNil))
 (sCons (read_valued_i1 a)
 (sNil))
noncomputable def read_valued_i3 (a : Ads) : XS :=
 sIf (xB (x2 oIn (xV 1) (xC (.str " \t\n"))))
 (sCons (sFldX a.c_Tokens "reading" (xV 0) (xC (.str "gap")))
 (sNil))
 (sCons (read_valued_i2 a)
 (sNil))
noncomputable def f_read_valued (a : Ads) : XS :=
 sCons (read_valued_i3 a)
 (sNil)
noncomputable def m_read_valued (a : Ads) : Fn := gcB (runB 2 (f_read_valued a))
noncomputable def read_gap_i1 (a : Ads) : XS :=
 sIf (xB (x2 oGe (xCall fLenD (xCons (x1 (oFld a.c_Tokens "pairs") (xV 0)) (xNil))) (xC (.int 8))))
 (sCons (sNo)
 (sNil))
 (sCons (sFldX a.c_Tokens "attribute" (xV 0) (xV 1))
 (sCons (sFldX a.c_Tokens "reading" (xV 0) (xC (.str "attribute")))
 (sNil)))
noncomputable def read_gap_i2 (a : Ads) : XS :=
 sIf (xB (x2 oNotIn (xV 1) (xC (.str "abcdefghijklmnopqrstuvwxyz"))))
 (sCons (sExpr (xFn (m_read_valued a) (xCons (xV 0) (xCons (xV 1) (xNil)))))
 (sNil))
 (sCons (read_gap_i1 a)
 (sNil))
noncomputable def f_read_gap (a : Ads) : XS :=
 sCons (read_gap_i2 a)
 (sNil)
noncomputable def m_read_gap (a : Ads) : Fn := gcB (runB 2 (f_read_gap a))
noncomputable def read_name_i1 (a : Ads) : XS :=
 sIf (xB (x2 oIn (xV 1) (xC (.str "abcdefghijklmnopqrstuvwxyz0123456789"))))
 (sCons (sFldX a.c_Tokens "name" (xV 0) (xFn (m_lengthened a) (xCons (xV 0) (xCons (x1 (oFld a.c_Tokens "name") (xV 0)) (xCons (xV 1) (xNil))))))
 (sNil))
 (sCons (sExpr (xFn (m_read_valued a) (xCons (xV 0) (xCons (xV 1) (xNil)))))
 (sNil))
noncomputable def f_read_name (a : Ads) : XS :=
 sCons (read_name_i1 a)
 (sNil)
noncomputable def m_read_name (a : Ads) : Fn := gcB (runB 2 (f_read_name a))
noncomputable def f_read_dashes (a : Ads) : XS :=
 sCons (sExpr (xFn (m_expect a) (xCons (xV 0) (xCons (xV 1) (xCons (xC (.str ">")) (xCons (xFn (m_between_tokens a) (xCons (xV 0) (xNil))) (xNil)))))))
 (sNil)
noncomputable def m_read_dashes (a : Ads) : Fn := gcB (runB 2 (f_read_dashes a))
noncomputable def read_dash_i1 (a : Ads) : XS :=
 sIf (xB (x2 oEq (xV 1) (xC (.str "-"))))
 (sCons (sFldX a.c_Tokens "reading" (xV 0) (xC (.str "dashes")))
 (sNil))
 (sCons (sFldX a.c_Tokens "reading" (xV 0) (xC (.str "comment")))
 (sNil))
noncomputable def f_read_dash (a : Ads) : XS :=
 sCons (read_dash_i1 a)
 (sNil)
noncomputable def m_read_dash (a : Ads) : Fn := gcB (runB 2 (f_read_dash a))
noncomputable def read_comment_i1 (a : Ads) : XS :=
 sIf (xB (x2 oEq (xV 1) (xC (.str "-"))))
 (sCons (sFldX a.c_Tokens "reading" (xV 0) (xC (.str "dash")))
 (sNil))
 (sNil)
noncomputable def f_read_comment (a : Ads) : XS :=
 sCons (read_comment_i1 a)
 (sNil)
noncomputable def m_read_comment (a : Ads) : Fn := gcB (runB 2 (f_read_comment a))
noncomputable def f_read_bangs (a : Ads) : XS :=
 sCons (sExpr (xFn (m_expect a) (xCons (xV 0) (xCons (xV 1) (xCons (xC (.str "-")) (xCons (xC (.str "comment")) (xNil)))))))
 (sNil)
noncomputable def m_read_bangs (a : Ads) : Fn := gcB (runB 2 (f_read_bangs a))
noncomputable def f_read_bang (a : Ads) : XS :=
 sCons (sExpr (xFn (m_expect a) (xCons (xV 0) (xCons (xV 1) (xCons (xC (.str "-")) (xCons (xC (.str "bangs")) (xNil)))))))
 (sNil)
noncomputable def m_read_bang (a : Ads) : Fn := gcB (runB 2 (f_read_bang a))
noncomputable def begin_element_i1 (a : Ads) : XS :=
 sIf (xB (x2 oGe (xCall fLen (xCons (x1 (oFld a.c_Tokens "names") (xV 0)) (xNil))) (xC (.int 60))))
 (sCons (sNo)
 (sNil))
 (sNil)
noncomputable def f_begin_element (a : Ads) : XS :=
 sCons (begin_element_i1 a)
 (sCons (sFldX a.c_Tokens "name" (xV 0) (xV 1))
 (sCons (sFldX a.c_Tokens "pairs" (xV 0) (xDict0))
 (sCons (sFldX a.c_Tokens "reading" (xV 0) (xC (.str "name")))
 (sNil))))
noncomputable def m_begin_element (a : Ads) : Fn := gcB (runB 2 (f_begin_element a))
noncomputable def read_less_i1 (a : Ads) : XS :=
 sIf (xAnd (xB (x2 oIn (xV 1) (xC (.str "abcdefghijklmnopqrstuvwxyz")))) (xNot (xTr (x1 (oFld a.c_Tokens "ended") (xV 0)))))
 (sCons (sExpr (xFn (m_begin_element a) (xCons (xV 0) (xCons (xV 1) (xNil)))))
 (sNil))
 (sCons (sNo)
 (sNil))
noncomputable def read_less_i2 (a : Ads) : XS :=
 sIf (xAnd (xB (x2 oEq (xV 1) (xC (.str "/")))) (xTr (x1 (oFld a.c_Tokens "names") (xV 0))))
 (sCons (sFldX a.c_Tokens "matched" (xV 0) (xC (.int 0)))
 (sCons (sFldX a.c_Tokens "reading" (xV 0) (xC (.str "end name")))
 (sNil)))
 (sCons (read_less_i1 a)
 (sNil))
noncomputable def read_less_i3 (a : Ads) : XS :=
 sIf (xB (x2 oEq (xV 1) (xC (.str "!"))))
 (sCons (sFldX a.c_Tokens "reading" (xV 0) (xC (.str "bang")))
 (sNil))
 (sCons (read_less_i2 a)
 (sNil))
noncomputable def f_read_less (a : Ads) : XS :=
 sCons (read_less_i3 a)
 (sNil)
noncomputable def m_read_less (a : Ads) : Fn := gcB (runB 2 (f_read_less a))
noncomputable def read_content_i1 (a : Ads) : XS :=
 sIf (xB (x2 oEq (xV 1) (xC (.str "&"))))
 (sCons (sExpr (xFn (m_begin_entity a) (xCons (xV 0) (xCons (xC (.str "content")) (xNil)))))
 (sNil))
 (sCons (sExpr (xMt isLst mAppend (x1 (oFld a.c_Tokens "told") (xV 0)) (xCons (xTup (xCons (xC (.str "char")) (xCons (xV 1) (xNil)))) (xNil))))
 (sNil))
noncomputable def read_content_i2 (a : Ads) : XS :=
 sIf (xB (x2 oEq (xV 1) (xC (.str "<"))))
 (sCons (sFldX a.c_Tokens "reading" (xV 0) (xC (.str "less")))
 (sNil))
 (sCons (read_content_i1 a)
 (sNil))
noncomputable def f_read_content (a : Ads) : XS :=
 sCons (read_content_i2 a)
 (sNil)
noncomputable def m_read_content (a : Ads) : Fn := gcB (runB 2 (f_read_content a))
noncomputable def read_outside_i1 (a : Ads) : XS :=
 sIf (xB (x2 oNotIn (xV 1) (xC (.str " \t\n"))))
 (sCons (sNo)
 (sNil))
 (sNil)
noncomputable def read_outside_i2 (a : Ads) : XS :=
 sIf (xB (x2 oEq (xV 1) (xC (.str "<"))))
 (sCons (sFldX a.c_Tokens "reading" (xV 0) (xC (.str "less")))
 (sNil))
 (sCons (read_outside_i1 a)
 (sNil))
noncomputable def f_read_outside (a : Ads) : XS :=
 sCons (read_outside_i2 a)
 (sNil)
noncomputable def m_read_outside (a : Ads) : Fn := gcB (runB 2 (f_read_outside a))
noncomputable def Tokens_feed_i1 (a : Ads) : XS :=
 sIf (xB (x2 oEq (xV 3) (xC (.str ""))))
 (sCons (sNo)
 (sNil))
 (sNil)
noncomputable def Tokens_feed_fb1 (a : Ads) : XS :=
 sCons (sSet 3 (xFn (m_sign_of a) (xCons (xV 2) (xNil))))
 (sCons (Tokens_feed_i1 a)
 (sCons (sSet 4 (x1 (oWGet [("outside", (.opq "read_outside" a.a_read_outside)), ("content", (.opq "read_content" a.a_read_content)), ("less", (.opq "read_less" a.a_read_less)), ("bang", (.opq "read_bang" a.a_read_bang)), ("bangs", (.opq "read_bangs" a.a_read_bangs)), ("comment", (.opq "read_comment" a.a_read_comment)), ("dash", (.opq "read_dash" a.a_read_dash)), ("dashes", (.opq "read_dashes" a.a_read_dashes)), ("name", (.opq "read_name" a.a_read_name)), ("valued", (.opq "read_valued" a.a_read_valued)), ("gap", (.opq "read_gap" a.a_read_gap)), ("attribute", (.opq "read_attribute" a.a_read_attribute)), ("equals", (.opq "read_equals" a.a_read_equals)), ("value", (.opq "read_value" a.a_read_value)), ("slash", (.opq "read_slash" a.a_read_slash)), ("end name", (.opq "read_end_name" a.a_read_end_name)), ("entity", (.opq "read_entity" a.a_read_entity))]) (x1 (oFld a.c_Tokens "reading") (xV 0))))
 (sCons (sExpr (xCallL 4 [("read_outside", a.a_read_outside, m_read_outside a), ("read_content", a.a_read_content, m_read_content a), ("read_less", a.a_read_less, m_read_less a), ("read_bang", a.a_read_bang, m_read_bang a), ("read_bangs", a.a_read_bangs, m_read_bangs a), ("read_comment", a.a_read_comment, m_read_comment a), ("read_dash", a.a_read_dash, m_read_dash a), ("read_dashes", a.a_read_dashes, m_read_dashes a), ("read_name", a.a_read_name, m_read_name a), ("read_valued", a.a_read_valued, m_read_valued a), ("read_gap", a.a_read_gap, m_read_gap a), ("read_attribute", a.a_read_attribute, m_read_attribute a), ("read_equals", a.a_read_equals, m_read_equals a), ("read_value", a.a_read_value, m_read_value a), ("read_slash", a.a_read_slash, m_read_slash a), ("read_end_name", a.a_read_end_name, m_read_end_name a), ("read_entity", a.a_read_entity, m_read_entity a)] (xCons (xV 0) (xCons (xV 3) (xNil)))))
 (sCons (sAugF a.c_Tokens "place" oAug (xV 0) (xC (.int 1)))
 (sNil)))))
noncomputable def Tokens_feed_f1 (a : Ads) : XS :=
 sFor (xIt (xV 1)) (gN 2) (Tokens_feed_fb1 a)
noncomputable def Tokens_feed_i2 (a : Ads) : XS :=
 sIf (xOr (xNot (xTr (x1 (oIsi "list") (xV 1)))) (xNot (xTr (xCall fAll (xCons (xLc (xIt (xV 1)) (gN 2) (xYes) (xFn (m_is_integer a) (xCons (xV 2) (xNil))) [2]) (xNil))))))
 (sCons (sNo)
 (sNil))
 (sNil)
noncomputable def f_Tokens_feed (a : Ads) : XS :=
 sCons (Tokens_feed_i2 a)
 (sCons (sFldX a.c_Tokens "told" (xV 0) (xLst (xNil)))
 (sCons (Tokens_feed_f1 a)
 (sCons (sRet (x1 (oFld a.c_Tokens "told") (xV 0)))
 (sNil))))
noncomputable def m_Tokens_feed (a : Ads) : Fn := gcB (runB 5 (f_Tokens_feed a))
noncomputable def f_Tokens_init (a : Ads) : XS :=
 sCons (sFldX a.c_Tokens "place" (xV 0) (xC (.int 0)))
 (sCons (sFldX a.c_Tokens "reading" (xV 0) (xC (.str "outside")))
 (sCons (sFldX a.c_Tokens "names" (xV 0) (xLst (xNil)))
 (sCons (sFldX a.c_Tokens "ended" (xV 0) (xC (.bl false)))
 (sCons (sFldX a.c_Tokens "name" (xV 0) (xC (.str "")))
 (sCons (sFldX a.c_Tokens "attribute" (xV 0) (xC (.str "")))
 (sCons (sFldX a.c_Tokens "pairs" (xV 0) (xDict0))
 (sCons (sFldX a.c_Tokens "signs" (xV 0) (xLst (xNil)))
 (sCons (sFldX a.c_Tokens "entity" (xV 0) (xC (.str "")))
 (sCons (sFldX a.c_Tokens "matched" (xV 0) (xC (.int 0)))
 (sCons (sFldX a.c_Tokens "around" (xV 0) (xC (.str "content")))
 (sCons (sFldX a.c_Tokens "told" (xV 0) (xLst (xNil)))
 (sNil))))))))))))
noncomputable def m_Tokens_init (a : Ads) : Fn := gcB (runB 1 (f_Tokens_init a))
noncomputable def f_read_text (a : Ads) : XS :=
 sCons (sSet 1 (xMake a.c_Tokens (m_Tokens_init a) xNil))
 (sCons (sSet 2 (xMeth a.c_Tokens "feed" (m_Tokens_feed a) (xV 1) (xCons (xV 0) (xNil))))
 (sCons (sExpr (xMeth a.c_Tokens "close" (m_Tokens_close a) (xV 1) xNil))
 (sCons (sRet (xV 2))
 (sNil))))
noncomputable def m_read_text (a : Ads) : Fn := gcB (runB 3 (f_read_text a))
noncomputable def law_tape_i1 (a : Ads) : XS :=
 sIf (xB (x2 oGt (xV 3) (xC (.int 0))))
 (sCons (sExpr (xMt isLst mAppend (xV 1) (xCons (x2 oMod (xV 3) (xC (.int 1000))) (xNil))))
 (sCons (sSet 3 (x2 oDiv (xV 3) (xC (.int 1000))))
 (sNil)))
 (sNil)
noncomputable def law_tape_fb1 (a : Ads) : XS :=
 sCons (law_tape_i1 a)
 (sNil)
noncomputable def law_tape_f1 (a : Ads) : XS :=
 sFor (xRange (xCons (xC (.int 60)) (xNil))) (gN 4) (law_tape_fb1 a)
noncomputable def law_tape_fb2 (a : Ads) : XS :=
 sCons (sSet 3 (x2 oMod (x2 oAdd (x2 oAdd (x2 oMulA (xV 3) (xC (.int 48271))) (x2 oMulA (xC (.int 69621)) (x2 oAdd (xV 2) (xC (.int 1))))) (x2 oMulA (xC (.int 7)) (xV 4))) (xC (.int 2147483647))))
 (sCons (sSet 3 (x2 oMod (x2 oMulA (xV 3) (xC (.int 16807))) (xC (.int 2147483647))))
 (sCons (sExpr (xMt isLst mAppend (xV 1) (xCons (x2 oMod (x2 oDiv (xV 3) (xC (.int 1000))) (xC (.int 1000))) (xNil))))
 (sNil)))
noncomputable def law_tape_f2 (a : Ads) : XS :=
 sFor (xRange (xCons (xC (.int 4)) (xNil))) (gN 4) (law_tape_fb2 a)
noncomputable def law_tape_i2 (a : Ads) : XS :=
 sIf (xB (x2 oGe (xV 3) (x2 oPow (xC (.int 10)) (xC (.int 18)))))
 (sCons (law_tape_f1 a)
 (sNil))
 (sCons (law_tape_f2 a)
 (sNil))
noncomputable def law_tape_fb3 (a : Ads) : XS :=
 sCons (sSet 3 (xCall fAbs (xCons (xCall fInt3 (xCons (x2 oIx (xV 0) (xV 2)) (xNil))) (xNil))))
 (sCons (law_tape_i2 a)
 (sNil))
noncomputable def law_tape_f3 (a : Ads) : XS :=
 sFor (xRange (xCons (xCall fLen (xCons (xV 0) (xNil))) (xNil))) (gN 2) (law_tape_fb3 a)
noncomputable def f_law_tape (a : Ads) : XS :=
 sCons (sSet 1 (xLst (xNil)))
 (sCons (law_tape_f3 a)
 (sCons (sRet (xV 1))
 (sNil)))
noncomputable def m_law_tape (a : Ads) : Fn := gcB (runB 5 (f_law_tape a))
noncomputable def law_at_i1 (a : Ads) : XS :=
 sIf (xB (x2 oLt (xV 1) (xCall fLen (xCons (xV 0) (xNil)))))
 (sCons (sRet (x2 oIx (xV 0) (xV 1)))
 (sNil))
 (sNil)
noncomputable def f_law_at (a : Ads) : XS :=
 sCons (law_at_i1 a)
 (sCons (sRet (xC (.int 0)))
 (sNil))
noncomputable def m_law_at (a : Ads) : Fn := gcB (runB 2 (f_law_at a))
noncomputable def f_law_pick (a : Ads) : XS :=
 sCons (sSubL (xV 0) (xC (.int 1)) (x2 oAdd (x2 oIx (xV 0) (xC (.int 1))) (xC (.int 1))))
 (sCons (sRet (x2 oMod (x2 oAdd (x2 oAdd (x2 oMulA (xFn (m_law_at a) (xCons (x2 oIx (xV 0) (xC (.int 0))) (xCons (x2 oMod (x2 oIx (xV 0) (xC (.int 1))) (xC (.int 200))) (xNil)))) (xC (.int 31))) (x2 oMulA (x2 oIx (xV 0) (xC (.int 1))) (x2 oIx (xV 0) (xC (.int 1))))) (xFn (m_law_at a) (xCons (x2 oIx (xV 0) (xC (.int 0))) (xCons (xC (.int 1)) (xNil))))) (xV 1)))
 (sNil))
noncomputable def m_law_pick (a : Ads) : Fn := gcB (runB 2 (f_law_pick a))
noncomputable def f_law_signs (a : Ads) : XS :=
 sCons (sSet 2 (xC (.str "ab<&>\" '-!/=x\n\t]1Z~")))
 (sCons (sRet (xMt isStr mJoin (xC (.str "")) (xCons (xLc (xRange (xCons (xFn (m_law_pick a) (xCons (xV 0) (xCons (xV 1) (xNil)))) (xNil))) (gN 3) (xYes) (x2 oIx (xV 2) (xFn (m_law_pick a) (xCons (xV 0) (xCons (xC (.int 18)) (xNil))))) [3]) (xNil))))
 (sNil))
noncomputable def m_law_signs (a : Ads) : Fn := gcB (runB 4 (f_law_signs a))
noncomputable def law_attributes_fb1 (a : Ads) : XS :=
 sCons (sPut (xV 2) (x2 oIx (xV 1) (xFn (m_law_pick a) (xCons (xV 0) (xCons (xC (.int 6)) (xNil))))) (xFn (m_law_signs a) (xCons (xV 0) (xCons (xC (.int 5)) (xNil)))))
 (sNil)
noncomputable def law_attributes_f1 (a : Ads) : XS :=
 sFor (xRange (xCons (xFn (m_law_pick a) (xCons (xV 0) (xCons (xC (.int 4)) (xNil)))) (xNil))) (gN 3) (law_attributes_fb1 a)
noncomputable def f_law_attributes (a : Ads) : XS :=
 sCons (sSet 1 (xLst (xCons (xC (.str "a")) (xCons (xC (.str "b2")) (xCons (xC (.str "x")) (xCons (xC (.str "longname")) (xCons (xC (.str "longnamf")) (xCons (xC (.str "y")) (xNil)))))))))
 (sCons (sSet 2 (xDict0))
 (sCons (law_attributes_f1 a)
 (sCons (sRet (xCall fTuple (xCons (xSortIt (xV 2)) (xNil))))
 (sNil))))
noncomputable def m_law_attributes (a : Ads) : Fn := gcB (runB 4 (f_law_attributes a))
noncomputable def law_tree_i1 (a : Ads) (self : Fn) : XS :=
 sIf (xAnd (xB (x2 oEq (xFn (m_law_pick a) (xCons (xV 0) (xCons (xC (.int 2)) (xNil)))) (xC (.int 0)))) (xB (x2 oLt (xV 1) (xC (.int 5)))))
 (sCons (sExpr (xMt isLst mAppend (xV 2) (xCons (xFn (self) (xCons (xV 0) (xCons (x2 oAdd (xV 1) (xC (.int 1))) (xNil)))) (xNil))))
 (sNil))
 (sCons (sSet 2 (x2 oAdd (xV 2) (xCall fListE (xCons (xFn (m_law_signs a) (xCons (xV 0) (xCons (xC (.int 4)) (xNil)))) (xNil)))))
 (sNil))
noncomputable def law_tree_fb1 (a : Ads) (self : Fn) : XS :=
 sCons (law_tree_i1 a self)
 (sNil)
noncomputable def law_tree_f1 (a : Ads) (self : Fn) : XS :=
 sFor (xRange (xCons (xFn (m_law_pick a) (xCons (xV 0) (xCons (x2 oIx (xLst (xCons (xC (.int 5)) (xCons (xC (.int 4)) (xCons (xC (.int 3)) (xCons (xC (.int 2)) (xNil)))))) (xCall fMin2 (xCons (xV 1) (xCons (xC (.int 3)) (xNil))))) (xNil)))) (xNil))) (gN 3) (law_tree_fb1 a self)
noncomputable def f_law_tree (a : Ads) (self : Fn) : XS :=
 sCons (sSet 2 (xLst (xNil)))
 (sCons (law_tree_f1 a self)
 (sCons (sRet (xTup (xCons (x2 oIx (xLst (xCons (xC (.str "a")) (xCons (xC (.str "ab")) (xCons (xC (.str "abc")) (xCons (xC (.str "r1")) (xCons (xC (.str "eightlet")) (xCons (xC (.str "z")) (xNil)))))))) (xFn (m_law_pick a) (xCons (xV 0) (xCons (xC (.int 6)) (xNil))))) (xCons (xFn (m_law_attributes a) (xCons (xV 0) (xNil))) (xCons (xCall fTuple (xCons (xV 2) (xNil))) (xNil))))))
 (sNil)))
noncomputable def m_law_tree (a : Ads) : Nat → Fn
  | 0 => fun _ _ => .no
  | n + 1 => gcB (runB 4 (f_law_tree a (m_law_tree a n)))
noncomputable def f_law_blanks (a : Ads) : XS :=
 sCons (sRet (xMt isStr mJoin (xC (.str "")) (xCons (xLc (xRange (xCons (x2 oAdd (xV 1) (xCall fInt3 (xCons (x2 oEq (xFn (m_law_pick a) (xCons (xV 0) (xCons (xC (.int 4)) (xNil)))) (xC (.int 0))) (xNil)))) (xNil))) (gN 2) (xYes) (x2 oIx (xC (.str " \n\t")) (xFn (m_law_pick a) (xCons (xV 0) (xCons (xC (.int 3)) (xNil))))) [2]) (xNil))))
 (sNil)
noncomputable def m_law_blanks (a : Ads) : Fn := gcB (runB 3 (f_law_blanks a))
noncomputable def law_remark_i1 (a : Ads) : XS :=
 sIf (xB (x2 oGt (xFn (m_law_pick a) (xCons (xV 0) (xCons (xC (.int 6)) (xNil)))) (xC (.int 0))))
 (sCons (sRet (xC (.str "")))
 (sNil))
 (sNil)
noncomputable def f_law_remark (a : Ads) : XS :=
 sCons (law_remark_i1 a)
 (sCons (sRet (x2 oAdd (x2 oAdd (xC (.str "<!--")) (x2 oIx (xLst (xCons (xC (.str "")) (xCons (xC (.str "x")) (xCons (xC (.str "a - b")) (xCons (xC (.str "<a>&")) (xCons (xC (.str "-x-y")) (xCons (xC (.str ">")) (xNil)))))))) (xFn (m_law_pick a) (xCons (xV 0) (xCons (xC (.int 6)) (xNil)))))) (xC (.str "-->"))))
 (sNil))
noncomputable def m_law_remark (a : Ads) : Fn := gcB (runB 1 (f_law_remark a))
noncomputable def law_written_i1 (a : Ads) : XS :=
 sIf (xAnd (xB (x2 oHas (xV 1) (xV 3))) (xB (x2 oEq (xFn (m_law_pick a) (xCons (xV 0) (xCons (xC (.int 2)) (xNil)))) (xC (.int 0)))))
 (sCons (sRet (x2 oGet (xV 3) (xV 1)))
 (sNil))
 (sNil)
noncomputable def law_written_i2 (a : Ads) : XS :=
 sIf (xOr (xB (x2 oIn (xV 1) (xC (.str "<&")))) (xAnd (xB (x2 oEq (xV 1) (xC (.str "\"")))) (xTr (xV 2))))
 (sCons (sRet (x2 oGet (xV 3) (xV 1)))
 (sNil))
 (sNil)
noncomputable def f_law_written (a : Ads) : XS :=
 sCons (sSet 3 (xDispC [(.inr "<", (.str "&lt;")), (.inr "&", (.str "&amp;")), (.inr ">", (.str "&gt;")), (.inr "\"", (.str "&quot;"))]))
 (sCons (law_written_i2 a)
 (sCons (law_written_i1 a)
 (sCons (sRet (xV 1))
 (sNil))))
noncomputable def m_law_written (a : Ads) : Fn := gcB (runB 4 (f_law_written a))
noncomputable def law_start_fb1 (a : Ads) : XS :=
 sCons (sSet 2 (x2 oAdd (x2 oAdd (x2 oAdd (x2 oAdd (x2 oAdd (xV 2) (xFn (m_law_blanks a) (xCons (xV 0) (xCons (xC (.int 1)) (xNil))))) (xV 4)) (xC (.str "=\""))) (xMt isStr mJoin (xC (.str "")) (xCons (xLc (xIt (xV 5)) (gN 6) (xYes) (xFn (m_law_written a) (xCons (xV 0) (xCons (xV 6) (xCons (xC (.bl true)) (xNil))))) [6]) (xNil)))) (xC (.str "\""))))
 (sNil)
noncomputable def law_start_f1 (a : Ads) : XS :=
 sFor (xIt (xV 3)) (gT [4, 5]) (law_start_fb1 a)
noncomputable def law_start_i1 (a : Ads) : XS :=
 sIf (xB (x2 oEq (xFn (m_law_pick a) (xCons (xV 0) (xCons (xC (.int 2)) (xNil)))) (xC (.int 0))))
 (sCons (sSet 3 (x1 oRev2 (xV 3)))
 (sNil))
 (sNil)
noncomputable def f_law_start (a : Ads) : XS :=
 sCons (sSet 2 (x2 oAdd (xC (.str "<")) (x2 oIx (xV 1) (xC (.int 0)))))
 (sCons (sSet 3 (xCall fListE (xCons (x2 oIx (xV 1) (xC (.int 1))) (xNil))))
 (sCons (law_start_i1 a)
 (sCons (law_start_f1 a)
 (sCons (sRet (x2 oAdd (xV 2) (xFn (m_law_blanks a) (xCons (xV 0) (xCons (xC (.int 0)) (xNil))))))
 (sNil)))))
noncomputable def m_law_start (a : Ads) : Fn := gcB (runB 7 (f_law_start a))
noncomputable def law_element_i1 (a : Ads) (self : Fn) : XS :=
 sIf (xTr (x1 (oIsi "str") (xV 3)))
 (sCons (sPut (xV 2) (xC (.str "text")) (x2 oAdd (x2 oGet (xV 2) (xC (.str "text"))) (xFn (m_law_written a) (xCons (xV 0) (xCons (xV 3) (xCons (xC (.bl false)) (xNil)))))))
 (sCons (sExpr (xMt isLst mAppend (x2 oGet (xV 2) (xC (.str "events"))) (xCons (xTup (xCons (xTup (xCons (xC (.str "char")) (xCons (xV 3) (xNil)))) (xCons (xCall fLen (xCons (x2 oGet (xV 2) (xC (.str "text"))) (xNil))) (xNil)))) (xNil))))
 (sNil)))
 (sCons (sExpr (xFn (self) (xCons (xV 0) (xCons (xV 3) (xCons (xV 2) (xNil))))))
 (sNil))
noncomputable def law_element_fb1 (a : Ads) (self : Fn) : XS :=
 sCons (sPut (xV 2) (xC (.str "text")) (x2 oAdd (x2 oGet (xV 2) (xC (.str "text"))) (xFn (m_law_remark a) (xCons (xV 0) (xNil)))))
 (sCons (law_element_i1 a self)
 (sNil))
noncomputable def law_element_f1 (a : Ads) (self : Fn) : XS :=
 sFor (xIt (x2 oIx (xV 1) (xC (.int 2)))) (gN 3) (law_element_fb1 a self)
noncomputable def law_element_i2 (a : Ads) (self : Fn) : XS :=
 sIf (xAnd (xB (x2 oEq (x2 oIx (xV 1) (xC (.int 2))) (xTup (xNil)))) (xB (x2 oEq (xFn (m_law_pick a) (xCons (xV 0) (xCons (xC (.int 2)) (xNil)))) (xC (.int 0)))))
 (sCons (sPut (xV 2) (xC (.str "text")) (x2 oAdd (x2 oGet (xV 2) (xC (.str "text"))) (xC (.str "/>"))))
 (sCons (sPut (xV 2) (xC (.str "events")) (x2 oAdd (x2 oGet (xV 2) (xC (.str "events"))) (xLst (xCons (xTup (xCons (xTup (xCons (xC (.str "start")) (xCons (x2 oIx (xV 1) (xC (.int 0))) (xCons (x2 oIx (xV 1) (xC (.int 1))) (xNil))))) (xCons (xCall fLen (xCons (x2 oGet (xV 2) (xC (.str "text"))) (xNil))) (xNil)))) (xCons (xTup (xCons (xTup (xCons (xC (.str "end")) (xCons (x2 oIx (xV 1) (xC (.int 0))) (xNil)))) (xCons (xCall fLen (xCons (x2 oGet (xV 2) (xC (.str "text"))) (xNil))) (xNil)))) (xNil))))))
 (sCons (sRet (xC .non))
 (sNil))))
 (sNil)
noncomputable def f_law_element (a : Ads) (self : Fn) : XS :=
 sCons (sPut (xV 2) (xC (.str "text")) (x2 oAdd (x2 oGet (xV 2) (xC (.str "text"))) (xFn (m_law_start a) (xCons (xV 0) (xCons (xV 1) (xNil))))))
 (sCons (law_element_i2 a self)
 (sCons (sPut (xV 2) (xC (.str "text")) (x2 oAdd (x2 oGet (xV 2) (xC (.str "text"))) (xC (.str ">"))))
 (sCons (sExpr (xMt isLst mAppend (x2 oGet (xV 2) (xC (.str "events"))) (xCons (xTup (xCons (xTup (xCons (xC (.str "start")) (xCons (x2 oIx (xV 1) (xC (.int 0))) (xCons (x2 oIx (xV 1) (xC (.int 1))) (xNil))))) (xCons (xCall fLen (xCons (x2 oGet (xV 2) (xC (.str "text"))) (xNil))) (xNil)))) (xNil))))
 (sCons (law_element_f1 a self)
 (sCons (sPut (xV 2) (xC (.str "text")) (x2 oAdd (x2 oAdd (x2 oAdd (x2 oAdd (x2 oAdd (x2 oGet (xV 2) (xC (.str "text"))) (xFn (m_law_remark a) (xCons (xV 0) (xNil)))) (xC (.str "</"))) (x2 oIx (xV 1) (xC (.int 0)))) (xFn (m_law_blanks a) (xCons (xV 0) (xCons (xC (.int 0)) (xNil))))) (xC (.str ">"))))
 (sCons (sExpr (xMt isLst mAppend (x2 oGet (xV 2) (xC (.str "events"))) (xCons (xTup (xCons (xTup (xCons (xC (.str "end")) (xCons (x2 oIx (xV 1) (xC (.int 0))) (xNil)))) (xCons (xCall fLen (xCons (x2 oGet (xV 2) (xC (.str "text"))) (xNil))) (xNil)))) (xNil))))
 (sNil)))))))
noncomputable def m_law_element (a : Ads) : Nat → Fn
  | 0 => fun _ _ => .no
  | n + 1 => gcB (runB 4 (f_law_element a (m_law_element a n)))
noncomputable def f_law_document (a : Ads) : XS :=
 sCons (sSet 1 (xDispV [.inr "text", .inr "events"] (xCons (x2 oAdd (x2 oAdd (xFn (m_law_blanks a) (xCons (xV 0) (xCons (xC (.int 0)) (xNil)))) (xFn (m_law_remark a) (xCons (xV 0) (xNil)))) (xFn (m_law_blanks a) (xCons (xV 0) (xCons (xC (.int 0)) (xNil))))) (xCons (xLst (xNil)) (xNil)))))
 (sCons (sExpr (xFn (m_law_element a 7) (xCons (xV 0) (xCons (xFn (m_law_tree a 7) (xCons (xV 0) (xCons (xC (.int 0)) (xNil)))) (xCons (xV 1) (xNil))))))
 (sCons (sPut (xV 1) (xC (.str "text")) (x2 oAdd (x2 oAdd (x2 oAdd (x2 oGet (xV 1) (xC (.str "text"))) (xFn (m_law_blanks a) (xCons (xV 0) (xCons (xC (.int 0)) (xNil))))) (xFn (m_law_remark a) (xCons (xV 0) (xNil)))) (xFn (m_law_blanks a) (xCons (xV 0) (xCons (xC (.int 0)) (xNil))))))
 (sCons (sRet (xV 1))
 (sNil))))
noncomputable def m_law_document (a : Ads) : Fn := gcB (runB 2 (f_law_document a))
noncomputable def f_law_bytes (a : Ads) : XS :=
 sCons (sRet (xLc (xIt (xV 0)) (gN 1) (xYes) (xCall fOrd (xCons (xV 1) (xNil))) [1]))
 (sNil)
noncomputable def m_law_bytes (a : Ads) : Fn := gcB (runB 2 (f_law_bytes a))
noncomputable def law_cuts_fb1 (a : Ads) : XS :=
 sCons (sExpr (xMt isLst mAppend (xV 2) (xCons (xFn (m_law_pick a) (xCons (xV 0) (xCons (x2 oAdd (xV 1) (xC (.int 1))) (xNil)))) (xNil))))
 (sNil)
noncomputable def law_cuts_f1 (a : Ads) : XS :=
 sFor (xRange (xCons (xFn (m_law_pick a) (xCons (xV 0) (xCons (xC (.int 12)) (xNil)))) (xNil))) (gN 3) (law_cuts_fb1 a)
noncomputable def f_law_cuts (a : Ads) : XS :=
 sCons (sSet 2 (xLst (xCons (xC (.int 0)) (xNil))))
 (sCons (law_cuts_f1 a)
 (sCons (sRet (xCall fSorted (xCons (x2 oAdd (xV 2) (xLst (xCons (xV 1) (xNil)))) (xNil))))
 (sNil)))
noncomputable def m_law_cuts (a : Ads) : Fn := gcB (runB 4 (f_law_cuts a))
noncomputable def law_i1 (a : Ads) : XS :=
 sIf (xB (x2 oNotN (xMeth a.c_Tokens "close" (m_Tokens_close a) (xV 7) xNil) (xC .non)))
 (sCons (sRet (xC (.bl false)))
 (sNil))
 (sNil)
noncomputable def law_i2 (a : Ads) : XS :=
 sIf (xOr (xNot (xTr (x1 (oIsi "list") (xV 12)))) (xOr (xB (x2 oNe (xV 12) (xV 13))) (xB (x2 oNe (xV 11) (xV 10)))))
 (sCons (sRet (xC (.bl false)))
 (sNil))
 (sNil)
noncomputable def law_fb1 (a : Ads) : XS :=
 sCons (sSet 10 (xSl oSlA (xV 3) (xOS (x2 oIx (xV 6) (x2 oSub (xV 8) (xC (.int 1))))) (xOS (x2 oIx (xV 6) (xV 8)))))
 (sCons (sSet 11 (xCall fListE (xCons (xV 10) (xNil))))
 (sCons (sSet 12 (xMeth a.c_Tokens "feed" (m_Tokens_feed a) (xV 7) (xCons (xV 11) (xNil))))
 (sCons (sSet 13 (xLc (xIt (x2 oGet (xV 2) (xC (.str "events")))) (gN 9) (xB (xCh oLt oLe (x2 oIx (xV 6) (x2 oSub (xV 8) (xC (.int 1)))) (x2 oIx (xV 9) (xC (.int 1))) (x2 oIx (xV 6) (xV 8)))) (x2 oIx (xV 9) (xC (.int 0))) [9]))
 (sCons (law_i2 a)
 (sNil)))))
noncomputable def law_f1 (a : Ads) : XS :=
 sFor (xRange2 (xCons (xC (.int 1)) (xCons (xCall fLen (xCons (xV 6) (xNil))) (xNil)))) (gN 8) (law_fb1 a)
noncomputable def law_i3 (a : Ads) : XS :=
 sIf (xAnd (xB (x2 oEq (xV 5) (xC (.int 1)))) (xB (x2 oLt (xCall fLen (xCons (xV 3) (xNil))) (xC (.int 80)))))
 (sCons (sSet 6 (xLc (xRange (xCons (x2 oAdd (xCall fLen (xCons (xV 3) (xNil))) (xC (.int 1))) (xNil))) (gN 8) (xYes) (xV 8) [8]))
 (sNil))
 (sNil)
noncomputable def law_fb2 (a : Ads) : XS :=
 sCons (sSet 6 (xFn (m_law_cuts a) (xCons (xV 1) (xCons (xCall fLen (xCons (xV 3) (xNil))) (xNil)))))
 (sCons (law_i3 a)
 (sCons (sSet 7 (xMake a.c_Tokens (m_Tokens_init a) xNil))
 (sCons (law_f1 a)
 (sCons (law_i1 a)
 (sNil)))))
noncomputable def law_f2 (a : Ads) : XS :=
 sFor (xRange (xCons (xC (.int 2)) (xNil))) (gN 5) (law_fb2 a)
noncomputable def law_i4 (a : Ads) : XS :=
 sIf (xB (x2 oNe (xFn (m_read_text a) (xCons (xV 3) (xNil))) (xV 4)))
 (sCons (sRet (xC (.bl false)))
 (sNil))
 (sNil)
noncomputable def law_i5 (a : Ads) : XS :=
 sIf (xOr (xB (x2 oNe (xC (.int 60)) (xC (.int 60)))) (xOr (xB (x2 oNe (xC (.int 8)) (xC (.int 8)))) (xOr (xNot (xTr (xFn (m_is_name a) (xCons (xC (.str "a1")) (xNil))))) (xOr (xTr (xFn (m_is_name a) (xCons (xC (.str "1a")) (xNil)))) (xOr (xTr (xFn (m_is_name a) (xCons (xC (.str "ninelette")) (xNil)))) (xTr (xFn (m_is_name a) (xCons (xC (.str "")) (xNil)))))))))
 (sCons (sRet (xC (.bl false)))
 (sNil))
 (sNil)
noncomputable def f_law (a : Ads) : XS :=
 sCons (law_i5 a)
 (sCons (sSet 1 (xLst (xCons (xFn (m_law_tape a) (xCons (xV 0) (xNil))) (xCons (xC (.int 0)) (xNil)))))
 (sCons (sSet 2 (xFn (m_law_document a) (xCons (xV 1) (xNil))))
 (sCons (sSet 3 (xFn (m_law_bytes a) (xCons (x2 oGet (xV 2) (xC (.str "text"))) (xNil))))
 (sCons (sSet 4 (xLc (xIt (x2 oGet (xV 2) (xC (.str "events")))) (gN 9) (xYes) (x2 oIx (xV 9) (xC (.int 0))) [9]))
 (sCons (law_i4 a)
 (sCons (law_f2 a)
 (sCons (sRet (xC (.bl true)))
 (sNil))))))))
noncomputable def m_law (a : Ads) : Fn := gcB (runB 14 (f_law a))
structure Txt (K : PySem.W.Frag) (w : World) (mg : Str → Option Value) (a : Ads) : Prop where
  F_is_name : Fun K "is_name" "is_name" s_is_name a.a_is_name a.d_is_name
  b_is_name : Binds K a.d_is_name ["value"] []
  g_is_name : mg "is_name" = some (.ref a.a_is_name)
  F_sign_of : Fun K "sign_of" "sign_of" s_sign_of a.a_sign_of a.d_sign_of
  b_sign_of : Binds K a.d_sign_of ["byte"] []
  g_sign_of : mg "sign_of" = some (.ref a.a_sign_of)
  F_is_integer : Fun K "is_integer" "is_integer" s_is_integer a.a_is_integer a.d_is_integer
  b_is_integer : Binds K a.d_is_integer ["value"] []
  g_is_integer : mg "is_integer" = some (.ref a.a_is_integer)
  F_Tokens_close : Fun K "close" "Tokens.close" s_Tokens_close a.a_Tokens_close a.d_Tokens_close
  b_Tokens_close : Binds K a.d_Tokens_close ["self"] []
  F_tell_entity : Fun K "tell_entity" "tell_entity" s_tell_entity a.a_tell_entity a.d_tell_entity
  b_tell_entity : Binds K a.d_tell_entity ["tokens", "sign"] []
  g_tell_entity : mg "tell_entity" = some (.ref a.a_tell_entity)
  F_read_entity : Fun K "read_entity" "read_entity" s_read_entity a.a_read_entity a.d_read_entity
  b_read_entity : Binds K a.d_read_entity ["tokens", "sign"] []
  g_read_entity : mg "read_entity" = some (.ref a.a_read_entity)
  F_between_tokens : Fun K "between_tokens" "between_tokens" s_between_tokens a.a_between_tokens a.d_between_tokens
  b_between_tokens : Binds K a.d_between_tokens ["tokens"] []
  g_between_tokens : mg "between_tokens" = some (.ref a.a_between_tokens)
  F_tell_end : Fun K "tell_end" "tell_end" s_tell_end a.a_tell_end a.d_tell_end
  b_tell_end : Binds K a.d_tell_end ["tokens"] []
  g_tell_end : mg "tell_end" = some (.ref a.a_tell_end)
  F_read_end_name : Fun K "read_end_name" "read_end_name" s_read_end_name a.a_read_end_name a.d_read_end_name
  b_read_end_name : Binds K a.d_read_end_name ["tokens", "sign"] []
  g_read_end_name : mg "read_end_name" = some (.ref a.a_read_end_name)
  F_tell_start : Fun K "tell_start" "tell_start" s_tell_start a.a_tell_start a.d_tell_start
  b_tell_start : Binds K a.d_tell_start ["tokens"] []
  g_tell_start : mg "tell_start" = some (.ref a.a_tell_start)
  F_read_slash : Fun K "read_slash" "read_slash" s_read_slash a.a_read_slash a.d_read_slash
  b_read_slash : Binds K a.d_read_slash ["tokens", "sign"] []
  g_read_slash : mg "read_slash" = some (.ref a.a_read_slash)
  F_begin_entity : Fun K "begin_entity" "begin_entity" s_begin_entity a.a_begin_entity a.d_begin_entity
  b_begin_entity : Binds K a.d_begin_entity ["tokens", "around"] []
  g_begin_entity : mg "begin_entity" = some (.ref a.a_begin_entity)
  F_read_value : Fun K "read_value" "read_value" s_read_value a.a_read_value a.d_read_value
  b_read_value : Binds K a.d_read_value ["tokens", "sign"] []
  g_read_value : mg "read_value" = some (.ref a.a_read_value)
  F_expect : Fun K "expect" "expect" s_expect a.a_expect a.d_expect
  b_expect : Binds K a.d_expect ["tokens", "sign", "due", "reading"] []
  g_expect : mg "expect" = some (.ref a.a_expect)
  F_read_equals : Fun K "read_equals" "read_equals" s_read_equals a.a_read_equals a.d_read_equals
  b_read_equals : Binds K a.d_read_equals ["tokens", "sign"] []
  g_read_equals : mg "read_equals" = some (.ref a.a_read_equals)
  F_lengthened : Fun K "lengthened" "lengthened" s_lengthened a.a_lengthened a.d_lengthened
  b_lengthened : Binds K a.d_lengthened ["tokens", "name", "sign"] []
  g_lengthened : mg "lengthened" = some (.ref a.a_lengthened)
  F_read_attribute : Fun K "read_attribute" "read_attribute" s_read_attribute a.a_read_attribute a.d_read_attribute
  b_read_attribute : Binds K a.d_read_attribute ["tokens", "sign"] []
  g_read_attribute : mg "read_attribute" = some (.ref a.a_read_attribute)
  F_read_valued : Fun K "read_valued" "read_valued" s_read_valued a.a_read_valued a.d_read_valued
  b_read_valued : Binds K a.d_read_valued ["tokens", "sign"] []
  g_read_valued : mg "read_valued" = some (.ref a.a_read_valued)
  F_read_gap : Fun K "read_gap" "read_gap" s_read_gap a.a_read_gap a.d_read_gap
  b_read_gap : Binds K a.d_read_gap ["tokens", "sign"] []
  g_read_gap : mg "read_gap" = some (.ref a.a_read_gap)
  F_read_name : Fun K "read_name" "read_name" s_read_name a.a_read_name a.d_read_name
  b_read_name : Binds K a.d_read_name ["tokens", "sign"] []
  g_read_name : mg "read_name" = some (.ref a.a_read_name)
  F_read_dashes : Fun K "read_dashes" "read_dashes" s_read_dashes a.a_read_dashes a.d_read_dashes
  b_read_dashes : Binds K a.d_read_dashes ["tokens", "sign"] []
  g_read_dashes : mg "read_dashes" = some (.ref a.a_read_dashes)
  F_read_dash : Fun K "read_dash" "read_dash" s_read_dash a.a_read_dash a.d_read_dash
  b_read_dash : Binds K a.d_read_dash ["tokens", "sign"] []
  g_read_dash : mg "read_dash" = some (.ref a.a_read_dash)
  F_read_comment : Fun K "read_comment" "read_comment" s_read_comment a.a_read_comment a.d_read_comment
  b_read_comment : Binds K a.d_read_comment ["tokens", "sign"] []
  g_read_comment : mg "read_comment" = some (.ref a.a_read_comment)
  F_read_bangs : Fun K "read_bangs" "read_bangs" s_read_bangs a.a_read_bangs a.d_read_bangs
  b_read_bangs : Binds K a.d_read_bangs ["tokens", "sign"] []
  g_read_bangs : mg "read_bangs" = some (.ref a.a_read_bangs)
  F_read_bang : Fun K "read_bang" "read_bang" s_read_bang a.a_read_bang a.d_read_bang
  b_read_bang : Binds K a.d_read_bang ["tokens", "sign"] []
  g_read_bang : mg "read_bang" = some (.ref a.a_read_bang)
  F_begin_element : Fun K "begin_element" "begin_element" s_begin_element a.a_begin_element a.d_begin_element
  b_begin_element : Binds K a.d_begin_element ["tokens", "sign"] []
  g_begin_element : mg "begin_element" = some (.ref a.a_begin_element)
  F_read_less : Fun K "read_less" "read_less" s_read_less a.a_read_less a.d_read_less
  b_read_less : Binds K a.d_read_less ["tokens", "sign"] []
  g_read_less : mg "read_less" = some (.ref a.a_read_less)
  F_read_content : Fun K "read_content" "read_content" s_read_content a.a_read_content a.d_read_content
  b_read_content : Binds K a.d_read_content ["tokens", "sign"] []
  g_read_content : mg "read_content" = some (.ref a.a_read_content)
  F_read_outside : Fun K "read_outside" "read_outside" s_read_outside a.a_read_outside a.d_read_outside
  b_read_outside : Binds K a.d_read_outside ["tokens", "sign"] []
  g_read_outside : mg "read_outside" = some (.ref a.a_read_outside)
  F_Tokens_feed : Fun K "feed" "Tokens.feed" s_Tokens_feed a.a_Tokens_feed a.d_Tokens_feed
  b_Tokens_feed : Binds K a.d_Tokens_feed ["self", "data"] []
  F_Tokens_init : Fun K "__init__" "Tokens.__init__" s_Tokens_init a.a_Tokens_init a.d_Tokens_init
  b_Tokens_init : Binds K a.d_Tokens_init ["self"] []
  F_read_text : Fun K "read_text" "read_text" s_read_text a.a_read_text a.d_read_text
  b_read_text : Binds K a.d_read_text ["data"] []
  g_read_text : mg "read_text" = some (.ref a.a_read_text)
  F_law_tape : Fun K "_law_tape" "_law_tape" s_law_tape a.a_law_tape a.d_law_tape
  b_law_tape : Binds K a.d_law_tape ["script"] []
  g_law_tape : mg "_law_tape" = some (.ref a.a_law_tape)
  F_law_at : Fun K "_law_at" "_law_at" s_law_at a.a_law_at a.d_law_at
  b_law_at : Binds K a.d_law_at ["tape", "k"] []
  g_law_at : mg "_law_at" = some (.ref a.a_law_at)
  F_law_pick : Fun K "_law_pick" "_law_pick" s_law_pick a.a_law_pick a.d_law_pick
  b_law_pick : Binds K a.d_law_pick ["w", "many"] []
  g_law_pick : mg "_law_pick" = some (.ref a.a_law_pick)
  F_law_signs : Fun K "_law_signs" "_law_signs" s_law_signs a.a_law_signs a.d_law_signs
  b_law_signs : Binds K a.d_law_signs ["w", "many"] []
  g_law_signs : mg "_law_signs" = some (.ref a.a_law_signs)
  F_law_attributes : Fun K "_law_attributes" "_law_attributes" s_law_attributes a.a_law_attributes a.d_law_attributes
  b_law_attributes : Binds K a.d_law_attributes ["w"] []
  g_law_attributes : mg "_law_attributes" = some (.ref a.a_law_attributes)
  F_law_tree : Fun K "_law_tree" "_law_tree" s_law_tree a.a_law_tree a.d_law_tree
  b_law_tree : Binds K a.d_law_tree ["w", "level"] []
  g_law_tree : mg "_law_tree" = some (.ref a.a_law_tree)
  F_law_blanks : Fun K "_law_blanks" "_law_blanks" s_law_blanks a.a_law_blanks a.d_law_blanks
  b_law_blanks : Binds K a.d_law_blanks ["w", "least"] []
  g_law_blanks : mg "_law_blanks" = some (.ref a.a_law_blanks)
  F_law_remark : Fun K "_law_remark" "_law_remark" s_law_remark a.a_law_remark a.d_law_remark
  b_law_remark : Binds K a.d_law_remark ["w"] []
  g_law_remark : mg "_law_remark" = some (.ref a.a_law_remark)
  F_law_written : Fun K "_law_written" "_law_written" s_law_written a.a_law_written a.d_law_written
  b_law_written : Binds K a.d_law_written ["w", "sign", "quoted"] []
  g_law_written : mg "_law_written" = some (.ref a.a_law_written)
  F_law_start : Fun K "_law_start" "_law_start" s_law_start a.a_law_start a.d_law_start
  b_law_start : Binds K a.d_law_start ["w", "tree"] []
  g_law_start : mg "_law_start" = some (.ref a.a_law_start)
  F_law_element : Fun K "_law_element" "_law_element" s_law_element a.a_law_element a.d_law_element
  b_law_element : Binds K a.d_law_element ["w", "tree", "out"] []
  g_law_element : mg "_law_element" = some (.ref a.a_law_element)
  F_law_document : Fun K "_law_document" "_law_document" s_law_document a.a_law_document a.d_law_document
  b_law_document : Binds K a.d_law_document ["w"] []
  g_law_document : mg "_law_document" = some (.ref a.a_law_document)
  F_law_bytes : Fun K "_law_bytes" "_law_bytes" s_law_bytes a.a_law_bytes a.d_law_bytes
  b_law_bytes : Binds K a.d_law_bytes ["text"] []
  g_law_bytes : mg "_law_bytes" = some (.ref a.a_law_bytes)
  F_law_cuts : Fun K "_law_cuts" "_law_cuts" s_law_cuts a.a_law_cuts a.d_law_cuts
  b_law_cuts : Binds K a.d_law_cuts ["w", "many"] []
  g_law_cuts : mg "_law_cuts" = some (.ref a.a_law_cuts)
  F_law : Fun K "law" "law" s_law a.a_law a.d_law
  b_law : Binds K a.d_law ["script"] []
  g_law : mg "law" = some (.ref a.a_law)
  z_abs : mg "abs" = none
  z_all : mg "all" = none
  z_any : mg "any" = none
  z_bool : mg "bool" = none
  z_int : mg "int" = none
  z_isinstance : mg "isinstance" = none
  z_len : mg "len" = none
  z_list : mg "list" = none
  z_min : mg "min" = none
  z_ord : mg "ord" = none
  z_range : mg "range" = none
  z_sorted : mg "sorted" = none
  z_str : mg "str" = none
  z_tuple : mg "tuple" = none
  c_MOST_DEPTH : ∃ t, mg "MOST_DEPTH" = some (.int 60 t)
  c_MOST_NAME : ∃ t, mg "MOST_NAME" = some (.int 8 t)
  c_MOST_ATTRIBUTES : ∃ t, mg "MOST_ATTRIBUTES" = some (.int 8 t)
  c_LETTERS : ∃ t, mg "LETTERS" = some (.str "abcdefghijklmnopqrstuvwxyz" t)
  c_NAME_SIGNS : ∃ t, mg "NAME_SIGNS" = some (.str "abcdefghijklmnopqrstuvwxyz0123456789" t)
  c_BLANKS : ∃ t, mg "BLANKS" = some (.str " \t\n" t)
  c_PRINTED : ∃ t, mg "PRINTED" = some (.str " !\"#$ &'()*+,-./0123456789:;<=>?@ABCDEFGHIJKLMNOPQRSTUVWXYZ[\\]^_`abcdefghijklmnopqrstuvwxyz{|}~" t)
  c_PER_CENT : ∃ t, mg "PER_CENT" = some (.int 37 t)
  g_ENTITIES : mg "ENTITIES" = some (.ref a.w_ENTITIES)
  w_ENTITIES : WD K w a.w_ENTITIES [("lt;", (.str "<")), ("gt;", (.str ">")), ("amp;", (.str "&")), ("quot;", (.str "\""))]
  g_READERS : mg "READERS" = some (.ref a.w_READERS)
  w_READERS : WD K w a.w_READERS [("outside", (.opq "read_outside" a.a_read_outside)), ("content", (.opq "read_content" a.a_read_content)), ("less", (.opq "read_less" a.a_read_less)), ("bang", (.opq "read_bang" a.a_read_bang)), ("bangs", (.opq "read_bangs" a.a_read_bangs)), ("comment", (.opq "read_comment" a.a_read_comment)), ("dash", (.opq "read_dash" a.a_read_dash)), ("dashes", (.opq "read_dashes" a.a_read_dashes)), ("name", (.opq "read_name" a.a_read_name)), ("valued", (.opq "read_valued" a.a_read_valued)), ("gap", (.opq "read_gap" a.a_read_gap)), ("attribute", (.opq "read_attribute" a.a_read_attribute)), ("equals", (.opq "read_equals" a.a_read_equals)), ("value", (.opq "read_value" a.a_read_value)), ("slash", (.opq "read_slash" a.a_read_slash)), ("end name", (.opq "read_end_name" a.a_read_end_name)), ("entity", (.opq "read_entity" a.a_read_entity))]
  gc_Tokens : mg "Tokens" = some (.ref a.c_Tokens)
  k_Tokens : Cls K a.c_Tokens
  mk_Tokens : Mk K a.c_Tokens a.a_Tokens_init
  m_Tokens_feed : Meth K a.c_Tokens "feed" a.a_Tokens_feed
  m_Tokens_close : Meth K a.c_Tokens "close" a.a_Tokens_close
  n_Tokens_place : NoAttr K a.c_Tokens "place"
  n_Tokens_reading : NoAttr K a.c_Tokens "reading"
  n_Tokens_names : NoAttr K a.c_Tokens "names"
  n_Tokens_ended : NoAttr K a.c_Tokens "ended"
  n_Tokens_name : NoAttr K a.c_Tokens "name"
  n_Tokens_attribute : NoAttr K a.c_Tokens "attribute"
  n_Tokens_pairs : NoAttr K a.c_Tokens "pairs"
  n_Tokens_signs : NoAttr K a.c_Tokens "signs"
  n_Tokens_entity : NoAttr K a.c_Tokens "entity"
  n_Tokens_matched : NoAttr K a.c_Tokens "matched"
  n_Tokens_around : NoAttr K a.c_Tokens "around"
  n_Tokens_told : NoAttr K a.c_Tokens "told"
@[simp] theorem lit_0 : Str.ofString "" = ⟨#[]⟩ := by decide +kernel
@[simp] theorem lit_1 : Str.ofString "\t" = ⟨#[9]⟩ := by decide +kernel
@[simp] theorem lit_2 : Str.ofString "\n" = ⟨#[10]⟩ := by decide +kernel
@[simp] theorem lit_3 : Str.ofString " \t\n" = ⟨#[32, 9, 10]⟩ := by decide +kernel
@[simp] theorem lit_4 : Str.ofString " \n\t" = ⟨#[32, 10, 9]⟩ := by decide +kernel
def L_pri : List Nat := [32, 33, 34, 35, 36, 32, 38, 39, 40, 41, 42, 43, 44, 45, 46, 47, 48, 49, 50, 51, 52, 53, 54, 55, 56, 57, 58, 59, 60, 61, 62, 63, 64, 65, 66, 67, 68, 69, 70, 71, 72, 73, 74, 75, 76, 77, 78, 79, 80, 81, 82, 83, 84, 85, 86, 87, 88, 89, 90, 91, 92, 93, 94, 95, 96, 97, 98, 99, 100, 101, 102, 103, 104, 105, 106, 107, 108, 109, 110, 111, 112, 113, 114, 115, 116, 117, 118, 119, 120, 121, 122, 123, 124, 125, 126]
@[simp] theorem lit_5 : Str.ofString " !\"#$ &'()*+,-./0123456789:;<=>?@ABCDEFGHIJKLMNOPQRSTUVWXYZ[\\]^_`abcdefghijklmnopqrstuvwxyz{|}~" = ⟨L_pri.toArray⟩ := by decide +kernel
@[simp] theorem okL_pri : okL L_pri = true := by decide +kernel
@[simp] theorem len_pri : L_pri.length = 95 := by decide +kernel
@[simp] theorem lit_6 : Str.ofString "!" = ⟨#[33]⟩ := by decide +kernel
@[simp] theorem lit_7 : Str.ofString "\"" = ⟨#[34]⟩ := by decide +kernel
@[simp] theorem lit_8 : Str.ofString "&" = ⟨#[38]⟩ := by decide +kernel
@[simp] theorem lit_9 : Str.ofString "&amp;" = ⟨#[38, 97, 109, 112, 59]⟩ := by decide +kernel
@[simp] theorem lit_10 : Str.ofString "&gt;" = ⟨#[38, 103, 116, 59]⟩ := by decide +kernel
@[simp] theorem lit_11 : Str.ofString "&lt;" = ⟨#[38, 108, 116, 59]⟩ := by decide +kernel
@[simp] theorem lit_12 : Str.ofString "&quot;" = ⟨#[38, 113, 117, 111, 116, 59]⟩ := by decide +kernel
@[simp] theorem lit_13 : Str.ofString "-" = ⟨#[45]⟩ := by decide +kernel
@[simp] theorem lit_14 : Str.ofString "-->" = ⟨#[45, 45, 62]⟩ := by decide +kernel
@[simp] theorem lit_15 : Str.ofString "-x-y" = ⟨#[45, 120, 45, 121]⟩ := by decide +kernel
@[simp] theorem lit_16 : Str.ofString "/" = ⟨#[47]⟩ := by decide +kernel
@[simp] theorem lit_17 : Str.ofString "/>" = ⟨#[47, 62]⟩ := by decide +kernel
@[simp] theorem lit_18 : Str.ofString "1a" = ⟨#[49, 97]⟩ := by decide +kernel
@[simp] theorem lit_19 : Str.ofString "<" = ⟨#[60]⟩ := by decide +kernel
@[simp] theorem lit_20 : Str.ofString "<!--" = ⟨#[60, 33, 45, 45]⟩ := by decide +kernel
@[simp] theorem lit_21 : Str.ofString "<&" = ⟨#[60, 38]⟩ := by decide +kernel
@[simp] theorem lit_22 : Str.ofString "</" = ⟨#[60, 47]⟩ := by decide +kernel
@[simp] theorem lit_23 : Str.ofString "<a>&" = ⟨#[60, 97, 62, 38]⟩ := by decide +kernel
@[simp] theorem lit_24 : Str.ofString "=" = ⟨#[61]⟩ := by decide +kernel
@[simp] theorem lit_25 : Str.ofString "=\"" = ⟨#[61, 34]⟩ := by decide +kernel
@[simp] theorem lit_26 : Str.ofString ">" = ⟨#[62]⟩ := by decide +kernel
@[simp] theorem lit_27 : Str.ofString "a" = ⟨#[97]⟩ := by decide +kernel
@[simp] theorem lit_28 : Str.ofString "a - b" = ⟨#[97, 32, 45, 32, 98]⟩ := by decide +kernel
@[simp] theorem lit_29 : Str.ofString "a1" = ⟨#[97, 49]⟩ := by decide +kernel
@[simp] theorem lit_30 : Str.ofString "ab" = ⟨#[97, 98]⟩ := by decide +kernel
def L_sgn : List Nat := [97, 98, 60, 38, 62, 34, 32, 39, 45, 33, 47, 61, 120, 10, 9, 93, 49, 90, 126]
@[simp] theorem lit_31 : Str.ofString "ab<&>\" '-!/=x\n\t]1Z~" = ⟨L_sgn.toArray⟩ := by decide +kernel
@[simp] theorem okL_sgn : okL L_sgn = true := by decide +kernel
@[simp] theorem len_sgn : L_sgn.length = 19 := by decide +kernel
@[simp] theorem lit_32 : Str.ofString "abc" = ⟨#[97, 98, 99]⟩ := by decide +kernel
def L_low : List Nat := [97, 98, 99, 100, 101, 102, 103, 104, 105, 106, 107, 108, 109, 110, 111, 112, 113, 114, 115, 116, 117, 118, 119, 120, 121, 122]
@[simp] theorem lit_33 : Str.ofString "abcdefghijklmnopqrstuvwxyz" = ⟨L_low.toArray⟩ := by decide +kernel
@[simp] theorem okL_low : okL L_low = true := by decide +kernel
@[simp] theorem len_low : L_low.length = 26 := by decide +kernel
def L_lowd : List Nat := [97, 98, 99, 100, 101, 102, 103, 104, 105, 106, 107, 108, 109, 110, 111, 112, 113, 114, 115, 116, 117, 118, 119, 120, 121, 122, 48, 49, 50, 51, 52, 53, 54, 55, 56, 57]
@[simp] theorem lit_34 : Str.ofString "abcdefghijklmnopqrstuvwxyz0123456789" = ⟨L_lowd.toArray⟩ := by decide +kernel
@[simp] theorem okL_lowd : okL L_lowd = true := by decide +kernel
@[simp] theorem len_lowd : L_lowd.length = 36 := by decide +kernel
@[simp] theorem lit_35 : Str.ofString "amp;" = ⟨#[97, 109, 112, 59]⟩ := by decide +kernel
@[simp] theorem lit_36 : Str.ofString "attribute" = ⟨#[97, 116, 116, 114, 105, 98, 117, 116, 101]⟩ := by decide +kernel
@[simp] theorem lit_37 : Str.ofString "b2" = ⟨#[98, 50]⟩ := by decide +kernel
@[simp] theorem lit_38 : Str.ofString "bang" = ⟨#[98, 97, 110, 103]⟩ := by decide +kernel
@[simp] theorem lit_39 : Str.ofString "bangs" = ⟨#[98, 97, 110, 103, 115]⟩ := by decide +kernel
@[simp] theorem lit_40 : Str.ofString "char" = ⟨#[99, 104, 97, 114]⟩ := by decide +kernel
@[simp] theorem lit_41 : Str.ofString "comment" = ⟨#[99, 111, 109, 109, 101, 110, 116]⟩ := by decide +kernel
@[simp] theorem lit_42 : Str.ofString "content" = ⟨#[99, 111, 110, 116, 101, 110, 116]⟩ := by decide +kernel
@[simp] theorem lit_43 : Str.ofString "dash" = ⟨#[100, 97, 115, 104]⟩ := by decide +kernel
@[simp] theorem lit_44 : Str.ofString "dashes" = ⟨#[100, 97, 115, 104, 101, 115]⟩ := by decide +kernel
@[simp] theorem lit_45 : Str.ofString "eightlet" = ⟨#[101, 105, 103, 104, 116, 108, 101, 116]⟩ := by decide +kernel
@[simp] theorem lit_46 : Str.ofString "end" = ⟨#[101, 110, 100]⟩ := by decide +kernel
@[simp] theorem lit_47 : Str.ofString "end name" = ⟨#[101, 110, 100, 32, 110, 97, 109, 101]⟩ := by decide +kernel
@[simp] theorem lit_48 : Str.ofString "entity" = ⟨#[101, 110, 116, 105, 116, 121]⟩ := by decide +kernel
@[simp] theorem lit_49 : Str.ofString "equals" = ⟨#[101, 113, 117, 97, 108, 115]⟩ := by decide +kernel
@[simp] theorem lit_50 : Str.ofString "events" = ⟨#[101, 118, 101, 110, 116, 115]⟩ := by decide +kernel
@[simp] theorem lit_51 : Str.ofString "gap" = ⟨#[103, 97, 112]⟩ := by decide +kernel
@[simp] theorem lit_52 : Str.ofString "gt;" = ⟨#[103, 116, 59]⟩ := by decide +kernel
def L_fbe7a545 : List Nat := [104, 101, 119, 115, 116, 114, 101, 97, 109, 46, 101, 114, 114, 111, 114, 115]
@[simp] theorem lit_53 : Str.ofString "hewstream.errors" = ⟨L_fbe7a545.toArray⟩ := by decide +kernel
@[simp] theorem okL_fbe7a545 : okL L_fbe7a545 = true := by decide +kernel
@[simp] theorem len_fbe7a545 : L_fbe7a545.length = 16 := by decide +kernel
def L_6dece7d6 : List Nat := [104, 101, 119, 115, 116, 114, 101, 97, 109, 46, 116, 111, 107, 101, 110, 115]
@[simp] theorem lit_54 : Str.ofString "hewstream.tokens" = ⟨L_6dece7d6.toArray⟩ := by decide +kernel
@[simp] theorem okL_6dece7d6 : okL L_6dece7d6 = true := by decide +kernel
@[simp] theorem len_6dece7d6 : L_6dece7d6.length = 16 := by decide +kernel
def L_815ef59f : List Nat := [108, 97, 119, 95, 104, 101, 119, 115, 116, 114, 101, 97, 109, 95, 107, 48, 49, 95, 116, 101, 120, 116, 115, 95, 105, 110, 95, 112, 105, 101, 99, 101, 115]
@[simp] theorem lit_55 : Str.ofString "law_hewstream_k01_texts_in_pieces" = ⟨L_815ef59f.toArray⟩ := by decide +kernel
@[simp] theorem okL_815ef59f : okL L_815ef59f = true := by decide +kernel
@[simp] theorem len_815ef59f : L_815ef59f.length = 33 := by decide +kernel
@[simp] theorem lit_56 : Str.ofString "less" = ⟨#[108, 101, 115, 115]⟩ := by decide +kernel
@[simp] theorem lit_57 : Str.ofString "longname" = ⟨#[108, 111, 110, 103, 110, 97, 109, 101]⟩ := by decide +kernel
@[simp] theorem lit_58 : Str.ofString "longnamf" = ⟨#[108, 111, 110, 103, 110, 97, 109, 102]⟩ := by decide +kernel
@[simp] theorem lit_59 : Str.ofString "lt;" = ⟨#[108, 116, 59]⟩ := by decide +kernel
@[simp] theorem lit_60 : Str.ofString "name" = ⟨#[110, 97, 109, 101]⟩ := by decide +kernel
@[simp] theorem lit_61 : Str.ofString "ninelette" = ⟨#[110, 105, 110, 101, 108, 101, 116, 116, 101]⟩ := by decide +kernel
@[simp] theorem lit_62 : Str.ofString "outside" = ⟨#[111, 117, 116, 115, 105, 100, 101]⟩ := by decide +kernel
@[simp] theorem lit_63 : Str.ofString "quot;" = ⟨#[113, 117, 111, 116, 59]⟩ := by decide +kernel
@[simp] theorem lit_64 : Str.ofString "r1" = ⟨#[114, 49]⟩ := by decide +kernel
@[simp] theorem lit_65 : Str.ofString "slash" = ⟨#[115, 108, 97, 115, 104]⟩ := by decide +kernel
@[simp] theorem lit_66 : Str.ofString "start" = ⟨#[115, 116, 97, 114, 116]⟩ := by decide +kernel
@[simp] theorem lit_67 : Str.ofString "text" = ⟨#[116, 101, 120, 116]⟩ := by decide +kernel
@[simp] theorem lit_68 : Str.ofString "value" = ⟨#[118, 97, 108, 117, 101]⟩ := by decide +kernel
@[simp] theorem lit_69 : Str.ofString "valued" = ⟨#[118, 97, 108, 117, 101, 100]⟩ := by decide +kernel
@[simp] theorem lit_70 : Str.ofString "x" = ⟨#[120]⟩ := by decide +kernel
@[simp] theorem lit_71 : Str.ofString "y" = ⟨#[121]⟩ := by decide +kernel
@[simp] theorem lit_72 : Str.ofString "z" = ⟨#[122]⟩ := by decide +kernel
theorem lits : True := trivial
section
variable {P : Program} {w : World} {K : PySem.W.Frag} {mg : Str → Option Value} {base : Heap} {a : Ads}
theorem sc_is_name : FnScope ["value", "sign"] ["value"] (defScope s_is_name) := ⟨rfl, rfl, rfl, by decide +kernel, rfl, by decide +kernel, by decide +kernel⟩
theorem ok_is_name (T : Txt K w mg a) : FnOk P w K mg base (L2.CX P w) 1 a.a_is_name a.d_is_name ["value"] (spX K 1 (m_is_name a)) :=
  fnGc (ok_def (k := 0) T.F_is_name sc_is_name fun cdv A outer s H E hr cx =>
 (ss_cons (s_if (PW.pt (w_or (t_not (t_tr (e_isi (e_v 0) T.z_isinstance T.z_str))) (w_1 (t_not (t_chain op_le does_le op_le does_le (e_int) (e_cb call_len does_len T.z_len (a_cons (e_v 0) (a_nil))) (e_gint T.c_MOST_NAME.choose_spec))))))
 (ss_cons (s_ret (e_bl))
 (ss_nil))
 (ss_nil))
 (ss_cons (s_ret (e_and (e_cmp op_inAny does_in (e_ix (e_v 0) (e_int)) (e_gstr T.c_LETTERS.choose_spec) (by rfl)) (e_1 (e_cb (cr_all rfl) does_all T.z_all (a_cons (e_lc (own := [("sign", 1)]) rfl sc_is_name.nd (blkOk_by (N := ["value", "sign"]) (sc := defScope s_is_name) (by decide +kernel)) (i_it (e_v 0)) (fun _ _ _ _ _ => g_name 1 sc_is_name.nd) (fun _ _ _ _ _ => ts_nil) (fun _ _ _ _ _ => e_cmp op_inAny does_in (e_v 1) (e_gstr T.c_NAME_SIGNS.choose_spec) (by rfl))) (a_nil))))))
 (ss_nil))))
theorem sc_sign_of : FnScope ["byte"] ["byte"] (defScope s_sign_of) := ⟨rfl, rfl, rfl, by decide +kernel, rfl, by decide +kernel, by decide +kernel⟩
theorem ok_sign_of (T : Txt K w mg a) : FnOk P w K mg base (L2.CX P w) 1 a.a_sign_of a.d_sign_of ["byte"] (spX K 1 (m_sign_of a)) :=
  fnGc (ok_def (k := 0) T.F_sign_of sc_sign_of fun cdv A outer s H E hr cx =>
 (ss_cons (s_if (t_cmp (op_eqD (hu64 hr)) does_eq (e_v 0) (e_int) (nomark _))
 (ss_cons (s_ret (e_str))
 (ss_nil))
 (ss_nil))
 (ss_cons (s_if (t_cmp (op_eqD (hu64 hr)) does_eq (e_v 0) (e_int) (nomark _))
 (ss_cons (s_ret (e_str))
 (ss_nil))
 (ss_nil))
 (ss_cons (s_if (PW.pt (w_or (t_cmp op_ltD does_ltD (e_v 0) (e_int) (nomark _)) (w_or (t_cmp op_gt does_gt (e_v 0) (e_int) (nomark _)) (w_1 (t_cmp (op_eqD (hu64 hr)) does_eq (e_v 0) (e_gint T.c_PER_CENT.choose_spec) (nomark _))))))
 (ss_cons (s_ret (e_str))
 (ss_nil))
 (ss_nil))
 (ss_cons (s_ret (e_ix (e_gstr T.c_PRINTED.choose_spec) (e_op op_sub does_sub (e_v 0) (e_int))))
 (ss_nil))))))
theorem sc_is_integer : FnScope ["value"] ["value"] (defScope s_is_integer) := ⟨rfl, rfl, rfl, by decide +kernel, rfl, by decide +kernel, by decide +kernel⟩
theorem ok_is_integer (T : Txt K w mg a) : FnOk P w K mg base (L2.CX P w) 1 a.a_is_integer a.d_is_integer ["value"] (spX K 1 (m_is_integer a)) :=
  fnGc (ok_def (k := 0) T.F_is_integer sc_is_integer fun cdv A outer s H E hr cx =>
 (ss_cons (s_ret (e_and (e_isi (e_v 0) T.z_isinstance T.z_int) (e_1 (e_not (e_isi (e_v 0) T.z_isinstance T.z_bool)))))
 (ss_nil)))
theorem sc_Tokens_close : FnScope ["self"] ["self"] (defScope s_Tokens_close) := ⟨rfl, rfl, rfl, by decide +kernel, rfl, by decide +kernel, by decide +kernel⟩
theorem ok_Tokens_close (T : Txt K w mg a) : FnOk P w K mg base (L2.CX P w) 1 a.a_Tokens_close a.d_Tokens_close ["self"] (spX K 1 (m_Tokens_close a)) :=
  fnGc (ok_def (k := 0) T.F_Tokens_close sc_Tokens_close fun cdv A outer s H E hr cx =>
 (ss_cons (s_if (PW.pt (w_or (t_not (t_tr (e_fld T.k_Tokens T.n_Tokens_ended (e_v 0)))) (w_1 (t_cmp (op_neD (hu64 hr)) does_ne (e_fld T.k_Tokens T.n_Tokens_reading (e_v 0)) (e_str) (nomark _)))))
 (ss_cons (s_never)
 (ss_nil))
 (ss_nil))
 (ss_nil)))
theorem sc_tell_entity : FnScope ["tokens", "sign"] ["tokens", "sign"] (defScope s_tell_entity) := ⟨rfl, rfl, rfl, by decide +kernel, rfl, by decide +kernel, by decide +kernel⟩
theorem ok_tell_entity (T : Txt K w mg a) : FnOk P w K mg base (L2.CX P w) 1 a.a_tell_entity a.d_tell_entity ["tokens", "sign"] (spX K 2 (m_tell_entity a)) :=
  fnGc (ok_def (k := 0) T.F_tell_entity sc_tell_entity fun cdv A outer s H E hr cx =>
 (ss_cons (s_if (t_cmp (op_eqD (hu64 hr)) does_eq (e_fld T.k_Tokens T.n_Tokens_around (e_v 0)) (e_str) (nomark _))
 (ss_cons (s_expr (e_mt PySem.F.plainAttrs_list PySem.F.slot_list_append PySem.F.type_list_append mt_append does_append recv_lst (e_fld T.k_Tokens T.n_Tokens_signs (e_v 0)) (a_cons (e_v 1) (a_nil))))
 (ss_nil))
 (ss_cons (s_expr (e_mt PySem.F.plainAttrs_list PySem.F.slot_list_append PySem.F.type_list_append mt_append does_append recv_lst (e_fld T.k_Tokens T.n_Tokens_told (e_v 0)) (a_cons (e_tup (a_cons (e_str) (a_cons (e_v 1) (a_nil)))) (a_nil))))
 (ss_nil)))
 (ss_cons (s_fld T.k_Tokens T.n_Tokens_reading (e_v 0) (e_fld T.k_Tokens T.n_Tokens_around (e_v 0)))
 (ss_nil))))
theorem sc_read_entity : FnScope ["tokens", "sign", "entity"] ["tokens", "sign"] (defScope s_read_entity) := ⟨rfl, rfl, rfl, by decide +kernel, rfl, by decide +kernel, by decide +kernel⟩
theorem ok_read_entity (T : Txt K w mg a) : FnOk P w K mg base (L2.CX P w) 2 a.a_read_entity a.d_read_entity ["tokens", "sign"] (spX K 2 (m_read_entity a)) :=
  fnGc (ok_def (k := 1) T.F_read_entity sc_read_entity fun cdv A outer s H E hr cx =>
 (ss_cons (s_augF T.k_Tokens T.n_Tokens_entity (e_v 0) (e_v 1))
 (ss_cons (s_if (t_not (t_tr (e_cb (cr_any rfl) does_any T.z_any (a_cons (e_lc (own := [("entity", 2)]) rfl sc_read_entity.nd (blkOk_by (N := ["tokens", "sign", "entity"]) (sc := defScope s_read_entity) (by decide +kernel)) (i_wkeys T.g_ENTITIES T.w_ENTITIES) (fun _ _ _ _ _ => g_name 2 sc_read_entity.nd) (fun _ _ _ _ _ => ts_nil) (fun _ _ _ _ _ => e_mt PySem.F.plainAttrs_str PySem.F.slot_str_startswith PySem.F.type_str_startswith mt_startsR does_starts recv_str (e_v 2) (a_cons (e_fld T.k_Tokens T.n_Tokens_entity (e_v 0)) (a_nil)))) (a_nil)))))
 (ss_cons (s_never)
 (ss_nil))
 (ss_nil))
 (ss_cons (s_if (t_pc (c_win T.g_ENTITIES T.w_ENTITIES (e_fld T.k_Tokens T.n_Tokens_entity (e_v 0))))
 (ss_cons (s_expr (e_call (ok_tell_entity T) cx.tk (hr.mono (by omega)) T.g_tell_entity T.F_tell_entity.kp T.b_tell_entity (a_cons (e_v 0) (a_cons (e_wget T.g_ENTITIES T.w_ENTITIES (e_fld T.k_Tokens T.n_Tokens_entity (e_v 0))) (a_nil)))))
 (ss_nil))
 (ss_nil))
 (ss_nil)))))
theorem sc_between_tokens : FnScope ["tokens"] ["tokens"] (defScope s_between_tokens) := ⟨rfl, rfl, rfl, by decide +kernel, rfl, by decide +kernel, by decide +kernel⟩
theorem ok_between_tokens (T : Txt K w mg a) : FnOk P w K mg base (L2.CX P w) 1 a.a_between_tokens a.d_between_tokens ["tokens"] (spX K 1 (m_between_tokens a)) :=
  fnGc (ok_def (k := 0) T.F_between_tokens sc_between_tokens fun cdv A outer s H E hr cx =>
 (ss_cons (s_if (t_tr (e_fld T.k_Tokens T.n_Tokens_names (e_v 0)))
 (ss_cons (s_ret (e_str))
 (ss_nil))
 (ss_nil))
 (ss_cons (s_ret (e_str))
 (ss_nil))))
theorem sc_tell_end : FnScope ["tokens"] ["tokens"] (defScope s_tell_end) := ⟨rfl, rfl, rfl, by decide +kernel, rfl, by decide +kernel, by decide +kernel⟩
theorem ok_tell_end (T : Txt K w mg a) : FnOk P w K mg base (L2.CX P w) 2 a.a_tell_end a.d_tell_end ["tokens"] (spX K 1 (m_tell_end a)) :=
  fnGc (ok_def (k := 1) T.F_tell_end sc_tell_end fun cdv A outer s H E hr cx =>
 (ss_cons (s_expr (e_mt PySem.F.plainAttrs_list PySem.F.slot_list_append PySem.F.type_list_append mt_append does_append recv_lst (e_fld T.k_Tokens T.n_Tokens_told (e_v 0)) (a_cons (e_tup (a_cons (e_str) (a_cons (e_mt0 PySem.F.plainAttrs_list PySem.F.slot_list_pop PySem.F.type_list_pop mt_pop does_pop recv_lst (e_fld T.k_Tokens T.n_Tokens_names (e_v 0))) (a_nil)))) (a_nil))))
 (ss_cons (s_fld T.k_Tokens T.n_Tokens_ended (e_v 0) (e_not (e_fld T.k_Tokens T.n_Tokens_names (e_v 0))))
 (ss_cons (s_fld T.k_Tokens T.n_Tokens_reading (e_v 0) (e_call (ok_between_tokens T) cx.tk (hr.mono (by omega)) T.g_between_tokens T.F_between_tokens.kp T.b_between_tokens (a_cons (e_v 0) (a_nil))))
 (ss_nil)))))
theorem sc_read_end_name : FnScope ["tokens", "sign", "name"] ["tokens", "sign"] (defScope s_read_end_name) := ⟨rfl, rfl, rfl, by decide +kernel, rfl, by decide +kernel, by decide +kernel⟩
theorem ok_read_end_name (T : Txt K w mg a) : FnOk P w K mg base (L2.CX P w) 3 a.a_read_end_name a.d_read_end_name ["tokens", "sign"] (spX K 2 (m_read_end_name a)) :=
  fnGc (ok_def (k := 2) T.F_read_end_name sc_read_end_name fun cdv A outer s H E hr cx =>
 (ss_cons (s_set 2 sc_read_end_name.nd (e_ix (e_fld T.k_Tokens T.n_Tokens_names (e_v 0)) (e_un un_neg does_neg (e_int) (fun _ h => pe_un un_neg h))))
 (ss_cons (s_if (t_cmp op_ltD does_ltD (e_fld T.k_Tokens T.n_Tokens_matched (e_v 0)) (e_cb call_len does_len T.z_len (a_cons (e_v 2) (a_nil))) (nomark _))
 (ss_cons (s_if (t_cmp (op_neD (hu64 hr)) does_ne (e_v 1) (e_ix (e_v 2) (e_fld T.k_Tokens T.n_Tokens_matched (e_v 0))) (nomark _))
 (ss_cons (s_never)
 (ss_nil))
 (ss_nil))
 (ss_cons (s_augF T.k_Tokens T.n_Tokens_matched (e_v 0) (e_int))
 (ss_nil)))
 (ss_cons (s_if (t_cmp (op_eqD (hu64 hr)) does_eq (e_v 1) (e_str) (nomark _))
 (ss_cons (s_expr (e_call (ok_tell_end T) cx.tk (hr.mono (by omega)) T.g_tell_end T.F_tell_end.kp T.b_tell_end (a_cons (e_v 0) (a_nil))))
 (ss_nil))
 (ss_cons (s_if (t_cmp op_notInAny does_notIn (e_v 1) (e_gstr T.c_BLANKS.choose_spec) (by rfl))
 (ss_cons (s_never)
 (ss_nil))
 (ss_nil))
 (ss_nil)))
 (ss_nil)))
 (ss_nil))))
theorem sc_tell_start : FnScope ["tokens", "names", "name"] ["tokens"] (defScope s_tell_start) := ⟨rfl, rfl, rfl, by decide +kernel, rfl, by decide +kernel, by decide +kernel⟩
theorem ok_tell_start (T : Txt K w mg a) : FnOk P w K mg base (L2.CX P w) 1 a.a_tell_start a.d_tell_start ["tokens"] (spX K 1 (m_tell_start a)) :=
  fnGc (ok_def (k := 0) T.F_tell_start sc_tell_start fun cdv A outer s H E hr cx =>
 (ss_cons (s_set 1 sc_tell_start.nd (e_cb (call_sortA rfl) does_sorted T.z_sorted (a_cons (e_fld T.k_Tokens T.n_Tokens_pairs (e_v 0)) (a_nil))))
 (ss_cons (s_expr (e_mt PySem.F.plainAttrs_list PySem.F.slot_list_append PySem.F.type_list_append mt_append does_append recv_lst (e_fld T.k_Tokens T.n_Tokens_told (e_v 0)) (a_cons (e_tup (a_cons (e_str) (a_cons (e_fld T.k_Tokens T.n_Tokens_name (e_v 0)) (a_cons (e_ct call_tuple_of does_tuple T.z_tuple (a_cons (e_lc (own := [("name", 2)]) rfl sc_tell_start.nd (blkOk_by (N := ["tokens", "names", "name"]) (sc := defScope s_tell_start) (by decide +kernel)) (i_it (e_v 1)) (fun _ _ _ _ _ => g_name 2 sc_tell_start.nd) (fun _ _ _ _ _ => ts_nil) (fun _ _ _ _ _ => e_tup (a_cons (e_v 2) (a_cons (e_get (hu_of hr) (e_fld T.k_Tokens T.n_Tokens_pairs (e_v 0)) (e_v 2)) (a_nil))))) (a_nil))) (a_nil))))) (a_nil))))
 (ss_cons (s_expr (e_mt PySem.F.plainAttrs_list PySem.F.slot_list_append PySem.F.type_list_append mt_append does_append recv_lst (e_fld T.k_Tokens T.n_Tokens_names (e_v 0)) (a_cons (e_fld T.k_Tokens T.n_Tokens_name (e_v 0)) (a_nil))))
 (ss_nil)))))
theorem sc_read_slash : FnScope ["tokens", "sign"] ["tokens", "sign"] (defScope s_read_slash) := ⟨rfl, rfl, rfl, by decide +kernel, rfl, by decide +kernel, by decide +kernel⟩
theorem ok_read_slash (T : Txt K w mg a) : FnOk P w K mg base (L2.CX P w) 3 a.a_read_slash a.d_read_slash ["tokens", "sign"] (spX K 2 (m_read_slash a)) :=
  fnGc (ok_def (k := 2) T.F_read_slash sc_read_slash fun cdv A outer s H E hr cx =>
 (ss_cons (s_if (t_cmp (op_neD (hu64 hr)) does_ne (e_v 1) (e_str) (nomark _))
 (ss_cons (s_never)
 (ss_nil))
 (ss_nil))
 (ss_cons (s_expr (e_call (ok_tell_start T) cx.tk (hr.mono (by omega)) T.g_tell_start T.F_tell_start.kp T.b_tell_start (a_cons (e_v 0) (a_nil))))
 (ss_cons (s_expr (e_call (ok_tell_end T) cx.tk (hr.mono (by omega)) T.g_tell_end T.F_tell_end.kp T.b_tell_end (a_cons (e_v 0) (a_nil))))
 (ss_nil)))))
theorem sc_begin_entity : FnScope ["tokens", "around"] ["tokens", "around"] (defScope s_begin_entity) := ⟨rfl, rfl, rfl, by decide +kernel, rfl, by decide +kernel, by decide +kernel⟩
theorem ok_begin_entity (T : Txt K w mg a) : FnOk P w K mg base (L2.CX P w) 1 a.a_begin_entity a.d_begin_entity ["tokens", "around"] (spX K 2 (m_begin_entity a)) :=
  fnGc (ok_def (k := 0) T.F_begin_entity sc_begin_entity fun cdv A outer s H E hr cx =>
 (ss_cons (s_fld T.k_Tokens T.n_Tokens_around (e_v 0) (e_v 1))
 (ss_cons (s_fld T.k_Tokens T.n_Tokens_entity (e_v 0) (e_str))
 (ss_cons (s_fld T.k_Tokens T.n_Tokens_reading (e_v 0) (e_str))
 (ss_nil)))))
theorem sc_read_value : FnScope ["tokens", "sign"] ["tokens", "sign"] (defScope s_read_value) := ⟨rfl, rfl, rfl, by decide +kernel, rfl, by decide +kernel, by decide +kernel⟩
theorem ok_read_value (T : Txt K w mg a) : FnOk P w K mg base (L2.CX P w) 2 a.a_read_value a.d_read_value ["tokens", "sign"] (spX K 2 (m_read_value a)) :=
  fnGc (ok_def (k := 1) T.F_read_value sc_read_value fun cdv A outer s H E hr cx =>
 (ss_cons (s_if (t_cmp (op_eqD (hu64 hr)) does_eq (e_v 1) (e_str) (nomark _))
 (ss_cons (s_put (hu_of hr) (e_fld T.k_Tokens T.n_Tokens_pairs (e_v 0)) (e_fld T.k_Tokens T.n_Tokens_attribute (e_v 0)) (e_mt PySem.F.plainAttrs_str PySem.F.slot_str_join PySem.F.type_str_join mt_joinR does_join recv_str (e_str) (a_cons (e_fld T.k_Tokens T.n_Tokens_signs (e_v 0)) (a_nil))))
 (ss_cons (s_fld T.k_Tokens T.n_Tokens_reading (e_v 0) (e_str))
 (ss_nil)))
 (ss_cons (s_if (t_cmp (op_eqD (hu64 hr)) does_eq (e_v 1) (e_str) (nomark _))
 (ss_cons (s_never)
 (ss_nil))
 (ss_cons (s_if (t_cmp (op_eqD (hu64 hr)) does_eq (e_v 1) (e_str) (nomark _))
 (ss_cons (s_expr (e_call (ok_begin_entity T) cx.tk (hr.mono (by omega)) T.g_begin_entity T.F_begin_entity.kp T.b_begin_entity (a_cons (e_v 0) (a_cons (e_str) (a_nil)))))
 (ss_nil))
 (ss_cons (s_expr (e_mt PySem.F.plainAttrs_list PySem.F.slot_list_append PySem.F.type_list_append mt_append does_append recv_lst (e_fld T.k_Tokens T.n_Tokens_signs (e_v 0)) (a_cons (e_v 1) (a_nil))))
 (ss_nil)))
 (ss_nil)))
 (ss_nil)))
 (ss_nil)))
theorem sc_expect : FnScope ["tokens", "sign", "due", "reading"] ["tokens", "sign", "due", "reading"] (defScope s_expect) := ⟨rfl, rfl, rfl, by decide +kernel, rfl, by decide +kernel, by decide +kernel⟩
theorem ok_expect (T : Txt K w mg a) : FnOk P w K mg base (L2.CX P w) 1 a.a_expect a.d_expect ["tokens", "sign", "due", "reading"] (spX K 4 (m_expect a)) :=
  fnGc (ok_def (k := 0) T.F_expect sc_expect fun cdv A outer s H E hr cx =>
 (ss_cons (s_if (t_cmp (op_neD (hu64 hr)) does_ne (e_v 1) (e_v 2) (nomark _))
 (ss_cons (s_never)
 (ss_nil))
 (ss_nil))
 (ss_cons (s_fld T.k_Tokens T.n_Tokens_reading (e_v 0) (e_v 3))
 (ss_nil))))
theorem sc_read_equals : FnScope ["tokens", "sign"] ["tokens", "sign"] (defScope s_read_equals) := ⟨rfl, rfl, rfl, by decide +kernel, rfl, by decide +kernel, by decide +kernel⟩
theorem ok_read_equals (T : Txt K w mg a) : FnOk P w K mg base (L2.CX P w) 2 a.a_read_equals a.d_read_equals ["tokens", "sign"] (spX K 2 (m_read_equals a)) :=
  fnGc (ok_def (k := 1) T.F_read_equals sc_read_equals fun cdv A outer s H E hr cx =>
 (ss_cons (s_expr (e_call (ok_expect T) cx.tk (hr.mono (by omega)) T.g_expect T.F_expect.kp T.b_expect (a_cons (e_v 0) (a_cons (e_v 1) (a_cons (e_str) (a_cons (e_str) (a_nil)))))))
 (ss_cons (s_fld T.k_Tokens T.n_Tokens_signs (e_v 0) (e_lst (a_nil)))
 (ss_nil))))
theorem sc_lengthened : FnScope ["tokens", "name", "sign"] ["tokens", "name", "sign"] (defScope s_lengthened) := ⟨rfl, rfl, rfl, by decide +kernel, rfl, by decide +kernel, by decide +kernel⟩
theorem ok_lengthened (T : Txt K w mg a) : FnOk P w K mg base (L2.CX P w) 1 a.a_lengthened a.d_lengthened ["tokens", "name", "sign"] (spX K 3 (m_lengthened a)) :=
  fnGc (ok_def (k := 0) T.F_lengthened sc_lengthened fun cdv A outer s H E hr cx =>
 (ss_cons (s_if (t_cmp op_ge does_ge (e_cb call_len does_len T.z_len (a_cons (e_v 1) (a_nil))) (e_gint T.c_MOST_NAME.choose_spec) (nomark _))
 (ss_cons (s_never)
 (ss_nil))
 (ss_nil))
 (ss_cons (s_ret (e_op op_addD does_addD (e_v 1) (e_v 2)))
 (ss_nil))))
theorem sc_read_attribute : FnScope ["tokens", "sign"] ["tokens", "sign"] (defScope s_read_attribute) := ⟨rfl, rfl, rfl, by decide +kernel, rfl, by decide +kernel, by decide +kernel⟩
theorem ok_read_attribute (T : Txt K w mg a) : FnOk P w K mg base (L2.CX P w) 2 a.a_read_attribute a.d_read_attribute ["tokens", "sign"] (spX K 2 (m_read_attribute a)) :=
  fnGc (ok_def (k := 1) T.F_read_attribute sc_read_attribute fun cdv A outer s H E hr cx =>
 (ss_cons (s_if (t_cmp op_inAny does_in (e_v 1) (e_gstr T.c_NAME_SIGNS.choose_spec) (by rfl))
 (ss_cons (s_fld T.k_Tokens T.n_Tokens_attribute (e_v 0) (e_call (ok_lengthened T) cx.tk (hr.mono (by omega)) T.g_lengthened T.F_lengthened.kp T.b_lengthened (a_cons (e_v 0) (a_cons (e_fld T.k_Tokens T.n_Tokens_attribute (e_v 0)) (a_cons (e_v 1) (a_nil))))))
 (ss_cons (s_if (PW.pt (w_and (t_cmp (op_eqD (hu64 hr)) does_eq (e_cb call_len does_len T.z_len (a_cons (e_fld T.k_Tokens T.n_Tokens_attribute (e_v 0)) (a_nil))) (e_gint T.c_MOST_NAME.choose_spec) (nomark _)) (w_1 (t_pc (c_has (hu_of hr) (e_fld T.k_Tokens T.n_Tokens_attribute (e_v 0)) (e_fld T.k_Tokens T.n_Tokens_pairs (e_v 0)))))))
 (ss_cons (s_never)
 (ss_nil))
 (ss_nil))
 (ss_nil)))
 (ss_cons (s_if (PW.pt (w_and (t_cmp (op_eqD (hu64 hr)) does_eq (e_v 1) (e_str) (nomark _)) (w_1 (t_pc (c_hasnt (hu_of hr) (e_fld T.k_Tokens T.n_Tokens_attribute (e_v 0)) (e_fld T.k_Tokens T.n_Tokens_pairs (e_v 0)))))))
 (ss_cons (s_fld T.k_Tokens T.n_Tokens_reading (e_v 0) (e_str))
 (ss_nil))
 (ss_cons (s_never)
 (ss_nil)))
 (ss_nil)))
 (ss_nil)))
theorem sc_read_valued : FnScope ["tokens", "sign"] ["tokens", "sign"] (defScope s_read_valued) := ⟨rfl, rfl, rfl, by decide +kernel, rfl, by decide +kernel, by decide +kernel⟩
theorem ok_read_valued (T : Txt K w mg a) : FnOk P w K mg base (L2.CX P w) 2 a.a_read_valued a.d_read_valued ["tokens", "sign"] (spX K 2 (m_read_valued a)) :=
  fnGc (ok_def (k := 1) T.F_read_valued sc_read_valued fun cdv A outer s H E hr cx =>
 (ss_cons (s_if (t_cmp op_inAny does_in (e_v 1) (e_gstr T.c_BLANKS.choose_spec) (by rfl))
 (ss_cons (s_fld T.k_Tokens T.n_Tokens_reading (e_v 0) (e_str))
 (ss_nil))
 (ss_cons (s_if (t_cmp (op_eqD (hu64 hr)) does_eq (e_v 1) (e_str) (nomark _))
 (ss_cons (s_fld T.k_Tokens T.n_Tokens_reading (e_v 0) (e_str))
 (ss_nil))
 (ss_cons (s_if (t_cmp (op_eqD (hu64 hr)) does_eq (e_v 1) (e_str) (nomark _))
 (ss_cons (s_expr (e_call (ok_tell_start T) cx.tk (hr.mono (by omega)) T.g_tell_start T.F_tell_start.kp T.b_tell_start (a_cons (e_v 0) (a_nil))))
 (ss_cons (s_fld T.k_Tokens T.n_Tokens_reading (e_v 0) (e_str))
 (ss_nil)))
 (ss_cons (s_never)
 (ss_nil)))
 (ss_nil)))
 (ss_nil)))
 (ss_nil)))
theorem sc_read_gap : FnScope ["tokens", "sign"] ["tokens", "sign"] (defScope s_read_gap) := ⟨rfl, rfl, rfl, by decide +kernel, rfl, by decide +kernel, by decide +kernel⟩
theorem ok_read_gap (T : Txt K w mg a) : FnOk P w K mg base (L2.CX P w) 3 a.a_read_gap a.d_read_gap ["tokens", "sign"] (spX K 2 (m_read_gap a)) :=
  fnGc (ok_def (k := 2) T.F_read_gap sc_read_gap fun cdv A outer s H E hr cx =>
 (ss_cons (s_if (t_cmp op_notInAny does_notIn (e_v 1) (e_gstr T.c_LETTERS.choose_spec) (by rfl))
 (ss_cons (s_expr (e_call (ok_read_valued T) cx.tk (hr.mono (by omega)) T.g_read_valued T.F_read_valued.kp T.b_read_valued (a_cons (e_v 0) (a_cons (e_v 1) (a_nil)))))
 (ss_nil))
 (ss_cons (s_if (t_cmp op_ge does_ge (e_cb cr_lenD does_lenD T.z_len (a_cons (e_fld T.k_Tokens T.n_Tokens_pairs (e_v 0)) (a_nil))) (e_gint T.c_MOST_ATTRIBUTES.choose_spec) (nomark _))
 (ss_cons (s_never)
 (ss_nil))
 (ss_cons (s_fld T.k_Tokens T.n_Tokens_attribute (e_v 0) (e_v 1))
 (ss_cons (s_fld T.k_Tokens T.n_Tokens_reading (e_v 0) (e_str))
 (ss_nil))))
 (ss_nil)))
 (ss_nil)))
theorem sc_read_name : FnScope ["tokens", "sign"] ["tokens", "sign"] (defScope s_read_name) := ⟨rfl, rfl, rfl, by decide +kernel, rfl, by decide +kernel, by decide +kernel⟩
theorem ok_read_name (T : Txt K w mg a) : FnOk P w K mg base (L2.CX P w) 3 a.a_read_name a.d_read_name ["tokens", "sign"] (spX K 2 (m_read_name a)) :=
  fnGc (ok_def (k := 2) T.F_read_name sc_read_name fun cdv A outer s H E hr cx =>
 (ss_cons (s_if (t_cmp op_inAny does_in (e_v 1) (e_gstr T.c_NAME_SIGNS.choose_spec) (by rfl))
 (ss_cons (s_fld T.k_Tokens T.n_Tokens_name (e_v 0) (e_call (ok_lengthened T) cx.tk (hr.mono (by omega)) T.g_lengthened T.F_lengthened.kp T.b_lengthened (a_cons (e_v 0) (a_cons (e_fld T.k_Tokens T.n_Tokens_name (e_v 0)) (a_cons (e_v 1) (a_nil))))))
 (ss_nil))
 (ss_cons (s_expr (e_call (ok_read_valued T) cx.tk (hr.mono (by omega)) T.g_read_valued T.F_read_valued.kp T.b_read_valued (a_cons (e_v 0) (a_cons (e_v 1) (a_nil)))))
 (ss_nil)))
 (ss_nil)))
theorem sc_read_dashes : FnScope ["tokens", "sign"] ["tokens", "sign"] (defScope s_read_dashes) := ⟨rfl, rfl, rfl, by decide +kernel, rfl, by decide +kernel, by decide +kernel⟩
theorem ok_read_dashes (T : Txt K w mg a) : FnOk P w K mg base (L2.CX P w) 2 a.a_read_dashes a.d_read_dashes ["tokens", "sign"] (spX K 2 (m_read_dashes a)) :=
  fnGc (ok_def (k := 1) T.F_read_dashes sc_read_dashes fun cdv A outer s H E hr cx =>
 (ss_cons (s_expr (e_call (ok_expect T) cx.tk (hr.mono (by omega)) T.g_expect T.F_expect.kp T.b_expect (a_cons (e_v 0) (a_cons (e_v 1) (a_cons (e_str) (a_cons (e_call (ok_between_tokens T) cx.tk (hr.mono (by omega)) T.g_between_tokens T.F_between_tokens.kp T.b_between_tokens (a_cons (e_v 0) (a_nil))) (a_nil)))))))
 (ss_nil)))
theorem sc_read_dash : FnScope ["tokens", "sign"] ["tokens", "sign"] (defScope s_read_dash) := ⟨rfl, rfl, rfl, by decide +kernel, rfl, by decide +kernel, by decide +kernel⟩
theorem ok_read_dash (T : Txt K w mg a) : FnOk P w K mg base (L2.CX P w) 1 a.a_read_dash a.d_read_dash ["tokens", "sign"] (spX K 2 (m_read_dash a)) :=
  fnGc (ok_def (k := 0) T.F_read_dash sc_read_dash fun cdv A outer s H E hr cx =>
 (ss_cons (s_if (t_cmp (op_eqD (hu64 hr)) does_eq (e_v 1) (e_str) (nomark _))
 (ss_cons (s_fld T.k_Tokens T.n_Tokens_reading (e_v 0) (e_str))
 (ss_nil))
 (ss_cons (s_fld T.k_Tokens T.n_Tokens_reading (e_v 0) (e_str))
 (ss_nil)))
 (ss_nil)))
theorem sc_read_comment : FnScope ["tokens", "sign"] ["tokens", "sign"] (defScope s_read_comment) := ⟨rfl, rfl, rfl, by decide +kernel, rfl, by decide +kernel, by decide +kernel⟩
theorem ok_read_comment (T : Txt K w mg a) : FnOk P w K mg base (L2.CX P w) 1 a.a_read_comment a.d_read_comment ["tokens", "sign"] (spX K 2 (m_read_comment a)) :=
  fnGc (ok_def (k := 0) T.F_read_comment sc_read_comment fun cdv A outer s H E hr cx =>
 (ss_cons (s_if (t_cmp (op_eqD (hu64 hr)) does_eq (e_v 1) (e_str) (nomark _))
 (ss_cons (s_fld T.k_Tokens T.n_Tokens_reading (e_v 0) (e_str))
 (ss_nil))
 (ss_nil))
 (ss_nil)))
theorem sc_read_bangs : FnScope ["tokens", "sign"] ["tokens", "sign"] (defScope s_read_bangs) := ⟨rfl, rfl, rfl, by decide +kernel, rfl, by decide +kernel, by decide +kernel⟩
theorem ok_read_bangs (T : Txt K w mg a) : FnOk P w K mg base (L2.CX P w) 2 a.a_read_bangs a.d_read_bangs ["tokens", "sign"] (spX K 2 (m_read_bangs a)) :=
  fnGc (ok_def (k := 1) T.F_read_bangs sc_read_bangs fun cdv A outer s H E hr cx =>
 (ss_cons (s_expr (e_call (ok_expect T) cx.tk (hr.mono (by omega)) T.g_expect T.F_expect.kp T.b_expect (a_cons (e_v 0) (a_cons (e_v 1) (a_cons (e_str) (a_cons (e_str) (a_nil)))))))
 (ss_nil)))
theorem sc_read_bang : FnScope ["tokens", "sign"] ["tokens", "sign"] (defScope s_read_bang) := ⟨rfl, rfl, rfl, by decide +kernel, rfl, by decide +kernel, by decide +kernel⟩
theorem ok_read_bang (T : Txt K w mg a) : FnOk P w K mg base (L2.CX P w) 2 a.a_read_bang a.d_read_bang ["tokens", "sign"] (spX K 2 (m_read_bang a)) :=
  fnGc (ok_def (k := 1) T.F_read_bang sc_read_bang fun cdv A outer s H E hr cx =>
 (ss_cons (s_expr (e_call (ok_expect T) cx.tk (hr.mono (by omega)) T.g_expect T.F_expect.kp T.b_expect (a_cons (e_v 0) (a_cons (e_v 1) (a_cons (e_str) (a_cons (e_str) (a_nil)))))))
 (ss_nil)))
theorem sc_begin_element : FnScope ["tokens", "sign"] ["tokens", "sign"] (defScope s_begin_element) := ⟨rfl, rfl, rfl, by decide +kernel, rfl, by decide +kernel, by decide +kernel⟩
theorem ok_begin_element (T : Txt K w mg a) : FnOk P w K mg base (L2.CX P w) 1 a.a_begin_element a.d_begin_element ["tokens", "sign"] (spX K 2 (m_begin_element a)) :=
  fnGc (ok_def (k := 0) T.F_begin_element sc_begin_element fun cdv A outer s H E hr cx =>
 (ss_cons (s_if (t_cmp op_ge does_ge (e_cb call_len does_len T.z_len (a_cons (e_fld T.k_Tokens T.n_Tokens_names (e_v 0)) (a_nil))) (e_gint T.c_MOST_DEPTH.choose_spec) (nomark _))
 (ss_cons (s_never)
 (ss_nil))
 (ss_nil))
 (ss_cons (s_fld T.k_Tokens T.n_Tokens_name (e_v 0) (e_v 1))
 (ss_cons (s_fld T.k_Tokens T.n_Tokens_pairs (e_v 0) (e_dict0))
 (ss_cons (s_fld T.k_Tokens T.n_Tokens_reading (e_v 0) (e_str))
 (ss_nil))))))
theorem sc_read_less : FnScope ["tokens", "sign"] ["tokens", "sign"] (defScope s_read_less) := ⟨rfl, rfl, rfl, by decide +kernel, rfl, by decide +kernel, by decide +kernel⟩
theorem ok_read_less (T : Txt K w mg a) : FnOk P w K mg base (L2.CX P w) 2 a.a_read_less a.d_read_less ["tokens", "sign"] (spX K 2 (m_read_less a)) :=
  fnGc (ok_def (k := 1) T.F_read_less sc_read_less fun cdv A outer s H E hr cx =>
 (ss_cons (s_if (t_cmp (op_eqD (hu64 hr)) does_eq (e_v 1) (e_str) (nomark _))
 (ss_cons (s_fld T.k_Tokens T.n_Tokens_reading (e_v 0) (e_str))
 (ss_nil))
 (ss_cons (s_if (PW.pt (w_and (t_cmp (op_eqD (hu64 hr)) does_eq (e_v 1) (e_str) (nomark _)) (w_1 (t_tr (e_fld T.k_Tokens T.n_Tokens_names (e_v 0))))))
 (ss_cons (s_fld T.k_Tokens T.n_Tokens_matched (e_v 0) (e_int))
 (ss_cons (s_fld T.k_Tokens T.n_Tokens_reading (e_v 0) (e_str))
 (ss_nil)))
 (ss_cons (s_if (PW.pt (w_and (t_cmp op_inAny does_in (e_v 1) (e_gstr T.c_LETTERS.choose_spec) (by rfl)) (w_1 (t_not (t_tr (e_fld T.k_Tokens T.n_Tokens_ended (e_v 0)))))))
 (ss_cons (s_expr (e_call (ok_begin_element T) cx.tk (hr.mono (by omega)) T.g_begin_element T.F_begin_element.kp T.b_begin_element (a_cons (e_v 0) (a_cons (e_v 1) (a_nil)))))
 (ss_nil))
 (ss_cons (s_never)
 (ss_nil)))
 (ss_nil)))
 (ss_nil)))
 (ss_nil)))
theorem sc_read_content : FnScope ["tokens", "sign"] ["tokens", "sign"] (defScope s_read_content) := ⟨rfl, rfl, rfl, by decide +kernel, rfl, by decide +kernel, by decide +kernel⟩
theorem ok_read_content (T : Txt K w mg a) : FnOk P w K mg base (L2.CX P w) 2 a.a_read_content a.d_read_content ["tokens", "sign"] (spX K 2 (m_read_content a)) :=
  fnGc (ok_def (k := 1) T.F_read_content sc_read_content fun cdv A outer s H E hr cx =>
 (ss_cons (s_if (t_cmp (op_eqD (hu64 hr)) does_eq (e_v 1) (e_str) (nomark _))
 (ss_cons (s_fld T.k_Tokens T.n_Tokens_reading (e_v 0) (e_str))
 (ss_nil))
 (ss_cons (s_if (t_cmp (op_eqD (hu64 hr)) does_eq (e_v 1) (e_str) (nomark _))
 (ss_cons (s_expr (e_call (ok_begin_entity T) cx.tk (hr.mono (by omega)) T.g_begin_entity T.F_begin_entity.kp T.b_begin_entity (a_cons (e_v 0) (a_cons (e_str) (a_nil)))))
 (ss_nil))
 (ss_cons (s_expr (e_mt PySem.F.plainAttrs_list PySem.F.slot_list_append PySem.F.type_list_append mt_append does_append recv_lst (e_fld T.k_Tokens T.n_Tokens_told (e_v 0)) (a_cons (e_tup (a_cons (e_str) (a_cons (e_v 1) (a_nil)))) (a_nil))))
 (ss_nil)))
 (ss_nil)))
 (ss_nil)))
theorem sc_read_outside : FnScope ["tokens", "sign"] ["tokens", "sign"] (defScope s_read_outside) := ⟨rfl, rfl, rfl, by decide +kernel, rfl, by decide +kernel, by decide +kernel⟩
theorem ok_read_outside (T : Txt K w mg a) : FnOk P w K mg base (L2.CX P w) 1 a.a_read_outside a.d_read_outside ["tokens", "sign"] (spX K 2 (m_read_outside a)) :=
  fnGc (ok_def (k := 0) T.F_read_outside sc_read_outside fun cdv A outer s H E hr cx =>
 (ss_cons (s_if (t_cmp (op_eqD (hu64 hr)) does_eq (e_v 1) (e_str) (nomark _))
 (ss_cons (s_fld T.k_Tokens T.n_Tokens_reading (e_v 0) (e_str))
 (ss_nil))
 (ss_cons (s_if (t_cmp op_notInAny does_notIn (e_v 1) (e_gstr T.c_BLANKS.choose_spec) (by rfl))
 (ss_cons (s_never)
 (ss_nil))
 (ss_nil))
 (ss_nil)))
 (ss_nil)))
theorem sc_Tokens_feed : FnScope ["self", "data", "byte", "sign", "reader"] ["self", "data"] (defScope s_Tokens_feed) := ⟨rfl, rfl, rfl, by decide +kernel, rfl, by decide +kernel, by decide +kernel⟩
theorem ok_Tokens_feed (T : Txt K w mg a) : FnOk P w K mg base (L2.CX P w) 4 a.a_Tokens_feed a.d_Tokens_feed ["self", "data"] (spX K 2 (m_Tokens_feed a)) :=
  fnGc (ok_def (k := 3) T.F_Tokens_feed sc_Tokens_feed fun cdv A outer s H E hr cx =>
 (ss_cons (s_if (PW.pt (w_or (t_not (t_tr (e_isi (e_v 1) T.z_isinstance T.z_list))) (w_1 (t_not (t_tr (e_cb (cr_all rfl) does_all T.z_all (a_cons (e_lc (own := [("byte", 2)]) rfl sc_Tokens_feed.nd (blkOk_by (N := ["self", "data", "byte", "sign", "reader"]) (sc := defScope s_Tokens_feed) (by decide +kernel)) (i_it (e_v 1)) (fun _ _ _ _ _ => g_name 2 sc_Tokens_feed.nd) (fun _ _ _ _ _ => ts_nil) (fun _ _ _ _ _ => e_call (ok_is_integer T) takesW0 (hr.mono (by omega)) T.g_is_integer T.F_is_integer.kp T.b_is_integer (a_cons (e_v 2) (a_nil)))) (a_nil))))))))
 (ss_cons (s_never)
 (ss_nil))
 (ss_nil))
 (ss_cons (s_fld T.k_Tokens T.n_Tokens_told (e_v 0) (e_lst (a_nil)))
 (ss_cons (s_for cx.own rfl (i_it (e_v 1)) (g_name 2 sc_Tokens_feed.nd)
 (ss_cons (s_set 3 sc_Tokens_feed.nd (e_call (ok_sign_of T) cx.tk (hr.mono (by omega)) T.g_sign_of T.F_sign_of.kp T.b_sign_of (a_cons (e_v 2) (a_nil))))
 (ss_cons (s_if (t_cmp (op_eqD (hu64 hr)) does_eq (e_v 3) (e_str) (nomark _))
 (ss_cons (s_never)
 (ss_nil))
 (ss_nil))
 (ss_cons (s_set 4 sc_Tokens_feed.nd (e_wget T.g_READERS T.w_READERS (e_fld T.k_Tokens T.n_Tokens_reading (e_v 0))))
 (ss_cons (s_expr (e_callL (lev := 3) 4 (.cons (ok_read_outside T) (by omega) T.F_read_outside.kp T.b_read_outside (.cons (ok_read_content T) (by omega) T.F_read_content.kp T.b_read_content (.cons (ok_read_less T) (by omega) T.F_read_less.kp T.b_read_less (.cons (ok_read_bang T) (by omega) T.F_read_bang.kp T.b_read_bang (.cons (ok_read_bangs T) (by omega) T.F_read_bangs.kp T.b_read_bangs (.cons (ok_read_comment T) (by omega) T.F_read_comment.kp T.b_read_comment (.cons (ok_read_dash T) (by omega) T.F_read_dash.kp T.b_read_dash (.cons (ok_read_dashes T) (by omega) T.F_read_dashes.kp T.b_read_dashes (.cons (ok_read_name T) (by omega) T.F_read_name.kp T.b_read_name (.cons (ok_read_valued T) (by omega) T.F_read_valued.kp T.b_read_valued (.cons (ok_read_gap T) (by omega) T.F_read_gap.kp T.b_read_gap (.cons (ok_read_attribute T) (by omega) T.F_read_attribute.kp T.b_read_attribute (.cons (ok_read_equals T) (by omega) T.F_read_equals.kp T.b_read_equals (.cons (ok_read_value T) (by omega) T.F_read_value.kp T.b_read_value (.cons (ok_read_slash T) (by omega) T.F_read_slash.kp T.b_read_slash (.cons (ok_read_end_name T) (by omega) T.F_read_end_name.kp T.b_read_end_name (.cons (ok_read_entity T) (by omega) T.F_read_entity.kp T.b_read_entity (.nil)))))))))))))))))) cx.tk (hr.mono (by omega)) (a_cons (e_v 0) (a_cons (e_v 3) (a_nil)))))
 (ss_cons (s_augF T.k_Tokens T.n_Tokens_place (e_v 0) (e_int))
 (ss_nil)))))))
 (ss_cons (s_ret (e_fld T.k_Tokens T.n_Tokens_told (e_v 0)))
 (ss_nil))))))
theorem sc_Tokens_init : FnScope ["self"] ["self"] (defScope s_Tokens_init) := ⟨rfl, rfl, rfl, by decide +kernel, rfl, by decide +kernel, by decide +kernel⟩
theorem ok_Tokens_init (T : Txt K w mg a) : FnOk P w K mg base (L2.CX P w) 1 a.a_Tokens_init a.d_Tokens_init ["self"] (spX K 1 (m_Tokens_init a)) :=
  fnGc (ok_def (k := 0) T.F_Tokens_init sc_Tokens_init fun cdv A outer s H E hr cx =>
 (ss_cons (s_fld T.k_Tokens T.n_Tokens_place (e_v 0) (e_int))
 (ss_cons (s_fld T.k_Tokens T.n_Tokens_reading (e_v 0) (e_str))
 (ss_cons (s_fld T.k_Tokens T.n_Tokens_names (e_v 0) (e_lst (a_nil)))
 (ss_cons (s_fld T.k_Tokens T.n_Tokens_ended (e_v 0) (e_bl))
 (ss_cons (s_fld T.k_Tokens T.n_Tokens_name (e_v 0) (e_str))
 (ss_cons (s_fld T.k_Tokens T.n_Tokens_attribute (e_v 0) (e_str))
 (ss_cons (s_fld T.k_Tokens T.n_Tokens_pairs (e_v 0) (e_dict0))
 (ss_cons (s_fld T.k_Tokens T.n_Tokens_signs (e_v 0) (e_lst (a_nil)))
 (ss_cons (s_fld T.k_Tokens T.n_Tokens_entity (e_v 0) (e_str))
 (ss_cons (s_fld T.k_Tokens T.n_Tokens_matched (e_v 0) (e_int))
 (ss_cons (s_fld T.k_Tokens T.n_Tokens_around (e_v 0) (e_str))
 (ss_cons (s_fld T.k_Tokens T.n_Tokens_told (e_v 0) (e_lst (a_nil)))
 (ss_nil))))))))))))))
theorem sc_read_text : FnScope ["data", "tokens", "events"] ["data"] (defScope s_read_text) := ⟨rfl, rfl, rfl, by decide +kernel, rfl, by decide +kernel, by decide +kernel⟩
theorem ok_read_text (T : Txt K w mg a) : FnOk P w K mg base (L2.CX P w) 5 a.a_read_text a.d_read_text ["data"] (spX K 1 (m_read_text a)) :=
  fnGc (ok_def (k := 4) T.F_read_text sc_read_text fun cdv A outer s H E hr cx =>
 (ss_cons (s_set 1 sc_read_text.nd (e_make0 T.mk_Tokens (ok_Tokens_init T) cx.tk (hr.mono (by omega)) T.gc_Tokens T.b_Tokens_init))
 (ss_cons (s_set 2 sc_read_text.nd (e_meth T.k_Tokens T.m_Tokens_feed (ok_Tokens_feed T) cx.tk (hr.mono (by omega)) T.b_Tokens_feed (e_v 1) (a_cons (e_v 0) (a_nil))))
 (ss_cons (s_expr (e_meth0 T.k_Tokens T.m_Tokens_close (ok_Tokens_close T) cx.tk (hr.mono (by omega)) T.b_Tokens_close (e_v 1)))
 (ss_cons (s_ret (e_v 2))
 (ss_nil))))))
theorem sc_law_tape : FnScope ["script", "tape", "k", "value", "step"] ["script"] (defScope s_law_tape) := ⟨rfl, rfl, rfl, by decide +kernel, rfl, by decide +kernel, by decide +kernel⟩
theorem ok_law_tape (T : Txt K w mg a) : FnOk P w K mg base (L2.CX P w) 1 a.a_law_tape a.d_law_tape ["script"] (spX K 1 (m_law_tape a)) :=
  fnGc (ok_def (k := 0) T.F_law_tape sc_law_tape fun cdv A outer s H E hr cx =>
 (ss_cons (s_set 1 sc_law_tape.nd (e_lst (a_nil)))
 (ss_cons (s_for cx.own rfl (i_range T.z_range (a_cons (e_cb call_len does_len T.z_len (a_cons (e_v 0) (a_nil))) (a_nil))) (g_name 2 sc_law_tape.nd)
 (ss_cons (s_set 3 sc_law_tape.nd (e_cb call_abs does_abs T.z_abs (a_cons (e_ct call_int3 does_int3 T.z_int (a_cons (e_ix (e_v 0) (e_v 2)) (a_nil))) (a_nil))))
 (ss_cons (s_if (t_cmp op_ge does_ge (e_v 3) (e_op op_pow does_pow (e_int) (e_int)) (nomark _))
 (ss_cons (s_for cx.own rfl (i_range T.z_range (a_cons (e_int) (a_nil))) (g_name 4 sc_law_tape.nd)
 (ss_cons (s_if (t_cmp op_gt does_gt (e_v 3) (e_int) (nomark _))
 (ss_cons (s_expr (e_mt PySem.F.plainAttrs_list PySem.F.slot_list_append PySem.F.type_list_append mt_append does_append recv_lst (e_v 1) (a_cons (e_op op_mod does_mod (e_v 3) (e_int)) (a_nil))))
 (ss_cons (s_set 3 sc_law_tape.nd (e_op op_fdiv does_div (e_v 3) (e_int)))
 (ss_nil)))
 (ss_nil))
 (ss_nil)))
 (ss_nil))
 (ss_cons (s_for cx.own rfl (i_range T.z_range (a_cons (e_int) (a_nil))) (g_name 4 sc_law_tape.nd)
 (ss_cons (s_set 3 sc_law_tape.nd (e_op op_mod does_mod (e_op op_addD does_addD (e_op op_addD does_addD (e_op op_mulA does_mulA (e_v 3) (e_int)) (e_op op_mulA does_mulA (e_int) (e_op op_addD does_addD (e_v 2) (e_int)))) (e_op op_mulA does_mulA (e_int) (e_v 4))) (e_int)))
 (ss_cons (s_set 3 sc_law_tape.nd (e_op op_mod does_mod (e_op op_mulA does_mulA (e_v 3) (e_int)) (e_int)))
 (ss_cons (s_expr (e_mt PySem.F.plainAttrs_list PySem.F.slot_list_append PySem.F.type_list_append mt_append does_append recv_lst (e_v 1) (a_cons (e_op op_mod does_mod (e_op op_fdiv does_div (e_v 3) (e_int)) (e_int)) (a_nil))))
 (ss_nil)))))
 (ss_nil)))
 (ss_nil))))
 (ss_cons (s_ret (e_v 1))
 (ss_nil)))))
theorem sc_law_at : FnScope ["tape", "k"] ["tape", "k"] (defScope s_law_at) := ⟨rfl, rfl, rfl, by decide +kernel, rfl, by decide +kernel, by decide +kernel⟩
theorem ok_law_at (T : Txt K w mg a) : FnOk P w K mg base (L2.CX P w) 1 a.a_law_at a.d_law_at ["tape", "k"] (spX K 2 (m_law_at a)) :=
  fnGc (ok_def (k := 0) T.F_law_at sc_law_at fun cdv A outer s H E hr cx =>
 (ss_cons (s_if (t_cmp op_ltD does_ltD (e_v 1) (e_cb call_len does_len T.z_len (a_cons (e_v 0) (a_nil))) (nomark _))
 (ss_cons (s_ret (e_ix (e_v 0) (e_v 1)))
 (ss_nil))
 (ss_nil))
 (ss_cons (s_ret (e_int))
 (ss_nil))))
theorem sc_law_pick : FnScope ["w", "many"] ["w", "many"] (defScope s_law_pick) := ⟨rfl, rfl, rfl, by decide +kernel, rfl, by decide +kernel, by decide +kernel⟩
theorem ok_law_pick (T : Txt K w mg a) : FnOk P w K mg base (L2.CX P w) 2 a.a_law_pick a.d_law_pick ["w", "many"] (spX K 2 (m_law_pick a)) :=
  fnGc (ok_def (k := 1) T.F_law_pick sc_law_pick fun cdv A outer s H E hr cx =>
 (ss_cons (s_subL (e_v 0) (e_int) (e_op op_addD does_addD (e_ix (e_v 0) (e_int)) (e_int)))
 (ss_cons (s_ret (e_op op_mod does_mod (e_op op_addD does_addD (e_op op_addD does_addD (e_op op_mulA does_mulA (e_call (ok_law_at T) cx.tk (hr.mono (by omega)) T.g_law_at T.F_law_at.kp T.b_law_at (a_cons (e_ix (e_v 0) (e_int)) (a_cons (e_op op_mod does_mod (e_ix (e_v 0) (e_int)) (e_int)) (a_nil)))) (e_int)) (e_op op_mulA does_mulA (e_ix (e_v 0) (e_int)) (e_ix (e_v 0) (e_int)))) (e_call (ok_law_at T) cx.tk (hr.mono (by omega)) T.g_law_at T.F_law_at.kp T.b_law_at (a_cons (e_ix (e_v 0) (e_int)) (a_cons (e_int) (a_nil))))) (e_v 1)))
 (ss_nil))))
theorem sc_law_signs : FnScope ["w", "many", "signs", "k"] ["w", "many"] (defScope s_law_signs) := ⟨rfl, rfl, rfl, by decide +kernel, rfl, by decide +kernel, by decide +kernel⟩
theorem ok_law_signs (T : Txt K w mg a) : FnOk P w K mg base (L2.CX P w) 3 a.a_law_signs a.d_law_signs ["w", "many"] (spX K 2 (m_law_signs a)) :=
  fnGc (ok_def (k := 2) T.F_law_signs sc_law_signs fun cdv A outer s H E hr cx =>
 (ss_cons (s_set 2 sc_law_signs.nd (e_str))
 (ss_cons (s_ret (e_mt PySem.F.plainAttrs_str PySem.F.slot_str_join PySem.F.type_str_join mt_joinR does_join recv_str (e_str) (a_cons (e_lc (own := [("k", 3)]) rfl sc_law_signs.nd (blkOk_by (N := ["w", "many", "signs", "k"]) (sc := defScope s_law_signs) (by decide +kernel)) (i_range T.z_range (a_cons (e_call (ok_law_pick T) cx.tk (hr.mono (by omega)) T.g_law_pick T.F_law_pick.kp T.b_law_pick (a_cons (e_v 0) (a_cons (e_v 1) (a_nil)))) (a_nil))) (fun _ _ _ _ _ => g_name 3 sc_law_signs.nd) (fun _ _ _ _ _ => ts_nil) (fun _ _ _ _ _ => e_ix (e_v 2) (e_call (ok_law_pick T) takesW0 (hr.mono (by omega)) T.g_law_pick T.F_law_pick.kp T.b_law_pick (a_cons (e_v 0) (a_cons (e_int) (a_nil)))))) (a_nil))))
 (ss_nil))))
theorem sc_law_attributes : FnScope ["w", "names", "found", "k"] ["w"] (defScope s_law_attributes) := ⟨rfl, rfl, rfl, by decide +kernel, rfl, by decide +kernel, by decide +kernel⟩
theorem ok_law_attributes (T : Txt K w mg a) : FnOk P w K mg base (L2.CX P w) 4 a.a_law_attributes a.d_law_attributes ["w"] (spX K 1 (m_law_attributes a)) :=
  fnGc (ok_def (k := 3) T.F_law_attributes sc_law_attributes fun cdv A outer s H E hr cx =>
 (ss_cons (s_set 1 sc_law_attributes.nd (e_lst (a_cons (e_str) (a_cons (e_str) (a_cons (e_str) (a_cons (e_str) (a_cons (e_str) (a_cons (e_str) (a_nil)))))))))
 (ss_cons (s_set 2 sc_law_attributes.nd (e_dict0))
 (ss_cons (s_for cx.own rfl (i_range T.z_range (a_cons (e_call (ok_law_pick T) cx.tk (hr.mono (by omega)) T.g_law_pick T.F_law_pick.kp T.b_law_pick (a_cons (e_v 0) (a_cons (e_int) (a_nil)))) (a_nil))) (g_name 3 sc_law_attributes.nd)
 (ss_cons (s_put (hu_of hr) (e_v 2) (e_ix (e_v 1) (e_call (ok_law_pick T) cx.tk (hr.mono (by omega)) T.g_law_pick T.F_law_pick.kp T.b_law_pick (a_cons (e_v 0) (a_cons (e_int) (a_nil))))) (e_call (ok_law_signs T) cx.tk (hr.mono (by omega)) T.g_law_signs T.F_law_signs.kp T.b_law_signs (a_cons (e_v 0) (a_cons (e_int) (a_nil)))))
 (ss_nil)))
 (ss_cons (s_ret (e_ct call_tuple_of does_tuple T.z_tuple (a_cons (e_sortIt (hu64 hr) rfl T.z_sorted (e_v 2)) (a_nil))))
 (ss_nil))))))
theorem sc_law_tree : FnScope ["w", "level", "children", "k"] ["w", "level"] (defScope s_law_tree) := ⟨rfl, rfl, rfl, by decide +kernel, rfl, by decide +kernel, by decide +kernel⟩
theorem ok_law_tree (T : Txt K w mg a) : ∀ n : Nat, FnOk P w K mg base (L2.CX P w) (4 + n) a.a_law_tree a.d_law_tree ["w", "level"] (spX K 2 (m_law_tree a n))
  | 0 => FnOk.none
  | n + 1 => by
    have ih := ok_law_tree T n
    exact fnGc (ok_def (k := 4 + n) T.F_law_tree sc_law_tree fun cdv A outer s H E hr cx =>
 (ss_cons (s_set 2 sc_law_tree.nd (e_lst (a_nil)))
 (ss_cons (s_for cx.own rfl (i_range T.z_range (a_cons (e_call (ok_law_pick T) cx.tk (hr.mono (by omega)) T.g_law_pick T.F_law_pick.kp T.b_law_pick (a_cons (e_v 0) (a_cons (e_ix (e_lst (a_cons (e_int) (a_cons (e_int) (a_cons (e_int) (a_cons (e_int) (a_nil)))))) (e_cb (call_min2 rfl) does_min2 T.z_min (a_cons (e_v 1) (a_cons (e_int) (a_nil))))) (a_nil)))) (a_nil))) (g_name 3 sc_law_tree.nd)
 (ss_cons (s_if (PW.pt (w_and (t_cmp (op_eqD (hu64 hr)) does_eq (e_call (ok_law_pick T) cx.tk (hr.mono (by omega)) T.g_law_pick T.F_law_pick.kp T.b_law_pick (a_cons (e_v 0) (a_cons (e_int) (a_nil)))) (e_int) (nomark _)) (w_1 (t_cmp op_ltD does_ltD (e_v 1) (e_int) (nomark _)))))
 (ss_cons (s_expr (e_mt PySem.F.plainAttrs_list PySem.F.slot_list_append PySem.F.type_list_append mt_append does_append recv_lst (e_v 2) (a_cons (e_call (ih) cx.tk (hr.mono (by omega)) T.g_law_tree T.F_law_tree.kp T.b_law_tree (a_cons (e_v 0) (a_cons (e_op op_addD does_addD (e_v 1) (e_int)) (a_nil)))) (a_nil))))
 (ss_nil))
 (ss_cons (s_set 2 sc_law_tree.nd (e_op op_addD does_addD (e_v 2) (e_ct (call_listE rfl) does_listE T.z_list (a_cons (e_call (ok_law_signs T) cx.tk (hr.mono (by omega)) T.g_law_signs T.F_law_signs.kp T.b_law_signs (a_cons (e_v 0) (a_cons (e_int) (a_nil)))) (a_nil)))))
 (ss_nil)))
 (ss_nil)))
 (ss_cons (s_ret (e_tup (a_cons (e_ix (e_lst (a_cons (e_str) (a_cons (e_str) (a_cons (e_str) (a_cons (e_str) (a_cons (e_str) (a_cons (e_str) (a_nil)))))))) (e_call (ok_law_pick T) cx.tk (hr.mono (by omega)) T.g_law_pick T.F_law_pick.kp T.b_law_pick (a_cons (e_v 0) (a_cons (e_int) (a_nil))))) (a_cons (e_call (ok_law_attributes T) cx.tk (hr.mono (by omega)) T.g_law_attributes T.F_law_attributes.kp T.b_law_attributes (a_cons (e_v 0) (a_nil))) (a_cons (e_ct call_tuple_of does_tuple T.z_tuple (a_cons (e_v 2) (a_nil))) (a_nil))))))
 (ss_nil)))))
theorem sc_law_blanks : FnScope ["w", "least", "k"] ["w", "least"] (defScope s_law_blanks) := ⟨rfl, rfl, rfl, by decide +kernel, rfl, by decide +kernel, by decide +kernel⟩
theorem ok_law_blanks (T : Txt K w mg a) : FnOk P w K mg base (L2.CX P w) 3 a.a_law_blanks a.d_law_blanks ["w", "least"] (spX K 2 (m_law_blanks a)) :=
  fnGc (ok_def (k := 2) T.F_law_blanks sc_law_blanks fun cdv A outer s H E hr cx =>
 (ss_cons (s_ret (e_mt PySem.F.plainAttrs_str PySem.F.slot_str_join PySem.F.type_str_join mt_joinR does_join recv_str (e_str) (a_cons (e_lc (own := [("k", 2)]) rfl sc_law_blanks.nd (blkOk_by (N := ["w", "least", "k"]) (sc := defScope s_law_blanks) (by decide +kernel)) (i_range T.z_range (a_cons (e_op op_addD does_addD (e_v 1) (e_ct call_int3 does_int3 T.z_int (a_cons (e_cmp (op_eqD (hu64 hr)) does_eq (e_call (ok_law_pick T) cx.tk (hr.mono (by omega)) T.g_law_pick T.F_law_pick.kp T.b_law_pick (a_cons (e_v 0) (a_cons (e_int) (a_nil)))) (e_int) (nomark _)) (a_nil)))) (a_nil))) (fun _ _ _ _ _ => g_name 2 sc_law_blanks.nd) (fun _ _ _ _ _ => ts_nil) (fun _ _ _ _ _ => e_ix (e_str) (e_call (ok_law_pick T) takesW0 (hr.mono (by omega)) T.g_law_pick T.F_law_pick.kp T.b_law_pick (a_cons (e_v 0) (a_cons (e_int) (a_nil)))))) (a_nil))))
 (ss_nil)))
theorem sc_law_remark : FnScope ["w"] ["w"] (defScope s_law_remark) := ⟨rfl, rfl, rfl, by decide +kernel, rfl, by decide +kernel, by decide +kernel⟩
theorem ok_law_remark (T : Txt K w mg a) : FnOk P w K mg base (L2.CX P w) 3 a.a_law_remark a.d_law_remark ["w"] (spX K 1 (m_law_remark a)) :=
  fnGc (ok_def (k := 2) T.F_law_remark sc_law_remark fun cdv A outer s H E hr cx =>
 (ss_cons (s_if (t_cmp op_gt does_gt (e_call (ok_law_pick T) cx.tk (hr.mono (by omega)) T.g_law_pick T.F_law_pick.kp T.b_law_pick (a_cons (e_v 0) (a_cons (e_int) (a_nil)))) (e_int) (nomark _))
 (ss_cons (s_ret (e_str))
 (ss_nil))
 (ss_nil))
 (ss_cons (s_ret (e_op op_addD does_addD (e_op op_addD does_addD (e_str) (e_ix (e_lst (a_cons (e_str) (a_cons (e_str) (a_cons (e_str) (a_cons (e_str) (a_cons (e_str) (a_cons (e_str) (a_nil)))))))) (e_call (ok_law_pick T) cx.tk (hr.mono (by omega)) T.g_law_pick T.F_law_pick.kp T.b_law_pick (a_cons (e_v 0) (a_cons (e_int) (a_nil)))))) (e_str)))
 (ss_nil))))
theorem sc_law_written : FnScope ["w", "sign", "quoted", "words"] ["w", "sign", "quoted"] (defScope s_law_written) := ⟨rfl, rfl, rfl, by decide +kernel, rfl, by decide +kernel, by decide +kernel⟩
theorem ok_law_written (T : Txt K w mg a) : FnOk P w K mg base (L2.CX P w) 3 a.a_law_written a.d_law_written ["w", "sign", "quoted"] (spX K 3 (m_law_written a)) :=
  fnGc (ok_def (k := 2) T.F_law_written sc_law_written fun cdv A outer s H E hr cx =>
 (ss_cons (s_set 3 sc_law_written.nd (e_dispC (pps_cons pe_str pe_str (pps_cons pe_str pe_str (pps_cons pe_str pe_str (pps_cons pe_str pe_str (pps_nil))))) (.consS (fun _ _ => .str _) (.consS (fun _ _ => .str _) (.consS (fun _ _ => .str _) (.consS (fun _ _ => .str _) (.nil)))))))
 (ss_cons (s_if (PW.pt (w_or (t_cmp op_inAny does_in (e_v 1) (e_str) (by rfl)) (w_1 (PW.pt (w_and (t_cmp (op_eqD (hu64 hr)) does_eq (e_v 1) (e_str) (nomark _)) (w_1 (t_tr (e_v 2))))))))
 (ss_cons (s_ret (e_get (hu_of hr) (e_v 3) (e_v 1)))
 (ss_nil))
 (ss_nil))
 (ss_cons (s_if (PW.pt (w_and (t_pc (c_has (hu_of hr) (e_v 1) (e_v 3))) (w_1 (t_cmp (op_eqD (hu64 hr)) does_eq (e_call (ok_law_pick T) cx.tk (hr.mono (by omega)) T.g_law_pick T.F_law_pick.kp T.b_law_pick (a_cons (e_v 0) (a_cons (e_int) (a_nil)))) (e_int) (nomark _)))))
 (ss_cons (s_ret (e_get (hu_of hr) (e_v 3) (e_v 1)))
 (ss_nil))
 (ss_nil))
 (ss_cons (s_ret (e_v 1))
 (ss_nil))))))
theorem sc_law_start : FnScope ["w", "tree", "text", "rows", "name", "value", "sign"] ["w", "tree"] (defScope s_law_start) := ⟨rfl, rfl, rfl, by decide +kernel, rfl, by decide +kernel, by decide +kernel⟩
theorem ok_law_start (T : Txt K w mg a) : FnOk P w K mg base (L2.CX P w) 4 a.a_law_start a.d_law_start ["w", "tree"] (spX K 2 (m_law_start a)) :=
  fnGc (ok_def (k := 3) T.F_law_start sc_law_start fun cdv A outer s H E hr cx =>
 (ss_cons (s_set 2 sc_law_start.nd (e_op op_addD does_addD (e_str) (e_ix (e_v 1) (e_int))))
 (ss_cons (s_set 3 sc_law_start.nd (e_ct (call_listE rfl) does_listE T.z_list (a_cons (e_ix (e_v 1) (e_int)) (a_nil))))
 (ss_cons (s_if (t_cmp (op_eqD (hu64 hr)) does_eq (e_call (ok_law_pick T) cx.tk (hr.mono (by omega)) T.g_law_pick T.F_law_pick.kp T.b_law_pick (a_cons (e_v 0) (a_cons (e_int) (a_nil)))) (e_int) (nomark _))
 (ss_cons (s_set 3 sc_law_start.nd (e_rev2 (e_v 3)))
 (ss_nil))
 (ss_nil))
 (ss_cons (s_for cx.own rfl (i_it (e_v 3)) (g_tup rfl (gs_cons (g_name 4 sc_law_start.nd) (gs_cons (g_name 5 sc_law_start.nd) (gs_nil))))
 (ss_cons (s_set 2 sc_law_start.nd (e_op op_addD does_addD (e_op op_addD does_addD (e_op op_addD does_addD (e_op op_addD does_addD (e_op op_addD does_addD (e_v 2) (e_call (ok_law_blanks T) cx.tk (hr.mono (by omega)) T.g_law_blanks T.F_law_blanks.kp T.b_law_blanks (a_cons (e_v 0) (a_cons (e_int) (a_nil))))) (e_v 4)) (e_str)) (e_mt PySem.F.plainAttrs_str PySem.F.slot_str_join PySem.F.type_str_join mt_joinR does_join recv_str (e_str) (a_cons (e_lc (own := [("sign", 6)]) rfl sc_law_start.nd (blkOk_by (N := ["w", "tree", "text", "rows", "name", "value", "sign"]) (sc := defScope s_law_start) (by decide +kernel)) (i_it (e_v 5)) (fun _ _ _ _ _ => g_name 6 sc_law_start.nd) (fun _ _ _ _ _ => ts_nil) (fun _ _ _ _ _ => e_call (ok_law_written T) takesW0 (hr.mono (by omega)) T.g_law_written T.F_law_written.kp T.b_law_written (a_cons (e_v 0) (a_cons (e_v 6) (a_cons (e_bl) (a_nil)))))) (a_nil)))) (e_str)))
 (ss_nil)))
 (ss_cons (s_ret (e_op op_addD does_addD (e_v 2) (e_call (ok_law_blanks T) cx.tk (hr.mono (by omega)) T.g_law_blanks T.F_law_blanks.kp T.b_law_blanks (a_cons (e_v 0) (a_cons (e_int) (a_nil))))))
 (ss_nil)))))))
theorem sc_law_element : FnScope ["w", "tree", "out", "child"] ["w", "tree", "out"] (defScope s_law_element) := ⟨rfl, rfl, rfl, by decide +kernel, rfl, by decide +kernel, by decide +kernel⟩
theorem ok_law_element (T : Txt K w mg a) : ∀ n : Nat, FnOk P w K mg base (L2.CX P w) (4 + n) a.a_law_element a.d_law_element ["w", "tree", "out"] (spX K 3 (m_law_element a n))
  | 0 => FnOk.none
  | n + 1 => by
    have ih := ok_law_element T n
    exact fnGc (ok_def (k := 4 + n) T.F_law_element sc_law_element fun cdv A outer s H E hr cx =>
 (ss_cons (s_put (hu_of hr) (e_v 2) (e_str) (e_op op_addD does_addD (e_get (hu_of hr) (e_v 2) (e_str)) (e_call (ok_law_start T) cx.tk (hr.mono (by omega)) T.g_law_start T.F_law_start.kp T.b_law_start (a_cons (e_v 0) (a_cons (e_v 1) (a_nil))))))
 (ss_cons (s_if (PW.pt (w_and (t_cmp (op_eqD (hu64 hr)) does_eq (e_ix (e_v 1) (e_int)) (e_tup (a_nil)) (nomark _)) (w_1 (t_cmp (op_eqD (hu64 hr)) does_eq (e_call (ok_law_pick T) cx.tk (hr.mono (by omega)) T.g_law_pick T.F_law_pick.kp T.b_law_pick (a_cons (e_v 0) (a_cons (e_int) (a_nil)))) (e_int) (nomark _)))))
 (ss_cons (s_put (hu_of hr) (e_v 2) (e_str) (e_op op_addD does_addD (e_get (hu_of hr) (e_v 2) (e_str)) (e_str)))
 (ss_cons (s_put (hu_of hr) (e_v 2) (e_str) (e_op op_addD does_addD (e_get (hu_of hr) (e_v 2) (e_str)) (e_lst (a_cons (e_tup (a_cons (e_tup (a_cons (e_str) (a_cons (e_ix (e_v 1) (e_int)) (a_cons (e_ix (e_v 1) (e_int)) (a_nil))))) (a_cons (e_cb call_len does_len T.z_len (a_cons (e_get (hu_of hr) (e_v 2) (e_str)) (a_nil))) (a_nil)))) (a_cons (e_tup (a_cons (e_tup (a_cons (e_str) (a_cons (e_ix (e_v 1) (e_int)) (a_nil)))) (a_cons (e_cb call_len does_len T.z_len (a_cons (e_get (hu_of hr) (e_v 2) (e_str)) (a_nil))) (a_nil)))) (a_nil))))))
 (ss_cons (s_retN)
 (ss_nil))))
 (ss_nil))
 (ss_cons (s_put (hu_of hr) (e_v 2) (e_str) (e_op op_addD does_addD (e_get (hu_of hr) (e_v 2) (e_str)) (e_str)))
 (ss_cons (s_expr (e_mt PySem.F.plainAttrs_list PySem.F.slot_list_append PySem.F.type_list_append mt_append does_append recv_lst (e_get (hu_of hr) (e_v 2) (e_str)) (a_cons (e_tup (a_cons (e_tup (a_cons (e_str) (a_cons (e_ix (e_v 1) (e_int)) (a_cons (e_ix (e_v 1) (e_int)) (a_nil))))) (a_cons (e_cb call_len does_len T.z_len (a_cons (e_get (hu_of hr) (e_v 2) (e_str)) (a_nil))) (a_nil)))) (a_nil))))
 (ss_cons (s_for cx.own rfl (i_it (e_ix (e_v 1) (e_int))) (g_name 3 sc_law_element.nd)
 (ss_cons (s_put (hu_of hr) (e_v 2) (e_str) (e_op op_addD does_addD (e_get (hu_of hr) (e_v 2) (e_str)) (e_call (ok_law_remark T) cx.tk (hr.mono (by omega)) T.g_law_remark T.F_law_remark.kp T.b_law_remark (a_cons (e_v 0) (a_nil)))))
 (ss_cons (s_if (t_tr (e_isi (e_v 3) T.z_isinstance T.z_str))
 (ss_cons (s_put (hu_of hr) (e_v 2) (e_str) (e_op op_addD does_addD (e_get (hu_of hr) (e_v 2) (e_str)) (e_call (ok_law_written T) cx.tk (hr.mono (by omega)) T.g_law_written T.F_law_written.kp T.b_law_written (a_cons (e_v 0) (a_cons (e_v 3) (a_cons (e_bl) (a_nil)))))))
 (ss_cons (s_expr (e_mt PySem.F.plainAttrs_list PySem.F.slot_list_append PySem.F.type_list_append mt_append does_append recv_lst (e_get (hu_of hr) (e_v 2) (e_str)) (a_cons (e_tup (a_cons (e_tup (a_cons (e_str) (a_cons (e_v 3) (a_nil)))) (a_cons (e_cb call_len does_len T.z_len (a_cons (e_get (hu_of hr) (e_v 2) (e_str)) (a_nil))) (a_nil)))) (a_nil))))
 (ss_nil)))
 (ss_cons (s_expr (e_call (ih) cx.tk (hr.mono (by omega)) T.g_law_element T.F_law_element.kp T.b_law_element (a_cons (e_v 0) (a_cons (e_v 3) (a_cons (e_v 2) (a_nil))))))
 (ss_nil)))
 (ss_nil))))
 (ss_cons (s_put (hu_of hr) (e_v 2) (e_str) (e_op op_addD does_addD (e_op op_addD does_addD (e_op op_addD does_addD (e_op op_addD does_addD (e_op op_addD does_addD (e_get (hu_of hr) (e_v 2) (e_str)) (e_call (ok_law_remark T) cx.tk (hr.mono (by omega)) T.g_law_remark T.F_law_remark.kp T.b_law_remark (a_cons (e_v 0) (a_nil)))) (e_str)) (e_ix (e_v 1) (e_int))) (e_call (ok_law_blanks T) cx.tk (hr.mono (by omega)) T.g_law_blanks T.F_law_blanks.kp T.b_law_blanks (a_cons (e_v 0) (a_cons (e_int) (a_nil))))) (e_str)))
 (ss_cons (s_expr (e_mt PySem.F.plainAttrs_list PySem.F.slot_list_append PySem.F.type_list_append mt_append does_append recv_lst (e_get (hu_of hr) (e_v 2) (e_str)) (a_cons (e_tup (a_cons (e_tup (a_cons (e_str) (a_cons (e_ix (e_v 1) (e_int)) (a_nil)))) (a_cons (e_cb call_len does_len T.z_len (a_cons (e_get (hu_of hr) (e_v 2) (e_str)) (a_nil))) (a_nil)))) (a_nil))))
 (ss_nil)))))))))
theorem sc_law_document : FnScope ["w", "out"] ["w"] (defScope s_law_document) := ⟨rfl, rfl, rfl, by decide +kernel, rfl, by decide +kernel, by decide +kernel⟩
theorem ok_law_document (T : Txt K w mg a) : FnOk P w K mg base (L2.CX P w) 13 a.a_law_document a.d_law_document ["w"] (spX K 1 (m_law_document a)) :=
  fnGc (ok_def (k := 12) T.F_law_document sc_law_document fun cdv A outer s H E hr cx =>
 (ss_cons (s_set 1 sc_law_document.nd (e_dispV (pps_cons pe_str (e_op op_addD does_addD (e_op op_addD does_addD (e_call (ok_law_blanks T) cx.tk (hr.mono (by omega)) T.g_law_blanks T.F_law_blanks.kp T.b_law_blanks (a_cons (e_v 0) (a_cons (e_int) (a_nil)))) (e_call (ok_law_remark T) cx.tk (hr.mono (by omega)) T.g_law_remark T.F_law_remark.kp T.b_law_remark (a_cons (e_v 0) (a_nil)))) (e_call (ok_law_blanks T) cx.tk (hr.mono (by omega)) T.g_law_blanks T.F_law_blanks.kp T.b_law_blanks (a_cons (e_v 0) (a_cons (e_int) (a_nil))))) (pps_cons pe_str (e_lst (a_nil)) (pps_nil))) (.consS (.consS (.nil)))))
 (ss_cons (s_expr (e_call (ok_law_element T 7) cx.tk (hr.mono (by omega)) T.g_law_element T.F_law_element.kp T.b_law_element (a_cons (e_v 0) (a_cons (e_call (ok_law_tree T 7) cx.tk (hr.mono (by omega)) T.g_law_tree T.F_law_tree.kp T.b_law_tree (a_cons (e_v 0) (a_cons (e_int) (a_nil)))) (a_cons (e_v 1) (a_nil))))))
 (ss_cons (s_put (hu_of hr) (e_v 1) (e_str) (e_op op_addD does_addD (e_op op_addD does_addD (e_op op_addD does_addD (e_get (hu_of hr) (e_v 1) (e_str)) (e_call (ok_law_blanks T) cx.tk (hr.mono (by omega)) T.g_law_blanks T.F_law_blanks.kp T.b_law_blanks (a_cons (e_v 0) (a_cons (e_int) (a_nil))))) (e_call (ok_law_remark T) cx.tk (hr.mono (by omega)) T.g_law_remark T.F_law_remark.kp T.b_law_remark (a_cons (e_v 0) (a_nil)))) (e_call (ok_law_blanks T) cx.tk (hr.mono (by omega)) T.g_law_blanks T.F_law_blanks.kp T.b_law_blanks (a_cons (e_v 0) (a_cons (e_int) (a_nil))))))
 (ss_cons (s_ret (e_v 1))
 (ss_nil))))))
theorem sc_law_bytes : FnScope ["text", "sign"] ["text"] (defScope s_law_bytes) := ⟨rfl, rfl, rfl, by decide +kernel, rfl, by decide +kernel, by decide +kernel⟩
theorem ok_law_bytes (T : Txt K w mg a) : FnOk P w K mg base (L2.CX P w) 1 a.a_law_bytes a.d_law_bytes ["text"] (spX K 1 (m_law_bytes a)) :=
  fnGc (ok_def (k := 0) T.F_law_bytes sc_law_bytes fun cdv A outer s H E hr cx =>
 (ss_cons (s_ret (e_lc (own := [("sign", 1)]) rfl sc_law_bytes.nd (blkOk_by (N := ["text", "sign"]) (sc := defScope s_law_bytes) (by decide +kernel)) (i_it (e_v 0)) (fun _ _ _ _ _ => g_name 1 sc_law_bytes.nd) (fun _ _ _ _ _ => ts_nil) (fun _ _ _ _ _ => e_cb call_ord does_ord T.z_ord (a_cons (e_v 1) (a_nil)))))
 (ss_nil)))
theorem sc_law_cuts : FnScope ["w", "many", "cuts", "k"] ["w", "many"] (defScope s_law_cuts) := ⟨rfl, rfl, rfl, by decide +kernel, rfl, by decide +kernel, by decide +kernel⟩
theorem ok_law_cuts (T : Txt K w mg a) : FnOk P w K mg base (L2.CX P w) 3 a.a_law_cuts a.d_law_cuts ["w", "many"] (spX K 2 (m_law_cuts a)) :=
  fnGc (ok_def (k := 2) T.F_law_cuts sc_law_cuts fun cdv A outer s H E hr cx =>
 (ss_cons (s_set 2 sc_law_cuts.nd (e_lst (a_cons (e_int) (a_nil))))
 (ss_cons (s_for cx.own rfl (i_range T.z_range (a_cons (e_call (ok_law_pick T) cx.tk (hr.mono (by omega)) T.g_law_pick T.F_law_pick.kp T.b_law_pick (a_cons (e_v 0) (a_cons (e_int) (a_nil)))) (a_nil))) (g_name 3 sc_law_cuts.nd)
 (ss_cons (s_expr (e_mt PySem.F.plainAttrs_list PySem.F.slot_list_append PySem.F.type_list_append mt_append does_append recv_lst (e_v 2) (a_cons (e_call (ok_law_pick T) cx.tk (hr.mono (by omega)) T.g_law_pick T.F_law_pick.kp T.b_law_pick (a_cons (e_v 0) (a_cons (e_op op_addD does_addD (e_v 1) (e_int)) (a_nil)))) (a_nil))))
 (ss_nil)))
 (ss_cons (s_ret (e_cb (call_sortA rfl) does_sorted T.z_sorted (a_cons (e_op op_addD does_addD (e_v 2) (e_lst (a_cons (e_v 1) (a_nil)))) (a_nil))))
 (ss_nil)))))
theorem sc_law : FnScope ["script", "w", "out", "data", "events", "turn", "cuts", "tokens", "k", "row", "piece", "passed", "told", "due"] ["script"] (defScope s_law) := ⟨rfl, rfl, rfl, by decide +kernel, rfl, by decide +kernel, by decide +kernel⟩
theorem ok_law (T : Txt K w mg a) : FnOk P w K mg base (L2.CX P w) 14 a.a_law a.d_law ["script"] (spX K 1 (m_law a)) :=
  fnGc (ok_def (k := 13) T.F_law sc_law fun cdv A outer s H E hr cx =>
 (ss_cons (s_if (PW.pt (w_or (t_cmp (op_neD (hu64 hr)) does_ne (e_gint T.c_MOST_DEPTH.choose_spec) (e_int) (nomark _)) (w_or (t_cmp (op_neD (hu64 hr)) does_ne (e_gint T.c_MOST_NAME.choose_spec) (e_int) (nomark _)) (w_or (t_not (t_tr (e_call (ok_is_name T) cx.tk (hr.mono (by omega)) T.g_is_name T.F_is_name.kp T.b_is_name (a_cons (e_str) (a_nil))))) (w_or (t_tr (e_call (ok_is_name T) cx.tk (hr.mono (by omega)) T.g_is_name T.F_is_name.kp T.b_is_name (a_cons (e_str) (a_nil)))) (w_or (t_tr (e_call (ok_is_name T) cx.tk (hr.mono (by omega)) T.g_is_name T.F_is_name.kp T.b_is_name (a_cons (e_str) (a_nil)))) (w_1 (t_tr (e_call (ok_is_name T) cx.tk (hr.mono (by omega)) T.g_is_name T.F_is_name.kp T.b_is_name (a_cons (e_str) (a_nil)))))))))))
 (ss_cons (s_ret (e_bl))
 (ss_nil))
 (ss_nil))
 (ss_cons (s_set 1 sc_law.nd (e_lst (a_cons (e_call (ok_law_tape T) cx.tk (hr.mono (by omega)) T.g_law_tape T.F_law_tape.kp T.b_law_tape (a_cons (e_v 0) (a_nil))) (a_cons (e_int) (a_nil)))))
 (ss_cons (s_set 2 sc_law.nd (e_call (ok_law_document T) cx.tk (hr.mono (by omega)) T.g_law_document T.F_law_document.kp T.b_law_document (a_cons (e_v 1) (a_nil))))
 (ss_cons (s_set 3 sc_law.nd (e_call (ok_law_bytes T) cx.tk (hr.mono (by omega)) T.g_law_bytes T.F_law_bytes.kp T.b_law_bytes (a_cons (e_get (hu_of hr) (e_v 2) (e_str)) (a_nil))))
 (ss_cons (s_setLc 4 (own := [("row", 9)]) rfl sc_law.nd (blkOk_by (N := ["script", "w", "out", "data", "events", "turn", "cuts", "tokens", "k", "row", "piece", "passed", "told", "due"]) (sc := defScope s_law) (by decide +kernel)) (i_it (e_get (hu_of hr) (e_v 2) (e_str))) (fun _ _ _ _ _ => g_name 9 sc_law.nd) (fun _ _ _ _ _ => ts_nil) (fun _ _ _ _ _ => e_ix (e_v 9) (e_int)) (sw_true rfl rfl rfl (by decide +kernel)))
 (ss_cons (s_if (t_cmp (op_neD (hu64 hr)) does_ne (e_call (ok_read_text T) cx.tk (hr.mono (by omega)) T.g_read_text T.F_read_text.kp T.b_read_text (a_cons (e_v 3) (a_nil))) (e_v 4) (nomark _))
 (ss_cons (s_ret (e_bl))
 (ss_nil))
 (ss_nil))
 (ss_cons (s_for cx.own rfl (i_range T.z_range (a_cons (e_int) (a_nil))) (g_name 5 sc_law.nd)
 (ss_cons (s_set 6 sc_law.nd (e_call (ok_law_cuts T) cx.tk (hr.mono (by omega)) T.g_law_cuts T.F_law_cuts.kp T.b_law_cuts (a_cons (e_v 1) (a_cons (e_cb call_len does_len T.z_len (a_cons (e_v 3) (a_nil))) (a_nil)))))
 (ss_cons (s_if (PW.pt (w_and (t_cmp (op_eqD (hu64 hr)) does_eq (e_v 5) (e_int) (nomark _)) (w_1 (t_cmp op_ltD does_ltD (e_cb call_len does_len T.z_len (a_cons (e_v 3) (a_nil))) (e_int) (nomark _)))))
 (ss_cons (s_set 6 sc_law.nd (e_lc (own := [("k", 8)]) rfl sc_law.nd (blkOk_by (N := ["script", "w", "out", "data", "events", "turn", "cuts", "tokens", "k", "row", "piece", "passed", "told", "due"]) (sc := defScope s_law) (by decide +kernel)) (i_range T.z_range (a_cons (e_op op_addD does_addD (e_cb call_len does_len T.z_len (a_cons (e_v 3) (a_nil))) (e_int)) (a_nil))) (fun _ _ _ _ _ => g_name 8 sc_law.nd) (fun _ _ _ _ _ => ts_nil) (fun _ _ _ _ _ => e_v 8)))
 (ss_nil))
 (ss_nil))
 (ss_cons (s_set 7 sc_law.nd (e_make0 T.mk_Tokens (ok_Tokens_init T) cx.tk (hr.mono (by omega)) T.gc_Tokens T.b_Tokens_init))
 (ss_cons (s_for cx.own rfl (i_range2 T.z_range (a_cons (e_int) (a_cons (e_cb call_len does_len T.z_len (a_cons (e_v 6) (a_nil))) (a_nil)))) (g_name 8 sc_law.nd)
 (ss_cons (s_set 10 sc_law.nd (e_slA (e_v 3) (o_some (e_ix (e_v 6) (e_op op_sub does_sub (e_v 8) (e_int)))) (o_some (e_ix (e_v 6) (e_v 8)))))
 (ss_cons (s_set 11 sc_law.nd (e_ct (call_listE rfl) does_listE T.z_list (a_cons (e_v 10) (a_nil))))
 (ss_cons (s_set 12 sc_law.nd (e_meth T.k_Tokens T.m_Tokens_feed (ok_Tokens_feed T) cx.tk (hr.mono (by omega)) T.b_Tokens_feed (e_v 7) (a_cons (e_v 11) (a_nil))))
 (ss_cons (s_setLc 13 (own := [("row", 9)]) rfl sc_law.nd (blkOk_by (N := ["script", "w", "out", "data", "events", "turn", "cuts", "tokens", "k", "row", "piece", "passed", "told", "due"]) (sc := defScope s_law) (by decide +kernel)) (i_it (e_get (hu_of hr) (e_v 2) (e_str))) (fun _ _ _ _ _ => g_name 9 sc_law.nd) (fun _ _ _ _ _ => ts_one (t_chain op_ltD does_ltD op_le does_le (e_ix (e_v 6) (e_op op_sub does_sub (e_v 8) (e_int))) (e_ix (e_v 9) (e_int)) (e_ix (e_v 6) (e_v 8)))) (fun _ _ _ _ _ => e_ix (e_v 9) (e_int)) (sw_true rfl rfl rfl (by decide +kernel)))
 (ss_cons (s_if (PW.pt (w_or (t_not (t_tr (e_isi (e_v 12) T.z_isinstance T.z_list))) (w_or (t_cmp (op_neD (hu64 hr)) does_ne (e_v 12) (e_v 13) (nomark _)) (w_1 (t_cmp (op_neD (hu64 hr)) does_ne (e_v 11) (e_v 10) (nomark _))))))
 (ss_cons (s_ret (e_bl))
 (ss_nil))
 (ss_nil))
 (ss_nil)))))))
 (ss_cons (s_if (t_cmp op_notN1 does_notN (e_meth0 T.k_Tokens T.m_Tokens_close (ok_Tokens_close T) cx.tk (hr.mono (by omega)) T.b_Tokens_close (e_v 7)) (e_non) (nomark _))
 (ss_cons (s_ret (e_bl))
 (ss_nil))
 (ss_nil))
 (ss_nil)))))))
 (ss_cons (s_ret (e_bl))
 (ss_nil))))))))))
end
end Law

set_option Elab.async false
set_option linter.all false
set_option maxRecDepth 100000
set_option maxHeartbeats 2000000
namespace Law
open PySem PySem.Spec PyProof.Rows L2 Rg
def isNm : List Nat → Bool
  | [] => false
  | c :: r => decide (r.length < 8) && (decide (c ∈ L_low) && (c :: r).all fun x => decide (x ∈ L_lowd))
def isSg (c : Nat) : Bool := decide (c ∈ L_pri) || decide (c ∈ [32, 9, 10])
def asc (ns : List (List Nat)) : Bool := (ns.zip ns.tail).all fun p => decide (p.1 < p.2)
/-- attributes as a value -/
def attD (as : List (List Nat × List Nat)) : D := .tup (as.map fun p => .tup [.str (tx p.1), .str (tx p.2)])
def okAtt (as : List (List Nat × List Nat)) : Bool := decide (as.length ≤ 8) && ((as.all fun p => isNm p.1 && p.2.all isSg) && asc (as.map (·.1)))
def shortA (as : List (List Nat × List Nat)) : Prop := as.length < 100 ∧ ∀ p ∈ as, p.1.length < 10000 ∧ p.2.length < 10000
abbrev sSt : Str := tx [115, 116, 97, 114, 116]
abbrev sEn : Str := tx [101, 110, 100]
abbrev sCh : Str := tx [99, 104, 97, 114]
def evS (n : List Nat) (as : List (List Nat × List Nat)) : D := .tup [.str sSt, .str (tx n), attD as]
def evE (n : List Nat) : D := .tup [.str sEn, .str (tx n)]
def evC (c : Nat) : D := .tup [.str sCh, .str ⟨#[c]⟩]
/-! ### trees -/
inductive F | nil | sg (c : Nat) (r : F) | el (n : List Nat) (as : List (List Nat × List Nat)) (ks r : F)
def kidsD : F → List D
  | .nil => []
  | .sg c r => .str ⟨#[c]⟩ :: kidsD r
  | .el n as ks r => .tup [.str (tx n), attD as, .tup (kidsD ks)] :: kidsD r
def evs : F → List D
  | .nil => []
  | .sg c r => evC c :: evs r
  | .el n as ks r => evS n as :: (evs ks ++ evE n :: evs r)
def goodA (as : List (List Nat × List Nat)) : Bool := okAtt as && (decide (as.length ≤ 3) && as.all fun p => decide (p.2.length < 10))
def goodF : F → Bool
  | .nil => true
  | .sg c r => isSg c && goodF r
  | .el n as ks r => (isNm n && goodA as) && (goodF ks && goodF r)
def szF : F → Nat
  | .nil => 0
  | .sg _ r => 1 + szF r
  | .el _ _ ks r => 2 + (szF ks + szF r)
def dpF : F → Nat
  | .nil => 0
  | .sg _ r => dpF r
  | .el _ _ ks r => max (dpF ks + 1) (dpF r)
theorem low_small : ∀ c ∈ L_lowd, c < 128 := by decide +kernel
theorem pri_small : ∀ c ∈ L_pri, c < 128 := by decide +kernel
theorem isNm_len {n : List Nat} (h : isNm n = true) : n.length ≤ 8 ∧ okL n = true := by
  cases n with
  | nil => cases h
  | cons c r =>
    unfold isNm at h
    rw [Bool.and_eq_true, Bool.and_eq_true] at h
    obtain ⟨h1, h2, h3⟩ := h
    refine ⟨by simp at h1 ⊢; omega, ?_⟩
    unfold okL
    rw [List.all_eq_true]
    intro x hx
    have := of_decide_eq_true (List.all_eq_true.mp h3 x hx)
    have := low_small x this
    exact decide_eq_true (by omega)
theorem isSg_small {c : Nat} (h : isSg c = true) : c < 128 := by
  unfold isSg at h
  rw [Bool.or_eq_true] at h
  rcases h with h | h
  · exact pri_small c (of_decide_eq_true h)
  · have := of_decide_eq_true h
    simp at this
    omega
theorem sg_okL {l : List Nat} (h : l.all isSg = true) : okL l = true := by
  unfold okL
  rw [List.all_eq_true] at h ⊢
  intro x hx
  have := isSg_small (h x hx)
  exact decide_eq_true (by omega)
theorem goodA_short {as : List (List Nat × List Nat)} (h : goodA as = true) : shortA as ∧ okAtt as = true := by
  unfold goodA at h
  rw [Bool.and_eq_true] at h
  have h1 := h.1
  unfold okAtt at h1
  rw [Bool.and_eq_true, Bool.and_eq_true] at h1
  refine ⟨⟨by have := of_decide_eq_true h1.1; omega, fun p hp => ⟨?_, ?_⟩⟩, h.1⟩
  · have := List.all_eq_true.mp h1.2.1 p hp
    rw [Bool.and_eq_true] at this
    have := (isNm_len this.1).1
    omega
  · have h2 := h.2
    rw [Bool.and_eq_true] at h2
    have := of_decide_eq_true (List.all_eq_true.mp h2.2 p hp)
    omega
theorem len_evs : ∀ f : F, (evs f).length = szF f
  | .nil => rfl
  | .sg _ r => by simp [evs, szF, len_evs r]; omega
  | .el _ _ ks r => by simp [evs, szF, len_evs ks, len_evs r]; omega
theorem len_kids : ∀ f : F, (kidsD f).length ≤ szF f
  | .nil => Nat.le_refl _
  | .sg _ r => by have := len_kids r; simp [kidsD, szF]; omega
  | .el _ _ ks r => by have := len_kids r; simp [kidsD, szF]; omega
def rootD (n : List Nat) (as : List (List Nat × List Nat)) (ks : F) : D := .tup [.str (tx n), attD as, .tup (kidsD ks)]
theorem low_att (k : Nat) (as : List (List Nat × List Nat)) : Low k (attD as) := by
  simp only [attD, low_tup, List.mem_map]
  rintro _ ⟨p, hp, rfl⟩
  simp
theorem low_evs (k : Nat) : ∀ (f : F), ∀ d ∈ evs f, Low k d
  | .nil, d, h => by cases h
  | .sg c r, d, h => by
    rcases List.mem_cons.mp h with rfl | h
    · simp [evC]
    · exact low_evs k r d h
  | .el n as ks r, d, h => by
    simp only [evs, List.mem_cons, List.mem_append] at h
    rcases h with rfl | h | rfl | h
    · simp [evS, low_att]
    · exact low_evs k ks d h
    · simp [evE]
    · exact low_evs k r d h
theorem set_at_ne {s : Stt} {i j : Nat} {o : O} (h : i ≠ j) : (s.set i o)[j]? = s[j]? := List.getElem?_set_ne h
theorem set_at_eq {s : Stt} {i : Nat} {o p : O} (h : s[i]? = some p) : (s.set i o)[i]? = some o := List.getElem?_set_self (List.getElem?_eq_some_iff.mp h).1
theorem okS {l : List Nat} (n : Nat) (h : okL l = true) : okD (n + 1) (.str (tx l)) = true := by
  show PyData.strOk (tx l) = true
  rw [strOk_l]; exact h
theorem okD_tup {n : Nat} {ds : List D} (h : ∀ d ∈ ds, okD n d = true) : okD (n + 1) (.tup ds) = true := List.all_eq_true.mpr h
theorem okD_att {as : List (List Nat × List Nat)} (h : goodA as = true) : okD 3 (attD as) = true := by
  refine okD_tup fun d hd => ?_
  obtain ⟨p, hp, rfl⟩ := List.mem_map.mp hd
  have h1 := (goodA_short h).2
  unfold okAtt at h1
  rw [Bool.and_eq_true, Bool.and_eq_true] at h1
  have := List.all_eq_true.mp h1.2.1 p hp
  rw [Bool.and_eq_true] at this
  refine okD_tup fun e he => ?_
  simp only [List.mem_cons, List.not_mem_nil, or_false] at he
  rcases he with rfl | rfl
  · exact okS 0 (isNm_len this.1).2
  · exact okS 0 (sg_okL this.2)
theorem okD_sg {c : Nat} (n : Nat) (h : isSg c = true) : okD (n + 1) (.str ⟨#[c]⟩) = true := okS (l := [c]) n (by
  have := isSg_small h
  have h2 : c < 1114112 := by omega
  simp [h2])
theorem okD_evs : ∀ (f : F), goodF f = true → ∀ d ∈ evs f, okD 4 d = true
  | .nil, _, d, h => by cases h
  | .sg c r, g, d, h => by
    simp only [goodF, Bool.and_eq_true] at g
    rcases List.mem_cons.mp h with rfl | h
    · refine okD_tup fun e he => ?_
      simp only [List.mem_cons, List.not_mem_nil, or_false] at he
      rcases he with rfl | rfl
      · exact okS 2 rfl
      · exact okD_sg 2 g.1
    · exact okD_evs r g.2 d h
  | .el n as ks r, g, d, h => by
    simp only [goodF, Bool.and_eq_true] at g
    simp only [evs, List.mem_cons, List.mem_append] at h
    rcases h with rfl | h | rfl | h
    · refine okD_tup fun e he => ?_
      simp only [List.mem_cons, List.not_mem_nil, or_false] at he
      rcases he with rfl | rfl | rfl
      · exact okS 2 rfl
      · exact okS 2 (isNm_len g.1.1).2
      · exact okD_att g.1.2
    · exact okD_evs ks g.2.1 d h
    · refine okD_tup fun e he => ?_
      simp only [List.mem_cons, List.not_mem_nil, or_false] at he
      rcases he with rfl | rfl
      · exact okS 2 rfl
      · exact okS 2 (isNm_len g.1.1).2
    · exact okD_evs r g.2.2 d h
theorem okD_kids : ∀ (f : F), goodF f = true → ∀ d ∈ kidsD f, okD (2 * dpF f + 4) d = true
  | .nil, _, d, h => by cases h
  | .sg c r, g, d, h => by
    simp only [goodF, Bool.and_eq_true] at g
    rcases List.mem_cons.mp h with rfl | h
    · exact okD_sg _ g.1
    · exact okD_kids r g.2 d h
  | .el n as ks r, g, d, h => by
    simp only [goodF, Bool.and_eq_true] at g
    rcases List.mem_cons.mp h with rfl | h
    · refine okD_le (m := 2 * dpF ks + 6) (by simp only [dpF]; omega) (okD_tup fun e he => ?_)
      simp only [List.mem_cons, List.not_mem_nil, or_false] at he
      rcases he with rfl | rfl | rfl
      · exact okS _ (isNm_len g.1.1).2
      · exact okD_le (by omega) (okD_att g.1.2)
      · exact okD_tup fun x hx => okD_kids ks g.2.1 x hx
    · exact okD_le (by simp only [dpF]; omega) (okD_kids r g.2.2 d h)
theorem okD_root {n : List Nat} {as : List (List Nat × List Nat)} {ks : F} (g : goodF (.el n as ks .nil) = true) : okD (2 * dpF ks + 6) (rootD n as ks) = true := by
  have := okD_kids (.el n as ks .nil) g (rootD n as ks) (by simp [kidsD, rootD])
  refine okD_le ?_ this
  simp [dpF]; omega
theorem oAdd_tx (x y : List Nat) (st : Stt) (h : x.length + y.length ≤ 16777216) : oAdd (.str (tx x)) (.str (tx y)) st = some (.str (tx (x ++ y)), st) := by
  rw [oAdd_ss, if_pos (by rw [sizeLine_eq]; exact h)]
  simp
theorem goodA_facts {as : List (List Nat × List Nat)} (h : goodA as = true) : as.length ≤ 3 ∧ ∀ p ∈ as, isNm p.1 = true ∧ p.2.all isSg = true ∧ p.2.length < 10 := by
  unfold goodA okAtt at h
  simp only [Bool.and_eq_true] at h
  obtain ⟨⟨_, h1, _⟩, h2, h3⟩ := h
  refine ⟨of_decide_eq_true h2, fun p hp => ?_⟩
  have := List.all_eq_true.mp h1 p hp
  rw [Bool.and_eq_true] at this
  exact ⟨this.1, this.2, of_decide_eq_true (List.all_eq_true.mp h3 p hp)⟩
end Law

set_option Elab.async false
set_option linter.all false
set_option maxRecDepth 100000
set_option maxHeartbeats 2000000
namespace Law
open PySem PySem.Spec PyProof.Rows L2 Rg
/-! ### the tape -/
theorem mem_ints {i : Int} {n k : Nat} {d : D} (h : (intsD i n)[k]? = some d) : k < n ∧ d = .int (i + k) := by
  unfold intsD at h
  rw [List.getElem?_map] at h
  obtain ⟨j, h1, h2⟩ := Option.map_eq_some_iff.mp h
  have hl := (List.getElem?_eq_some_iff.mp h1).1
  rw [List.length_range] at hl
  rw [List.getElem?_range hl] at h1
  cases h1
  exact ⟨hl, h2.symm⟩
theorem len_ints (i : Int) (n : Nat) : (intsD i n).length = n := by simp [intsD]
@[simp] theorem pw18 (st : Stt) : oPow (.int 10) (.int 18) st = some (.int 1000000000000000000, st) := by
  have : (10 : Int) ^ (18 : Nat) = 1000000000000000000 := by decide
  show (if CPow 10 18 then some (D.int (10 ^ (18 : Int).toNat), st) else none) = _
  rw [if_pos (by decide)]
  rfl
theorem mr (s k : Int) (h : -(2 ^ 64) < k ∧ k < 2 ^ 64) (st : Stt) : oMulA (.int s) (.int k) st = some (.int (s * k), st) := oMulA_r h st
section
variable (a : Ads)
theorem tape1 (x0 x2 : Option D) (ts : List Int) (v : Int) (x4 : Option D) (h : ts.length < 100000) : ∃ (ts' : List Int) (v' : Int) (x4' : Option D), ts'.length ≤ ts.length + 60 ∧ law_tape_f1 a [x0, some (.loc 0), x2, some (.int v), x4] [.lst (ts.map D.int)] = .nx [x0, some (.loc 0), x2, some (.int v'), x4'] [.lst (ts'.map D.int)] := by
  obtain ⟨ρ', st', e, ts', v', x4', h1, h2, h3⟩ := forF_inv (ok := fun _ => True) (g := gN 4) (f := law_tape_fb1 a) (its := intsD 0 60)
    (fun k ρ s => ∃ (ts' : List Int) (v' : Int) (x4' : Option D), ts'.length ≤ ts.length + k ∧ ρ = [x0, some (.loc 0), x2, some (.int v'), x4'] ∧ s = [.lst (ts'.map D.int)])
    (fun _ _ _ _ _ => trivial)
    (fun k d ρ s hd ⟨ts', v', x4', h1, hρ, hs⟩ => by
      subst hρ hs
      have hk := (mem_ints hd).1
      have hz : ts'.length < 16777216 := by omega
      refine ⟨_, rfl, ?_⟩
      by_cases hv : 0 < v'
      · refine ⟨_, _, .inl ?_, ts' ++ [v' % 1000], v' / 1000, some d, by simp; omega, rfl, rfl⟩
        simp [law_tape_fb1, law_tape_i1, hv, hz, oMod_i, oDiv_i]
      · refine ⟨_, _, .inl ?_, ts', v', some d, by omega, rfl, rfl⟩
        simp [law_tape_fb1, law_tape_i1, hv])
    (ρ := [x0, some (.loc 0), x2, some (.int v), x4]) (st := [.lst (ts.map D.int)]) ⟨ts, v, x4, by omega, rfl, rfl⟩
  subst h2 h3
  rw [len_ints] at h1
  refine ⟨ts', v', x4', h1, ?_⟩
  have hr : wkRange [.int 60] [O.lst (ts.map D.int)] = .ok ⟨intsD 0 60, fun _ => True⟩ [O.lst (ts.map D.int)] := wkRange_n (n := 60) (by omega) _
  simp [law_tape_f1, hr, e]
theorem tape2 (x0 : Option D) (k0 : Int) (ts : List Int) (v : Int) (x4 : Option D) (h : ts.length < 100000) : ∃ (ts' : List Int) (v' : Int) (x4' : Option D), ts'.length ≤ ts.length + 60 ∧ law_tape_f2 a [x0, some (.loc 0), some (.int k0), some (.int v), x4] [.lst (ts.map D.int)] = .nx [x0, some (.loc 0), some (.int k0), some (.int v'), x4'] [.lst (ts'.map D.int)] := by
  obtain ⟨ρ', st', e, ts', v', x4', h1, h2, h3⟩ := forF_inv (ok := fun _ => True) (g := gN 4) (f := law_tape_fb2 a) (its := intsD 0 4)
    (fun k ρ s => ∃ (ts' : List Int) (v' : Int) (x4' : Option D), ts'.length ≤ ts.length + k ∧ ρ = [x0, some (.loc 0), some (.int k0), some (.int v'), x4'] ∧ s = [.lst (ts'.map D.int)])
    (fun _ _ _ _ _ => trivial)
    (fun k d ρ s hd ⟨ts', v', x4', h1, hρ, hs⟩ => by
      subst hρ hs
      obtain ⟨hk, hd2⟩ := mem_ints hd
      rw [Int.zero_add] at hd2
      subst hd2
      have hz : ts'.length < 16777216 := by omega
      refine ⟨_, rfl, _, _, .inl ?_, ts' ++ [(((v' * 48271 + 69621 * (k0 + 1) + 7 * (k : Int)) % 2147483647) * 16807 % 2147483647) / 1000 % 1000], ((v' * 48271 + 69621 * (k0 + 1) + 7 * (k : Int)) % 2147483647) * 16807 % 2147483647, some (.int (k : Int)), by simp; omega, rfl, rfl⟩
      simp [law_tape_fb2, hz, oMod_i, oDiv_i, oMulA_r, oMulA_l])
    (ρ := [x0, some (.loc 0), some (.int k0), some (.int v), x4]) (st := [.lst (ts.map D.int)]) ⟨ts, v, x4, by omega, rfl, rfl⟩
  subst h2 h3
  rw [len_ints] at h1
  refine ⟨ts', v', x4', by omega, ?_⟩
  have hr : wkRange [.int 4] [O.lst (ts.map D.int)] = .ok ⟨intsD 0 4, fun _ => True⟩ [O.lst (ts.map D.int)] := wkRange_n (n := 4) (by omega) _
  simp [law_tape_f2, hr, e]
theorem tape_ok (ns : List Int) (hl : ns.length ≤ 63) : ∃ ts : List Int, ts.length < 100000 ∧ m_law_tape a [.cl (ns.map D.int)] [] = .ok (.loc 0) [.lst (ts.map D.int)] := by
  obtain ⟨ρ', st', e, ts', x2', x3', x4', h1, h2, h3⟩ := forF_inv (ok := fun _ => True) (g := gN 2) (f := law_tape_fb3 a) (its := intsD 0 ns.length)
    (fun k ρ s => ∃ (ts' : List Int) (x2 x3 x4 : Option D), ts'.length ≤ 60 * k ∧ ρ = [some (.cl (ns.map D.int)), some (.loc 0), x2, x3, x4] ∧ s = [.lst (ts'.map D.int)])
    (fun _ _ _ _ _ => trivial)
    (fun k d ρ s hd ⟨ts', x2, x3, x4, h1, hρ, hs⟩ => by
      subst hρ hs
      obtain ⟨hk, hd2⟩ := mem_ints hd
      rw [Int.zero_add] at hd2
      subst hd2
      have hx : atI (ns.map D.int) (k : Int) = some (.int ns[k]) := by
        exact atI_lit (by rw [List.getElem?_map, List.getElem?_eq_getElem hk]; rfl)
      refine ⟨_, rfl, ?_⟩
      by_cases hb : 1000000000000000000 ≤ (if ns[k] < 0 then -ns[k] else ns[k])
      · obtain ⟨ts2, v2, y4, g1, g2⟩ := tape1 a (some (.cl (ns.map D.int))) (some (.int (k : Int))) ts' (if ns[k] < 0 then -ns[k] else ns[k]) x4 (by omega)
        refine ⟨_, _, .inl ?_, ts2, some (.int (k : Int)), some (.int v2), y4, by omega, rfl, rfl⟩
        simp [law_tape_fb3, hx, law_tape_i2, hb, g2]
      · obtain ⟨ts2, v2, y4, g1, g2⟩ := tape2 a (some (.cl (ns.map D.int))) (k : Int) ts' (if ns[k] < 0 then -ns[k] else ns[k]) x4 (by omega)
        refine ⟨_, _, .inl ?_, ts2, some (.int (k : Int)), some (.int v2), y4, by omega, rfl, rfl⟩
        simp [law_tape_fb3, hx, law_tape_i2, hb, g2])
    (ρ := [some (.cl (ns.map D.int)), some (.loc 0), none, none, none]) (st := [.lst []]) ⟨[], none, none, none, by simp, rfl, rfl⟩
  subst h2 h3
  rw [len_ints] at h1
  refine ⟨ts', by omega, ?_⟩
  have hr := wkRange_n (n := ns.length) (by omega) [O.lst []]
  refine gcN (st := []) ⟨[.lst (ts'.map D.int)], 0, ?_, Nat.le_refl _, rfl⟩ (by simp)
  simp [f_law_tape, law_tape_f3, hr, e]
/-! ### picks -/
def Tw (ts : List Int) (n : Int) (Z : Stt) : Stt := .lst (ts.map D.int) :: .lst [.loc 0, .int n] :: Z
variable {ts : List Int} {n : Int} {Z : Stt}
theorem tw_app (J : Stt) : Tw ts n Z ++ J = Tw ts n (Z ++ J) := rfl
theorem tw_len : (Tw ts n Z).length = Z.length + 2 := rfl
@[simp high] theorem tw_0 : (Tw ts n Z)[0]? = some (.lst (ts.map D.int)) := rfl
@[simp high] theorem tw_1 : (Tw ts n Z)[1]? = some (.lst [.loc 0, .int n]) := rfl
theorem tw_at (k : Nat) : (Tw ts n Z)[k + 2]? = Z[k]? := rfl
theorem tw_set (k : Nat) (x : O) : (Tw ts n Z).set (k + 2) x = Tw ts n (Z.set k x) := rfl
theorem tw_new (J : Stt) (k : Nat) : (Tw ts n (Z ++ J))[(Tw ts n Z).length + k]? = J[k]? := by rw [← tw_app, at_add]
theorem tw_old (n' : Int) : ∀ k, k < (Tw ts n Z).length → (Tw ts n' Z)[k]? = (Tw ts n Z)[k]? ∨ ∃ o, (Tw ts n' Z)[k]? = some o ∧ LowO (Tw ts n Z).length o
  | 0, _ => .inl rfl
  | 1, _ => .inr ⟨_, rfl, by simp [tw_len]⟩
  | k + 2, _ => .inl rfl
theorem gcT {g : Fn} {ds : List D} {d : D} {n' : Int} (h : ∃ J, g ds (Tw ts n Z) = .ok d (Tw ts n' (Z ++ J))) (w : Low (Tw ts n Z).length d) : gcB g ds (Tw ts n Z) = .ok d (Tw ts n' Z) :=
  gcS (st := Tw ts n Z) (s := Tw ts n' Z) h rfl (tw_old n') w
theorem gcTN {g : Fn} {ds : List D} {o : O} {n' : Int} (h : ∃ J k, g ds (Tw ts n Z) = .ok (.loc k) (Tw ts n' (Z ++ J)) ∧ (Tw ts n Z).length ≤ k ∧ (Tw ts n' (Z ++ J))[k]? = some o) (w : LowO (Tw ts n Z).length o) : gcB g ds (Tw ts n Z) = .ok (.loc (Tw ts n Z).length) (Tw ts n' (Z ++ [o])) :=
  gcSN (st := Tw ts n Z) (s := Tw ts n' Z) h rfl (tw_old n') w
theorem at_ok (k : Int) (h0 : 0 ≤ k) : ∃ x, m_law_at a [.loc 0, .int k] (Tw ts n Z) = .ok (.int x) (Tw ts n Z) := by
  by_cases h : k < ts.length
  · obtain ⟨x, hx⟩ : ∃ x, ts[k.toNat]? = some x := ⟨ts[k.toNat]'(by omega), List.getElem?_eq_getElem (by omega)⟩
    have hx2 : atI (ts.map D.int) k = some (.int x) := atI_of h0 (by rw [List.getElem?_map, hx]; rfl)
    refine ⟨x, gcE ⟨[], ?_⟩ (by simp)⟩
    simp [f_law_at, law_at_i1, h, hx2]
  · refine ⟨0, gcE ⟨[], ?_⟩ (by simp)⟩
    simp [f_law_at, law_at_i1, h]
theorem pick_ok (many : Int) (h0 : 0 ≤ n) (h1 : n < 1000000000) (hm : 0 < many) : ∃ v, 0 ≤ v ∧ v < many ∧ m_law_pick a [.loc 1, .int many] (Tw ts n Z) = .ok (.int v) (Tw ts (n + 1) Z) := by
  obtain ⟨x, hx⟩ := at_ok a (ts := ts) (n := n + 1) (Z := Z) ((n + 1) % 200) (by omega)
  obtain ⟨y, hy⟩ := at_ok a (ts := ts) (n := n + 1) (Z := Z) 1 (by omega)
  refine ⟨(x * 31 + (n + 1) * (n + 1) + y) % many, Int.emod_nonneg _ (by omega), Int.emod_lt_of_pos _ hm, ?_⟩
  refine gcT ⟨[], ?_⟩ (by simp)
  have m1 : oMulA (.int (n + 1)) (.int (n + 1)) (Tw ts (n + 1) Z) = some (.int ((n + 1) * (n + 1)), Tw ts (n + 1) Z) := oMulA_r ⟨by omega, by omega⟩ _
  have m2 : oMulA (.int x) (.int 31) (Tw ts (n + 1) Z) = some (.int (x * 31), Tw ts (n + 1) Z) := oMulA_r ⟨by decide, by decide⟩ _
  have s1 : (Tw ts n Z).set 1 (.lst [.loc 0, .int (n + 1)]) = Tw ts (n + 1) Z := rfl
  have i1 : ixN 2 1 = some 1 := by decide
  simp [f_law_pick, hx, hy, m1, m2, s1, i1, oMod_i hm, oMod_i (show (0 : Int) < 200 by decide)]
end
end Law

set_option Elab.async false
set_option linter.all false
set_option maxRecDepth 100000
set_option maxHeartbeats 2000000
namespace Law
open PySem PySem.Spec PyProof.Rows L2 Rg
theorem sgn_ok : ∀ c ∈ L_sgn, isSg c = true := by decide +kernel
theorem inter_nil : ∀ l : List (List Nat), (l.intersperse []).flatten = l.flatten
  | [] => rfl
  | [x] => by simp
  | x :: y :: r => by
    have := inter_nil (y :: r)
    simp only [List.intersperse_cons₂, List.flatten_cons, List.nil_append, this]
theorem join_1 (l : List Nat) : Txt.join ⟨#[]⟩ (l.map fun c => (⟨#[c]⟩ : Str)) = tx l := by
  have := join_l [] (l.map fun c => [c])
  rw [List.map_map] at this
  show Txt.join ⟨([] : List Nat).toArray⟩ _ = _
  rw [inter_nil] at this
  have e : (l.map fun c => [c]).flatten = l := by
    clear this
    induction l with
    | nil => rfl
    | cons c l ih => simp [ih]
  rw [e] at this
  exact this
theorem txts_1 (l : List Nat) : txts (l.map fun c => D.str ⟨#[c]⟩) = some (l.map fun c => (⟨#[c]⟩ : Str)) := by
  have := txts_l (l.map fun c => [c])
  simpa [List.map_map, Function.comp_def] using this
section
variable (a : Ads) {ts : List Int} {n : Int} {Z : Stt}
theorem signs_ok (many : Nat) (h0 : 0 ≤ n) (h1 : n < 900000000) (hm : 0 < many) (hm2 : many ≤ 10) : ∃ (l : List Nat) (n' : Int), l.length < many ∧ l.all isSg = true ∧ n ≤ n' ∧ n' ≤ n + many ∧ m_law_signs a [.loc 1, .int many] (Tw ts n Z) = .ok (.str (tx l)) (Tw ts n' Z) := by
  obtain ⟨v, v0, v1, hv⟩ := pick_ok a (ts := ts) (n := n) (Z := Z) many h0 (by omega) (by omega)
  obtain ⟨st', acc, e, l, n', g1, g2, g3, g4, g6⟩ := compF_inv (L := (Tw ts n Z).length) (ok := fun _ => True) (g := gN 3) (t := xYes) (f := x2 oIx (xV 2) (xFn (m_law_pick a) (xCons (xV 0) (xCons (xC (.int 18)) xNil)))) (ρ := [some (.loc 1), some (.int many), some (.str ⟨L_sgn.toArray⟩), none]) (its := intsD 0 v.toNat)
    (fun k st acc => ∃ (l : List Nat) (n' : Int), acc = (l.map fun c => D.str ⟨#[c]⟩) ∧ l.length = k ∧ l.all isSg = true ∧ n' = n + 1 + k ∧ st = Tw ts n' (Z ++ [.lst acc]))
    (fun _ _ _ _ _ => trivial)
    (fun k y st acc hk ⟨l, n', g1, g2, g3, g4, g5⟩ => by
      subst g5
      have hkl := (mem_ints hk).1
      obtain ⟨u, u0, u1, hu⟩ := pick_ok a (ts := ts) (n := n') (Z := Z ++ [.lst acc]) 18 (by omega) (by omega) (by omega)
      have hL : L_sgn.length = 19 := rfl
      obtain ⟨c, hc⟩ : ∃ c, L_sgn[u.toNat]? = some c := ⟨L_sgn[u.toNat]'(by omega), List.getElem?_eq_getElem (by omega)⟩
      have hat : atI L_sgn u = some c := atI_of u0 hc
      have hz : acc.length < sizeLine := by rw [sizeLine_eq, g1, List.length_map]; omega
      refine ⟨_, rfl, true, _, rfl, (fun h => by cases h), fun _ => ⟨.str ⟨#[c]⟩, Tw ts (n' + 1) (Z ++ [.lst acc]), ?_, ?_, hz, l ++ [c], n' + 1, by simp [g1], by simp [g2], ?_, by omega, ?_⟩⟩
      · simp [hu, hat]
      · exact lstAt_loc (by rw [← Nat.add_zero (Tw ts n Z).length]; exact tw_new [.lst acc] 0)
      · rw [List.all_append, g3]; simp [sgn_ok c (List.mem_of_getElem? hc)]
      · rw [tw_len, tw_set]; simp)
    (st := Tw ts (n + 1) (Z ++ [.lst []])) ⟨[], n + 1, rfl, rfl, rfl, by simp, rfl⟩
  rw [len_ints] at g2 g4
  subst g1 g6
  refine ⟨l, n', by omega, g3, by omega, by omega, ?_⟩
  have hr := wkRange_i (i := v) (by omega) (by omega) (Tw ts (n + 1) Z)
  refine gcT ⟨[.lst (l.map fun c => D.str ⟨#[c]⟩)], ?_⟩ (by simp)
  have hi : items (Tw ts n' (Z ++ [O.lst (l.map fun c => D.str ⟨#[c]⟩)])) (.loc (Tw ts n Z).length) = some (l.map fun c => D.str ⟨#[c]⟩) := items_loc (by rw [← Nat.add_zero (Tw ts n Z).length]; exact tw_new [.lst _] 0)
  have hs : (List.map ((fun x : Str => x.length) ∘ fun c => (⟨#[c]⟩ : Str)) l).sum ≤ 16777216 := by
    have : (List.map ((fun x => x.length) ∘ fun c => (⟨#[c]⟩ : Str)) l).sum = l.length := by
      clear hi e g2 g3
      induction l with
      | nil => rfl
      | cons c l ih => rw [List.map_cons, List.sum_cons, ih, List.length_cons]; show 1 + _ = _; omega
    omega
  have hl : (Tw ts (n + 1) Z).length = (Tw ts n Z).length := rfl
  simp [-items_at, f_law_signs, hv, hr, e, hi, txts_1, join_1, hs, tw_app, hl]
end
end Law

set_option Elab.async false
set_option linter.all false
set_option maxRecDepth 100000
set_option maxHeartbeats 2000000
namespace Law
open PySem PySem.Spec PyProof.Rows L2 Rg
def nm6 : List (List Nat) := [[97], [98, 50], [120], [108,111,110,103,110,97,109,101], [108,111,110,103,110,97,109,102], [121]]
theorem nm6_ok : ∀ k ∈ nm6, isNm k = true := by decide +kernel
abbrev NM6 : List D := nm6.map fun k => .str (tx k)
theorem pick_l {ls : List (List Nat)} {v : Int} (h0 : 0 ≤ v) (h1 : v < ls.length) : ∃ k, k ∈ ls ∧ atI (ls.map fun k => D.str (tx k)) v = some (.str (tx k)) := by
  obtain ⟨k, hk⟩ : ∃ k, ls[v.toNat]? = some k := ⟨ls[v.toNat]'(by omega), List.getElem?_eq_getElem (by omega)⟩
  exact ⟨k, List.mem_of_getElem? hk, atI_of h0 (by rw [List.getElem?_map, hk]; rfl)⟩
theorem lift_s {P : List Nat → List Nat → Prop} : ∀ (out : List (List Nat × D)), (∀ p ∈ out, ∃ l, p.2 = .str (tx l) ∧ P p.1 l) → ∃ as : List (List Nat × List Nat), out = as.map (fun p => (p.1, D.str (tx p.2))) ∧ ∀ p ∈ as, P p.1 p.2
  | [], _ => ⟨[], rfl, fun _ h => by cases h⟩
  | p :: out, h => by
    obtain ⟨as, h1, h2⟩ := lift_s out fun q hq => h q (by simp [hq])
    obtain ⟨l, h3, h4⟩ := h p (by simp)
    refine ⟨(p.1, l) :: as, ?_, fun q hq => ?_⟩
    · rw [List.map_cons, ← h1]
      obtain ⟨k, v⟩ := p
      simp only at h3
      rw [h3]
    · rcases List.mem_cons.mp hq with rfl | hq
      · exact h4
      · exact h2 q hq
theorem asc_of : ∀ (ns : List (List Nat)), ns.Pairwise (fun x y => x < y) → asc ns = true
  | [], _ => rfl
  | [_], _ => rfl
  | x :: y :: r, h => by
    have h1 := asc_of (y :: r) (List.pairwise_cons.mp h).2
    have h2 : x < y := (List.pairwise_cons.mp h).1 y (by simp)
    unfold asc at h1 ⊢
    simp only [List.tail_cons, List.zip_cons_cons, List.all_cons, Bool.and_eq_true] at h1 ⊢
    exact ⟨decide_eq_true h2, h1⟩
theorem mapM_str {st : Stt} {n : Nat} {P : List Nat → List Nat → Prop} (hP : ∀ k l, P k l → okL l = true) : ∀ (as : List (List Nat × List Nat)), (∀ p ∈ as, P p.1 p.2) → (as.map fun p => D.str (tx p.2)).mapM (toD st (n + 1)) = some (as.map fun p => PyData.str (tx p.2))
  | [], _ => rfl
  | p :: as, h => by
    rw [List.map_cons, List.mapM_cons, toD_str (by rw [strOk_l]; exact hP _ _ (h p (by simp))), mapM_str hP as fun q hq => h q (by simp [hq])]
    rfl
def PA (k l : List Nat) : Prop := isNm k = true ∧ l.all isSg = true ∧ l.length < 10
section
variable (a : Ads) {ts : List Int} {n : Int} {Z : Stt}
theorem atts_ok (h0 : 0 ≤ n) (h1 : n < 800000000) : ∃ (as : List (List Nat × List Nat)) (n' : Int), goodA as = true ∧ n ≤ n' ∧ n' ≤ n + 20 ∧ m_law_attributes a [.loc 1] (Tw ts n Z) = .ok (attD as) (Tw ts n' Z) := by
  have hL : (Tw ts n Z).length = Z.length + 2 := rfl
  have l6 : nm6.length = 6 := rfl
  obtain ⟨v, v0, v1, hv⟩ := pick_ok a (ts := ts) (n := n) (Z := Z ++ [.lst NM6, .dct []]) 4 h0 (by omega) (by omega)
  obtain ⟨ρ', s', e, kvs, n', x3, g1, g2, g3, g4, g5, hρ, hs⟩ := forF_inv (ok := fun _ => True) (g := gN 3) (f := law_attributes_fb1 a) (its := intsD 0 v.toNat)
    (fun k ρ s => ∃ (kvs : List (List Nat × D)) (n' : Int) (x3 : Option D), (kvs.map (·.1)).Nodup ∧ kvs.length ≤ k ∧ (∀ p ∈ kvs, ∃ l, p.2 = .str (tx l) ∧ PA p.1 l) ∧ n + 1 ≤ n' ∧ n' ≤ n + 1 + 6 * k ∧ ρ = [some (.loc 1), some (.loc (Z.length + 2)), some (.loc (Z.length + 1 + 2)), x3] ∧ s = Tw ts n' (Z ++ [.lst NM6, .dct (sdI kvs)]))
    (fun _ _ _ _ _ => trivial)
    (fun k d ρ s hd ⟨kvs, n', x3, g1, g2, g3, g4, g5, hρ, hs⟩ => by
      subst hρ hs
      have hk := (mem_ints hd).1
      obtain ⟨l, n2, q1, q2, q3, q4, hl⟩ := signs_ok a (ts := ts) (n := n') (Z := Z ++ [.lst NM6, .dct (sdI kvs)]) 5 (by omega) (by omega) (by omega) (by omega)
      simp only [Int.cast_ofNat_Int] at hl q4
      obtain ⟨u, u0, u1, hu⟩ := pick_ok a (ts := ts) (n := n2) (Z := Z ++ [.lst NM6, .dct (sdI kvs)]) 6 (by omega) (by omega) (by omega)
      obtain ⟨nm, hm, hat⟩ := pick_l (ls := nm6) u0 (by omega)
      obtain ⟨kvs2, p1, p2, p3, p4⟩ := put_sd nm (.str (tx l)) g1
      have c1 : (Tw ts (n2 + 1) (Z ++ [.lst NM6, .dct (sdI kvs)]))[Z.length + 2]? = some (.lst NM6) := by rw [tw_at]; simp
      have c2 : (Tw ts (n2 + 1) (Z ++ [.lst NM6, .dct (sdI kvs)]))[Z.length + 1 + 2]? = some (.dct (sdI kvs)) := by rw [tw_at]; simp
      have ix : oIx (.loc (Z.length + 2)) (.int u) (Tw ts (n2 + 1) (Z ++ [.lst NM6, .dct (sdI kvs)])) = some (.str (tx nm), Tw ts (n2 + 1) (Z ++ [.lst NM6, .dct (sdI kvs)])) := oIx_of (items_loc c1) hat
      have hz : kvs.length < sizeLine := by rw [sizeLine_eq]; omega
      have st : ∀ ρ, setDk (.loc (Z.length + 1 + 2)) (.str (tx nm)) (.str (tx l)) ρ (Tw ts (n2 + 1) (Z ++ [.lst NM6, .dct (sdI kvs)])) = .nx ρ (Tw ts (n2 + 1) (Z ++ [.lst NM6, .dct (sdI kvs2)])) := fun ρ => by
        unfold setDk
        rw [dctAt_loc c2]
        show (if (sdI kvs).length < sizeLine then Out.nx ρ ((Tw ts (n2 + 1) (Z ++ [.lst NM6, .dct (sdI kvs)])).set (Z.length + 1 + 2) (.dct (putD (sdI kvs) (.inr (tx nm)) (.str (tx l))))) else .no) = _
        rw [if_pos (by simpa using hz), p1, tw_set]
        simp
      refine ⟨_, rfl, _, _, .inl ?_, kvs2, n2 + 1, some d, p2, by omega, ?_, by omega, by omega, rfl, rfl⟩
      · simp only [Nat.add_assoc] at st ix
        simp [-oIx_at, law_attributes_fb1, hl, hu, ix, st, Nat.add_assoc]
      · intro p hp
        rcases p4 p hp with h | h
        · exact g3 p h
        · rw [h]; exact ⟨l, rfl, nm6_ok nm hm, q2, by omega⟩)
    (ρ := [some (.loc 1), some (.loc (Z.length + 2)), some (.loc (Z.length + 1 + 2)), none]) (st := Tw ts (n + 1) (Z ++ [.lst NM6, .dct []])) ⟨[], n + 1, none, by simp, Nat.le_refl _, (fun _ h => by cases h), by omega, by omega, rfl, rfl⟩
  subst hρ hs
  rw [len_ints] at g2 g5
  have hP : ∀ k l, PA k l → okL l = true := fun k l h => sg_okL h.2.1
  obtain ⟨as0, e0, f0⟩ := lift_s kvs g3
  have c2 : (Tw ts n' (Z ++ [.lst NM6, .dct (sdI kvs)]))[Z.length + 1 + 2]? = some (.dct (sdI kvs)) := by rw [tw_at]; simp
  obtain ⟨out, o1, o2, o3⟩ := sortIt_ok (qs := as0.map fun p => PyData.str (tx p.2)) c2 (by
    have : kvs.map (·.2) = as0.map fun p => D.str (tx p.2) := by rw [e0, List.map_map]; rfl
    rw [this]
    exact mapM_str hP as0 f0) (fun p hp q hq => by
    obtain ⟨x, _, rfl⟩ := List.mem_map.mp hp
    obtain ⟨y, _, rfl⟩ := List.mem_map.mp hq
    simp [PySem.W.alike]) g1
  obtain ⟨as, e1, f1⟩ := lift_s out fun p hp => g3 p (o1.mem_iff.mp hp)
  have hlen : as.length = kvs.length := by rw [← o1.length_eq, e1, List.length_map]
  refine ⟨as, n', ?_, by omega, by omega, ?_⟩
  · unfold goodA okAtt
    have h1 : decide (as.length ≤ 8) = true := decide_eq_true (by omega)
    have h2 : (as.all fun p => isNm p.1 && p.2.all isSg) = true := List.all_eq_true.mpr fun p hp => by rw [(f1 p hp).1, (f1 p hp).2.1]; rfl
    have h3 : asc (as.map (·.1)) = true := by
      refine asc_of _ ?_
      have : as.map (·.1) = out.map (·.1) := by rw [e1, List.map_map]; rfl
      rw [this]
      exact List.pairwise_map.mpr o2
    have h4 : (as.all fun p => decide (p.2.length < 10)) = true := List.all_eq_true.mpr fun p hp => decide_eq_true (by have := (f1 p hp).2.2; omega)
    have h5 : decide (as.length ≤ 3) = true := decide_eq_true (by omega)
    rw [h1, h2, h3, h4, h5]; rfl
  · have hr := wkRange_i (i := v) (by omega) (by omega) (Tw ts (n + 1) (Z ++ [.lst NM6, .dct []]))
    have oeq : (out.map fun p => D.tup [.str (tx p.1), p.2]) = as.map fun p => D.tup [.str (tx p.1), .str (tx p.2)] := by rw [e1, List.map_map]; rfl
    rw [oeq, tw_app] at o3
    refine gcT ⟨[.lst NM6, .dct (sdI kvs)] ++ [.lst (as.map fun p => D.tup [.str (tx p.1), .str (tx p.2)])], ?_⟩ (low_att _ _)
    have ft : fTuple [.loc (Z.length + 4)] (Tw ts n' ((Z ++ [.lst NM6, .dct (sdI kvs)]) ++ [.lst (as.map fun p => D.tup [.str (tx p.1), .str (tx p.2)])])) = some (attD as, Tw ts n' ((Z ++ [.lst NM6, .dct (sdI kvs)]) ++ [.lst (as.map fun p => D.tup [.str (tx p.1), .str (tx p.2)])])) := by
      have := tw_new (ts := ts) (n := n') (Z := Z ++ [.lst NM6, .dct (sdI kvs)]) [.lst (as.map fun p => D.tup [.str (tx p.1), .str (tx p.2)])] 0
      rw [Nat.add_zero, show (Tw ts n' (Z ++ [.lst NM6, .dct (sdI kvs)])).length = Z.length + 4 by simp [tw_len]] at this
      rw [fTuple_at, this]
      rfl
    have e' := e
    simp only [NM6, nm6, List.map_cons, List.map_nil] at e' hv hr o3 ft ⊢
    simp only [Nat.add_assoc, List.append_assoc] at e' o3 ft
    simp only [List.cons_append, List.nil_append] at ft
    simp [-fTuple_at, f_law_attributes, law_attributes_f1, tw_len, tw_app, hv, hr, e', o3, ft, Nat.add_assoc]
end
end Law

set_option Elab.async false
set_option linter.all false
set_option maxRecDepth 100000
set_option maxHeartbeats 2000000
namespace Law
open PySem PySem.Spec PyProof.Rows L2 Rg
def appF : F → F → F
  | .nil, g => g
  | .sg c r, g => .sg c (appF r g)
  | .el n as ks r, g => .el n as ks (appF r g)
def sgF : List Nat → F
  | [] => .nil
  | c :: l => .sg c (sgF l)
theorem kids_app : ∀ f g : F, kidsD (appF f g) = kidsD f ++ kidsD g
  | .nil, _ => rfl
  | .sg c r, g => by simp [appF, kidsD, kids_app r g]
  | .el _ _ _ r, g => by simp [appF, kidsD, kids_app r g]
theorem good_app : ∀ f g : F, goodF (appF f g) = (goodF f && goodF g)
  | .nil, _ => rfl
  | .sg c r, g => by simp [appF, goodF, good_app r g, Bool.and_assoc]
  | .el _ _ _ r, g => by simp [appF, goodF, good_app r g, Bool.and_assoc]
theorem sz_app : ∀ f g : F, szF (appF f g) = szF f + szF g
  | .nil, _ => by simp [appF, szF]
  | .sg c r, g => by simp [appF, szF, sz_app r g]; omega
  | .el _ _ _ r, g => by simp [appF, szF, sz_app r g]; omega
theorem dp_app : ∀ f g : F, dpF (appF f g) = max (dpF f) (dpF g)
  | .nil, _ => by simp [appF, dpF]
  | .sg c r, g => by simp [appF, dpF, dp_app r g]
  | .el _ _ _ r, g => by simp [appF, dpF, dp_app r g, Nat.max_assoc]
theorem kids_sg : ∀ l : List Nat, kidsD (sgF l) = l.map fun c => D.str ⟨#[c]⟩
  | [] => rfl
  | c :: l => by simp [sgF, kidsD, kids_sg l]
theorem good_sg : ∀ l : List Nat, goodF (sgF l) = l.all isSg
  | [] => rfl
  | c :: l => by simp [sgF, goodF, good_sg l]
theorem sz_sg : ∀ l : List Nat, szF (sgF l) = l.length
  | [] => rfl
  | c :: l => by simp [sgF, szF, sz_sg l]; omega
theorem dp_sg : ∀ l : List Nat, dpF (sgF l) = 0
  | [] => rfl
  | c :: l => by simp [sgF, dpF, dp_sg l]
def nmT : List (List Nat) := [[97], [97, 98], [97, 98, 99], [114, 49], [101,105,103,104,116,108,101,116], [122]]
theorem nmT_ok : ∀ k ∈ nmT, isNm k = true := by decide +kernel
abbrev NMT : List D := nmT.map fun k => .str (tx k)
/-- what is promised of a call with d levels left -/
def CT (self : Fn) (d S : Nat) (T : Int) : Prop := ∀ (ts : List Int) (n : Int) (Z : Stt) (lev : Int), 0 ≤ lev → lev + d = 5 → 0 ≤ n → n + T < 100000000 → ∃ (nm : List Nat) (as : List (List Nat × List Nat)) (ks : F) (n' : Int),
  goodF (.el nm as ks .nil) = true ∧ dpF ks ≤ d ∧ szF ks ≤ S ∧ n ≤ n' ∧ n' ≤ n + T ∧ self [.loc 1, .int lev] (Tw ts n Z) = .ok (rootD nm as ks) (Tw ts n' Z)
section
variable (a : Ads)
theorem tree_kid (self : Fn) (d S : Nat) (T : Int) (hS : 3 ≤ S) (hT : 6 ≤ T) (hT2 : T ≤ 1000000) (hs : ∀ d', d = d' + 1 → ∃ S' T', CT self d' S' T' ∧ S' + 2 ≤ S ∧ T' + 1 ≤ T)
    (ts : List Int) (n : Int) (Z J : Stt) (lev : Int) (h0 : 0 ≤ lev) (h5 : lev + d = 5) (n0 : 0 ≤ n) (n1 : n + T < 100000000) (f : F) (i : Nat) (x3 : Option D) (hg : goodF f = true) (hd : dpF f ≤ d) (hz : szF f < 1000000) (hi : J[i]? = some (.lst (kidsD f))) :
    ∃ (f' : F) (n' : Int) (J' : Stt) (i' : Nat), goodF f' = true ∧ dpF f' ≤ d ∧ szF f' ≤ szF f + S ∧ n ≤ n' ∧ n' ≤ n + T ∧ J'[i']? = some (.lst (kidsD f')) ∧
      law_tree_fb1 a self [some (.loc 1), some (.int lev), some (.loc (Z.length + 2 + i)), x3] (Tw ts n (Z ++ J)) = .nx [some (.loc 1), some (.int lev), some (.loc (Z.length + 2 + i')), x3] (Tw ts n' (Z ++ J')) := by
  obtain ⟨v, v0, v1, hv⟩ := pick_ok a (ts := ts) (n := n) (Z := Z ++ J) 2 n0 (by omega) (by omega)
  have lk := len_kids f
  have at_ : ∀ (m : Int) (J : Stt) (i : Nat), (Tw ts m (Z ++ J))[Z.length + 2 + i]? = J[i]? := fun m J i => by
    have := tw_new (ts := ts) (n := m) (Z := Z) J i
    rwa [tw_len] at this
  have set_ : ∀ (m : Int) (J : Stt) (i : Nat) (o : O), (Tw ts m (Z ++ J)).set (Z.length + 2 + i) o = Tw ts m (Z ++ J.set i o) := fun m J i o => by
    have := set_add (Tw ts m Z) J i o
    rwa [tw_len] at this
  by_cases hc : v = 0 ∧ lev < 5
  · obtain ⟨hv0, hlev⟩ := hc
    obtain ⟨d', rfl⟩ : ∃ d', d = d' + 1 := ⟨d - 1, by omega⟩
    obtain ⟨S', T', hC, hS', hT'⟩ := hs d' rfl
    obtain ⟨nm, as, ks, n', g1, g2, g3, g4, g5, g6⟩ := hC ts (n + 1) (Z ++ J) (lev + 1) (by omega) (by omega) (by omega) (by omega)
    have hz' : (kidsD f).length < sizeLine := by rw [sizeLine_eq]; omega
    refine ⟨appF f (.el nm as ks .nil), n', J.set i (.lst (kidsD f ++ [rootD nm as ks])), i, ?_, ?_, ?_, by omega, by omega, ?_, ?_⟩
    · rw [good_app, hg, g1]; rfl
    · rw [dp_app]; simp only [dpF]; omega
    · rw [sz_app]; simp only [szF]; omega
    · rw [List.getElem?_set_self (List.getElem?_eq_some_iff.mp hi).1, kids_app]; rfl
    · have hz2 : (kidsD f).length < 16777216 := by omega
      simp [law_tree_fb1, law_tree_i1, hv, hv0, hlev, g6, at_, set_, hi, hz2]
  · obtain ⟨l, n', q1, q2, q3, q4, hl⟩ := signs_ok a (ts := ts) (n := n + 1) (Z := Z ++ J) 4 (by omega) (by omega) (by omega) (by omega)
    simp only [Int.cast_ofNat_Int] at hl q4
    have hi2 : (J ++ [O.lst (kidsD (sgF l))])[i]? = some (.lst (kidsD f)) := at_old hi _
    have hz2 : (kidsD f).length + l.length ≤ 16777216 := by omega
    have hz3 : l.length ≤ 16777216 := by omega
    refine ⟨appF f (sgF l), n', J ++ [.lst (kidsD (sgF l)), .lst (kidsD f ++ kidsD (sgF l))], J.length + 1, ?_, ?_, ?_, by omega, by omega, ?_, ?_⟩
    · rw [good_app, hg, good_sg, q2]; rfl
    · rw [dp_app, dp_sg]; omega
    · rw [sz_app, sz_sg]; omega
    · rw [at_add, kids_app]; rfl
    · have cond : (xAnd (xB (x2 oEq (xFn (m_law_pick a) (xCons (xV 0) (xCons (xC (.int 2)) (xNil)))) (xC (.int 0)))) (xB (x2 oLt (xV 1) (xC (.int 5))))) [some (.loc 1), some (.int lev), some (.loc (Z.length + 2 + i)), x3] (Tw ts n (Z ++ J)) = .ok false (Tw ts (n + 1) (Z ++ J)) := by
        by_cases h1 : v = 0
        · have h2 : ¬ lev < 5 := fun h => hc ⟨h1, h⟩
          simp [hv, h1, h2]
        · simp [hv, h1]
      have b1 := at_ n' (J ++ [O.lst (kidsD (sgF l))]) i
      rw [hi2] at b1
      have b2 := at_ n' (J ++ [O.lst (kidsD (sgF l))]) J.length
      simp only [kids_sg] at b1 b2 ⊢
      simp at b2
      have e1 : (Tw ts n' (Z ++ J)).length = Z.length + 2 + J.length := by simp [tw_len]; omega
      have e2 : (Tw ts n' (Z ++ (J ++ [O.lst (l.map fun c => D.str ⟨#[c]⟩)]))).length = Z.length + 2 + (J.length + 1) := by simp [tw_len]; omega
      have ad : oAdd (.loc (Z.length + 2 + i)) (.loc (Z.length + 2 + J.length)) (Tw ts n' (Z ++ (J ++ [O.lst (l.map fun c => D.str ⟨#[c]⟩)]))) = some (.loc (Z.length + 2 + (J.length + 1)), Tw ts n' (Z ++ (J ++ [O.lst (l.map fun c => D.str ⟨#[c]⟩), O.lst (kidsD f ++ l.map fun c => D.str ⟨#[c]⟩)]))) := by
        rw [oAdd_ll, b1, b2, e2]
        dsimp only
        rw [if_pos (le_sz (by simpa using hz2)), tw_app]
        simp
      simp only [law_tree_fb1, law_tree_i1, sCons_run, sIf_run, cond]
      simp [-oAdd_ll, hl, tw_app, e1, ad, hz3]
end
end Law

set_option Elab.async false
set_option linter.all false
set_option maxRecDepth 100000
set_option maxHeartbeats 2000000
namespace Law
open PySem PySem.Spec PyProof.Rows L2 Rg
section
variable (a : Ads)
theorem tree_step (self : Fn) (d S : Nat) (T : Int) (hS : 3 ≤ S) (hS2 : S ≤ 100000) (hT : 6 ≤ T) (hT2 : T ≤ 1000000) (hs : ∀ d', d = d' + 1 → ∃ S' T', CT self d' S' T' ∧ S' + 2 ≤ S ∧ T' + 1 ≤ T) : CT (gcB (runB 4 (f_law_tree a self))) d (4 * S) (4 * T + 22) := by
  intro ts n Z lev h0 h5 n0 n1
  have hb : ∃ b : Int, 2 ≤ b ∧ b ≤ 5 ∧ atI [D.int 5, D.int 4, D.int 3, D.int 2] (if 3 < lev then 3 else lev) = some (.int b) := by
    have : lev = 0 ∨ lev = 1 ∨ lev = 2 ∨ 3 ≤ lev := by omega
    rcases this with rfl | rfl | rfl | h
    · exact ⟨5, by omega, by omega, by simp⟩
    · exact ⟨4, by omega, by omega, by simp⟩
    · exact ⟨3, by omega, by omega, by simp⟩
    · refine ⟨2, by omega, by omega, ?_⟩
      have : (if 3 < lev then (3 : Int) else lev) = 3 := by split <;> omega
      rw [this]; simp
  obtain ⟨b, b1, b2, b3⟩ := hb
  obtain ⟨v, v0, v1, hv⟩ := pick_ok a (ts := ts) (n := n) (Z := Z ++ [.lst [], .lst [.int 5, .int 4, .int 3, .int 2]]) b n0 (by omega) (by omega)
  obtain ⟨ρ', s', e, f, n', J, i, x3, g1, g2, g3, g4, g5, g6, hρ, hst⟩ := forF_inv (ok := fun _ => True) (g := gN 3) (f := law_tree_fb1 a self) (its := intsD 0 v.toNat)
    (fun k ρ s => ∃ (f : F) (n' : Int) (J : Stt) (i : Nat) (x3 : Option D), goodF f = true ∧ dpF f ≤ d ∧ szF f ≤ k * S ∧ n + 1 ≤ n' ∧ n' ≤ n + 1 + k * T ∧ J[i]? = some (.lst (kidsD f)) ∧ ρ = [some (.loc 1), some (.int lev), some (.loc (Z.length + 2 + i)), x3] ∧ s = Tw ts n' (Z ++ J))
    (fun _ _ _ _ _ => trivial)
    (fun k y ρ s hy ⟨f, n', J, i, x3, g1, g2, g3, g4, g5, g6, hρ, hst⟩ => by
      subst hρ hst
      have hk := (mem_ints hy).1
      have hk4 : k ≤ 3 := by omega
      have k1 : k * S ≤ 3 * S := Nat.mul_le_mul_right _ hk4
      have k2 : (k : Int) * T ≤ 3 * T := Int.mul_le_mul_of_nonneg_right (by omega) (by omega)
      obtain ⟨f', n2, J', i', q1, q2, q3, q4, q5, q6, q7⟩ := tree_kid a self d S T hS hT hT2 hs ts n' Z J lev h0 h5 (by omega) (by omega) f i (some y) g1 g2 (by omega) g6
      refine ⟨_, rfl, _, _, .inl q7, f', n2, J', i', some y, q1, q2, ?_, by omega, ?_, q6, rfl, rfl⟩
      · rw [Nat.succ_mul]; omega
      · have : ((k + 1 : Nat) : Int) * T = k * T + T := by rw [Int.natCast_add, Int.add_mul]; simp
        omega)
    (ρ := [some (.loc 1), some (.int lev), some (.loc (Z.length + 2 + 0)), none]) (st := Tw ts (n + 1) (Z ++ [.lst [], .lst [.int 5, .int 4, .int 3, .int 2]])) ⟨.nil, n + 1, _, 0, none, rfl, Nat.zero_le _, Nat.zero_le _, by omega, by simp, rfl, rfl, rfl⟩
  subst hρ hst
  rw [len_ints] at g3 g5
  have hv4 : v.toNat ≤ 4 := by omega
  have k1 : v.toNat * S ≤ 4 * S := Nat.mul_le_mul_right _ hv4
  have k2 : (v.toNat : Int) * T ≤ 4 * T := Int.mul_le_mul_of_nonneg_right (by omega) (by omega)
  obtain ⟨u, u0, u1, hu⟩ := pick_ok a (ts := ts) (n := n') (Z := Z ++ (J ++ [.lst NMT])) 6 (by omega) (by omega) (by omega)
  have l6 : nmT.length = 6 := rfl
  obtain ⟨nm, hm, hat⟩ := pick_l (ls := nmT) u0 (by omega)
  obtain ⟨as, n2, p1, p2, p3, hp⟩ := atts_ok a (ts := ts) (n := n' + 1) (Z := Z ++ (J ++ [.lst NMT])) (by omega) (by omega)
  have gd : goodF (.el nm as f .nil) = true := by simp only [goodF, nmT_ok nm hm, p1, g1]; rfl
  refine ⟨nm, as, f, n2, gd, g2, by omega, by omega, by omega, ?_⟩
  refine gcT ⟨J ++ [.lst NMT], ?_⟩ (okD_low _ _ _ (okD_root gd))
  have hi2 : (J ++ [O.lst NMT])[i]? = some (.lst (kidsD f)) := at_old g6 _
  have c1 : (Tw ts n2 (Z ++ (J ++ [.lst NMT])))[Z.length + 2 + i]? = some (.lst (kidsD f)) := by
    have := tw_new (ts := ts) (n := n2) (Z := Z) (J ++ [.lst NMT]) i
    rw [tw_len, hi2] at this
    exact this
  have c2 : (Tw ts (n' + 1) (Z ++ (J ++ [.lst NMT])))[Z.length + 2 + J.length]? = some (.lst NMT) := by
    have := tw_new (ts := ts) (n := n' + 1) (Z := Z) (J ++ [.lst NMT]) J.length
    rw [tw_len] at this
    rw [this]; simp
  have ix : oIx (.loc (Z.length + 2 + J.length)) (.int u) (Tw ts (n' + 1) (Z ++ (J ++ [.lst NMT]))) = some (.str (tx nm), Tw ts (n' + 1) (Z ++ (J ++ [.lst NMT]))) := oIx_of (items_loc c2) hat
  have c3 : (Tw ts n (Z ++ [.lst [], .lst [.int 5, .int 4, .int 3, .int 2]]))[Z.length + 2 + 1]? = some (.lst [.int 5, .int 4, .int 3, .int 2]) := by
    have := tw_new (ts := ts) (n := n) (Z := Z) [.lst [], .lst [.int 5, .int 4, .int 3, .int 2]] 1
    rw [tw_len] at this
    exact this
  have ix0 : oIx (.loc (Z.length + 2 + 1)) (.int (if 3 < lev then 3 else lev)) (Tw ts n (Z ++ [.lst [], .lst [.int 5, .int 4, .int 3, .int 2]])) = some (.int b, Tw ts n (Z ++ [.lst [], .lst [.int 5, .int 4, .int 3, .int 2]])) := oIx_of (items_loc c3) b3
  have hr := wkRange_i (i := v) (by omega) (by omega) (Tw ts (n + 1) (Z ++ [.lst [], .lst [.int 5, .int 4, .int 3, .int 2]]))
  have e1 : (Tw ts n Z).length = Z.length + 2 := rfl
  have e2 : (Tw ts n (Z ++ [.lst []])).length = Z.length + 2 + 1 := by simp [tw_len]
  have e3 : (Tw ts n' (Z ++ J)).length = Z.length + 2 + J.length := by simp [tw_len]; omega
  have ft : fTuple [.loc (Z.length + 2 + i)] (Tw ts n2 (Z ++ (J ++ [.lst NMT]))) = some (.tup (kidsD f), Tw ts n2 (Z ++ (J ++ [.lst NMT]))) := by rw [fTuple_at, c1]
  have lf : law_tree_f1 a self [some (.loc 1), some (.int lev), some (.loc (Z.length + 2)), none] (Tw ts n (Z ++ [.lst []])) = .nx [some (.loc 1), some (.int lev), some (.loc (Z.length + 2 + i)), x3] (Tw ts n' (Z ++ J)) := by
    rw [Nat.add_zero] at e
    simp [-oIx_at, law_tree_f1, tw_app, e2, ix0, hv, hr, e]
  simp only [NMT, nmT, List.map_cons, List.map_nil] at hu hp ix ft ⊢
  simp [-oIx_at, -fTuple_at, f_law_tree, e1, tw_app, lf, e3, hu, hp, ix, ft, rootD]
def SS : Nat → Nat | 0 => 12 | d + 1 => 4 * (SS d + 2)
def TT : Nat → Int | 0 => 46 | d + 1 => 4 * (TT d + 1) + 22
theorem st_le (d : Nat) (h : d ≤ 5) : SS d + 2 ≤ 100000 ∧ 6 ≤ TT d + 1 ∧ TT d + 1 ≤ 1000000 := by
  have : d = 0 ∨ d = 1 ∨ d = 2 ∨ d = 3 ∨ d = 4 ∨ d = 5 := by omega
  rcases this with rfl | rfl | rfl | rfl | rfl | rfl <;> decide
theorem tree_gen : ∀ (d k : Nat), d ≤ 5 → d < k → CT (m_law_tree a k) d (SS d) (TT d)
  | d, 0, _, h => by omega
  | 0, k + 1, _, _ => tree_step a (m_law_tree a k) 0 3 6 (by omega) (by omega) (by omega) (by omega) (fun d' h => by omega)
  | d + 1, k + 1, h5, h => by
    have ih := tree_gen d k (by omega) (by omega)
    obtain ⟨b1, b2, b3⟩ := st_le d (by omega)
    have hs : 3 ≤ SS d + 2 := by cases d <;> simp only [SS] <;> omega
    exact tree_step a (m_law_tree a k) (d + 1) (SS d + 2) (TT d + 1) hs b1 b2 b3 fun d' h => by
      cases h
      exact ⟨_, _, ih, Nat.le_refl _, Int.le_refl _⟩
theorem law_tree_ok (ts : List Int) : ∃ (nm : List Nat) (as : List (List Nat × List Nat)) (ks : F) (n' : Int), goodF (.el nm as ks .nil) = true ∧ dpF ks ≤ 5 ∧ szF ks ≤ 15016 ∧ 0 ≤ n' ∧ n' ≤ 55970 ∧ m_law_tree a 7 [.loc 1, .int 0] (Tw ts 0 []) = .ok (rootD nm as ks) (Tw ts n' []) := by
  obtain ⟨nm, as, ks, n', h1, h2, h3, h4, h5, h6⟩ := tree_gen a 5 7 (by omega) (by omega) ts 0 [] 0 (by omega) (by omega) (by omega) (by decide)
  exact ⟨nm, as, ks, n', h1, h2, h3, h4, by simpa [TT] using h5, h6⟩
end
end Law

set_option Elab.async false
set_option linter.all false
set_option maxRecDepth 100000
set_option maxHeartbeats 4000000
namespace Law
open PySem PySem.Spec PyProof.Rows L2 Rg
/-! ### what a reader of a text holds -/
@[simp] theorem fl_place : Str.ofString "place" = ⟨#[112, 108, 97, 99, 101]⟩ := by decide +kernel
@[simp] theorem fl_reading : Str.ofString "reading" = ⟨#[114, 101, 97, 100, 105, 110, 103]⟩ := by decide +kernel
@[simp] theorem fl_names : Str.ofString "names" = ⟨#[110, 97, 109, 101, 115]⟩ := by decide +kernel
@[simp] theorem fl_ended : Str.ofString "ended" = ⟨#[101, 110, 100, 101, 100]⟩ := by decide +kernel
@[simp] theorem fl_name : Str.ofString "name" = ⟨#[110, 97, 109, 101]⟩ := by decide +kernel
@[simp] theorem fl_attribute : Str.ofString "attribute" = ⟨#[97, 116, 116, 114, 105, 98, 117, 116, 101]⟩ := by decide +kernel
@[simp] theorem fl_pairs : Str.ofString "pairs" = ⟨#[112, 97, 105, 114, 115]⟩ := by decide +kernel
@[simp] theorem fl_signs : Str.ofString "signs" = ⟨#[115, 105, 103, 110, 115]⟩ := by decide +kernel
@[simp] theorem fl_entity : Str.ofString "entity" = ⟨#[101, 110, 116, 105, 116, 121]⟩ := by decide +kernel
@[simp] theorem fl_matched : Str.ofString "matched" = ⟨#[109, 97, 116, 99, 104, 101, 100]⟩ := by decide +kernel
@[simp] theorem fl_around : Str.ofString "around" = ⟨#[97, 114, 111, 117, 110, 100]⟩ := by decide +kernel
@[simp] theorem fl_told : Str.ofString "told" = ⟨#[116, 111, 108, 100]⟩ := by decide +kernel
structure VS where
  rd : List Nat
  ns : List (List Nat)
  en : Bool
  nm : List Nat
  at_ : List Nat
  ps : List (Key × D)
  sg : List D
  ent : List Nat
  mt : Int
  ar : List Nat
  td : List D
def TF (V : VS) (n p g t : Nat) (pl : Int) : List (Str × D) := [(⟨#[112, 108, 97, 99, 101]⟩, .int pl), (⟨#[114, 101, 97, 100, 105, 110, 103]⟩, .str (tx V.rd)), (⟨#[110, 97, 109, 101, 115]⟩, .loc n), (⟨#[101, 110, 100, 101, 100]⟩, .bl V.en), (⟨#[110, 97, 109, 101]⟩, .str (tx V.nm)), (⟨#[97, 116, 116, 114, 105, 98, 117, 116, 101]⟩, .str (tx V.at_)), (⟨#[112, 97, 105, 114, 115]⟩, .loc p), (⟨#[115, 105, 103, 110, 115]⟩, .loc g), (⟨#[101, 110, 116, 105, 116, 121]⟩, .str (tx V.ent)), (⟨#[109, 97, 116, 99, 104, 101, 100]⟩, .int V.mt), (⟨#[97, 114, 111, 117, 110, 100]⟩, .str (tx V.ar)), (⟨#[116, 111, 108, 100]⟩, .loc t)]
section
variable (V : VS) (n p g t : Nat) (pl : Int)
@[simp] theorem tf_l0 : (TF V n p g t pl).lookup (⟨#[112, 108, 97, 99, 101]⟩ : Str) = some (.int pl) := by simp [TF, List.lookup]
@[simp] theorem tf_l1 : (TF V n p g t pl).lookup (⟨#[114, 101, 97, 100, 105, 110, 103]⟩ : Str) = some (.str (tx V.rd)) := by simp [TF, List.lookup]
@[simp] theorem tf_l2 : (TF V n p g t pl).lookup (⟨#[110, 97, 109, 101, 115]⟩ : Str) = some (.loc n) := by simp [TF, List.lookup]
@[simp] theorem tf_l3 : (TF V n p g t pl).lookup (⟨#[101, 110, 100, 101, 100]⟩ : Str) = some (.bl V.en) := by simp [TF, List.lookup]
@[simp] theorem tf_l4 : (TF V n p g t pl).lookup (⟨#[110, 97, 109, 101]⟩ : Str) = some (.str (tx V.nm)) := by simp [TF, List.lookup]
@[simp] theorem tf_l5 : (TF V n p g t pl).lookup (⟨#[97, 116, 116, 114, 105, 98, 117, 116, 101]⟩ : Str) = some (.str (tx V.at_)) := by simp [TF, List.lookup]
@[simp] theorem tf_l6 : (TF V n p g t pl).lookup (⟨#[112, 97, 105, 114, 115]⟩ : Str) = some (.loc p) := by simp [TF, List.lookup]
@[simp] theorem tf_l7 : (TF V n p g t pl).lookup (⟨#[115, 105, 103, 110, 115]⟩ : Str) = some (.loc g) := by simp [TF, List.lookup]
@[simp] theorem tf_l8 : (TF V n p g t pl).lookup (⟨#[101, 110, 116, 105, 116, 121]⟩ : Str) = some (.str (tx V.ent)) := by simp [TF, List.lookup]
@[simp] theorem tf_l9 : (TF V n p g t pl).lookup (⟨#[109, 97, 116, 99, 104, 101, 100]⟩ : Str) = some (.int V.mt) := by simp [TF, List.lookup]
@[simp] theorem tf_l10 : (TF V n p g t pl).lookup (⟨#[97, 114, 111, 117, 110, 100]⟩ : Str) = some (.str (tx V.ar)) := by simp [TF, List.lookup]
@[simp] theorem tf_l11 : (TF V n p g t pl).lookup (⟨#[116, 111, 108, 100]⟩ : Str) = some (.loc t) := by simp [TF, List.lookup]
@[simp] theorem tf_len : (TF V n p g t pl).length = 12 := (rfl)
@[simp] theorem tf_p0 (x : Int) : putFD (⟨#[112, 108, 97, 99, 101]⟩ : Str) (.int x) (TF V n p g t pl) = TF V n p g t x := by simp [TF, putFD]
@[simp] theorem tf_p1 (x : List Nat) : putFD (⟨#[114, 101, 97, 100, 105, 110, 103]⟩ : Str) (.str (tx x)) (TF V n p g t pl) = TF { V with rd := x } n p g t pl := by simp [TF, putFD]
@[simp] theorem tf_p2 (x : Bool) : putFD (⟨#[101, 110, 100, 101, 100]⟩ : Str) (.bl x) (TF V n p g t pl) = TF { V with en := x } n p g t pl := by simp [TF, putFD]
@[simp] theorem tf_p3 (x : List Nat) : putFD (⟨#[110, 97, 109, 101]⟩ : Str) (.str (tx x)) (TF V n p g t pl) = TF { V with nm := x } n p g t pl := by simp [TF, putFD]
@[simp] theorem tf_p4 (x : List Nat) : putFD (⟨#[97, 116, 116, 114, 105, 98, 117, 116, 101]⟩ : Str) (.str (tx x)) (TF V n p g t pl) = TF { V with at_ := x } n p g t pl := by simp [TF, putFD]
@[simp] theorem tf_p5 (x : Nat) : putFD (⟨#[112, 97, 105, 114, 115]⟩ : Str) (.loc x) (TF V n p g t pl) = TF V n x g t pl := by simp [TF, putFD]
@[simp] theorem tf_p6 (x : Nat) : putFD (⟨#[115, 105, 103, 110, 115]⟩ : Str) (.loc x) (TF V n p g t pl) = TF V n p x t pl := by simp [TF, putFD]
@[simp] theorem tf_p7 (x : List Nat) : putFD (⟨#[101, 110, 116, 105, 116, 121]⟩ : Str) (.str (tx x)) (TF V n p g t pl) = TF { V with ent := x } n p g t pl := by simp [TF, putFD]
@[simp] theorem tf_p8 (x : Int) : putFD (⟨#[109, 97, 116, 99, 104, 101, 100]⟩ : Str) (.int x) (TF V n p g t pl) = TF { V with mt := x } n p g t pl := by simp [TF, putFD]
@[simp] theorem tf_p9 (x : List Nat) : putFD (⟨#[97, 114, 111, 117, 110, 100]⟩ : Str) (.str (tx x)) (TF V n p g t pl) = TF { V with ar := x } n p g t pl := by simp [TF, putFD]
@[simp] theorem tf_p10 (x : Nat) : putFD (⟨#[116, 111, 108, 100]⟩ : Str) (.loc x) (TF V n p g t pl) = TF V n p g x pl := by simp [TF, putFD]
@[simp] theorem tf_p11 (x : Nat) : putFD (⟨#[110, 97, 109, 101, 115]⟩ : Str) (.loc x) (TF V n p g t pl) = TF V x p g t pl := by simp [TF, putFD]
end
variable (a : Ads)
/-- cells that are not touched stand below n -/
abbrev Pr := Nat → Prop
def Ab (L : Pr) (n : Nat) : Prop := ∀ i, L i → i < n
theorem Ab.le {L : Pr} {m n : Nat} (h : Ab L m) (h2 : m ≤ n) : Ab L n := fun i hi => Nat.lt_of_lt_of_le (h i hi) h2
theorem Ab.no {L : Pr} {m n : Nat} (h : Ab L m) (h2 : m ≤ n) : ¬ L n := fun hn => by have := h n hn; omega
structure TK' (L : Pr) (s : Stt) (k : Nat) (V : VS) (n p g t : Nat) (pl : Int) : Prop where
  ok : s[k]? = some (.ins a.c_Tokens (TF V n p g t pl))
  on : s[n]? = some (.lst (V.ns.map fun x => .str (tx x)))
  op : s[p]? = some (.dct V.ps)
  og : s[g]? = some (.lst V.sg)
  ot : s[t]? = some (.lst V.td)
  ng : n ≠ g
  nt : n ≠ t
  gt : g ≠ t
  Lk : ¬ L k
  Ln : ¬ L n
  Lp : ¬ L p
  Lg : ¬ L g
  Lt : ¬ L t
def TK (L : Pr) (s : Stt) (k : Nat) (V : VS) : Prop := ∃ n p g t pl, TK' a L s k V n p g t pl
def Fr (L : Pr) (s s' : Stt) : Prop := Ab L s'.length ∧ ∀ i, L i → s'[i]? = s[i]?
theorem Fr.refl {L : Pr} {s : Stt} (h : Ab L s.length) : Fr L s s := ⟨h, fun _ _ => rfl⟩
theorem Fr.trans {L : Pr} {s s1 s2 : Stt} (h1 : Fr L s s1) (h2 : Fr L s1 s2) : Fr L s s2 := ⟨h2.1, fun i hi => (h2.2 i hi).trans (h1.2 i hi)⟩
theorem Fr.set {L : Pr} {s : Stt} {k : Nat} (o : O) (h : Ab L s.length) (hk : ¬ L k) : Fr L s (s.set k o) := ⟨by simpa using h, fun i hi => List.getElem?_set_ne (fun e => hk (by rw [e]; exact hi))⟩
theorem Fr.app {L : Pr} {s : Stt} (J : Stt) (h : Ab L s.length) : Fr L s (s ++ J) := ⟨h.le (by simp), fun i hi => List.getElem?_append_left (h i hi)⟩
variable {a} {L : Pr} {k n p g t : Nat} {s : Stt} {V : VS} {pl : Int}
theorem lt_of {s : Stt} {i : Nat} {o : O} (h : s[i]? = some o) : i < s.length := (List.getElem?_eq_some_iff.mp h).1
theorem ne_of {s : Stt} {i j : Nat} {o o' : O} (h : s[i]? = some o) (h' : s[j]? = some o') (ho : o ≠ o') : i ≠ j := fun e => ho (by subst e; exact Option.some.inj (h.symm.trans h'))
namespace TK'
variable (K : TK' a L s k V n p g t pl)
include K
theorem kn : k ≠ n := ne_of K.ok K.on (fun e => by cases e)
theorem kp : k ≠ p := ne_of K.ok K.op (fun e => by cases e)
theorem kg : k ≠ g := ne_of K.ok K.og (fun e => by cases e)
theorem kt : k ≠ t := ne_of K.ok K.ot (fun e => by cases e)
theorem pn : p ≠ n := ne_of K.op K.on (fun e => by cases e)
theorem pg : p ≠ g := ne_of K.op K.og (fun e => by cases e)
theorem pt : p ≠ t := ne_of K.op K.ot (fun e => by cases e)
theorem app (J : Stt) : TK' a L (s ++ J) k V n p g t pl := ⟨at_old K.ok J, at_old K.on J, at_old K.op J, at_old K.og J, at_old K.ot J, K.ng, K.nt, K.gt, K.Lk, K.Ln, K.Lp, K.Lg, K.Lt⟩
theorem fld (V' : VS) (pl' : Int) (h1 : V'.ns = V.ns) (h2 : V'.ps = V.ps) (h3 : V'.sg = V.sg) (h4 : V'.td = V.td) : TK' a L (s.set k (.ins a.c_Tokens (TF V' n p g t pl'))) k V' n p g t pl' :=
  ⟨set_at_eq K.ok, by rw [set_at_ne K.kn, K.on, h1], by rw [set_at_ne K.kp, K.op, h2], by rw [set_at_ne K.kg, K.og, h3], by rw [set_at_ne K.kt, K.ot, h4], K.ng, K.nt, K.gt, K.Lk, K.Ln, K.Lp, K.Lg, K.Lt⟩
theorem told (l : List D) : TK' a L (s.set t (.lst l)) k { V with td := l } n p g t pl :=
  ⟨by rw [set_at_ne (Ne.symm K.kt)]; exact K.ok, by rw [set_at_ne (Ne.symm K.nt)]; exact K.on, by rw [set_at_ne (Ne.symm K.pt)]; exact K.op, by rw [set_at_ne (Ne.symm K.gt)]; exact K.og, set_at_eq K.ot, K.ng, K.nt, K.gt, K.Lk, K.Ln, K.Lp, K.Lg, K.Lt⟩
theorem signs (l : List D) : TK' a L (s.set g (.lst l)) k { V with sg := l } n p g t pl :=
  ⟨by rw [set_at_ne (Ne.symm K.kg)]; exact K.ok, by rw [set_at_ne (Ne.symm K.ng)]; exact K.on, by rw [set_at_ne (Ne.symm K.pg)]; exact K.op, set_at_eq K.og, by rw [set_at_ne K.gt]; exact K.ot, K.ng, K.nt, K.gt, K.Lk, K.Ln, K.Lp, K.Lg, K.Lt⟩
theorem names (l : List (List Nat)) : TK' a L (s.set n (.lst (l.map fun x => .str (tx x)))) k { V with ns := l } n p g t pl :=
  ⟨by rw [set_at_ne (Ne.symm K.kn)]; exact K.ok, set_at_eq K.on, by rw [set_at_ne (Ne.symm K.pn)]; exact K.op, by rw [set_at_ne K.ng]; exact K.og, by rw [set_at_ne K.nt]; exact K.ot, K.ng, K.nt, K.gt, K.Lk, K.Ln, K.Lp, K.Lg, K.Lt⟩
theorem pairs (l : List (Key × D)) : TK' a L (s.set p (.dct l)) k { V with ps := l } n p g t pl :=
  ⟨by rw [set_at_ne (Ne.symm K.kp)]; exact K.ok, by rw [set_at_ne K.pn]; exact K.on, set_at_eq K.op, by rw [set_at_ne K.pg]; exact K.og, by rw [set_at_ne K.pt]; exact K.ot, K.ng, K.nt, K.gt, K.Lk, K.Ln, K.Lp, K.Lg, K.Lt⟩
end TK'
/-- the cells may be dropped -/
theorem gcTK {f : Fn} {ds : List D} {s s1 : Stt} {V V' : VS} {d : D} (hl : Ab L s.length) (hd : ∀ m, Low m d) (h : f ds s = .ok d s1) (K0 : TK a L s k V) (K1 : TK a L s1 k V') (F : Fr L s s1) : ∃ s2, gcB f ds s = .ok d s2 ∧ TK a L s2 k V' ∧ Fr L s s2 := by
  unfold gcB
  rw [h, gcR_ok]
  split
  · rename_i hc
    refine ⟨_, rfl, ?_, ⟨hl.le (by rw [List.length_take]; have := hc.1.1; omega), fun i hi => by rw [List.getElem?_take_of_lt (hl i hi)]; exact F.2 i hi⟩⟩
    obtain ⟨n, p, g, t, pl, K⟩ := K1
    obtain ⟨n0, p0, g0, t0, pl0, K0⟩ := K0
    have hk : k < s.length := lt_of K0.ok
    have hlow : n < s.length ∧ p < s.length ∧ g < s.length ∧ t < s.length := by
      rcases hc.1.2 k hk with e | ⟨o, e, w⟩
      · rw [K.ok, K0.ok] at e
        have e := (O.ins.inj (Option.some.inj e)).2
        simp only [TF, List.cons.injEq, Prod.mk.injEq, D.loc.injEq] at e
        obtain ⟨_, _, ⟨_, rfl⟩, _, _, _, ⟨_, rfl⟩, ⟨_, rfl⟩, _, _, _, ⟨_, rfl⟩, _⟩ := e
        exact ⟨lt_of K0.on, lt_of K0.op, lt_of K0.og, lt_of K0.ot⟩
      · rw [K.ok] at e
        cases e
        rw [lowO_ins] at w
        refine ⟨?_, ?_, ?_, ?_⟩
        · have := w (⟨#[110, 97, 109, 101, 115]⟩, .loc n) (by simp [TF]); simpa using this
        · have := w (⟨#[112, 97, 105, 114, 115]⟩, .loc p) (by simp [TF]); simpa using this
        · have := w (⟨#[115, 105, 103, 110, 115]⟩, .loc g) (by simp [TF]); simpa using this
        · have := w (⟨#[116, 111, 108, 100]⟩, .loc t) (by simp [TF]); simpa using this
    obtain ⟨h1, h2, h3, h4⟩ := hlow
    exact ⟨n, p, g, t, pl, by rw [List.getElem?_take_of_lt hk]; exact K.ok, by rw [List.getElem?_take_of_lt h1]; exact K.on, by rw [List.getElem?_take_of_lt h2]; exact K.op, by rw [List.getElem?_take_of_lt h3]; exact K.og, by rw [List.getElem?_take_of_lt h4]; exact K.ot, K.ng, K.nt, K.gt, K.Lk, K.Ln, K.Lp, K.Lg, K.Lt⟩
  · rename_i hc
    cases d with
    | loc m => have := hd 0; simp at this
    | _ => exact ⟨_, rfl, K1, F⟩
/-- a call reads: from V to V' -/
def RdS (a : Ads) (f : Nat → Stt → R D) (V V' : VS) : Prop := ∀ (L : Pr) (s : Stt) (k : Nat), Ab L s.length → TK a L s k V → ∃ s', f k s = .ok .non s' ∧ TK a L s' k V' ∧ Fr L s s'
end Law

set_option Elab.async false
set_option linter.all false
set_option maxRecDepth 100000
set_option maxHeartbeats 4000000
namespace Law
open PySem PySem.Spec PyProof.Rows L2 Rg
def kOut : List Nat := [111, 117, 116, 115, 105, 100, 101]
def kCon : List Nat := [99, 111, 110, 116, 101, 110, 116]
def kLess : List Nat := [108, 101, 115, 115]
def kName : List Nat := [110, 97, 109, 101]
def kVald : List Nat := [118, 97, 108, 117, 101, 100]
def kGap : List Nat := [103, 97, 112]
def kAtt : List Nat := [97, 116, 116, 114, 105, 98, 117, 116, 101]
def kEq : List Nat := [101, 113, 117, 97, 108, 115]
def kVal : List Nat := [118, 97, 108, 117, 101]
def kSl : List Nat := [115, 108, 97, 115, 104]
def kEnd : List Nat := [101, 110, 100, 32, 110, 97, 109, 101]
def kEnt : List Nat := [101, 110, 116, 105, 116, 121]
section
variable (a : Ads) (V : VS)
theorem rd_out_lt : RdS a (fun k s => m_read_outside a [.loc k, .str ⟨#[60]⟩] s) V { V with rd := kLess } := by
  intro L s k hL ⟨n, p, g, t, pl, K⟩
  refine gcTK hL (by simp) (s1 := s.set k (.ins a.c_Tokens (TF { V with rd := kLess } n p g t pl))) ?_ ⟨n, p, g, t, pl, K⟩ ⟨n, p, g, t, pl, K.fld _ _ rfl rfl rfl rfl⟩ (Fr.set _ hL K.Lk)
  simp [f_read_outside, read_outside_i2, K.ok, kLess]
theorem rd_con_lt : RdS a (fun k s => m_read_content a [.loc k, .str ⟨#[60]⟩] s) V { V with rd := kLess } := by
  intro L s k hL ⟨n, p, g, t, pl, K⟩
  refine gcTK hL (by simp) (s1 := s.set k (.ins a.c_Tokens (TF { V with rd := kLess } n p g t pl))) ?_ ⟨n, p, g, t, pl, K⟩ ⟨n, p, g, t, pl, K.fld _ _ rfl rfl rfl rfl⟩ (Fr.set _ hL K.Lk)
  simp [f_read_content, read_content_i2, K.ok, kLess]
theorem rd_con_ch (c : Nat) (hc : c < 128) (h1 : c ≠ 60) (h2 : c ≠ 38) (hz : V.td.length < 16777216) : RdS a (fun k s => m_read_content a [.loc k, .str ⟨#[c]⟩] s) V { V with td := V.td ++ [evC c] } := by
  intro L s k hL ⟨n, p, g, t, pl, K⟩
  refine gcTK hL (by simp) (s1 := s.set t (.lst (V.td ++ [evC c]))) ?_ ⟨n, p, g, t, pl, K⟩ ⟨n, p, g, t, pl, K.told _⟩ (Fr.set _ hL K.Lt)
  have h3 : c < 1114112 := by omega
  simp [f_read_content, read_content_i2, read_content_i1, K.ok, K.ot, h1, h2, h3, hz, evC]
theorem begin_ent (w : List Nat) : RdS a (fun k s => m_begin_entity a [.loc k, .str (tx w)] s) V { V with ar := w, ent := [], rd := kEnt } := by
  intro L s k hL ⟨n, p, g, t, pl, K⟩
  refine gcTK hL (by simp) (s1 := s.set k (.ins a.c_Tokens (TF { V with ar := w, ent := [], rd := kEnt } n p g t pl))) ?_ ⟨n, p, g, t, pl, K⟩ ⟨n, p, g, t, pl, K.fld _ _ rfl rfl rfl rfl⟩ (Fr.set _ hL K.Lk)
  have gs : ∀ o, (s.set k o)[k]? = some o := fun o => set_at_eq K.ok
  simp [f_begin_entity, K.ok, kEnt, gs]
theorem rd_con_amp : RdS a (fun k s => m_read_content a [.loc k, .str ⟨#[38]⟩] s) V { V with ar := kCon, ent := [], rd := kEnt } := by
  intro L s k hL K0
  obtain ⟨s', e, K1, F⟩ := begin_ent a V kCon L s k hL K0
  refine gcTK hL (by simp) (s1 := s') ?_ K0 K1 F
  simp only [kCon] at e
  simp [f_read_content, read_content_i2, read_content_i1, e]
theorem rd_val_amp : RdS a (fun k s => m_read_value a [.loc k, .str ⟨#[38]⟩] s) V { V with ar := kVal, ent := [], rd := kEnt } := by
  intro L s k hL K0
  obtain ⟨s', e, K1, F⟩ := begin_ent a V kVal L s k hL K0
  refine gcTK hL (by simp) (s1 := s') ?_ K0 K1 F
  simp only [kVal] at e
  simp [f_read_value, read_value_i3, read_value_i2, read_value_i1, e]
theorem rd_val_ch (c : Nat) (hc : c < 128) (h1 : c ≠ 60) (h2 : c ≠ 38) (h3 : c ≠ 34) (hz : V.sg.length < 16777216) : RdS a (fun k s => m_read_value a [.loc k, .str ⟨#[c]⟩] s) V { V with sg := V.sg ++ [.str ⟨#[c]⟩] } := by
  intro L s k hL ⟨n, p, g, t, pl, K⟩
  refine gcTK hL (by simp) (s1 := s.set g (.lst (V.sg ++ [.str ⟨#[c]⟩]))) ?_ ⟨n, p, g, t, pl, K⟩ ⟨n, p, g, t, pl, K.signs _⟩ (Fr.set _ hL K.Lg)
  have h4 : c < 1114112 := by omega
  simp [f_read_value, read_value_i3, read_value_i2, read_value_i1, K.ok, K.og, h1, h2, h3, h4, hz]
theorem rd_val_q (l : List Nat) (hs : V.sg = l.map fun c => D.str ⟨#[c]⟩) (hz : l.length < 10000) (hp : V.ps.length < 1000) : RdS a (fun k s => m_read_value a [.loc k, .str ⟨#[34]⟩] s) V { V with ps := putD V.ps (.inr (tx V.at_)) (.str (tx l)), rd := kVald } := by
  intro L s k hL ⟨n, p, g, t, pl, K⟩
  have K1 := K.pairs (putD V.ps (.inr (tx V.at_)) (.str (tx l)))
  refine gcTK hL (by simp) (s1 := (s.set p (.dct (putD V.ps (.inr (tx V.at_)) (.str (tx l))))).set k (.ins a.c_Tokens (TF { V with rd := kVald } n p g t pl))) ?_ ⟨n, p, g, t, pl, K⟩ ⟨n, p, g, t, pl, K1.fld { V with ps := putD V.ps (.inr (tx V.at_)) (.str (tx l)), rd := kVald } _ rfl rfl rfl rfl⟩ ((Fr.set _ hL K.Lp).trans (Fr.set _ (by simpa using hL) K.Lk))
  have gk : ∀ o, (s.set p o)[k]? = some (.ins a.c_Tokens (TF V n p g t pl)) := fun o => by rw [set_at_ne (Ne.symm K.kp)]; exact K.ok
  have hj := join_1 l
  have ht := txts_1 l
  have hsum : (List.map ((fun x : Str => x.length) ∘ fun c => (⟨#[c]⟩ : Str)) l).sum ≤ 16777216 := by
    have : (List.map ((fun x => x.length) ∘ fun c => (⟨#[c]⟩ : Str)) l).sum = l.length := by
      clear hj ht hs hz hp gk K1 K
      induction l with
      | nil => rfl
      | cons c l ih => rw [List.map_cons, List.sum_cons, ih, List.length_cons]; show 1 + _ = _; omega
    omega
  have hz2 : V.ps.length < 16777216 := by omega
  have dk : setDk (.loc p) (.str (tx V.at_)) (.str (tx l)) [some (.loc k), some (.str ⟨#[34]⟩)] s = .nx [some (.loc k), some (.str ⟨#[34]⟩)] (s.set p (.dct (putD V.ps (.inr (tx V.at_)) (.str (tx l))))) := by
    unfold setDk
    rw [dctAt_loc K.op]
    show (if V.ps.length < sizeLine then _ else _) = _
    rw [if_pos (by rw [sizeLine_eq]; exact hz2)]
  simp [f_read_value, read_value_i3, K.ok, K.og, hs, hj, ht, hsum, dk, gk, kVald]
theorem rd_less_sl (hn : V.ns ≠ []) : RdS a (fun k s => m_read_less a [.loc k, .str ⟨#[47]⟩] s) V { V with mt := 0, rd := kEnd } := by
  intro L s k hL ⟨n, p, g, t, pl, K⟩
  refine gcTK hL (by simp) (s1 := s.set k (.ins a.c_Tokens (TF { V with mt := 0, rd := kEnd } n p g t pl))) ?_ ⟨n, p, g, t, pl, K⟩ ⟨n, p, g, t, pl, K.fld _ _ rfl rfl rfl rfl⟩ (Fr.set _ hL K.Lk)
  have gs : ∀ o, (s.set k o)[k]? = some o := fun o => set_at_eq K.ok
  simp [f_read_less, read_less_i3, read_less_i2, K.ok, K.on, kEnd, gs, hn]
end
end Law

set_option Elab.async false
set_option linter.all false
set_option maxRecDepth 100000
set_option maxHeartbeats 4000000
namespace Law
open PySem PySem.Spec PyProof.Rows L2 Rg
theorem low_f : ∀ c ∈ L_low, c ≠ 33 ∧ c ≠ 47 ∧ c < 128 ∧ c ∈ L_lowd ∧ c ≠ 60 ∧ c ≠ 62 ∧ c ≠ 32 := by decide +kernel
theorem lowd_f : ∀ c ∈ L_lowd, c ≠ 61 ∧ c ≠ 62 ∧ c ≠ 47 ∧ c ≠ 32 ∧ c < 128 := by decide +kernel
theorem nl_f : 32 ∉ L_lowd ∧ 47 ∉ L_lowd ∧ 62 ∉ L_lowd ∧ 61 ∉ L_lowd ∧ 32 ∉ L_low ∧ 47 ∉ L_low ∧ 62 ∉ L_low := by decide +kernel
section
variable (a : Ads) (V : VS)
theorem begin_el (c : Nat) (hn : V.ns.length < 60) : RdS a (fun k s => m_begin_element a [.loc k, .str ⟨#[c]⟩] s) V { V with nm := [c], ps := [], rd := kName } := by
  intro L s k hL ⟨n, p, g, t, pl, K⟩
  have K1 := (K.app [.dct []])
  have hk := lt_of K.ok
  have K2 : TK' a L ((s ++ [O.dct []]).set k (.ins a.c_Tokens (TF { V with nm := [c], ps := [], rd := kName } n s.length g t pl))) k { V with nm := [c], ps := [], rd := kName } n s.length g t pl :=
    ⟨set_at_eq K1.ok, by rw [set_at_ne K.kn]; exact K1.on, by rw [set_at_ne (by omega)]; simp, by rw [set_at_ne K.kg]; exact K1.og, by rw [set_at_ne K.kt]; exact K1.ot, K.ng, K.nt, K.gt, K.Lk, K.Ln, hL.no (Nat.le_refl _), K.Lg, K.Lt⟩
  refine gcTK hL (by simp) (s1 := (s ++ [O.dct []]).set k (.ins a.c_Tokens (TF { V with nm := [c], ps := [], rd := kName } n s.length g t pl))) ?_ ⟨n, p, g, t, pl, K⟩ ⟨n, s.length, g, t, pl, K2⟩ ((Fr.app _ hL).trans (Fr.set _ (hL.le (by simp)) K.Lk))
  have gs : ∀ o, (s.set k o)[k]? = some o := fun o => set_at_eq K.ok
  have gs2 : ∀ o J, (s.set k o ++ J)[k]? = some o := fun o J => at_old (gs o) J
  have gs3 : ∀ o J, (s.set k o ++ J).set k = fun o' => s.set k o' ++ J := fun o J => by funext o'; rw [List.set_append_left _ _ (by simpa using hk), List.set_set]
  have gs4 : ∀ o J, (s ++ J).set k o = s.set k o ++ J := fun o J => List.set_append_left _ _ hk
  have hz : ¬ (60 : Int) ≤ (V.ns.length : Int) := by omega
  simp [-getElem?_pos, f_begin_element, begin_element_i1, K.ok, K.on, kName, gs, gs2, gs3, gs4, hz]
  rfl
theorem rd_less_ch (c : Nat) (hc : c ∈ L_low) (he : V.en = false) (hn : V.ns.length < 60) : RdS a (fun k s => m_read_less a [.loc k, .str ⟨#[c]⟩] s) V { V with nm := [c], ps := [], rd := kName } := by
  intro L s k hL K0
  obtain ⟨h1, h2, h3, h4, h5, h6, h7⟩ := low_f c hc
  obtain ⟨s', e, K1, F⟩ := begin_el a V c hn L s k hL K0
  refine gcTK hL (by simp) (s1 := s') ?_ K0 K1 F
  obtain ⟨n, p, g, t, pl, K⟩ := K0
  have h8 : c < 1114112 := by omega
  simp [f_read_less, read_less_i3, read_less_i2, read_less_i1, K.ok, e, h1, h2, h8, hc, he]
theorem leng (x : List Nat) (c : Nat) (d : D) (s : Stt) (h : x.length < 8) : m_lengthened a [d, .str (tx x), .str ⟨#[c]⟩] s = .ok (.str (tx (x ++ [c]))) s := by
  refine gcE ⟨[], ?_⟩ (by simp)
  have h1 : ¬ (8 : Int) ≤ (x.length : Int) := by omega
  have h2 : x.length ≤ 16777216 := by omega
  have h3 : x.length + 1 ≤ 16777216 := by omega
  have h4 : x.length ≤ 16777215 := by omega
  simp [f_lengthened, lengthened_i1, h1, h2, h3, h4, sizeLine_eq]
theorem rd_name_ch (c : Nat) (hc : c ∈ L_lowd) (h : V.nm.length < 8) : RdS a (fun k s => m_read_name a [.loc k, .str ⟨#[c]⟩] s) V { V with nm := V.nm ++ [c] } := by
  intro L s k hL ⟨n, p, g, t, pl, K⟩
  have l1 := leng a V.nm c (.loc k) s h
  refine gcTK hL (by simp) (s1 := s.set k (.ins a.c_Tokens (TF { V with nm := V.nm ++ [c] } n p g t pl))) ?_ ⟨n, p, g, t, pl, K⟩ ⟨n, p, g, t, pl, K.fld _ _ rfl rfl rfl rfl⟩ (Fr.set _ hL K.Lk)
  simp [f_read_name, read_name_i1, K.ok, hc, l1]
theorem rd_valued_sp : RdS a (fun k s => m_read_valued a [.loc k, .str ⟨#[32]⟩] s) V { V with rd := kGap } := by
  intro L s k hL ⟨n, p, g, t, pl, K⟩
  refine gcTK hL (by simp) (s1 := s.set k (.ins a.c_Tokens (TF { V with rd := kGap } n p g t pl))) ?_ ⟨n, p, g, t, pl, K⟩ ⟨n, p, g, t, pl, K.fld _ _ rfl rfl rfl rfl⟩ (Fr.set _ hL K.Lk)
  simp [f_read_valued, read_valued_i3, K.ok, kGap]
theorem rd_valued_sl : RdS a (fun k s => m_read_valued a [.loc k, .str ⟨#[47]⟩] s) V { V with rd := kSl } := by
  intro L s k hL ⟨n, p, g, t, pl, K⟩
  refine gcTK hL (by simp) (s1 := s.set k (.ins a.c_Tokens (TF { V with rd := kSl } n p g t pl))) ?_ ⟨n, p, g, t, pl, K⟩ ⟨n, p, g, t, pl, K.fld _ _ rfl rfl rfl rfl⟩ (Fr.set _ hL K.Lk)
  simp [f_read_valued, read_valued_i3, read_valued_i2, K.ok, kSl]
theorem rd_name_by (c : Nat) (V' : VS) (hc : c ∉ L_lowd) (h : RdS a (fun k s => m_read_valued a [.loc k, .str ⟨#[c]⟩] s) V V') : RdS a (fun k s => m_read_name a [.loc k, .str ⟨#[c]⟩] s) V V' := by
  intro L s k hL K0
  obtain ⟨s', e, K1, F⟩ := h L s k hL K0
  refine gcTK hL (by simp) (s1 := s') ?_ K0 K1 F
  simp [f_read_name, read_name_i1, hc, e]
theorem rd_gap_by (c : Nat) (V' : VS) (hc : c ∉ L_low) (h : RdS a (fun k s => m_read_valued a [.loc k, .str ⟨#[c]⟩] s) V V') : RdS a (fun k s => m_read_gap a [.loc k, .str ⟨#[c]⟩] s) V V' := by
  intro L s k hL K0
  obtain ⟨s', e, K1, F⟩ := h L s k hL K0
  refine gcTK hL (by simp) (s1 := s') ?_ K0 K1 F
  simp [f_read_gap, read_gap_i2, hc, e]
theorem rd_gap_ch (c : Nat) (hc : c ∈ L_low) (hp : V.ps.length < 8) : RdS a (fun k s => m_read_gap a [.loc k, .str ⟨#[c]⟩] s) V { V with at_ := [c], rd := kAtt } := by
  intro L s k hL ⟨n, p, g, t, pl, K⟩
  refine gcTK hL (by simp) (s1 := s.set k (.ins a.c_Tokens (TF { V with at_ := [c], rd := kAtt } n p g t pl))) ?_ ⟨n, p, g, t, pl, K⟩ ⟨n, p, g, t, pl, K.fld _ _ rfl rfl rfl rfl⟩ (Fr.set _ hL K.Lk)
  have gs : ∀ o, (s.set k o)[k]? = some o := fun o => set_at_eq K.ok
  have h1 : ¬ (8 : Int) ≤ (V.ps.length : Int) := by omega
  simp [f_read_gap, read_gap_i2, read_gap_i1, K.ok, K.op, kAtt, gs, hc, h1]
theorem rd_att_eq (h : getD' V.ps (.inr (tx V.at_)) = none) : RdS a (fun k s => m_read_attribute a [.loc k, .str ⟨#[61]⟩] s) V { V with rd := kEq } := by
  intro L s k hL ⟨n, p, g, t, pl, K⟩
  refine gcTK hL (by simp) (s1 := s.set k (.ins a.c_Tokens (TF { V with rd := kEq } n p g t pl))) ?_ ⟨n, p, g, t, pl, K⟩ ⟨n, p, g, t, pl, K.fld _ _ rfl rfl rfl rfl⟩ (Fr.set _ hL K.Lk)
  have hc := nl_f
  simp [f_read_attribute, read_attribute_i3, read_attribute_i2, K.ok, K.op, kEq, hc, oHasnt, keyD, h]
theorem rd_att_ch (c : Nat) (hc : c ∈ L_lowd) (hl : V.at_.length < 8) (h : (V.at_ ++ [c]).length ≠ 8 ∨ getD' V.ps (.inr (tx (V.at_ ++ [c]))) = none) : RdS a (fun k s => m_read_attribute a [.loc k, .str ⟨#[c]⟩] s) V { V with at_ := V.at_ ++ [c] } := by
  intro L s k hL ⟨n, p, g, t, pl, K⟩
  have l1 := leng a V.at_ c (.loc k) s hl
  refine gcTK hL (by simp) (s1 := s.set k (.ins a.c_Tokens (TF { V with at_ := V.at_ ++ [c] } n p g t pl))) ?_ ⟨n, p, g, t, pl, K⟩ ⟨n, p, g, t, pl, K.fld _ _ rfl rfl rfl rfl⟩ (Fr.set _ hL K.Lk)
  have gs : ∀ o, (s.set k o)[k]? = some o := fun o => set_at_eq K.ok
  have gp : ∀ o, (s.set k o)[p]? = some (.dct V.ps) := fun o => by rw [set_at_ne K.kp]; exact K.op
  have z : V.at_.length + 1 ≤ 16777216 := by omega
  have z2 : V.at_.length ≤ 16777215 := by omega
  rcases h with h | h
  · have h1 : ¬ ((V.at_.length : Int) + 1 = 8) := by simp at h; omega
    simp [f_read_attribute, read_attribute_i3, read_attribute_i1, K.ok, hc, l1, gs, gp, h1, z, z2, sizeLine_eq]
  · by_cases h1 : ((V.at_.length : Int) + 1 = 8)
    · simp [f_read_attribute, read_attribute_i3, read_attribute_i1, K.ok, hc, l1, gs, gp, h1, z, z2, sizeLine_eq, oHas, keyD, h]
    · simp [f_read_attribute, read_attribute_i3, read_attribute_i1, K.ok, hc, l1, gs, gp, h1, z, z2, sizeLine_eq]
theorem rd_eq_q : RdS a (fun k s => m_read_equals a [.loc k, .str ⟨#[34]⟩] s) V { V with rd := kVal, sg := [] } := by
  intro L s k hL ⟨n, p, g, t, pl, K⟩
  obtain ⟨s1, e, K1, F1⟩ : ∃ s1, m_expect a [.loc k, .str ⟨#[34]⟩, .str ⟨#[34]⟩, .str (tx kVal)] s = .ok .non s1 ∧ TK a L s1 k { V with rd := kVal } ∧ Fr L s s1 := by
    refine gcTK hL (by simp) (s1 := s.set k (.ins a.c_Tokens (TF { V with rd := kVal } n p g t pl))) ?_ ⟨n, p, g, t, pl, K⟩ ⟨n, p, g, t, pl, K.fld _ _ rfl rfl rfl rfl⟩ (Fr.set _ hL K.Lk)
    simp [f_expect, expect_i1, K.ok, kVal]
  obtain ⟨n1, p1, g1, t1, pl1, K1⟩ := K1
  have A := K1.app [.lst []]
  have hk := lt_of K1.ok
  have hn := lt_of K1.on
  have ht := lt_of K1.ot
  have K2 : TK' a L ((s1 ++ [O.lst []]).set k (.ins a.c_Tokens (TF { V with rd := kVal, sg := [] } n1 p1 s1.length t1 pl1))) k { V with rd := kVal, sg := [] } n1 p1 s1.length t1 pl1 :=
    ⟨set_at_eq A.ok, by rw [set_at_ne K1.kn]; exact A.on, by rw [set_at_ne K1.kp]; exact A.op, by rw [set_at_ne (by omega)]; simp, by rw [set_at_ne K1.kt]; exact A.ot, by omega, K1.nt, by omega, K1.Lk, K1.Ln, K1.Lp, F1.1.no (Nat.le_refl _), K1.Lt⟩
  refine gcTK hL (by simp) (s1 := (s1 ++ [O.lst []]).set k (.ins a.c_Tokens (TF { V with rd := kVal, sg := [] } n1 p1 s1.length t1 pl1))) ?_ ⟨n, p, g, t, pl, K⟩ ⟨n1, p1, s1.length, t1, pl1, K2⟩ (F1.trans ((Fr.app _ F1.1).trans (Fr.set _ (F1.1.le (by simp)) K1.Lk)))
  simp only [kVal] at e
  have ak := A.ok
  have p8 : putFD (⟨#[115, 105, 103, 110, 115]⟩ : Str) (.loc s1.length) (TF { V with rd := kVal } n1 p1 g1 t1 pl1) = TF { V with rd := kVal, sg := [] } n1 p1 s1.length t1 pl1 := tf_p6 _ _ _ _ _ _ _
  simp [-getElem?_pos, f_read_equals, e, ak, p8]
end
end Law

set_option Elab.async false
set_option linter.all false
set_option maxRecDepth 100000
set_option maxHeartbeats 4000000
namespace Law
open PySem PySem.Spec PyProof.Rows L2 Rg
theorem asc_cons {x y : List Nat} {r : List (List Nat)} (h : asc (x :: y :: r) = true) : x < y ∧ asc (y :: r) = true := by
  unfold asc at h ⊢
  simp only [List.tail_cons, List.zip_cons_cons, List.all_cons, Bool.and_eq_true] at h
  exact ⟨of_decide_eq_true h.1, h.2⟩
theorem asc_pw : ∀ (ns : List (List Nat)), asc ns = true → ns.Pairwise (fun x y => x < y)
  | [], _ => .nil
  | [x], _ => by simp
  | x :: y :: r, h => by
    obtain ⟨h1, h2⟩ := asc_cons h
    have ih := asc_pw (y :: r) h2
    refine List.pairwise_cons.mpr ⟨fun z hz => ?_, ih⟩
    rcases List.mem_cons.mp hz with rfl | hz
    · exact h1
    · exact List.lt_trans h1 ((List.pairwise_cons.mp ih).1 z hz)
theorem sort_asc (ns : List (List Nat)) (h : asc ns = true) : sortS (ns.map fun x => (tx x)) = ns.map fun x => (tx x) := by
  refine (sortS_is (List.Perm.refl _) ?_).symm
  refine List.pairwise_map.mpr ((asc_pw ns h).imp fun {x y} hxy => ?_)
  rw [leS_iff]
  exact List.le_of_lt hxy
theorem skeys_tx : ∀ ns : List (List Nat), skeys (ns.map fun x => (Sum.inr (tx x) : Key)) = some (ns.map fun x => (tx x))
  | [] => rfl
  | x :: r => by
    show (skeys (r.map fun x => (Sum.inr (tx x) : Key))).map (tx x :: ·) = _
    rw [skeys_tx r]
    rfl
/-- attributes as a dict's pairs -/
def pD (as : List (List Nat × List Nat)) : List (Key × D) := as.map fun p => (Sum.inr (tx p.1), .str (tx p.2))
theorem sortK_pD (as : List (List Nat × List Nat)) (h : asc (as.map (·.1)) = true) (hl : as.length < 64) : sortK ((pD as).map (·.1)) = some (as.map fun p => D.str (tx p.1)) := by
  have e : (pD as).map (·.1) = (as.map (·.1)).map fun x => (Sum.inr (tx x) : Key) := by simp [pD, Function.comp_def]
  unfold sortK
  rw [e, if_pos (by simpa using hl), skeys_tx]
  show some ((sortS _).map D.str) = _
  rw [sort_asc _ h]
  simp [Function.comp_def]
theorem pD_get : ∀ (as : List (List Nat × List Nat)), asc (as.map (·.1)) = true → ∀ p ∈ as, getD' (pD as) (.inr (tx p.1)) = some (.str (tx p.2))
  | [], _, p, h => by cases h
  | q :: as, ha, p, h => by
    have pw := asc_pw _ ha
    rw [List.map_cons, List.pairwise_cons] at pw
    have hs : asc (as.map (·.1)) = true := by
      cases as with
      | nil => rfl
      | cons r as => exact (asc_cons ha).2
    unfold getD'
    rcases List.mem_cons.mp h with rfl | h
    · simp [pD]
    · have hne : ¬ q.1 = p.1 := fun e => by
        have := pw.1 p.1 (List.mem_map.mpr ⟨p, h, rfl⟩)
        rw [e] at this
        exact List.lt_irrefl _ this
      have ih := pD_get as hs p h
      unfold getD' at ih
      simp only [pD, List.map_cons, List.find?_cons]
      have : decide ((Sum.inr (tx q.1) : Key) = .inr (tx p.1)) = false := by simpa using hne
      rw [this]
      exact ih
theorem pD_none (as : List (List Nat × List Nat)) (x : List Nat) (h : x ∉ as.map (·.1)) : getD' (pD as) (.inr (tx x)) = none := by
  unfold getD'
  rw [Option.map_eq_none_iff, List.find?_eq_none]
  intro q hq
  obtain ⟨p, hp, rfl⟩ := List.mem_map.mp hq
  have : ¬ p.1 = x := fun e => h (List.mem_map.mpr ⟨p, hp, e⟩)
  simpa using this
theorem putD_new (as : List (List Nat × List Nat)) (x l : List Nat) (h : x ∉ as.map (·.1)) : putD (pD as) (.inr (tx x)) (.str (tx l)) = pD (as ++ [(x, l)]) := by
  unfold putD
  rw [if_neg]
  · simp [pD]
  · intro h2
    rw [List.any_eq_true] at h2
    obtain ⟨q, hq, h3⟩ := h2
    obtain ⟨p, hp, rfl⟩ := List.mem_map.mp hq
    have : ¬ p.1 = x := fun e => h (List.mem_map.mpr ⟨p, hp, e⟩)
    simp [this] at h3
section
variable (a : Ads) (V : VS)
theorem tell_start_ok (as : List (List Nat × List Nat)) (hp : V.ps = pD as) (ha : asc (as.map (·.1)) = true) (hl : as.length ≤ 8) (hz : V.td.length < 16000000) (hn : V.ns.length < 1000) : RdS a (fun k s => m_tell_start a [.loc k] s) V { V with td := V.td ++ [evS V.nm as], ns := V.ns ++ [V.nm] } := by
  intro L s k hL ⟨n, p, g, t, pl, K⟩
  have hl64 : as.length < 64 := by omega
  have hsk := sortK_pD as ha hl64
  have A := K.app [.lst (as.map fun p => D.str (tx p.1)), .lst (as.map fun p => D.tup [.str (tx p.1), .str (tx p.2)])]
  have B := A.told (V.td ++ [evS V.nm as])
  have C := B.names (V.ns ++ [V.nm])
  have hc := comp_map (L := s.length + 1) (ok := fun st => items st (.loc s.length) = some (as.map fun p => D.str (tx p.1))) (g := gN 2) (t := xYes) (f := xTup (xCons (xV 2) (xCons (x2 oGet (x1 (oFld a.c_Tokens "pairs") (xV 0)) (xV 2)) (xNil)))) (ρ := [some (.loc k), some (.loc s.length), none]) (φ := fun d => match d with | .str x => .tup [.str x, (getD' (pD as) (.inr x)).getD .non] | _ => .non) (st := s ++ [.lst (as.map fun p => D.str (tx p.1))]) (by simp) (fun l => items_loc (by simp)) (as.map fun p => D.str (tx p.1)) []
    (fun d hd => by
      obtain ⟨q, hq, rfl⟩ := List.mem_map.mp hd
      have hg := pD_get as ha q hq
      have hk1 : ∀ J, (s ++ J)[k]? = some (.ins a.c_Tokens (TF V n p g t pl)) := fun J => at_old K.ok J
      have hp1 : ∀ J, (s ++ J)[p]? = some (.dct (pD as)) := fun J => by rw [← hp]; exact at_old K.op J
      refine ⟨_, rfl, fun l => ⟨by simp, ?_⟩⟩
      simp [hk1, hp1, oGet, keyD, hg]) (by simp; omega)
  rw [List.map_map] at hc
  have em : as.map ((fun d => match d with | D.str x => D.tup [.str x, (getD' (pD as) (.inr x)).getD .non] | _ => D.non) ∘ fun p => D.str (tx p.1)) = as.map fun p => D.tup [.str (tx p.1), .str (tx p.2)] := by
    refine List.map_congr_left fun q hq => ?_
    have hg := pD_get as ha q hq
    simp [hg]
  rw [em] at hc
  simp only [List.nil_append, List.append_assoc, List.cons_append] at hc
  refine gcTK hL (by simp) (s1 := ((s ++ [O.lst (as.map fun p => D.str (tx p.1)), O.lst (as.map fun p => D.tup [.str (tx p.1), .str (tx p.2)])]).set t (.lst (V.td ++ [evS V.nm as]))).set n (.lst ((V.ns ++ [V.nm]).map fun x => .str (tx x)))) ?_ ⟨n, p, g, t, pl, K⟩ ⟨n, p, g, t, pl, C⟩ ((Fr.app _ hL).trans ((Fr.set _ (hL.le (by simp)) K.Lt).trans (Fr.set _ (hL.le (by simp)) K.Ln)))
  have k0 := K.ok
  have p0 := K.op
  rw [hp] at p0
  have k1 := A.ok
  have t1 := A.ot
  have k2 := B.ok
  have n2 := B.on
  have z1 : V.td.length < 16777216 := by omega
  have z2 : V.ns.length < 16777216 := by omega
  have z3 : as.length ≤ 16777216 := by omega
  have k3 : ∀ J, (s ++ J)[k]? = some (.ins a.c_Tokens (TF V n p g t pl)) := fun J => at_old K.ok J
  have t3 : ∀ J, (s ++ J)[t]? = some (.lst V.td) := fun J => at_old K.ot J
  simp only [items_at, fl_pairs] at hc
  simp only [evS, attD] at k2 n2 ⊢
  simp [-getElem?_pos, List.getElem?_cons_zero, f_tell_start, k0, p0, hsk, hc, k3, t3, z1, z3, k2, n2, z2]
end
end Law

set_option Elab.async false
set_option linter.all false
set_option maxRecDepth 100000
set_option maxHeartbeats 4000000
namespace Law
open PySem PySem.Spec PyProof.Rows L2 Rg
section
variable (a : Ads) (V : VS)
def btw (ns : List (List Nat)) : List Nat := if ns.isEmpty = true then kOut else kCon
theorem tell_end_ok (ns : List (List Nat)) (m : List Nat) (hn : V.ns = ns ++ [m]) (hz : V.td.length < 16000000) : RdS a (fun k s => m_tell_end a [.loc k] s) V { V with td := V.td ++ [evE m], ns := ns, en := ns.isEmpty, rd := btw ns } := by
  intro L s k hL ⟨n, p, g, t, pl, K⟩
  have B := K.names ns
  have C := B.told (V.td ++ [evE m])
  have D1 := C.fld { V with td := V.td ++ [evE m], ns := ns, en := ns.isEmpty, rd := btw ns } pl rfl rfl rfl rfl
  refine gcTK hL (by simp) (s1 := ((s.set n (.lst (ns.map fun x => .str (tx x)))).set t (.lst (V.td ++ [evE m]))).set k (.ins a.c_Tokens (TF { V with td := V.td ++ [evE m], ns := ns, en := ns.isEmpty, rd := btw ns } n p g t pl))) ?_ ⟨n, p, g, t, pl, K⟩ ⟨n, p, g, t, pl, D1⟩ ((Fr.set _ hL K.Ln).trans ((Fr.set _ (by simpa using hL) K.Lt).trans (Fr.set _ (by simpa using hL) K.Lk)))
  have k0 := K.ok
  have n0 := K.on
  rw [hn] at n0
  have t0 := K.ot
  have t1 := B.ot
  have k2 := C.ok
  have n2 := C.on
  have z1 : V.td.length < 16777216 := by omega
  have bt : ∀ s', TK' a L s' k { V with td := V.td ++ [evE m], ns := ns, en := ns.isEmpty } n p g t pl → m_between_tokens a [.loc k] s' = .ok (.str (tx (btw ns))) s' := fun s' K' => by
    refine gcE ⟨[], ?_⟩ (by simp)
    have kk := K'.ok
    have nn := K'.on
    cases ns with
    | nil => simp [f_between_tokens, between_tokens_i1, kk, nn, btw, kOut] at nn ⊢
    | cons x r => simp [f_between_tokens, between_tokens_i1, kk, nn, btw, kCon] at nn ⊢
  have E1 := C.fld { V with td := V.td ++ [evE m], ns := ns, en := ns.isEmpty } pl rfl rfl rfl rfl
  have e1 := bt _ E1
  have k3 := E1.ok
  have gl : (List.map (fun x => D.str (tx x)) ns ++ [D.str (tx m)])[ns.length]? = some (.str (tx m)) := by rw [List.getElem?_append_right (by simp)]; simp
  simp only [evE] at *
  simp at n0
  simp [-getElem?_pos, f_tell_end, k0, n0, t0, t1, k2, n2, z1, e1, k3, gl]
theorem rd_valued_gt (as : List (List Nat × List Nat)) (hp : V.ps = pD as) (ha : asc (as.map (·.1)) = true) (hl : as.length ≤ 8) (hz : V.td.length < 16000000) (hn : V.ns.length < 1000) : RdS a (fun k s => m_read_valued a [.loc k, .str ⟨#[62]⟩] s) V { V with td := V.td ++ [evS V.nm as], ns := V.ns ++ [V.nm], rd := kCon } := by
  intro L s k hL K0
  obtain ⟨s1, e, ⟨n, p, g, t, pl, K⟩, F⟩ := tell_start_ok a V as hp ha hl hz hn L s k hL K0
  refine gcTK hL (by simp) (s1 := s1.set k (.ins a.c_Tokens (TF { V with td := V.td ++ [evS V.nm as], ns := V.ns ++ [V.nm], rd := kCon } n p g t pl))) ?_ K0 ⟨n, p, g, t, pl, K.fld _ _ rfl rfl rfl rfl⟩ (F.trans (Fr.set _ F.1 K.Lk))
  simp [f_read_valued, read_valued_i3, read_valued_i2, read_valued_i1, e, K.ok, kCon]
theorem rd_slash_gt (as : List (List Nat × List Nat)) (hp : V.ps = pD as) (ha : asc (as.map (·.1)) = true) (hl : as.length ≤ 8) (hz : V.td.length < 15000000) (hn : V.ns.length < 1000) : RdS a (fun k s => m_read_slash a [.loc k, .str ⟨#[62]⟩] s) V { V with td := V.td ++ [evS V.nm as] ++ [evE V.nm], ns := V.ns, en := V.ns.isEmpty, rd := btw V.ns } := by
  intro L s k hL K0
  obtain ⟨s1, e1, K1, F1⟩ := tell_start_ok a V as hp ha hl (by omega) hn L s k hL K0
  obtain ⟨s2, e2, K2, F2⟩ := tell_end_ok a { V with td := V.td ++ [evS V.nm as], ns := V.ns ++ [V.nm] } V.ns V.nm rfl (by simp; omega) L s1 k F1.1 K1
  refine gcTK hL (by simp) (s1 := s2) ?_ K0 K2 (F1.trans F2)
  simp [f_read_slash, read_slash_i1, e1, e2]
theorem rd_end_ch (ns : List (List Nat)) (m : List Nat) (i c : Nat) (hn : V.ns = ns ++ [m]) (hi : V.mt = (i : Int)) (hc : m[i]? = some c) (hm : m.length < 100) (hc2 : c < 128) : RdS a (fun k s => m_read_end_name a [.loc k, .str ⟨#[c]⟩] s) V { V with mt := ((i + 1 : Nat) : Int) } := by
  intro L s k hL ⟨n, p, g, t, pl, K⟩
  refine gcTK hL (by simp) (s1 := s.set k (.ins a.c_Tokens (TF { V with mt := ((i + 1 : Nat) : Int) } n p g t pl))) ?_ ⟨n, p, g, t, pl, K⟩ ⟨n, p, g, t, pl, K.fld _ _ rfl rfl rfl rfl⟩ (Fr.set _ hL K.Lk)
  have n0 := K.on
  rw [hn] at n0
  simp at n0
  have k0 := K.ok
  have hil := (List.getElem?_eq_some_iff.mp hc).1
  have h1 : m.length ≤ 16777216 := by omega
  have hat : atI m (i : Int) = some c := atI_of (by omega) (by simpa using hc)
  have h3 : c < 1114112 := by omega
  simp [-getElem?_pos, f_read_end_name, read_end_name_i4, read_end_name_i1, k0, n0, hi, h1, hil, hat, h3]
theorem rd_end_gt (ns : List (List Nat)) (m : List Nat) (hn : V.ns = ns ++ [m]) (hi : V.mt = (m.length : Int)) (hm : m.length < 100) (hz : V.td.length < 16000000) : RdS a (fun k s => m_read_end_name a [.loc k, .str ⟨#[62]⟩] s) V { V with td := V.td ++ [evE m], ns := ns, en := ns.isEmpty, rd := btw ns } := by
  intro L s k hL K0
  obtain ⟨s1, e, K1, F⟩ := tell_end_ok a V ns m hn hz L s k hL K0
  refine gcTK hL (by simp) (s1 := s1) ?_ K0 K1 F
  obtain ⟨n, p, g, t, pl, K⟩ := K0
  have n0 := K.on
  rw [hn] at n0
  simp at n0
  have k0 := K.ok
  have h1 : m.length ≤ 16777216 := by omega
  simp [-getElem?_pos, f_read_end_name, read_end_name_i4, read_end_name_i3, k0, n0, hi, h1, e]
theorem tell_ent_val (c : Nat) (ha : V.ar = kVal) (hz : V.sg.length < 16777216) : RdS a (fun k s => m_tell_entity a [.loc k, .str ⟨#[c]⟩] s) V { V with sg := V.sg ++ [.str ⟨#[c]⟩], rd := kVal } := by
  intro L s k hL ⟨n, p, g, t, pl, K⟩
  have B := K.signs (V.sg ++ [.str ⟨#[c]⟩])
  refine gcTK hL (by simp) (s1 := (s.set g (.lst (V.sg ++ [.str ⟨#[c]⟩]))).set k (.ins a.c_Tokens (TF { V with sg := V.sg ++ [.str ⟨#[c]⟩], rd := kVal } n p g t pl))) ?_ ⟨n, p, g, t, pl, K⟩ ⟨n, p, g, t, pl, B.fld { V with sg := V.sg ++ [.str ⟨#[c]⟩], rd := kVal } _ rfl rfl rfl rfl⟩ ((Fr.set _ hL K.Lg).trans (Fr.set _ (by simpa using hL) K.Lk))
  have k0 := K.ok
  have g0 := K.og
  have k1 := B.ok
  simp [-getElem?_pos, f_tell_entity, tell_entity_i1, k0, g0, k1, ha, kVal, hz]
theorem tell_ent_con (c : Nat) (ha : V.ar = kCon) (hz : V.td.length < 16777216) : RdS a (fun k s => m_tell_entity a [.loc k, .str ⟨#[c]⟩] s) V { V with td := V.td ++ [evC c], rd := kCon } := by
  intro L s k hL ⟨n, p, g, t, pl, K⟩
  have B := K.told (V.td ++ [evC c])
  refine gcTK hL (by simp) (s1 := (s.set t (.lst (V.td ++ [evC c]))).set k (.ins a.c_Tokens (TF { V with td := V.td ++ [evC c], rd := kCon } n p g t pl))) ?_ ⟨n, p, g, t, pl, K⟩ ⟨n, p, g, t, pl, B.fld { V with td := V.td ++ [evC c], rd := kCon } _ rfl rfl rfl rfl⟩ ((Fr.set _ hL K.Lt).trans (Fr.set _ (by simpa using hL) K.Lk))
  have k0 := K.ok
  have t0 := K.ot
  have k1 := B.ok
  simp only [evC] at k1 ⊢
  simp [-getElem?_pos, f_tell_entity, tell_entity_i1, k0, t0, k1, ha, kCon, hz]
end
end Law

set_option Elab.async false
set_option linter.all false
set_option maxRecDepth 100000
set_option maxHeartbeats 4000000
namespace Law
open PySem PySem.Spec PyProof.Rows L2 Rg
def ENT : List (Str × D) := [(⟨#[108, 116, 59]⟩, .str ⟨#[60]⟩), (⟨#[103, 116, 59]⟩, .str ⟨#[62]⟩), (⟨#[97, 109, 112, 59]⟩, .str ⟨#[38]⟩), (⟨#[113, 117, 111, 116, 59]⟩, .str ⟨#[34]⟩)]
def preE (x : List Nat) : Bool := Txt.startswith ⟨#[108, 116, 59]⟩ (tx x) || (Txt.startswith ⟨#[103, 116, 59]⟩ (tx x) || (Txt.startswith ⟨#[97, 109, 112, 59]⟩ (tx x) || Txt.startswith ⟨#[113, 117, 111, 116, 59]⟩ (tx x)))
theorem any_4 (st : Stt) (n : Nat) (b1 b2 b3 b4 : Bool) (h : st[n]? = some (.lst [.bl b1, .bl b2, .bl b3, .bl b4])) (hb : (b1 || (b2 || (b3 || b4))) = true) : fAny [.loc n] st = some (.bl true, st) := by
  show (items st (.loc n)).bind (fun ds => (bools ds).map fun bs => (D.bl (bs.any id), st)) = _
  rw [items_loc h]
  show some (D.bl (b1 || (b2 || (b3 || (b4 || false)))), st) = _
  rw [Bool.or_false, hb]
section
variable (a : Ads) (V : VS)
theorem ent_i2 (L : Pr) (k : Nat) (s : Stt) (V : VS) (n p g t : Nat) (pl : Int) (K : TK' a L s k V n p g t pl) (c : Nat) (h : preE V.ent = true) : read_entity_i2 a [some (.loc k), some (.str ⟨#[c]⟩), none] s = .nx [some (.loc k), some (.str ⟨#[c]⟩), none] (s ++ [.lst [.bl (Txt.startswith ⟨#[108, 116, 59]⟩ (tx V.ent)), .bl (Txt.startswith ⟨#[103, 116, 59]⟩ (tx V.ent)), .bl (Txt.startswith ⟨#[97, 109, 112, 59]⟩ (tx V.ent)), .bl (Txt.startswith ⟨#[113, 117, 111, 116, 59]⟩ (tx V.ent))]]) := by
  have hc := comp_map (L := s.length) (ok := fun _ => True) (g := gN 2) (t := xYes) (f := xMt isStr mStarts (xV 2) (xCons (x1 (oFld a.c_Tokens "entity") (xV 0)) (xNil))) (ρ := [some (.loc k), some (.str ⟨#[c]⟩), none]) (φ := fun d => match d with | .str w => .bl (Txt.startswith w (tx V.ent)) | _ => .non) (st := s) rfl (fun _ => trivial) [.str ⟨#[108, 116, 59]⟩, .str ⟨#[103, 116, 59]⟩, .str ⟨#[97, 109, 112, 59]⟩, .str ⟨#[113, 117, 111, 116, 59]⟩] []
    (fun d hd => by
      have k1 : ∀ J, (s ++ J)[k]? = some (.ins a.c_Tokens (TF V n p g t pl)) := fun J => at_old K.ok J
      simp only [List.mem_cons, List.not_mem_nil, or_false] at hd
      rcases hd with rfl | rfl | rfl | rfl <;> exact ⟨_, rfl, fun l => ⟨by simp, by simp [k1]⟩⟩) (by simp)
  simp only [List.map_cons, List.map_nil, List.nil_append, fl_entity] at hc
  have fa := any_4 (s ++ [.lst [.bl (Txt.startswith ⟨#[108, 116, 59]⟩ (tx V.ent)), .bl (Txt.startswith ⟨#[103, 116, 59]⟩ (tx V.ent)), .bl (Txt.startswith ⟨#[97, 109, 112, 59]⟩ (tx V.ent)), .bl (Txt.startswith ⟨#[113, 117, 111, 116, 59]⟩ (tx V.ent))]]) s.length _ _ _ _ (by simp) h
  simp [-getElem?_pos, read_entity_i2, hc, fa]
def wE (x : List Nat) : Option D := wget ENT (tx x)
theorem aug_ent (L : Pr) (k : Nat) (s : Stt) (V : VS) (n p g t : Nat) (pl : Int) (K : TK' a L s k V n p g t pl) (c : Nat) (hz : V.ent.length < 100) (x2 : Option D) : sAugF a.c_Tokens "entity" oAug (xV 0) (xV 1) [some (.loc k), some (.str ⟨#[c]⟩), x2] s = .nx [some (.loc k), some (.str ⟨#[c]⟩), x2] (s.set k (.ins a.c_Tokens (TF { V with ent := V.ent ++ [c] } n p g t pl))) := by
  have k0 := K.ok
  have h1 : V.ent.length + 1 ≤ 16777216 := by omega
  have h2 : V.ent.length ≤ 16777215 := by omega
  have ho : oAug (.str (tx V.ent)) (.str ⟨#[c]⟩) s = some (.str (tx (V.ent ++ [c])), s) := oAdd_tx V.ent [c] s (by simp; omega)
  simp [-getElem?_pos, k0, ho]
theorem rd_ent_more (c : Nat) (hz : V.ent.length < 100) (h : preE (V.ent ++ [c]) = true) (hg : wE (V.ent ++ [c]) = none) : RdS a (fun k s => m_read_entity a [.loc k, .str ⟨#[c]⟩] s) V { V with ent := V.ent ++ [c] } := by
  intro L s k hL ⟨n, p, g, t, pl, K⟩
  have B := K.fld { V with ent := V.ent ++ [c] } pl rfl rfl rfl rfl
  have e1 := aug_ent a L k s V n p g t pl K c hz none
  have e2 := ent_i2 a L k _ _ n p g t pl B c h
  have C := B.app [.lst [.bl (Txt.startswith ⟨#[108, 116, 59]⟩ (tx (V.ent ++ [c]))), .bl (Txt.startswith ⟨#[103, 116, 59]⟩ (tx (V.ent ++ [c]))), .bl (Txt.startswith ⟨#[97, 109, 112, 59]⟩ (tx (V.ent ++ [c]))), .bl (Txt.startswith ⟨#[113, 117, 111, 116, 59]⟩ (tx (V.ent ++ [c])))]]
  refine gcTK hL (by simp) ?_ ⟨n, p, g, t, pl, K⟩ ⟨n, p, g, t, pl, C⟩ ((Fr.set _ hL K.Lk).trans (Fr.app _ (by simpa using hL)))
  have k2 := C.ok
  unfold wE ENT at hg
  simp only [fl_entity] at e1
  simp only [List.size_toArray, List.length_append] at *
  show (runB 3 (f_read_entity a)) [.loc k, .str ⟨#[c]⟩] s = _
  simp at hg
  simp [-getElem?_pos, -sAugF_run, f_read_entity, e1, e2, read_entity_i1, k2, hg]
theorem rd_ent_done (c c0 : Nat) (V' : VS) (hz : V.ent.length < 100) (h : preE (V.ent ++ [c]) = true) (hg : wE (V.ent ++ [c]) = some (.str ⟨#[c0]⟩)) (ht : RdS a (fun k s => m_tell_entity a [.loc k, .str ⟨#[c0]⟩] s) { V with ent := V.ent ++ [c] } V') : RdS a (fun k s => m_read_entity a [.loc k, .str ⟨#[c]⟩] s) V V' := by
  intro L s k hL ⟨n, p, g, t, pl, K⟩
  have B := K.fld { V with ent := V.ent ++ [c] } pl rfl rfl rfl rfl
  have e1 := aug_ent a L k s V n p g t pl K c hz none
  have e2 := ent_i2 a L k _ _ n p g t pl B c h
  have C := B.app [.lst [.bl (Txt.startswith ⟨#[108, 116, 59]⟩ (tx (V.ent ++ [c]))), .bl (Txt.startswith ⟨#[103, 116, 59]⟩ (tx (V.ent ++ [c]))), .bl (Txt.startswith ⟨#[97, 109, 112, 59]⟩ (tx (V.ent ++ [c]))), .bl (Txt.startswith ⟨#[113, 117, 111, 116, 59]⟩ (tx (V.ent ++ [c])))]]
  have F1 := (Fr.set (.ins a.c_Tokens (TF { V with ent := V.ent ++ [c] } n p g t pl)) hL K.Lk).trans (Fr.app [.lst [.bl (Txt.startswith ⟨#[108, 116, 59]⟩ (tx (V.ent ++ [c]))), .bl (Txt.startswith ⟨#[103, 116, 59]⟩ (tx (V.ent ++ [c]))), .bl (Txt.startswith ⟨#[97, 109, 112, 59]⟩ (tx (V.ent ++ [c]))), .bl (Txt.startswith ⟨#[113, 117, 111, 116, 59]⟩ (tx (V.ent ++ [c])))]] (by simpa using hL))
  obtain ⟨s2, e3, K2, F2⟩ := ht L _ k F1.1 ⟨n, p, g, t, pl, C⟩
  refine gcTK hL (by simp) (s1 := s2) ?_ ⟨n, p, g, t, pl, K⟩ K2 (F1.trans F2)
  have k2 := C.ok
  unfold wE ENT at hg
  simp only [fl_entity] at e1
  show (runB 3 (f_read_entity a)) [.loc k, .str ⟨#[c]⟩] s = _
  simp at hg e3
  simp [-getElem?_pos, -sAugF_run, f_read_entity, e1, e2, read_entity_i1, k2, hg, e3]
end
end Law

set_option Elab.async false
set_option linter.all false
set_option maxRecDepth 100000
set_option maxHeartbeats 4000000
namespace Law
open PySem PySem.Spec PyProof.Rows L2 Rg
theorem pri_at : ∀ c ∈ L_pri, 32 ≤ c ∧ c ≤ 126 ∧ c ≠ 37 ∧ L_pri[c - 32]? = some c := by decide +kernel
theorem sg_cases {c : Nat} (h : isSg c = true) : c = 9 ∨ c = 10 ∨ (32 ≤ c ∧ c ≤ 126 ∧ c ≠ 37 ∧ L_pri[c - 32]? = some c) := by
  unfold isSg at h
  rw [Bool.or_eq_true] at h
  rcases h with h | h
  · exact .inr (.inr (pri_at c (of_decide_eq_true h)))
  · have := of_decide_eq_true h
    simp only [List.mem_cons, List.not_mem_nil, or_false] at this
    rcases this with rfl | rfl | rfl
    · exact .inr (.inr (pri_at 32 (by decide +kernel)))
    · exact .inl rfl
    · exact .inr (.inl rfl)
@[simp] theorem rn_outside : Str.ofString "read_outside" = ⟨#[114, 101, 97, 100, 95, 111, 117, 116, 115, 105, 100, 101]⟩ := by decide +kernel
@[simp] theorem rn_content : Str.ofString "read_content" = ⟨#[114, 101, 97, 100, 95, 99, 111, 110, 116, 101, 110, 116]⟩ := by decide +kernel
@[simp] theorem rn_less : Str.ofString "read_less" = ⟨#[114, 101, 97, 100, 95, 108, 101, 115, 115]⟩ := by decide +kernel
@[simp] theorem rn_name : Str.ofString "read_name" = ⟨#[114, 101, 97, 100, 95, 110, 97, 109, 101]⟩ := by decide +kernel
@[simp] theorem rn_valued : Str.ofString "read_valued" = ⟨#[114, 101, 97, 100, 95, 118, 97, 108, 117, 101, 100]⟩ := by decide +kernel
@[simp] theorem rn_gap : Str.ofString "read_gap" = ⟨#[114, 101, 97, 100, 95, 103, 97, 112]⟩ := by decide +kernel
@[simp] theorem rn_attribute : Str.ofString "read_attribute" = ⟨#[114, 101, 97, 100, 95, 97, 116, 116, 114, 105, 98, 117, 116, 101]⟩ := by decide +kernel
@[simp] theorem rn_equals : Str.ofString "read_equals" = ⟨#[114, 101, 97, 100, 95, 101, 113, 117, 97, 108, 115]⟩ := by decide +kernel
@[simp] theorem rn_value : Str.ofString "read_value" = ⟨#[114, 101, 97, 100, 95, 118, 97, 108, 117, 101]⟩ := by decide +kernel
@[simp] theorem rn_slash : Str.ofString "read_slash" = ⟨#[114, 101, 97, 100, 95, 115, 108, 97, 115, 104]⟩ := by decide +kernel
@[simp] theorem rn_end_name : Str.ofString "read_end_name" = ⟨#[114, 101, 97, 100, 95, 101, 110, 100, 95, 110, 97, 109, 101]⟩ := by decide +kernel
@[simp] theorem rn_entity : Str.ofString "read_entity" = ⟨#[114, 101, 97, 100, 95, 101, 110, 116, 105, 116, 121]⟩ := by decide +kernel
@[simp] theorem rn_bang : Str.ofString "read_bang" = ⟨#[114, 101, 97, 100, 95, 98, 97, 110, 103]⟩ := by decide +kernel
@[simp] theorem rn_bangs : Str.ofString "read_bangs" = ⟨#[114, 101, 97, 100, 95, 98, 97, 110, 103, 115]⟩ := by decide +kernel
@[simp] theorem rn_comment : Str.ofString "read_comment" = ⟨#[114, 101, 97, 100, 95, 99, 111, 109, 109, 101, 110, 116]⟩ := by decide +kernel
@[simp] theorem rn_dash : Str.ofString "read_dash" = ⟨#[114, 101, 97, 100, 95, 100, 97, 115, 104]⟩ := by decide +kernel
@[simp] theorem rn_dashes : Str.ofString "read_dashes" = ⟨#[114, 101, 97, 100, 95, 100, 97, 115, 104, 101, 115]⟩ := by decide +kernel
section
variable (a : Ads)
theorem sign_of_ok (c : Nat) (h : isSg c = true) (s : Stt) : m_sign_of a [.int (c : Int)] s = .ok (.str ⟨#[c]⟩) s := by
  refine gcE ⟨[], ?_⟩ (by simp)
  rcases sg_cases h with rfl | rfl | ⟨h1, h2, h3, h4⟩
  · simp [f_sign_of, sign_of_i3, sign_of_i2, sign_of_i1]
  · simp [f_sign_of, sign_of_i3, sign_of_i2, sign_of_i1]
  · have e1 : ¬ (c : Int) = 9 := by omega
    have e2 : ¬ (c : Int) = 10 := by omega
    have e3 : ¬ (c : Int) < 32 := by omega
    have e4 : ¬ (126 : Int) < (c : Int) := by omega
    have e5 : ¬ (c : Int) = 37 := by omega
    have e6 : (c : Int) - 32 = ((c - 32 : Nat) : Int) := by omega
    have hat : atI L_pri ((c : Int) - 32) = some c := by rw [e6]; exact atI_of (by omega) (by simpa using h4)
    simp [f_sign_of, sign_of_i3, sign_of_i2, sign_of_i1, e1, e2, e3, e4, e5, hat]
def Stp (c : Nat) (V V' : VS) : Prop := ∀ (L : Pr) (s : Stt) (k : Nat) (d x3 x4 : Option D), Ab L s.length → TK a L s k V → ∃ s' y3 y4, Tokens_feed_fb1 a [some (.loc k), d, some (.int (c : Int)), x3, x4] s = .nx [some (.loc k), d, some (.int (c : Int)), y3, y4] s' ∧ TK a L s' k V' ∧ Fr L s s'
theorem place_up {L : Pr} {k : Nat} {s : Stt} {V : VS} (hL : Ab L s.length) (K0 : TK a L s k V) : ∃ n p g t pl, s[k]? = some (.ins a.c_Tokens (TF V n p g t pl)) ∧ TK a L (s.set k (.ins a.c_Tokens (TF V n p g t (pl + 1)))) k V ∧ Fr L s (s.set k (.ins a.c_Tokens (TF V n p g t (pl + 1)))) := by
  obtain ⟨n, p, g, t, pl, K⟩ := K0
  exact ⟨n, p, g, t, pl, K.ok, ⟨n, p, g, t, pl + 1, K.fld V (pl + 1) rfl rfl rfl rfl⟩, Fr.set _ hL K.Lk⟩
theorem fb_out (c : Nat) (V V' : VS) (hc : isSg c = true) (hr : V.rd = kOut) (F : RdS a (fun k s => m_read_outside a [.loc k, .str ⟨#[c]⟩] s) V V') : Stp a c V V' := by
  intro L s k d x3 x4 hL K0
  obtain ⟨s1, e, K1, F1⟩ := F L s k hL K0
  have so := fun s => sign_of_ok a c hc s
  obtain ⟨n, p, g, t, pl, k1, K2, F2⟩ := place_up a F1.1 K1
  refine ⟨s1.set k (.ins a.c_Tokens (TF V' n p g t (pl + 1))), some (.str ⟨#[c]⟩), some (.opq "read_outside" a.a_read_outside), ?_, K2, F1.trans F2⟩
  obtain ⟨n0, p0, g0, t0, pl0, K⟩ := K0
  have k0 := K.ok
  have hcs : c < 1114112 := by have := isSg_small hc; omega
  simp only [] at e
  simp [-getElem?_pos, Tokens_feed_fb1, Tokens_feed_i1, so, hcs, k0, hr, kOut, wget, e, k1, List.getElem?_cons_zero, List.lookup]
theorem fb_con (c : Nat) (V V' : VS) (hc : isSg c = true) (hr : V.rd = kCon) (F : RdS a (fun k s => m_read_content a [.loc k, .str ⟨#[c]⟩] s) V V') : Stp a c V V' := by
  intro L s k d x3 x4 hL K0
  obtain ⟨s1, e, K1, F1⟩ := F L s k hL K0
  have so := fun s => sign_of_ok a c hc s
  obtain ⟨n, p, g, t, pl, k1, K2, F2⟩ := place_up a F1.1 K1
  refine ⟨s1.set k (.ins a.c_Tokens (TF V' n p g t (pl + 1))), some (.str ⟨#[c]⟩), some (.opq "read_content" a.a_read_content), ?_, K2, F1.trans F2⟩
  obtain ⟨n0, p0, g0, t0, pl0, K⟩ := K0
  have k0 := K.ok
  have hcs : c < 1114112 := by have := isSg_small hc; omega
  simp only [] at e
  simp [-getElem?_pos, Tokens_feed_fb1, Tokens_feed_i1, so, hcs, k0, hr, kCon, wget, e, k1, List.getElem?_cons_zero, List.lookup]
theorem fb_less (c : Nat) (V V' : VS) (hc : isSg c = true) (hr : V.rd = kLess) (F : RdS a (fun k s => m_read_less a [.loc k, .str ⟨#[c]⟩] s) V V') : Stp a c V V' := by
  intro L s k d x3 x4 hL K0
  obtain ⟨s1, e, K1, F1⟩ := F L s k hL K0
  have so := fun s => sign_of_ok a c hc s
  obtain ⟨n, p, g, t, pl, k1, K2, F2⟩ := place_up a F1.1 K1
  refine ⟨s1.set k (.ins a.c_Tokens (TF V' n p g t (pl + 1))), some (.str ⟨#[c]⟩), some (.opq "read_less" a.a_read_less), ?_, K2, F1.trans F2⟩
  obtain ⟨n0, p0, g0, t0, pl0, K⟩ := K0
  have k0 := K.ok
  have hcs : c < 1114112 := by have := isSg_small hc; omega
  simp only [] at e
  simp [-getElem?_pos, Tokens_feed_fb1, Tokens_feed_i1, so, hcs, k0, hr, kLess, wget, e, k1, List.getElem?_cons_zero, List.lookup]
theorem fb_name (c : Nat) (V V' : VS) (hc : isSg c = true) (hr : V.rd = kName) (F : RdS a (fun k s => m_read_name a [.loc k, .str ⟨#[c]⟩] s) V V') : Stp a c V V' := by
  intro L s k d x3 x4 hL K0
  obtain ⟨s1, e, K1, F1⟩ := F L s k hL K0
  have so := fun s => sign_of_ok a c hc s
  obtain ⟨n, p, g, t, pl, k1, K2, F2⟩ := place_up a F1.1 K1
  refine ⟨s1.set k (.ins a.c_Tokens (TF V' n p g t (pl + 1))), some (.str ⟨#[c]⟩), some (.opq "read_name" a.a_read_name), ?_, K2, F1.trans F2⟩
  obtain ⟨n0, p0, g0, t0, pl0, K⟩ := K0
  have k0 := K.ok
  have hcs : c < 1114112 := by have := isSg_small hc; omega
  simp only [] at e
  simp [-getElem?_pos, Tokens_feed_fb1, Tokens_feed_i1, so, hcs, k0, hr, kName, wget, e, k1, List.getElem?_cons_zero, List.lookup]
theorem fb_vald (c : Nat) (V V' : VS) (hc : isSg c = true) (hr : V.rd = kVald) (F : RdS a (fun k s => m_read_valued a [.loc k, .str ⟨#[c]⟩] s) V V') : Stp a c V V' := by
  intro L s k d x3 x4 hL K0
  obtain ⟨s1, e, K1, F1⟩ := F L s k hL K0
  have so := fun s => sign_of_ok a c hc s
  obtain ⟨n, p, g, t, pl, k1, K2, F2⟩ := place_up a F1.1 K1
  refine ⟨s1.set k (.ins a.c_Tokens (TF V' n p g t (pl + 1))), some (.str ⟨#[c]⟩), some (.opq "read_valued" a.a_read_valued), ?_, K2, F1.trans F2⟩
  obtain ⟨n0, p0, g0, t0, pl0, K⟩ := K0
  have k0 := K.ok
  have hcs : c < 1114112 := by have := isSg_small hc; omega
  simp only [] at e
  simp [-getElem?_pos, Tokens_feed_fb1, Tokens_feed_i1, so, hcs, k0, hr, kVald, wget, e, k1, List.getElem?_cons_zero, List.lookup]
theorem fb_gap (c : Nat) (V V' : VS) (hc : isSg c = true) (hr : V.rd = kGap) (F : RdS a (fun k s => m_read_gap a [.loc k, .str ⟨#[c]⟩] s) V V') : Stp a c V V' := by
  intro L s k d x3 x4 hL K0
  obtain ⟨s1, e, K1, F1⟩ := F L s k hL K0
  have so := fun s => sign_of_ok a c hc s
  obtain ⟨n, p, g, t, pl, k1, K2, F2⟩ := place_up a F1.1 K1
  refine ⟨s1.set k (.ins a.c_Tokens (TF V' n p g t (pl + 1))), some (.str ⟨#[c]⟩), some (.opq "read_gap" a.a_read_gap), ?_, K2, F1.trans F2⟩
  obtain ⟨n0, p0, g0, t0, pl0, K⟩ := K0
  have k0 := K.ok
  have hcs : c < 1114112 := by have := isSg_small hc; omega
  simp only [] at e
  simp [-getElem?_pos, Tokens_feed_fb1, Tokens_feed_i1, so, hcs, k0, hr, kGap, wget, e, k1, List.getElem?_cons_zero, List.lookup]
theorem fb_att (c : Nat) (V V' : VS) (hc : isSg c = true) (hr : V.rd = kAtt) (F : RdS a (fun k s => m_read_attribute a [.loc k, .str ⟨#[c]⟩] s) V V') : Stp a c V V' := by
  intro L s k d x3 x4 hL K0
  obtain ⟨s1, e, K1, F1⟩ := F L s k hL K0
  have so := fun s => sign_of_ok a c hc s
  obtain ⟨n, p, g, t, pl, k1, K2, F2⟩ := place_up a F1.1 K1
  refine ⟨s1.set k (.ins a.c_Tokens (TF V' n p g t (pl + 1))), some (.str ⟨#[c]⟩), some (.opq "read_attribute" a.a_read_attribute), ?_, K2, F1.trans F2⟩
  obtain ⟨n0, p0, g0, t0, pl0, K⟩ := K0
  have k0 := K.ok
  have hcs : c < 1114112 := by have := isSg_small hc; omega
  simp only [] at e
  simp [-getElem?_pos, Tokens_feed_fb1, Tokens_feed_i1, so, hcs, k0, hr, kAtt, wget, e, k1, List.getElem?_cons_zero, List.lookup]
theorem fb_eq (c : Nat) (V V' : VS) (hc : isSg c = true) (hr : V.rd = kEq) (F : RdS a (fun k s => m_read_equals a [.loc k, .str ⟨#[c]⟩] s) V V') : Stp a c V V' := by
  intro L s k d x3 x4 hL K0
  obtain ⟨s1, e, K1, F1⟩ := F L s k hL K0
  have so := fun s => sign_of_ok a c hc s
  obtain ⟨n, p, g, t, pl, k1, K2, F2⟩ := place_up a F1.1 K1
  refine ⟨s1.set k (.ins a.c_Tokens (TF V' n p g t (pl + 1))), some (.str ⟨#[c]⟩), some (.opq "read_equals" a.a_read_equals), ?_, K2, F1.trans F2⟩
  obtain ⟨n0, p0, g0, t0, pl0, K⟩ := K0
  have k0 := K.ok
  have hcs : c < 1114112 := by have := isSg_small hc; omega
  simp only [] at e
  simp [-getElem?_pos, Tokens_feed_fb1, Tokens_feed_i1, so, hcs, k0, hr, kEq, wget, e, k1, List.getElem?_cons_zero, List.lookup]
theorem fb_val (c : Nat) (V V' : VS) (hc : isSg c = true) (hr : V.rd = kVal) (F : RdS a (fun k s => m_read_value a [.loc k, .str ⟨#[c]⟩] s) V V') : Stp a c V V' := by
  intro L s k d x3 x4 hL K0
  obtain ⟨s1, e, K1, F1⟩ := F L s k hL K0
  have so := fun s => sign_of_ok a c hc s
  obtain ⟨n, p, g, t, pl, k1, K2, F2⟩ := place_up a F1.1 K1
  refine ⟨s1.set k (.ins a.c_Tokens (TF V' n p g t (pl + 1))), some (.str ⟨#[c]⟩), some (.opq "read_value" a.a_read_value), ?_, K2, F1.trans F2⟩
  obtain ⟨n0, p0, g0, t0, pl0, K⟩ := K0
  have k0 := K.ok
  have hcs : c < 1114112 := by have := isSg_small hc; omega
  simp only [] at e
  simp [-getElem?_pos, Tokens_feed_fb1, Tokens_feed_i1, so, hcs, k0, hr, kVal, wget, e, k1, List.getElem?_cons_zero, List.lookup]
theorem fb_sl (c : Nat) (V V' : VS) (hc : isSg c = true) (hr : V.rd = kSl) (F : RdS a (fun k s => m_read_slash a [.loc k, .str ⟨#[c]⟩] s) V V') : Stp a c V V' := by
  intro L s k d x3 x4 hL K0
  obtain ⟨s1, e, K1, F1⟩ := F L s k hL K0
  have so := fun s => sign_of_ok a c hc s
  obtain ⟨n, p, g, t, pl, k1, K2, F2⟩ := place_up a F1.1 K1
  refine ⟨s1.set k (.ins a.c_Tokens (TF V' n p g t (pl + 1))), some (.str ⟨#[c]⟩), some (.opq "read_slash" a.a_read_slash), ?_, K2, F1.trans F2⟩
  obtain ⟨n0, p0, g0, t0, pl0, K⟩ := K0
  have k0 := K.ok
  have hcs : c < 1114112 := by have := isSg_small hc; omega
  simp only [] at e
  simp [-getElem?_pos, Tokens_feed_fb1, Tokens_feed_i1, so, hcs, k0, hr, kSl, wget, e, k1, List.getElem?_cons_zero, List.lookup]
theorem fb_end (c : Nat) (V V' : VS) (hc : isSg c = true) (hr : V.rd = kEnd) (F : RdS a (fun k s => m_read_end_name a [.loc k, .str ⟨#[c]⟩] s) V V') : Stp a c V V' := by
  intro L s k d x3 x4 hL K0
  obtain ⟨s1, e, K1, F1⟩ := F L s k hL K0
  have so := fun s => sign_of_ok a c hc s
  obtain ⟨n, p, g, t, pl, k1, K2, F2⟩ := place_up a F1.1 K1
  refine ⟨s1.set k (.ins a.c_Tokens (TF V' n p g t (pl + 1))), some (.str ⟨#[c]⟩), some (.opq "read_end_name" a.a_read_end_name), ?_, K2, F1.trans F2⟩
  obtain ⟨n0, p0, g0, t0, pl0, K⟩ := K0
  have k0 := K.ok
  have hcs : c < 1114112 := by have := isSg_small hc; omega
  simp only [] at e
  simp [-getElem?_pos, Tokens_feed_fb1, Tokens_feed_i1, so, hcs, k0, hr, kEnd, wget, e, k1, List.getElem?_cons_zero, List.lookup]
theorem fb_ent (c : Nat) (V V' : VS) (hc : isSg c = true) (hr : V.rd = kEnt) (F : RdS a (fun k s => m_read_entity a [.loc k, .str ⟨#[c]⟩] s) V V') : Stp a c V V' := by
  intro L s k d x3 x4 hL K0
  obtain ⟨s1, e, K1, F1⟩ := F L s k hL K0
  have so := fun s => sign_of_ok a c hc s
  obtain ⟨n, p, g, t, pl, k1, K2, F2⟩ := place_up a F1.1 K1
  refine ⟨s1.set k (.ins a.c_Tokens (TF V' n p g t (pl + 1))), some (.str ⟨#[c]⟩), some (.opq "read_entity" a.a_read_entity), ?_, K2, F1.trans F2⟩
  obtain ⟨n0, p0, g0, t0, pl0, K⟩ := K0
  have k0 := K.ok
  have hcs : c < 1114112 := by have := isSg_small hc; omega
  simp only [] at e
  simp [-getElem?_pos, Tokens_feed_fb1, Tokens_feed_i1, so, hcs, k0, hr, kEnt, wget, e, k1, List.getElem?_cons_zero, List.lookup]
end
end Law

set_option Elab.async false
set_option linter.all false
set_option maxRecDepth 100000
set_option maxHeartbeats 4000000
namespace Law
open PySem PySem.Spec PyProof.Rows L2 Rg
section
variable (a : Ads)
/-- reading these bytes leads from V to V' -/
def RDL (l : List Nat) (V V' : VS) : Prop := ∀ (L : Pr) (s : Stt) (k m : Nat) (data rest : List D) (x2 x3 x4 : Option D), Ab L s.length → L m → s[m]? = some (.lst data) → TK a L s k V →
  ∃ s' y2 y3 y4, forF (fun s => items s (.loc m) = some data) (gN 2) (Tokens_feed_fb1 a) ((l.map fun (c : Nat) => D.int c) ++ rest) [some (.loc k), some (.loc m), x2, x3, x4] s = forF (fun s => items s (.loc m) = some data) (gN 2) (Tokens_feed_fb1 a) rest [some (.loc k), some (.loc m), y2, y3, y4] s' ∧ TK a L s' k V' ∧ Fr L s s'
theorem rdl_nil (V : VS) : RDL a [] V V := fun L s k m data rest x2 x3 x4 hL hm hd K => ⟨s, x2, x3, x4, rfl, K, Fr.refl hL⟩
theorem rdl_cons {c : Nat} {l : List Nat} {V V1 V2 : VS} (h1 : Stp a c V V1) (h2 : RDL a l V1 V2) : RDL a (c :: l) V V2 := fun L s k m data rest x2 x3 x4 hL hm hd K => by
  obtain ⟨s1, y3, y4, e1, K1, F1⟩ := h1 L s k (some (.loc m)) x3 x4 hL K
  obtain ⟨s2, z2, z3, z4, e2, K2, F2⟩ := h2 L s1 k m data rest (some (.int (c : Int))) y3 y4 F1.1 hm ((F1.2 m hm).trans hd) K1
  refine ⟨s2, z2, z3, z4, ?_, K2, F1.trans F2⟩
  rw [List.map_cons, List.cons_append, forF_cons' (items_loc hd) (gN_run 2 _ _)]
  show (match Tokens_feed_fb1 a [some (.loc k), some (.loc m), some (.int (c : Int)), x3, x4] s with | .nx ρ' st' => _ | .ct ρ' st' => _ | .bk ρ' st' => _ | r => _) = _
  rw [e1]
  exact e2
theorem rdl_app {l1 l2 : List Nat} {V V1 V2 : VS} (h1 : RDL a l1 V V1) (h2 : RDL a l2 V1 V2) : RDL a (l1 ++ l2) V V2 := fun L s k m data rest x2 x3 x4 hL hm hd K => by
  obtain ⟨s1, y2, y3, y4, e1, K1, F1⟩ := h1 L s k m data ((l2.map fun (c : Nat) => D.int c) ++ rest) x2 x3 x4 hL hm hd K
  obtain ⟨s2, z2, z3, z4, e2, K2, F2⟩ := h2 L s1 k m data rest y2 y3 y4 F1.1 hm ((F1.2 m hm).trans hd) K1
  refine ⟨s2, z2, z3, z4, ?_, K2, F1.trans F2⟩
  rw [List.map_append, List.append_assoc, e1, e2]
theorem rdl_1 {c : Nat} {V V1 : VS} (h : Stp a c V V1) : RDL a [c] V V1 := rdl_cons a h (rdl_nil a V1)
/-! entities -/
def okRun : List Nat → List Nat → Bool
  | _, [] => true
  | x, c :: r => (preE (x ++ [c]) && (wE (x ++ [c])).isNone && (isSg c && decide (x.length < 50))) && okRun (x ++ [c]) r
theorem ent_run : ∀ (r x : List Nat) (V : VS), V.rd = kEnt → V.ent = x → okRun x r = true → RDL a r V { V with ent := x ++ r }
  | [], x, V, h1, h2, _ => by
    have : ({ V with ent := x ++ [] } : VS) = V := by rw [List.append_nil, ← h2]
    rw [this]
    exact rdl_nil a V
  | c :: r, x, V, h1, h2, h => by
    simp only [okRun, Bool.and_eq_true] at h
    obtain ⟨⟨⟨g1, g2⟩, g3, g4⟩, g5⟩ := h
    have hs := rd_ent_more a V c (by rw [h2]; have := of_decide_eq_true g4; omega) (by rw [h2]; exact g1) (by rw [h2]; exact Option.isNone_iff_eq_none.mp g2)
    have hs := fb_ent a c V _ g3 h1 hs
    have ih := ent_run r (x ++ [c]) { V with ent := V.ent ++ [c] } h1 (by rw [h2]) g5
    have e : ({ { V with ent := V.ent ++ [c] } with ent := x ++ [c] ++ r } : VS) = { V with ent := x ++ c :: r } := by simp
    rw [e] at ih
    exact rdl_cons a hs ih
/-- an entity in a content -/
theorem ent_con (w : List Nat) (c0 : Nat) (V : VS) (hr : V.rd = kCon) (hz : V.td.length < 16777216) (hw : okRun [] w = true) (hl : w.length < 50) (hp : preE (w ++ [59]) = true) (hg : wE (w ++ [59]) = some (.str ⟨#[c0]⟩)) :
    ∃ V', RDL a (38 :: (w ++ [59])) V V' ∧ V'.rd = kCon ∧ V'.ns = V.ns ∧ V'.en = V.en ∧ V'.td = V.td ++ [evC c0] := by
  have s1 := fb_con a 38 V _ (by decide +kernel) hr (rd_con_amp a V)
  have s2 := ent_run a w [] { V with ar := kCon, ent := [], rd := kEnt } rfl rfl hw
  have s3 := rd_ent_done a { V with ar := kCon, ent := [] ++ w, rd := kEnt } 59 c0 _ (by simp; omega) hp hg (tell_ent_con a { V with ar := kCon, ent := [] ++ w ++ [59], rd := kEnt } c0 rfl hz)
  have s3 := fb_ent a 59 { V with ar := kCon, ent := [] ++ w, rd := kEnt } _ (by decide +kernel) rfl s3
  exact ⟨_, rdl_cons a s1 (rdl_app a s2 (rdl_1 a s3)), rfl, rfl, rfl, rfl⟩
theorem ent_val (w : List Nat) (c0 : Nat) (V : VS) (hr : V.rd = kVal) (hz : V.sg.length < 16777216) (hw : okRun [] w = true) (hl : w.length < 50) (hp : preE (w ++ [59]) = true) (hg : wE (w ++ [59]) = some (.str ⟨#[c0]⟩)) :
    ∃ V', RDL a (38 :: (w ++ [59])) V V' ∧ V'.rd = kVal ∧ V'.ns = V.ns ∧ V'.en = V.en ∧ V'.td = V.td ∧ V'.sg = V.sg ++ [.str ⟨#[c0]⟩] ∧ V'.nm = V.nm ∧ V'.at_ = V.at_ ∧ V'.ps = V.ps := by
  have s1 := fb_val a 38 V _ (by decide +kernel) hr (rd_val_amp a V)
  have s2 := ent_run a w [] { V with ar := kVal, ent := [], rd := kEnt } rfl rfl hw
  have s3 := rd_ent_done a { V with ar := kVal, ent := [] ++ w, rd := kEnt } 59 c0 _ (by simp; omega) hp hg (tell_ent_val a { V with ar := kVal, ent := [] ++ w ++ [59], rd := kEnt } c0 rfl hz)
  have s3 := fb_ent a 59 { V with ar := kVal, ent := [] ++ w, rd := kEnt } _ (by decide +kernel) rfl s3
  exact ⟨_, rdl_cons a s1 (rdl_app a s2 (rdl_1 a s3)), rfl, rfl, rfl, rfl, rfl, rfl, rfl, rfl⟩
end
end Law

set_option Elab.async false
set_option linter.all false
set_option maxRecDepth 100000
set_option maxHeartbeats 4000000
namespace Law
open PySem PySem.Spec PyProof.Rows L2 Rg
/-! ### comments, blanks -/
def kBang : List Nat := [98, 97, 110, 103]
def kBangs : List Nat := [98, 97, 110, 103, 115]
def kCom : List Nat := [99, 111, 109, 109, 101, 110, 116]
def kDash : List Nat := [100, 97, 115, 104]
def kDashes : List Nat := [100, 97, 115, 104, 101, 115]
section
variable (a : Ads)
theorem fb_bang (c : Nat) (V V' : VS) (hc : isSg c = true) (hr : V.rd = kBang) (F : RdS a (fun k s => m_read_bang a [.loc k, .str ⟨#[c]⟩] s) V V') : Stp a c V V' := by
  intro L s k d x3 x4 hL K0
  obtain ⟨s1, e, K1, F1⟩ := F L s k hL K0
  have so := fun s => sign_of_ok a c hc s
  obtain ⟨n, p, g, t, pl, k1, K2, F2⟩ := place_up a F1.1 K1
  refine ⟨s1.set k (.ins a.c_Tokens (TF V' n p g t (pl + 1))), some (.str ⟨#[c]⟩), some (.opq "read_bang" a.a_read_bang), ?_, K2, F1.trans F2⟩
  obtain ⟨n0, p0, g0, t0, pl0, K⟩ := K0
  have k0 := K.ok
  have hcs : c < 1114112 := by have := isSg_small hc; omega
  simp only [] at e
  simp [-getElem?_pos, Tokens_feed_fb1, Tokens_feed_i1, so, hcs, k0, hr, kBang, wget, e, k1, List.getElem?_cons_zero, List.lookup]
theorem fb_bangs (c : Nat) (V V' : VS) (hc : isSg c = true) (hr : V.rd = kBangs) (F : RdS a (fun k s => m_read_bangs a [.loc k, .str ⟨#[c]⟩] s) V V') : Stp a c V V' := by
  intro L s k d x3 x4 hL K0
  obtain ⟨s1, e, K1, F1⟩ := F L s k hL K0
  have so := fun s => sign_of_ok a c hc s
  obtain ⟨n, p, g, t, pl, k1, K2, F2⟩ := place_up a F1.1 K1
  refine ⟨s1.set k (.ins a.c_Tokens (TF V' n p g t (pl + 1))), some (.str ⟨#[c]⟩), some (.opq "read_bangs" a.a_read_bangs), ?_, K2, F1.trans F2⟩
  obtain ⟨n0, p0, g0, t0, pl0, K⟩ := K0
  have k0 := K.ok
  have hcs : c < 1114112 := by have := isSg_small hc; omega
  simp only [] at e
  simp [-getElem?_pos, Tokens_feed_fb1, Tokens_feed_i1, so, hcs, k0, hr, kBangs, wget, e, k1, List.getElem?_cons_zero, List.lookup]
theorem fb_comment (c : Nat) (V V' : VS) (hc : isSg c = true) (hr : V.rd = kCom) (F : RdS a (fun k s => m_read_comment a [.loc k, .str ⟨#[c]⟩] s) V V') : Stp a c V V' := by
  intro L s k d x3 x4 hL K0
  obtain ⟨s1, e, K1, F1⟩ := F L s k hL K0
  have so := fun s => sign_of_ok a c hc s
  obtain ⟨n, p, g, t, pl, k1, K2, F2⟩ := place_up a F1.1 K1
  refine ⟨s1.set k (.ins a.c_Tokens (TF V' n p g t (pl + 1))), some (.str ⟨#[c]⟩), some (.opq "read_comment" a.a_read_comment), ?_, K2, F1.trans F2⟩
  obtain ⟨n0, p0, g0, t0, pl0, K⟩ := K0
  have k0 := K.ok
  have hcs : c < 1114112 := by have := isSg_small hc; omega
  simp only [] at e
  simp [-getElem?_pos, Tokens_feed_fb1, Tokens_feed_i1, so, hcs, k0, hr, kCom, wget, e, k1, List.getElem?_cons_zero, List.lookup]
theorem fb_dash (c : Nat) (V V' : VS) (hc : isSg c = true) (hr : V.rd = kDash) (F : RdS a (fun k s => m_read_dash a [.loc k, .str ⟨#[c]⟩] s) V V') : Stp a c V V' := by
  intro L s k d x3 x4 hL K0
  obtain ⟨s1, e, K1, F1⟩ := F L s k hL K0
  have so := fun s => sign_of_ok a c hc s
  obtain ⟨n, p, g, t, pl, k1, K2, F2⟩ := place_up a F1.1 K1
  refine ⟨s1.set k (.ins a.c_Tokens (TF V' n p g t (pl + 1))), some (.str ⟨#[c]⟩), some (.opq "read_dash" a.a_read_dash), ?_, K2, F1.trans F2⟩
  obtain ⟨n0, p0, g0, t0, pl0, K⟩ := K0
  have k0 := K.ok
  have hcs : c < 1114112 := by have := isSg_small hc; omega
  simp only [] at e
  simp [-getElem?_pos, Tokens_feed_fb1, Tokens_feed_i1, so, hcs, k0, hr, kDash, wget, e, k1, List.getElem?_cons_zero, List.lookup]
theorem fb_dashes (c : Nat) (V V' : VS) (hc : isSg c = true) (hr : V.rd = kDashes) (F : RdS a (fun k s => m_read_dashes a [.loc k, .str ⟨#[c]⟩] s) V V') : Stp a c V V' := by
  intro L s k d x3 x4 hL K0
  obtain ⟨s1, e, K1, F1⟩ := F L s k hL K0
  have so := fun s => sign_of_ok a c hc s
  obtain ⟨n, p, g, t, pl, k1, K2, F2⟩ := place_up a F1.1 K1
  refine ⟨s1.set k (.ins a.c_Tokens (TF V' n p g t (pl + 1))), some (.str ⟨#[c]⟩), some (.opq "read_dashes" a.a_read_dashes), ?_, K2, F1.trans F2⟩
  obtain ⟨n0, p0, g0, t0, pl0, K⟩ := K0
  have k0 := K.ok
  have hcs : c < 1114112 := by have := isSg_small hc; omega
  simp only [] at e
  simp [-getElem?_pos, Tokens_feed_fb1, Tokens_feed_i1, so, hcs, k0, hr, kDashes, wget, e, k1, List.getElem?_cons_zero, List.lookup]
variable (V : VS)
theorem rd_less_bang : RdS a (fun k s => m_read_less a [.loc k, .str ⟨#[33]⟩] s) V { V with rd := kBang } := by
  intro L s k hL ⟨n, p, g, t, pl, K⟩
  refine gcTK hL (by simp) (s1 := s.set k (.ins a.c_Tokens (TF { V with rd := kBang } n p g t pl))) ?_ ⟨n, p, g, t, pl, K⟩ ⟨n, p, g, t, pl, K.fld _ _ rfl rfl rfl rfl⟩ (Fr.set _ hL K.Lk)
  simp [f_read_less, read_less_i3, K.ok, kBang]
theorem expect_ok (c : Nat) (hc : c < 128) (x : List Nat) : RdS a (fun k s => m_expect a [.loc k, .str ⟨#[c]⟩, .str ⟨#[c]⟩, .str (tx x)] s) V { V with rd := x } := by
  intro L s k hL ⟨n, p, g, t, pl, K⟩
  refine gcTK hL (by simp) (s1 := s.set k (.ins a.c_Tokens (TF { V with rd := x } n p g t pl))) ?_ ⟨n, p, g, t, pl, K⟩ ⟨n, p, g, t, pl, K.fld _ _ rfl rfl rfl rfl⟩ (Fr.set _ hL K.Lk)
  have h : c < 1114112 := by omega
  simp [f_expect, expect_i1, K.ok, h]
theorem rd_bang_d : RdS a (fun k s => m_read_bang a [.loc k, .str ⟨#[45]⟩] s) V { V with rd := kBangs } := by
  intro L s k hL K0
  obtain ⟨s', e, K1, F⟩ := expect_ok a V 45 (by omega) kBangs L s k hL K0
  refine gcTK hL (by simp) (s1 := s') ?_ K0 K1 F
  simp only [kBangs] at e
  simp [f_read_bang, e]
theorem rd_bangs_d : RdS a (fun k s => m_read_bangs a [.loc k, .str ⟨#[45]⟩] s) V { V with rd := kCom } := by
  intro L s k hL K0
  obtain ⟨s', e, K1, F⟩ := expect_ok a V 45 (by omega) kCom L s k hL K0
  refine gcTK hL (by simp) (s1 := s') ?_ K0 K1 F
  simp only [kCom] at e
  simp [f_read_bangs, e]
theorem rd_com_d : RdS a (fun k s => m_read_comment a [.loc k, .str ⟨#[45]⟩] s) V { V with rd := kDash } := by
  intro L s k hL ⟨n, p, g, t, pl, K⟩
  refine gcTK hL (by simp) (s1 := s.set k (.ins a.c_Tokens (TF { V with rd := kDash } n p g t pl))) ?_ ⟨n, p, g, t, pl, K⟩ ⟨n, p, g, t, pl, K.fld _ _ rfl rfl rfl rfl⟩ (Fr.set _ hL K.Lk)
  simp [f_read_comment, read_comment_i1, K.ok, kDash]
theorem rd_com_x (c : Nat) (hc : c < 128) (h : c ≠ 45) : RdS a (fun k s => m_read_comment a [.loc k, .str ⟨#[c]⟩] s) V V := by
  intro L s k hL K0
  refine gcTK hL (by simp) (s1 := s) ?_ K0 K0 (Fr.refl hL)
  have h2 : c < 1114112 := by omega
  simp [f_read_comment, read_comment_i1, h, h2]
theorem rd_dash_d : RdS a (fun k s => m_read_dash a [.loc k, .str ⟨#[45]⟩] s) V { V with rd := kDashes } := by
  intro L s k hL ⟨n, p, g, t, pl, K⟩
  refine gcTK hL (by simp) (s1 := s.set k (.ins a.c_Tokens (TF { V with rd := kDashes } n p g t pl))) ?_ ⟨n, p, g, t, pl, K⟩ ⟨n, p, g, t, pl, K.fld _ _ rfl rfl rfl rfl⟩ (Fr.set _ hL K.Lk)
  simp [f_read_dash, read_dash_i1, K.ok, kDashes]
theorem rd_dash_x (c : Nat) (hc : c < 128) (h : c ≠ 45) : RdS a (fun k s => m_read_dash a [.loc k, .str ⟨#[c]⟩] s) V { V with rd := kCom } := by
  intro L s k hL ⟨n, p, g, t, pl, K⟩
  refine gcTK hL (by simp) (s1 := s.set k (.ins a.c_Tokens (TF { V with rd := kCom } n p g t pl))) ?_ ⟨n, p, g, t, pl, K⟩ ⟨n, p, g, t, pl, K.fld _ _ rfl rfl rfl rfl⟩ (Fr.set _ hL K.Lk)
  have h2 : c < 1114112 := by omega
  simp [f_read_dash, read_dash_i1, K.ok, kCom, h, h2]
theorem between_ok (L : Pr) (k : Nat) (s : Stt) (K0 : TK a L s k V) : m_between_tokens a [.loc k] s = .ok (.str (tx (btw V.ns))) s := by
  refine gcE ⟨[], ?_⟩ (by simp)
  obtain ⟨n, p, g, t, pl, K⟩ := K0
  have kk := K.ok
  have nn := K.on
  cases h : V.ns with
  | nil => rw [h] at nn; simp [f_between_tokens, between_tokens_i1, kk, nn, btw, kOut] at nn ⊢
  | cons x r => rw [h] at nn; simp [f_between_tokens, between_tokens_i1, kk, nn, btw, kCon] at nn ⊢
theorem rd_dashes_gt : RdS a (fun k s => m_read_dashes a [.loc k, .str ⟨#[62]⟩] s) V { V with rd := btw V.ns } := by
  intro L s k hL K0
  obtain ⟨s', e, K1, F⟩ := expect_ok a V 62 (by omega) (btw V.ns) L s k hL K0
  have hb := between_ok a V L k s K0
  refine gcTK hL (by simp) (s1 := s') ?_ K0 K1 F
  simp only [] at e
  simp [f_read_dashes, hb, e]
/-- the inside of a comment: whether the last sign is a dash -/
def cmRun : Bool → List Nat → Option Bool
  | b, [] => some b
  | false, c :: r => if isSg c = true then (if c = 45 then cmRun true r else cmRun false r) else none
  | true, c :: r => if isSg c = true then (if c = 45 then none else cmRun false r) else none
def kCm (b : Bool) : List Nat := if b = true then kDash else kCom
theorem com_run : ∀ (l : List Nat) (b b' : Bool) (V : VS), V.rd = kCm b → cmRun b l = some b' → RDL a l V { V with rd := kCm b' }
  | [], b, b', V, hr, h => by
    have h : some b = some b' := by cases b <;> exact h
    cases h
    have : ({ V with rd := kCm b } : VS) = V := by rw [← hr]
    rw [this]
    exact rdl_nil a V
  | c :: r, false, b', V, hr, h => by
    unfold cmRun at h
    split at h
    · rename_i hc
      split at h
      · rename_i h45
        subst h45
        exact rdl_cons a (fb_comment a 45 V _ hc hr (rd_com_d a V)) (com_run r true b' { V with rd := kDash } rfl h)
      · rename_i h45
        exact rdl_cons a (fb_comment a c V _ hc hr (rd_com_x a V c (isSg_small hc) h45)) (com_run r false b' V hr h)
    · cases h
  | c :: r, true, b', V, hr, h => by
    unfold cmRun at h
    split at h
    · rename_i hc
      split at h
      · cases h
      · rename_i h45
        exact rdl_cons a (fb_dash a c V _ hc hr (rd_dash_x a V c (isSg_small hc) h45)) (com_run r false b' { V with rd := kCom } rfl h)
    · cases h
/-- a whole comment, between tokens -/
theorem remark_run (l : List Nat) (V : VS) (hr : V.rd = kOut ∨ V.rd = kCon) (h : cmRun false l = some false) : RDL a (60 :: 33 :: 45 :: 45 :: (l ++ [45, 45, 62])) V { V with rd := btw V.ns } := by
  have s1 : Stp a 60 V { V with rd := kLess } := by
    rcases hr with hr | hr
    · exact fb_out a 60 V _ (by decide +kernel) hr (rd_out_lt a V)
    · exact fb_con a 60 V _ (by decide +kernel) hr (rd_con_lt a V)
  have s2 := fb_less a 33 { V with rd := kLess } _ (by decide +kernel) rfl (rd_less_bang a { V with rd := kLess })
  have s3 := fb_bang a 45 { V with rd := kBang } _ (by decide +kernel) rfl (rd_bang_d a { V with rd := kBang })
  have s4 := fb_bangs a 45 { V with rd := kBangs } _ (by decide +kernel) rfl (rd_bangs_d a { V with rd := kBangs })
  have s5 := com_run a l false false { V with rd := kCom } rfl h
  have s6 := fb_comment a 45 { V with rd := kCom } _ (by decide +kernel) rfl (rd_com_d a { V with rd := kCom })
  have s7 := fb_dash a 45 { V with rd := kDash } _ (by decide +kernel) rfl (rd_dash_d a { V with rd := kDash })
  have s8 := fb_dashes a 62 { V with rd := kDashes } _ (by decide +kernel) rfl (rd_dashes_gt a { V with rd := kDashes })
  exact rdl_cons a s1 (rdl_cons a s2 (rdl_cons a s3 (rdl_cons a s4 (rdl_app a s5 (rdl_cons a s6 (rdl_cons a s7 (rdl_1 a s8)))))))
end
end Law

set_option Elab.async false
set_option linter.all false
set_option maxRecDepth 100000
set_option maxHeartbeats 4000000
namespace Law
open PySem PySem.Spec PyProof.Rows L2 Rg
/-! ### blanks, drawn forms of signs -/
theorem bl_f : ∀ c ∈ [32, 9, 10], isSg c = true ∧ c ∉ L_lowd ∧ c ∉ L_low ∧ c ≠ 60 ∧ c ≠ 62 := by decide +kernel
section
variable (a : Ads) (V : VS)
theorem rd_out_bl (c : Nat) (hc : c ∈ [32, 9, 10]) : RdS a (fun k s => m_read_outside a [.loc k, .str ⟨#[c]⟩] s) V V := by
  intro L s k hL K0
  refine gcTK hL (by simp) (s1 := s) ?_ K0 K0 (Fr.refl hL)
  simp only [List.mem_cons, List.not_mem_nil, or_false] at hc
  rcases hc with rfl | rfl | rfl <;> simp [f_read_outside, read_outside_i2, read_outside_i1]
theorem rd_valued_bl (c : Nat) (hc : c ∈ [32, 9, 10]) : RdS a (fun k s => m_read_valued a [.loc k, .str ⟨#[c]⟩] s) V { V with rd := kGap } := by
  intro L s k hL ⟨n, p, g, t, pl, K⟩
  refine gcTK hL (by simp) (s1 := s.set k (.ins a.c_Tokens (TF { V with rd := kGap } n p g t pl))) ?_ ⟨n, p, g, t, pl, K⟩ ⟨n, p, g, t, pl, K.fld _ _ rfl rfl rfl rfl⟩ (Fr.set _ hL K.Lk)
  simp only [List.mem_cons, List.not_mem_nil, or_false] at hc
  rcases hc with rfl | rfl | rfl <;> simp [f_read_valued, read_valued_i3, K.ok, kGap]
theorem rd_end_bl (ns : List (List Nat)) (m : List Nat) (c : Nat) (hc : c ∈ [32, 9, 10]) (hn : V.ns = ns ++ [m]) (hi : V.mt = (m.length : Int)) (hm : m.length < 100) : RdS a (fun k s => m_read_end_name a [.loc k, .str ⟨#[c]⟩] s) V V := by
  intro L s k hL K0
  refine gcTK hL (by simp) (s1 := s) ?_ K0 K0 (Fr.refl hL)
  obtain ⟨n, p, g, t, pl, K⟩ := K0
  have n0 := K.on
  rw [hn] at n0
  simp at n0
  have k0 := K.ok
  have h1 : m.length ≤ 16777216 := by omega
  simp only [List.mem_cons, List.not_mem_nil, or_false] at hc
  rcases hc with rfl | rfl | rfl <;> simp [-getElem?_pos, f_read_end_name, read_end_name_i4, read_end_name_i3, read_end_name_i2, k0, n0, hi, h1]
theorem out_bls : ∀ (l : List Nat), V.rd = kOut → (∀ c ∈ l, c ∈ [32, 9, 10]) → RDL a l V V
  | [], _, _ => rdl_nil a V
  | c :: l, hr, h => rdl_cons a (fb_out a c V _ (bl_f c (h c (by simp))).1 hr (rd_out_bl a V c (h c (by simp)))) (out_bls l hr fun d hd => h d (by simp [hd]))
theorem end_bls (ns : List (List Nat)) (m : List Nat) (hn : V.ns = ns ++ [m]) (hi : V.mt = (m.length : Int)) (hm : m.length < 100) : ∀ (l : List Nat), V.rd = kEnd → (∀ c ∈ l, c ∈ [32, 9, 10]) → RDL a l V V
  | [], _, _ => rdl_nil a V
  | c :: l, hr, h => rdl_cons a (fb_end a c V _ (bl_f c (h c (by simp))).1 hr (rd_end_bl a V ns m c (h c (by simp)) hn hi hm)) (end_bls ns m hn hi hm l hr fun d hd => h d (by simp [hd]))
theorem gap_bls : ∀ (l : List Nat) (V : VS), V.rd = kGap → (∀ c ∈ l, c ∈ [32, 9, 10]) → RDL a l V V
  | [], V, _, _ => rdl_nil a V
  | c :: l, V, hr, h => by
    have h1 := bl_f c (h c (by simp))
    have h2 := fb_gap a c V _ h1.1 hr (rd_gap_by a V c _ h1.2.2.1 (rd_valued_bl a V c (h c (by simp))))
    have : ({ V with rd := kGap } : VS) = V := by rw [← hr]
    rw [this] at h2
    exact rdl_cons a h2 (gap_bls l V hr fun d hd => h d (by simp [hd]))
/-- one blank or more, behind a name or a value -/
theorem tag_bls (c : Nat) (l : List Nat) (V : VS) (hr : V.rd = kName ∨ V.rd = kVald) (h : ∀ d ∈ c :: l, d ∈ [32, 9, 10]) : RDL a (c :: l) V { V with rd := kGap } := by
  have h1 := bl_f c (h c (by simp))
  have s1 : Stp a c V { V with rd := kGap } := by
    rcases hr with hr | hr
    · exact fb_name a c V _ h1.1 hr (rd_name_by a V c _ h1.2.1 (rd_valued_bl a V c (h c (by simp))))
    · exact fb_vald a c V _ h1.1 hr (rd_valued_bl a V c (h c (by simp)))
  exact rdl_cons a s1 (gap_bls a l { V with rd := kGap } rfl fun d hd => h d (by simp [hd]))
/-- what may be written for a sign: itself, or its entity -/
inductive Wr (q : Bool) : Nat → List Nat → Prop
  | self (c : Nat) : isSg c = true → c ≠ 60 → c ≠ 38 → (q = true → c ≠ 34) → Wr q c [c]
  | lt : Wr q 60 [38, 108, 116, 59]
  | gt : Wr q 62 [38, 103, 116, 59]
  | amp : Wr q 38 [38, 97, 109, 112, 59]
  | quot : Wr q 34 [38, 113, 117, 111, 116, 59]
theorem con_wr (q : Bool) (c : Nat) (w : List Nat) (h : Wr q c w) (V : VS) (hr : V.rd = kCon) (hz : V.td.length < 16777216) : ∃ V', RDL a w V V' ∧ V'.rd = kCon ∧ V'.ns = V.ns ∧ V'.en = V.en ∧ V'.td = V.td ++ [evC c] := by
  cases h with
  | self _ h1 h2 h3 h4 => exact ⟨_, rdl_1 a (fb_con a c V _ h1 hr (rd_con_ch a V c (isSg_small h1) h2 h3 hz)), hr, rfl, rfl, rfl⟩
  | lt => exact ent_con a [108, 116] 60 V hr hz (by decide +kernel) (by simp) (by decide +kernel) rfl
  | gt => exact ent_con a [103, 116] 62 V hr hz (by decide +kernel) (by simp) (by decide +kernel) rfl
  | amp => exact ent_con a [97, 109, 112] 38 V hr hz (by decide +kernel) (by simp) (by decide +kernel) rfl
  | quot => exact ent_con a [113, 117, 111, 116] 34 V hr hz (by decide +kernel) (by simp) (by decide +kernel) rfl
end
end Law

set_option Elab.async false
set_option linter.all false
set_option maxRecDepth 100000
set_option maxHeartbeats 4000000
namespace Law
open PySem PySem.Spec PyProof.Rows L2 Rg
/-! ### attributes in another order -/
theorem sortK_perm (as as' : List (List Nat × List Nat)) (hp : as'.Perm as) (h : asc (as.map (·.1)) = true) (hl : as.length < 64) : sortK ((pD as').map (·.1)) = some (as.map fun p => D.str (tx p.1)) := by
  have e : (pD as').map (·.1) = (as'.map (·.1)).map fun x => (Sum.inr (tx x) : Key) := by simp [pD, Function.comp_def]
  have hl' : as'.length < 64 := by rw [hp.length_eq]; exact hl
  unfold sortK
  rw [e, if_pos (by simpa using hl'), skeys_tx]
  show some ((sortS ((as'.map (·.1)).map fun x => (tx x))).map D.str) = _
  have hs : (as.map (·.1)).map (fun x => (tx x)) = sortS ((as'.map (·.1)).map fun x => (tx x)) := by
    refine sortS_is ((hp.symm.map (·.1)).map _) ?_
    refine List.pairwise_map.mpr ((asc_pw _ h).imp fun {x y} hxy => ?_)
    rw [leS_iff]
    exact List.le_of_lt hxy
  rw [← hs]
  simp [Function.comp_def]
theorem pD_nd : ∀ (as' : List (List Nat × List Nat)), (as'.map (·.1)).Nodup → ∀ p ∈ as', getD' (pD as') (.inr (tx p.1)) = some (.str (tx p.2))
  | [], _, p, h => by cases h
  | q :: as, ha, p, h => by
    rw [List.map_cons, List.nodup_cons] at ha
    unfold getD'
    rcases List.mem_cons.mp h with rfl | h
    · simp [pD]
    · have hne : ¬ q.1 = p.1 := fun e => ha.1 (by rw [e]; exact List.mem_map.mpr ⟨p, h, rfl⟩)
      have ih := pD_nd as ha.2 p h
      unfold getD' at ih
      simp only [pD, List.map_cons, List.find?_cons]
      have : decide ((Sum.inr (tx q.1) : Key) = .inr (tx p.1)) = false := by simpa using hne
      rw [this]
      exact ih
theorem asc_nd2 (ns : List (List Nat)) (h : asc ns = true) : ns.Nodup := (asc_pw ns h).imp fun {x y} hxy e => by rw [e] at hxy; exact List.lt_irrefl _ hxy
theorem pD_perm (as as' : List (List Nat × List Nat)) (hp : as'.Perm as) (h : asc (as.map (·.1)) = true) (q : List Nat × List Nat) (hq : q ∈ as) : getD' (pD as') (.inr (tx q.1)) = some (.str (tx q.2)) :=
  pD_nd as' ((hp.map (·.1)).nodup_iff.mpr (asc_nd2 _ h)) q (hp.mem_iff.mpr hq)
section
variable (a : Ads) (V : VS)
theorem tell_start_perm (as as' : List (List Nat × List Nat)) (hperm : as'.Perm as) (hp : V.ps = pD as') (ha : asc (as.map (·.1)) = true) (hl : as.length ≤ 8) (hz : V.td.length < 16000000) (hn : V.ns.length < 1000) : RdS a (fun k s => m_tell_start a [.loc k] s) V { V with td := V.td ++ [evS V.nm as], ns := V.ns ++ [V.nm] } := by
  intro L s k hL ⟨n, p, g, t, pl, K⟩
  have hl64 : as.length < 64 := by omega
  have hsk := sortK_perm as as' hperm ha hl64
  have A := K.app [.lst (as.map fun p => D.str (tx p.1)), .lst (as.map fun p => D.tup [.str (tx p.1), .str (tx p.2)])]
  have B := A.told (V.td ++ [evS V.nm as])
  have C := B.names (V.ns ++ [V.nm])
  have hc := comp_map (L := s.length + 1) (ok := fun st => items st (.loc s.length) = some (as.map fun p => D.str (tx p.1))) (g := gN 2) (t := xYes) (f := xTup (xCons (xV 2) (xCons (x2 oGet (x1 (oFld a.c_Tokens "pairs") (xV 0)) (xV 2)) (xNil)))) (ρ := [some (.loc k), some (.loc s.length), none]) (φ := fun d => match d with | .str x => .tup [.str x, (getD' (pD as') (.inr x)).getD .non] | _ => .non) (st := s ++ [.lst (as.map fun p => D.str (tx p.1))]) (by simp) (fun l => items_loc (by simp)) (as.map fun p => D.str (tx p.1)) []
    (fun d hd => by
      obtain ⟨q, hq, rfl⟩ := List.mem_map.mp hd
      have hg := pD_perm as as' hperm ha q hq
      have hk1 : ∀ J, (s ++ J)[k]? = some (.ins a.c_Tokens (TF V n p g t pl)) := fun J => at_old K.ok J
      have hp1 : ∀ J, (s ++ J)[p]? = some (.dct (pD as')) := fun J => by rw [← hp]; exact at_old K.op J
      refine ⟨_, rfl, fun l => ⟨by simp, ?_⟩⟩
      simp [hk1, hp1, oGet, keyD, hg]) (by simp; omega)
  rw [List.map_map] at hc
  have em : as.map ((fun d => match d with | D.str x => D.tup [.str x, (getD' (pD as') (.inr x)).getD .non] | _ => D.non) ∘ fun p => D.str (tx p.1)) = as.map fun p => D.tup [.str (tx p.1), .str (tx p.2)] := by
    refine List.map_congr_left fun q hq => ?_
    have hg := pD_perm as as' hperm ha q hq
    simp [hg]
  rw [em] at hc
  simp only [List.nil_append, List.append_assoc, List.cons_append] at hc
  refine gcTK hL (by simp) (s1 := ((s ++ [O.lst (as.map fun p => D.str (tx p.1)), O.lst (as.map fun p => D.tup [.str (tx p.1), .str (tx p.2)])]).set t (.lst (V.td ++ [evS V.nm as]))).set n (.lst ((V.ns ++ [V.nm]).map fun x => .str (tx x)))) ?_ ⟨n, p, g, t, pl, K⟩ ⟨n, p, g, t, pl, C⟩ ((Fr.app _ hL).trans ((Fr.set _ (hL.le (by simp)) K.Lt).trans (Fr.set _ (hL.le (by simp)) K.Ln)))
  have k0 := K.ok
  have p0 := K.op
  rw [hp] at p0
  have k1 := A.ok
  have t1 := A.ot
  have k2 := B.ok
  have n2 := B.on
  have z1 : V.td.length < 16777216 := by omega
  have z2 : V.ns.length < 16777216 := by omega
  have z3 : as.length ≤ 16777216 := by omega
  have k3 : ∀ J, (s ++ J)[k]? = some (.ins a.c_Tokens (TF V n p g t pl)) := fun J => at_old K.ok J
  have t3 : ∀ J, (s ++ J)[t]? = some (.lst V.td) := fun J => at_old K.ot J
  simp only [items_at, fl_pairs] at hc
  simp only [evS, attD] at k2 n2 ⊢
  simp [-getElem?_pos, List.getElem?_cons_zero, f_tell_start, k0, p0, hsk, hc, k3, t3, z1, z3, k2, n2, z2]
end
end Law

set_option Elab.async false
set_option linter.all false
set_option maxRecDepth 100000
set_option maxHeartbeats 4000000
namespace Law
open PySem PySem.Spec PyProof.Rows L2 Rg
theorem lowd_sg : ∀ c ∈ L_lowd, isSg c = true := by decide +kernel
theorem isNm_cons {n : List Nat} (h : isNm n = true) : ∃ c r, n = c :: r ∧ c ∈ L_low ∧ (∀ x ∈ r, x ∈ L_lowd) ∧ r.length < 8 := by
  cases n with
  | nil => cases h
  | cons c r =>
    unfold isNm at h
    rw [Bool.and_eq_true, Bool.and_eq_true] at h
    obtain ⟨h1, h2, h3⟩ := h
    exact ⟨c, r, rfl, of_decide_eq_true h2, fun x hx => of_decide_eq_true (List.all_eq_true.mp h3 x (by simp [hx])), of_decide_eq_true h1⟩
section
variable (a : Ads)
/-- the same but for the signs -/
structure SmV (V V' : VS) : Prop where
  rd : V'.rd = kVal
  ns : V'.ns = V.ns
  en : V'.en = V.en
  td : V'.td = V.td
  nm : V'.nm = V.nm
  at_ : V'.at_ = V.at_
  ps : V'.ps = V.ps
theorem val_wr (q : Bool) (hq : q = true) (c : Nat) (w : List Nat) (h : Wr q c w) (V : VS) (hr : V.rd = kVal) (hz : V.sg.length < 16777216) : ∃ V', RDL a w V V' ∧ SmV V V' ∧ V'.sg = V.sg ++ [.str ⟨#[c]⟩] := by
  have go : ∀ w c0, okRun [] w = true → w.length < 50 → preE (w ++ [59]) = true → wE (w ++ [59]) = some (.str ⟨#[c0]⟩) → ∃ V', RDL a (38 :: (w ++ [59])) V V' ∧ SmV V V' ∧ V'.sg = V.sg ++ [.str ⟨#[c0]⟩] := fun w c0 h1 h2 h3 h4 => by
    obtain ⟨V', e, g1, g2, g3, g4, g5, g6, g7, g8⟩ := ent_val a w c0 V hr hz h1 h2 h3 h4
    exact ⟨V', e, ⟨g1, g2, g3, g4, g6, g7, g8⟩, g5⟩
  cases h with
  | self _ h1 h2 h3 h4 => exact ⟨_, rdl_1 a (fb_val a c V _ h1 hr (rd_val_ch a V c (isSg_small h1) h2 h3 (h4 hq) hz)), ⟨hr, rfl, rfl, rfl, rfl, rfl, rfl⟩, rfl⟩
  | lt => exact go [108, 116] 60 (by decide +kernel) (by simp) (by decide +kernel) rfl
  | gt => exact go [103, 116] 62 (by decide +kernel) (by simp) (by decide +kernel) rfl
  | amp => exact go [97, 109, 112] 38 (by decide +kernel) (by simp) (by decide +kernel) rfl
  | quot => exact go [113, 117, 111, 116] 34 (by decide +kernel) (by simp) (by decide +kernel) rfl
theorem val_wrs : ∀ (l : List (Nat × List Nat)) (V : VS), (∀ p ∈ l, Wr true p.1 p.2) → V.rd = kVal → V.sg.length + l.length < 16777216 → ∃ V', RDL a (l.flatMap (·.2)) V V' ∧ SmV V V' ∧ V'.sg = V.sg ++ l.map fun p => D.str ⟨#[p.1]⟩
  | [], V, _, hr, _ => ⟨V, rdl_nil a V, ⟨hr, rfl, rfl, rfl, rfl, rfl, rfl⟩, by simp⟩
  | p :: l, V, h, hr, hz => by
    simp only [List.length_cons] at hz
    obtain ⟨V1, e1, S1, g1⟩ := val_wr a true rfl p.1 p.2 (h p (by simp)) V hr (by omega)
    obtain ⟨V2, e2, S2, g2⟩ := val_wrs l V1 (fun q hq => h q (by simp [hq])) S1.rd (by rw [g1]; simp; omega)
    rw [List.flatMap_cons]
    exact ⟨V2, rdl_app a e1 e2, ⟨S2.rd, S2.ns.trans S1.ns, S2.en.trans S1.en, S2.td.trans S1.td, S2.nm.trans S1.nm, S2.at_.trans S1.at_, S2.ps.trans S1.ps⟩, by rw [g2, g1]; simp⟩
theorem att_run (as : List (List Nat × List Nat)) : ∀ (r x : List Nat) (V : VS), V.rd = kAtt → V.at_ = x → V.ps = pD as → (∀ c ∈ r, c ∈ L_lowd) → x.length + r.length ≤ 8 → x ++ r ∉ as.map (·.1) → RDL a r V { V with at_ := x ++ r }
  | [], x, V, h1, h2, _, _, _, _ => by
    have : ({ V with at_ := x ++ [] } : VS) = V := by rw [List.append_nil, ← h2]
    rw [this]
    exact rdl_nil a V
  | c :: r, x, V, h1, h2, h3, h4, h5, h6 => by
    have hc := h4 c (by simp)
    simp only [List.length_cons] at h5
    have hs := rd_att_ch a V c hc (by rw [h2]; omega) (by
      rw [h2, h3]
      cases r with
      | nil => right; exact pD_none as _ h6
      | cons d r => left; simp at h5 ⊢; omega)
    have hs := fb_att a c V _ (lowd_sg c hc) h1 hs
    have ih := att_run as r (x ++ [c]) { V with at_ := V.at_ ++ [c] } h1 (by rw [h2]) h3 (fun d hd => h4 d (by simp [hd])) (by simp; omega) (by simpa using h6)
    have e : ({ { V with at_ := V.at_ ++ [c] } with at_ := x ++ [c] ++ r } : VS) = { V with at_ := x ++ c :: r } := by simp
    rw [e] at ih
    exact rdl_cons a hs ih
structure SmT (V V' : VS) : Prop where
  ns : V'.ns = V.ns
  en : V'.en = V.en
  td : V'.td = V.td
  nm : V'.nm = V.nm
/-- an attribute as it is written: blanks, the name, the signs of the value with their forms -/
theorem attrW (as : List (List Nat × List Nat)) (b : Nat) (bl nm : List Nat) (vs : List (Nat × List Nat)) (V : VS) (hb : ∀ d ∈ b :: bl, d ∈ [32, 9, 10]) (hr : V.rd = kName ∨ V.rd = kVald) (hp : V.ps = pD as) (hn : isNm nm = true) (hs : ∀ p ∈ vs, Wr true p.1 p.2) (hl : vs.length < 1000) (ha : as.length < 8) (hx : nm ∉ as.map (·.1)) :
    ∃ V', RDL a (b :: (bl ++ (nm ++ 61 :: 34 :: (vs.flatMap (·.2) ++ [34])))) V V' ∧ V'.rd = kVald ∧ V'.ps = pD (as ++ [(nm, vs.map (·.1))]) ∧ SmT V V' := by
  obtain ⟨c, r, e, h1, h2, h3⟩ := isNm_cons hn
  subst e
  obtain ⟨f1, f2, f3, f4, f5, f6, f7⟩ := low_f c h1
  have sp := tag_bls a b bl V hr hb
  have hpl : (pD as).length = as.length := by simp [pD]
  have s2 := fb_gap a c { V with rd := kGap } _ (lowd_sg c f4) rfl (rd_gap_ch a { V with rd := kGap } c h1 (by show V.ps.length < 8; rw [hp, hpl]; exact ha))
  have s3 := att_run a as r [c] { V with at_ := [c], rd := kAtt } rfl rfl hp h2 (by simp; omega) hx
  have s4 := fb_att a 61 { V with at_ := [c] ++ r, rd := kAtt } _ (by decide +kernel) rfl (rd_att_eq a { V with at_ := [c] ++ r, rd := kAtt } (by show getD' V.ps _ = none; rw [hp]; exact pD_none as _ hx))
  have s5 := fb_eq a 34 { V with at_ := [c] ++ r, rd := kEq } _ (by decide +kernel) rfl (rd_eq_q a { V with at_ := [c] ++ r, rd := kEq })
  obtain ⟨V6, s6, S6, g6⟩ := val_wrs a vs { V with at_ := [c] ++ r, rd := kVal, sg := [] } hs rfl (by simp; omega)
  have g6' : V6.sg = (vs.map (·.1)).map fun c => D.str ⟨#[c]⟩ := by rw [g6, List.map_map]; rfl
  have s7 := fb_val a 34 V6 _ (by decide +kernel) S6.rd (rd_val_q a V6 (vs.map (·.1)) g6' (by simp; omega) (by rw [S6.ps]; show V.ps.length < 1000; rw [hp, hpl]; omega))
  refine ⟨{ V6 with ps := putD V6.ps (.inr (tx V6.at_)) (.str (tx (vs.map (·.1)))), rd := kVald }, ?_, rfl, ?_, ⟨S6.ns, S6.en, S6.td, S6.nm⟩⟩
  · have s := rdl_app a sp (rdl_cons a s2 (rdl_app a s3 (rdl_cons a s4 (rdl_cons a s5 (rdl_app a s6 (rdl_1 a s7))))))
    simpa using s
  · show putD V6.ps (.inr (tx V6.at_)) _ = _
    rw [S6.ps, S6.at_]
    show putD V.ps (.inr (tx (c :: r))) (.str (tx (vs.map (·.1)))) = _
    rw [hp]
    exact putD_new as _ _ hx
theorem name_run : ∀ (r x : List Nat) (V : VS), V.rd = kName → V.nm = x → (∀ c ∈ r, c ∈ L_lowd) → x.length + r.length ≤ 8 → RDL a r V { V with nm := x ++ r }
  | [], x, V, h1, h2, _, _ => by
    have : ({ V with nm := x ++ [] } : VS) = V := by rw [List.append_nil, ← h2]
    rw [this]
    exact rdl_nil a V
  | c :: r, x, V, h1, h2, h4, h5 => by
    have hc := h4 c (by simp)
    simp only [List.length_cons] at h5
    have hs := fb_name a c V _ (lowd_sg c hc) h1 (rd_name_ch a V c hc (by rw [h2]; omega))
    have ih := name_run r (x ++ [c]) { V with nm := V.nm ++ [c] } h1 (by rw [h2]) (fun d hd => h4 d (by simp [hd])) (by simp; omega)
    have e : ({ { V with nm := V.nm ++ [c] } with nm := x ++ [c] ++ r } : VS) = { V with nm := x ++ c :: r } := by simp
    rw [e] at ih
    exact rdl_cons a hs ih
theorem end_run (ns : List (List Nat)) (m : List Nat) (hm : m.length < 100) : ∀ (r x : List Nat) (V : VS), V.rd = kEnd → V.ns = ns ++ [m] → m = x ++ r → V.mt = (x.length : Int) → (∀ c ∈ r, isSg c = true) → RDL a r V { V with mt := (m.length : Int) }
  | [], x, V, h1, h2, h3, h4, _ => by
    have : ({ V with mt := (m.length : Int) } : VS) = V := by rw [h3, List.append_nil, ← h4]
    rw [this]
    exact rdl_nil a V
  | c :: r, x, V, h1, h2, h3, h4, h5 => by
    have hc := h5 c (by simp)
    have hs := fb_end a c V _ hc h1 (rd_end_ch a V ns m x.length c h2 h4 (by rw [h3]; simp) hm (isSg_small hc))
    have ih := end_run ns m hm r (x ++ [c]) { V with mt := ((x.length + 1 : Nat) : Int) } h1 h2 (by rw [h3]; simp) (by simp) (fun d hd => h5 d (by simp [hd]))
    exact rdl_cons a hs ih
end
end Law

set_option Elab.async false
set_option linter.all false
set_option maxRecDepth 100000
set_option maxHeartbeats 4000000
namespace Law
open PySem PySem.Spec PyProof.Rows L2 Rg
section
variable (a : Ads)
/-! ### chains of turns: each byte with the events that it tells -/
def StpE (c : Nat) (V : VS) (ev : List D) (V' : VS) : Prop := ∀ td : List D, td.length < 1000000 → Stp a c { V with td := td } { V' with td := td ++ ev }
inductive Ch : List (Nat × List D) → VS → VS → Prop
  | nil (V : VS) : Ch [] V V
  | cons {c : Nat} {ev : List D} {l : List (Nat × List D)} {V V1 V2 : VS} : StpE a c V ev V1 → Ch l V1 V2 → Ch ((c, ev) :: l) V V2
theorem Ch.app : ∀ {l1 l2 : List (Nat × List D)} {V V1 V2 : VS}, Ch a l1 V V1 → Ch a l2 V1 V2 → Ch a (l1 ++ l2) V V2
  | _, _, _, _, _, .nil _, h => h
  | _, _, _, _, _, .cons s t, h => .cons s (Ch.app t h)
theorem Ch.split : ∀ {l1 l2 : List (Nat × List D)} {V V2 : VS}, Ch a (l1 ++ l2) V V2 → ∃ V1, Ch a l1 V V1 ∧ Ch a l2 V1 V2
  | [], _, V, _, h => ⟨V, .nil V, h⟩
  | (c, ev) :: l1, l2, V, V2, h => by
    cases h with
    | cons s t =>
      obtain ⟨V1, h1, h2⟩ := Ch.split t
      exact ⟨V1, .cons s h1, h2⟩
theorem Ch.rdl : ∀ {l : List (Nat × List D)} {V V' : VS}, Ch a l V V' → ∀ td : List D, td.length + (l.flatMap (·.2)).length < 1000000 → RDL a (l.map (·.1)) { V with td := td } { V' with td := td ++ l.flatMap (·.2) }
  | _, _, _, .nil V, td, _ => by
    simp only [List.flatMap_nil, List.append_nil]
    exact rdl_nil a _
  | _, _, _, .cons (c := c) (ev := ev) (l := l) (V1 := V1) s t, td, hz => by
    simp only [List.flatMap_cons, List.length_append] at hz
    have h1 := s td (by omega)
    have h2 := Ch.rdl t (td ++ ev) (by simp only [List.length_append]; omega)
    rw [List.map_cons, List.flatMap_cons, ← List.append_assoc]
    exact rdl_cons a h1 h2
/-- a byte that tells nothing -/
theorem quiet {c : Nat} {V V' : VS} (h : ∀ td, Stp a c { V with td := td } { V' with td := td }) : StpE a c V [] V' := fun td _ => by
  rw [List.append_nil]
  exact h td
end
end Law

set_option Elab.async false
set_option linter.all false
set_option maxRecDepth 100000
set_option maxHeartbeats 4000000
namespace Law
open PySem PySem.Spec PyProof.Rows L2 Rg
section
variable (a : Ads)
/-! ### chains of bytes that tell nothing -/
def qch (l : List Nat) : List (Nat × List D) := l.map fun c => (c, [])
def QR (l : List Nat) (V V' : VS) : Prop := Ch a (qch l) V V'
variable {l l1 l2 : List Nat} {c : Nat} {V V1 V2 : VS}
theorem qr_nil (V : VS) : QR a [] V V := Ch.nil V
theorem qr_cons (h : ∀ td, Stp a c { V with td := td } { V1 with td := td }) (g : QR a l V1 V2) : QR a (c :: l) V V2 := Ch.cons (quiet a h) g
theorem qr_app (h1 : QR a l1 V V1) (h2 : QR a l2 V1 V2) : QR a (l1 ++ l2) V V2 := by
  unfold QR qch; rw [List.map_append]; exact Ch.app a h1 h2
theorem qr_1 (h : ∀ td, Stp a c { V with td := td } { V1 with td := td }) : QR a [c] V V1 := qr_cons a h (qr_nil a V1)
theorem ent_runQ : ∀ (r x : List Nat) (V : VS), V.rd = kEnt → V.ent = x → okRun x r = true → QR a r V { V with ent := x ++ r }
  | [], x, V, h1, h2, _ => by
    have : ({ V with ent := x ++ [] } : VS) = V := by rw [List.append_nil, ← h2]
    rw [this]
    exact qr_nil a V
  | c :: r, x, V, h1, h2, h => by
    simp only [okRun, Bool.and_eq_true] at h
    obtain ⟨⟨⟨g1, g2⟩, g3, g4⟩, g5⟩ := h
    have hs := fun td => fb_ent a c { V with td := td } _ g3 h1 (rd_ent_more a { V with td := td } c (by show V.ent.length < 100; rw [h2]; have := of_decide_eq_true g4; omega) (by show preE (V.ent ++ [c]) = true; rw [h2]; exact g1) (by show wE (V.ent ++ [c]) = none; rw [h2]; exact Option.isNone_iff_eq_none.mp g2))
    have ih := ent_runQ r (x ++ [c]) { V with ent := V.ent ++ [c] } h1 (by rw [h2]) g5
    have e : ({ { V with ent := V.ent ++ [c] } with ent := x ++ [c] ++ r } : VS) = { V with ent := x ++ c :: r } := by simp
    rw [e] at ih
    exact qr_cons a hs ih
structure SmC (V V' : VS) : Prop where
  rd : V'.rd = kCon
  ns : V'.ns = V.ns
  en : V'.en = V.en
theorem ent_conQ (w : List Nat) (c0 : Nat) (V : VS) (hr : V.rd = kCon) (hw : okRun [] w = true) (hl : w.length < 50) (hp : preE (w ++ [59]) = true) (hg : wE (w ++ [59]) = some (.str ⟨#[c0]⟩)) :
    ∃ V', Ch a (qch (38 :: w) ++ [(59, [evC c0])]) V V' ∧ SmC V V' := by
  have s1 := fun td => fb_con a 38 { V with td := td } _ (by decide +kernel) hr (rd_con_amp a { V with td := td })
  have s2 := ent_runQ a w [] { V with ar := kCon, ent := [], rd := kEnt } rfl rfl hw
  have s3 : StpE a 59 { V with ar := kCon, ent := [] ++ w, rd := kEnt } [evC c0] { V with ar := kCon, ent := [] ++ w ++ [59], rd := kCon } := fun td htd =>
    fb_ent a 59 { V with ar := kCon, ent := [] ++ w, rd := kEnt, td := td } _ (by decide +kernel) rfl (rd_ent_done a { V with ar := kCon, ent := [] ++ w, rd := kEnt, td := td } 59 c0 _ (by simp; omega) hp hg (tell_ent_con a { V with ar := kCon, ent := [] ++ w ++ [59], rd := kEnt, td := td } c0 rfl (by show td.length < _; omega)))
  have q : QR a (38 :: w) V _ := qr_cons a s1 s2
  exact ⟨_, Ch.app a q (.cons s3 (.nil _)), rfl, rfl, rfl⟩
theorem con_wrQ (q : Bool) (c : Nat) (w : List Nat) (h : Wr q c w) (V : VS) (hr : V.rd = kCon) : ∃ V' u d, w = u ++ [d] ∧ Ch a (qch u ++ [(d, [evC c])]) V V' ∧ SmC V V' := by
  have go : ∀ w c0, okRun [] w = true → w.length < 50 → preE (w ++ [59]) = true → wE (w ++ [59]) = some (.str ⟨#[c0]⟩) → ∃ V' u d, 38 :: (w ++ [59]) = u ++ [d] ∧ Ch a (qch u ++ [(d, [evC c0])]) V V' ∧ SmC V V' := fun w c0 h1 h2 h3 h4 => by
    obtain ⟨V', e, g⟩ := ent_conQ a w c0 V hr h1 h2 h3 h4
    exact ⟨V', 38 :: w, 59, rfl, e, g⟩
  cases h with
  | self _ h1 h2 h3 h4 =>
    refine ⟨V, [], c, rfl, ?_, hr, rfl, rfl⟩
    have s : StpE a c V [evC c] V := fun td htd => fb_con a c { V with td := td } _ h1 hr (rd_con_ch a { V with td := td } c (isSg_small h1) h2 h3 (by show td.length < _; omega))
    exact .cons s (.nil _)
  | lt => exact go [108, 116] 60 (by decide +kernel) (by simp) (by decide +kernel) rfl
  | gt => exact go [103, 116] 62 (by decide +kernel) (by simp) (by decide +kernel) rfl
  | amp => exact go [97, 109, 112] 38 (by decide +kernel) (by simp) (by decide +kernel) rfl
  | quot => exact go [113, 117, 111, 116] 34 (by decide +kernel) (by simp) (by decide +kernel) rfl
/-- the same but for the signs -/
structure SmW (V V' : VS) : Prop where
  rd : V'.rd = kVal
  ns : V'.ns = V.ns
  en : V'.en = V.en
  nm : V'.nm = V.nm
  at_ : V'.at_ = V.at_
  ps : V'.ps = V.ps
theorem ent_valQ (w : List Nat) (c0 : Nat) (V : VS) (hr : V.rd = kVal) (hz : V.sg.length < 16777216) (hw : okRun [] w = true) (hl : w.length < 50) (hp : preE (w ++ [59]) = true) (hg : wE (w ++ [59]) = some (.str ⟨#[c0]⟩)) :
    ∃ V', QR a (38 :: (w ++ [59])) V V' ∧ SmW V V' ∧ V'.sg = V.sg ++ [.str ⟨#[c0]⟩] := by
  have s1 := fun td => fb_val a 38 { V with td := td } _ (by decide +kernel) hr (rd_val_amp a { V with td := td })
  have s2 := ent_runQ a w [] { V with ar := kVal, ent := [], rd := kEnt } rfl rfl hw
  have s3 : ∀ td, Stp a 59 { V with ar := kVal, ent := [] ++ w, rd := kEnt, td := td } { V with ar := kVal, ent := [] ++ w ++ [59], rd := kVal, sg := V.sg ++ [.str ⟨#[c0]⟩], td := td } := fun td =>
    fb_ent a 59 { V with ar := kVal, ent := [] ++ w, rd := kEnt, td := td } _ (by decide +kernel) rfl (rd_ent_done a { V with ar := kVal, ent := [] ++ w, rd := kEnt, td := td } 59 c0 _ (by simp; omega) hp hg (tell_ent_val a { V with ar := kVal, ent := [] ++ w ++ [59], rd := kEnt, td := td } c0 rfl hz))
  refine ⟨{ V with ar := kVal, ent := [] ++ w ++ [59], rd := kVal, sg := V.sg ++ [.str ⟨#[c0]⟩] }, ?_, ⟨rfl, rfl, rfl, rfl, rfl, rfl⟩, rfl⟩
  exact qr_cons a s1 (qr_app a s2 (qr_1 a s3))
theorem val_wrQ (c : Nat) (w : List Nat) (h : Wr true c w) (V : VS) (hr : V.rd = kVal) (hz : V.sg.length < 16777216) : ∃ V', QR a w V V' ∧ SmW V V' ∧ V'.sg = V.sg ++ [.str ⟨#[c]⟩] := by
  cases h with
  | self _ h1 h2 h3 h4 =>
    refine ⟨{ V with sg := V.sg ++ [.str ⟨#[c]⟩] }, ?_, ⟨hr, rfl, rfl, rfl, rfl, rfl⟩, rfl⟩
    exact qr_1 a fun td => fb_val a c { V with td := td } _ h1 hr (rd_val_ch a { V with td := td } c (isSg_small h1) h2 h3 (h4 rfl) hz)
  | lt => exact ent_valQ a [108, 116] 60 V hr hz (by decide +kernel) (by simp) (by decide +kernel) rfl
  | gt => exact ent_valQ a [103, 116] 62 V hr hz (by decide +kernel) (by simp) (by decide +kernel) rfl
  | amp => exact ent_valQ a [97, 109, 112] 38 V hr hz (by decide +kernel) (by simp) (by decide +kernel) rfl
  | quot => exact ent_valQ a [113, 117, 111, 116] 34 V hr hz (by decide +kernel) (by simp) (by decide +kernel) rfl
theorem val_wrsQ : ∀ (l : List (Nat × List Nat)) (V : VS), (∀ p ∈ l, Wr true p.1 p.2) → V.rd = kVal → V.sg.length + l.length < 16777216 → ∃ V', QR a (l.flatMap (·.2)) V V' ∧ SmW V V' ∧ V'.sg = V.sg ++ l.map fun p => D.str ⟨#[p.1]⟩
  | [], V, _, hr, _ => ⟨V, qr_nil a V, ⟨hr, rfl, rfl, rfl, rfl, rfl⟩, by simp⟩
  | p :: l, V, h, hr, hz => by
    simp only [List.length_cons] at hz
    obtain ⟨V1, e1, S1, g1⟩ := val_wrQ a p.1 p.2 (h p (by simp)) V hr (by omega)
    obtain ⟨V2, e2, S2, g2⟩ := val_wrsQ l V1 (fun q hq => h q (by simp [hq])) S1.rd (by rw [g1]; simp; omega)
    rw [List.flatMap_cons]
    exact ⟨V2, qr_app a e1 e2, ⟨S2.rd, S2.ns.trans S1.ns, S2.en.trans S1.en, S2.nm.trans S1.nm, S2.at_.trans S1.at_, S2.ps.trans S1.ps⟩, by rw [g2, g1]; simp⟩
/-! comments -/
theorem com_runQ : ∀ (l : List Nat) (b b' : Bool) (V : VS), V.rd = kCm b → cmRun b l = some b' → QR a l V { V with rd := kCm b' }
  | [], b, b', V, hr, h => by
    have h : some b = some b' := by cases b <;> exact h
    cases h
    have : ({ V with rd := kCm b } : VS) = V := by rw [← hr]
    rw [this]
    exact qr_nil a V
  | c :: r, false, b', V, hr, h => by
    unfold cmRun at h
    split at h
    · rename_i hc
      split at h
      · rename_i h45
        subst h45
        exact qr_cons a (fun td => fb_comment a 45 { V with td := td } _ hc hr (rd_com_d a { V with td := td })) (com_runQ r true b' { V with rd := kDash } rfl h)
      · rename_i h45
        exact qr_cons a (fun td => fb_comment a c { V with td := td } _ hc hr (rd_com_x a { V with td := td } c (isSg_small hc) h45)) (com_runQ r false b' V hr h)
    · cases h
  | c :: r, true, b', V, hr, h => by
    unfold cmRun at h
    split at h
    · rename_i hc
      split at h
      · cases h
      · rename_i h45
        exact qr_cons a (fun td => fb_dash a c { V with td := td } _ hc hr (rd_dash_x a { V with td := td } c (isSg_small hc) h45)) (com_runQ r false b' { V with rd := kCom } rfl h)
    · cases h
theorem remark_runQ (l : List Nat) (V : VS) (hr : V.rd = kOut ∨ V.rd = kCon) (h : cmRun false l = some false) : QR a (60 :: 33 :: 45 :: 45 :: (l ++ [45, 45, 62])) V { V with rd := btw V.ns } := by
  have s1 : ∀ td, Stp a 60 { V with td := td } { V with rd := kLess, td := td } := fun td => by
    rcases hr with hr | hr
    · exact fb_out a 60 { V with td := td } _ (by decide +kernel) hr (rd_out_lt a { V with td := td })
    · exact fb_con a 60 { V with td := td } _ (by decide +kernel) hr (rd_con_lt a { V with td := td })
  have s2 := fun td => fb_less a 33 { V with rd := kLess, td := td } _ (by decide +kernel) rfl (rd_less_bang a { V with rd := kLess, td := td })
  have s3 := fun td => fb_bang a 45 { V with rd := kBang, td := td } _ (by decide +kernel) rfl (rd_bang_d a { V with rd := kBang, td := td })
  have s4 := fun td => fb_bangs a 45 { V with rd := kBangs, td := td } _ (by decide +kernel) rfl (rd_bangs_d a { V with rd := kBangs, td := td })
  have s5 := com_runQ a l false false { V with rd := kCom } rfl h
  have s6 := fun td => fb_comment a 45 { V with rd := kCom, td := td } _ (by decide +kernel) rfl (rd_com_d a { V with rd := kCom, td := td })
  have s7 := fun td => fb_dash a 45 { V with rd := kDash, td := td } _ (by decide +kernel) rfl (rd_dash_d a { V with rd := kDash, td := td })
  have s8 := fun td => fb_dashes a 62 { V with rd := kDashes, td := td } _ (by decide +kernel) rfl (rd_dashes_gt a { V with rd := kDashes, td := td })
  exact qr_cons (V1 := { V with rd := kLess }) a s1 (qr_cons (V1 := { V with rd := kBang }) a s2 (qr_cons (V1 := { V with rd := kBangs }) a s3 (qr_cons (V1 := { V with rd := kCom }) a s4 (qr_app a s5 (qr_cons (V1 := { V with rd := kDash }) a s6 (qr_cons (V1 := { V with rd := kDashes }) a s7 (qr_1 a s8)))))))
/-! blanks -/
theorem out_blsQ (V : VS) : ∀ (l : List Nat), V.rd = kOut → (∀ c ∈ l, c ∈ [32, 9, 10]) → QR a l V V
  | [], _, _ => qr_nil a V
  | c :: l, hr, h => qr_cons a (fun td => fb_out a c { V with td := td } _ (bl_f c (h c (by simp))).1 hr (rd_out_bl a { V with td := td } c (h c (by simp)))) (out_blsQ V l hr fun d hd => h d (by simp [hd]))
theorem end_blsQ (V : VS) (ns : List (List Nat)) (m : List Nat) (hn : V.ns = ns ++ [m]) (hi : V.mt = (m.length : Int)) (hm : m.length < 100) : ∀ (l : List Nat), V.rd = kEnd → (∀ c ∈ l, c ∈ [32, 9, 10]) → QR a l V V
  | [], _, _ => qr_nil a V
  | c :: l, hr, h => qr_cons a (fun td => fb_end a c { V with td := td } _ (bl_f c (h c (by simp))).1 hr (rd_end_bl a { V with td := td } ns m c (h c (by simp)) hn hi hm)) (end_blsQ V ns m hn hi hm l hr fun d hd => h d (by simp [hd]))
theorem gap_blsQ : ∀ (l : List Nat) (V : VS), V.rd = kGap → (∀ c ∈ l, c ∈ [32, 9, 10]) → QR a l V V
  | [], V, _, _ => qr_nil a V
  | c :: l, V, hr, h => by
    have h1 := bl_f c (h c (by simp))
    have h2 := fun td => fb_gap a c { V with td := td } _ h1.1 hr (rd_gap_by a { V with td := td } c _ h1.2.2.1 (rd_valued_bl a { V with td := td } c (h c (by simp))))
    have : ({ V with rd := kGap } : VS) = V := by rw [← hr]
    have h3 : QR a [c] V { V with rd := kGap } := qr_1 a h2
    rw [this] at h3
    exact qr_app (l1 := [c]) a h3 (gap_blsQ l V hr fun d hd => h d (by simp [hd]))
theorem tag_blsQ (c : Nat) (l : List Nat) (V : VS) (hr : V.rd = kName ∨ V.rd = kVald) (h : ∀ d ∈ c :: l, d ∈ [32, 9, 10]) : QR a (c :: l) V { V with rd := kGap } := by
  have h1 := bl_f c (h c (by simp))
  have s1 : ∀ td, Stp a c { V with td := td } { V with rd := kGap, td := td } := fun td => by
    rcases hr with hr | hr
    · exact fb_name a c { V with td := td } _ h1.1 hr (rd_name_by a { V with td := td } c _ h1.2.1 (rd_valued_bl a { V with td := td } c (h c (by simp))))
    · exact fb_vald a c { V with td := td } _ h1.1 hr (rd_valued_bl a { V with td := td } c (h c (by simp)))
  exact qr_cons (V1 := { V with rd := kGap }) a s1 (gap_blsQ a l { V with rd := kGap } rfl fun d hd => h d (by simp [hd]))
/-! attributes, names -/
theorem att_runQ (as : List (List Nat × List Nat)) : ∀ (r x : List Nat) (V : VS), V.rd = kAtt → V.at_ = x → V.ps = pD as → (∀ c ∈ r, c ∈ L_lowd) → x.length + r.length ≤ 8 → x ++ r ∉ as.map (·.1) → QR a r V { V with at_ := x ++ r }
  | [], x, V, h1, h2, _, _, _, _ => by
    have : ({ V with at_ := x ++ [] } : VS) = V := by rw [List.append_nil, ← h2]
    rw [this]
    exact qr_nil a V
  | c :: r, x, V, h1, h2, h3, h4, h5, h6 => by
    have hc := h4 c (by simp)
    simp only [List.length_cons] at h5
    have hx : (V.at_ ++ [c]).length ≠ 8 ∨ getD' V.ps (.inr (tx (V.at_ ++ [c]))) = none := by
      rw [h2, h3]
      cases r with
      | nil => right; exact pD_none as _ h6
      | cons d r => left; simp at h5 ⊢; omega
    have hs := fun td => fb_att a c { V with td := td } _ (lowd_sg c hc) h1 (rd_att_ch a { V with td := td } c hc (by show V.at_.length < 8; rw [h2]; omega) hx)
    have ih := att_runQ as r (x ++ [c]) { V with at_ := V.at_ ++ [c] } h1 (by rw [h2]) h3 (fun d hd => h4 d (by simp [hd])) (by simp; omega) (by simpa using h6)
    have e : ({ { V with at_ := V.at_ ++ [c] } with at_ := x ++ [c] ++ r } : VS) = { V with at_ := x ++ c :: r } := by simp
    rw [e] at ih
    exact qr_cons a hs ih
structure SmQ (V V' : VS) : Prop where
  ns : V'.ns = V.ns
  en : V'.en = V.en
  nm : V'.nm = V.nm
theorem attrWQ (as : List (List Nat × List Nat)) (b : Nat) (bl nm : List Nat) (vs : List (Nat × List Nat)) (V : VS) (hb : ∀ d ∈ b :: bl, d ∈ [32, 9, 10]) (hr : V.rd = kName ∨ V.rd = kVald) (hp : V.ps = pD as) (hn : isNm nm = true) (hs : ∀ p ∈ vs, Wr true p.1 p.2) (hl : vs.length < 1000) (ha : as.length < 8) (hx : nm ∉ as.map (·.1)) :
    ∃ V', QR a (b :: (bl ++ (nm ++ 61 :: 34 :: (vs.flatMap (·.2) ++ [34])))) V V' ∧ V'.rd = kVald ∧ V'.ps = pD (as ++ [(nm, vs.map (·.1))]) ∧ SmQ V V' := by
  obtain ⟨c, r, e, h1, h2, h3⟩ := isNm_cons hn
  subst e
  obtain ⟨f1, f2, f3, f4, f5, f6, f7⟩ := low_f c h1
  have sp := tag_blsQ a b bl V hr hb
  have hpl : (pD as).length = as.length := by simp [pD]
  have s2 := fun td => fb_gap a c { V with rd := kGap, td := td } _ (lowd_sg c f4) rfl (rd_gap_ch a { V with rd := kGap, td := td } c h1 (by show V.ps.length < 8; rw [hp, hpl]; exact ha))
  have s3 := att_runQ a as r [c] { V with at_ := [c], rd := kAtt } rfl rfl hp h2 (by simp; omega) hx
  have s4 := fun td => fb_att a 61 { V with at_ := [c] ++ r, rd := kAtt, td := td } _ (by decide +kernel) rfl (rd_att_eq a { V with at_ := [c] ++ r, rd := kAtt, td := td } (by show getD' V.ps _ = none; rw [hp]; exact pD_none as _ hx))
  have s5 := fun td => fb_eq a 34 { V with at_ := [c] ++ r, rd := kEq, td := td } _ (by decide +kernel) rfl (rd_eq_q a { V with at_ := [c] ++ r, rd := kEq, td := td })
  obtain ⟨V6, s6, S6, g6⟩ := val_wrsQ a vs { V with at_ := [c] ++ r, rd := kVal, sg := [] } hs rfl (by simp; omega)
  have g6' : V6.sg = (vs.map (·.1)).map fun c => D.str ⟨#[c]⟩ := by rw [g6, List.map_map]; rfl
  have s7 := fun td => fb_val a 34 { V6 with td := td } _ (by decide +kernel) S6.rd (rd_val_q a { V6 with td := td } (vs.map (·.1)) g6' (by simp; omega) (by show V6.ps.length < 1000; rw [S6.ps]; show V.ps.length < 1000; rw [hp, hpl]; omega))
  refine ⟨{ V6 with ps := putD V6.ps (.inr (tx V6.at_)) (.str (tx (vs.map (·.1)))), rd := kVald }, ?_, rfl, ?_, ⟨S6.ns, S6.en, S6.nm⟩⟩
  · have s := qr_app a sp (qr_cons (V1 := { V with at_ := [c], rd := kAtt }) a s2 (qr_app a s3 (qr_cons (V1 := { V with at_ := [c] ++ r, rd := kEq }) a s4 (qr_cons (V1 := { V with at_ := [c] ++ r, rd := kVal, sg := [] }) a s5 (qr_app a s6 (qr_1 (V1 := { V6 with ps := putD V6.ps (.inr (tx V6.at_)) (.str (tx (vs.map (·.1)))), rd := kVald }) a s7))))))
    simpa using s
  · show putD V6.ps (.inr (tx V6.at_)) _ = _
    rw [S6.ps, S6.at_]
    show putD V.ps (.inr (tx (c :: r))) (.str (tx (vs.map (·.1)))) = _
    rw [hp]
    exact putD_new as _ _ hx
theorem name_runQ : ∀ (r x : List Nat) (V : VS), V.rd = kName → V.nm = x → (∀ c ∈ r, c ∈ L_lowd) → x.length + r.length ≤ 8 → QR a r V { V with nm := x ++ r }
  | [], x, V, h1, h2, _, _ => by
    have : ({ V with nm := x ++ [] } : VS) = V := by rw [List.append_nil, ← h2]
    rw [this]
    exact qr_nil a V
  | c :: r, x, V, h1, h2, h4, h5 => by
    have hc := h4 c (by simp)
    simp only [List.length_cons] at h5
    have hs := fun td => fb_name a c { V with td := td } _ (lowd_sg c hc) h1 (rd_name_ch a { V with td := td } c hc (by show V.nm.length < 8; rw [h2]; omega))
    have ih := name_runQ r (x ++ [c]) { V with nm := V.nm ++ [c] } h1 (by rw [h2]) (fun d hd => h4 d (by simp [hd])) (by simp; omega)
    have e : ({ { V with nm := V.nm ++ [c] } with nm := x ++ [c] ++ r } : VS) = { V with nm := x ++ c :: r } := by simp
    rw [e] at ih
    exact qr_cons a hs ih
theorem end_runQ (ns : List (List Nat)) (m : List Nat) (hm : m.length < 100) : ∀ (r x : List Nat) (V : VS), V.rd = kEnd → V.ns = ns ++ [m] → m = x ++ r → V.mt = (x.length : Int) → (∀ c ∈ r, isSg c = true) → QR a r V { V with mt := (m.length : Int) }
  | [], x, V, h1, h2, h3, h4, _ => by
    have : ({ V with mt := (m.length : Int) } : VS) = V := by rw [h3, List.append_nil, ← h4]
    rw [this]
    exact qr_nil a V
  | c :: r, x, V, h1, h2, h3, h4, h5 => by
    have hc := h5 c (by simp)
    have hs := fun td => fb_end a c { V with td := td } _ hc h1 (rd_end_ch a { V with td := td } ns m x.length c h2 h4 (by rw [h3]; simp) hm (isSg_small hc))
    have ih := end_runQ ns m hm r (x ++ [c]) { V with mt := ((x.length + 1 : Nat) : Int) } h1 h2 (by rw [h3]; simp) (by simp) (fun d hd => h5 d (by simp [hd]))
    exact qr_cons a hs ih
end
end Law

set_option Elab.async false
set_option linter.all false
set_option maxRecDepth 100000
set_option maxHeartbeats 4000000
namespace Law
open PySem PySem.Spec PyProof.Rows L2 Rg
theorem goodA_asc {as : List (List Nat × List Nat)} (h : goodA as = true) : asc (as.map (·.1)) = true := by
  unfold goodA okAtt at h
  simp only [Bool.and_eq_true] at h
  exact h.1.2.2
theorem isNm_sg {n : List Nat} (h : isNm n = true) : ∀ c ∈ n, isSg c = true := by
  obtain ⟨c, r, rfl, h1, h2, _⟩ := isNm_cons h
  intro d hd
  rcases List.mem_cons.mp hd with rfl | hd
  · exact lowd_sg d (low_f d h1).2.2.2.1
  · exact lowd_sg d (h2 d hd)
/-- attributes as they are written, one behind the other -/
inductive AW : List (List Nat × List Nat) → List Nat → Prop
  | nil : AW [] []
  | cons {nm l : List Nat} {vs : List (Nat × List Nat)} {as : List (List Nat × List Nat)} (b : Nat) (bl : List Nat) : (∀ d ∈ b :: bl, d ∈ [32, 9, 10]) → (∀ p ∈ vs, Wr true p.1 p.2) → AW as l → AW ((nm, vs.map (·.1)) :: as) ((b :: (bl ++ (nm ++ 61 :: 34 :: (vs.flatMap (·.2) ++ [34])))) ++ l)
section
variable (a : Ads)
theorem attrsQ {as2 : List (List Nat × List Nat)} {l : List Nat} (h : AW as2 l) : ∀ (as1 : List (List Nat × List Nat)) (V : VS), (V.rd = kName ∨ V.rd = kVald) → V.ps = pD as1 → (∀ p ∈ as2, isNm p.1 = true ∧ p.2.length < 1000) → as1.length + as2.length ≤ 8 → ((as1 ++ as2).map (·.1)).Nodup →
    ∃ V', QR a l V V' ∧ (V'.rd = kName ∨ V'.rd = kVald) ∧ V'.ps = pD (as1 ++ as2) ∧ SmQ V V' := by
  induction h with
  | nil => exact fun as1 V hr hp _ _ _ => ⟨V, qr_nil a V, hr, by simpa using hp, rfl, rfl, rfl⟩
  | @cons nm l vs as2 b bl hb hs _ ih =>
    intro as1 V hr hp h hl hd
    obtain ⟨h1, h2⟩ := h (nm, vs.map (·.1)) (by simp)
    simp only [List.length_cons] at hl
    have hx : nm ∉ as1.map (·.1) := fun hm => by
      rw [List.map_append, List.map_cons, List.nodup_append] at hd
      exact hd.2.2 _ hm _ (by simp) rfl
    obtain ⟨V1, s1, r1, p1, S1⟩ := attrWQ a as1 b bl nm vs V hb hr hp h1 hs (by simpa using h2) (by omega) hx
    obtain ⟨V2, s2, r2, p2, S2⟩ := ih (as1 ++ [(nm, vs.map (·.1))]) V1 (.inr r1) p1 (fun q hq => h q (by simp [hq])) (by simp; omega) (by simpa using hd)
    exact ⟨V2, qr_app a s1 s2, r2, by simpa using p2, ⟨S2.ns.trans S1.ns, S2.en.trans S1.en, S2.nm.trans S1.nm⟩⟩
/-- the head of a tag, up to its end -/
structure HdV (n : List Nat) (as : List (List Nat × List Nat)) (V V' : VS) : Prop where
  rd : V'.rd = kName ∨ V'.rd = kVald ∨ V'.rd = kGap
  ps : ∃ as', as'.Perm as ∧ V'.ps = pD as'
  ns : V'.ns = V.ns
  en : V'.en = V.en
  nm : V'.nm = n
theorem headQ (n : List Nat) (as as' : List (List Nat × List Nat)) (l bl : List Nat) (hw : AW as' l) (hperm : as'.Perm as) (hbl : ∀ c ∈ bl, c ∈ [32, 9, 10]) (h1 : isNm n = true) (h2 : goodA as = true) (V : VS) (hr : V.rd = kCon ∨ V.rd = kOut) (he : V.en = false) (hn : V.ns.length < 60) :
    ∃ V', QR a (60 :: (n ++ (l ++ bl))) V V' ∧ HdV n as V V' := by
  obtain ⟨c, r, e, g1, g2, g3⟩ := isNm_cons h1
  obtain ⟨f1, f2⟩ := goodA_facts h2
  have s1 : ∀ td, Stp a 60 { V with td := td } { V with rd := kLess, td := td } := fun td => by
    rcases hr with hr | hr
    · exact fb_con a 60 { V with td := td } _ (by decide +kernel) hr (rd_con_lt a { V with td := td })
    · exact fb_out a 60 { V with td := td } _ (by decide +kernel) hr (rd_out_lt a { V with td := td })
  have s2 := fun td => fb_less a c { V with rd := kLess, td := td } _ (lowd_sg c (low_f c g1).2.2.2.1) rfl (rd_less_ch a { V with rd := kLess, td := td } c g1 he hn)
  have s3 := name_runQ a r [c] { V with nm := [c], ps := [], rd := kName } rfl rfl g2 (by simp; omega)
  obtain ⟨V4, s4, r4, p4, S4⟩ := attrsQ a hw [] { V with nm := [c] ++ r, ps := [], rd := kName } (.inl rfl) rfl (fun p hp => by
    obtain ⟨q1, q2, q3⟩ := f2 p (hperm.mem_iff.mp hp)
    exact ⟨q1, by omega⟩) (by simp [hperm.length_eq]; omega) (by simpa using (hperm.map (·.1)).nodup_iff.mpr (asc_nd2 _ (goodA_asc h2)))
  have s := qr_cons (V1 := { V with rd := kLess }) a s1 (qr_cons (V1 := { V with nm := [c], ps := [], rd := kName }) a s2 (qr_app a s3 s4))
  have nm4 : V4.nm = n := by rw [S4.nm, e]; rfl
  have ns4 : V4.ns = V.ns := S4.ns
  have en4 : V4.en = V.en := S4.en
  cases bl with
  | nil =>
    refine ⟨V4, ?_, ⟨by rcases r4 with r4 | r4 <;> simp [r4], ⟨as', hperm, p4⟩, ns4, en4, nm4⟩⟩
    rw [e, List.append_nil]; exact s
  | cons b bl =>
    refine ⟨{ V4 with rd := kGap }, ?_, ⟨.inr (.inr rfl), ⟨as', hperm, p4⟩, ns4, en4, nm4⟩⟩
    have t := qr_app a s (tag_blsQ a b bl V4 r4 hbl)
    rw [e]
    simpa using t
variable (V : VS)
theorem rd_valued_gtP (as as' : List (List Nat × List Nat)) (hperm : as'.Perm as) (hp : V.ps = pD as') (ha : asc (as.map (·.1)) = true) (hl : as.length ≤ 8) (hz : V.td.length < 16000000) (hn : V.ns.length < 1000) : RdS a (fun k s => m_read_valued a [.loc k, .str ⟨#[62]⟩] s) V { V with td := V.td ++ [evS V.nm as], ns := V.ns ++ [V.nm], rd := kCon } := by
  intro L s k hL K0
  obtain ⟨s1, e, ⟨n, p, g, t, pl, K⟩, F⟩ := tell_start_perm a V as as' hperm hp ha hl hz hn L s k hL K0
  refine gcTK hL (by simp) (s1 := s1.set k (.ins a.c_Tokens (TF { V with td := V.td ++ [evS V.nm as], ns := V.ns ++ [V.nm], rd := kCon } n p g t pl))) ?_ K0 ⟨n, p, g, t, pl, K.fld _ _ rfl rfl rfl rfl⟩ (F.trans (Fr.set _ F.1 K.Lk))
  simp [f_read_valued, read_valued_i3, read_valued_i2, read_valued_i1, e, K.ok, kCon]
theorem rd_slash_gtP (as as' : List (List Nat × List Nat)) (hperm : as'.Perm as) (hp : V.ps = pD as') (ha : asc (as.map (·.1)) = true) (hl : as.length ≤ 8) (hz : V.td.length < 15000000) (hn : V.ns.length < 1000) : RdS a (fun k s => m_read_slash a [.loc k, .str ⟨#[62]⟩] s) V { V with td := V.td ++ [evS V.nm as] ++ [evE V.nm], ns := V.ns, en := V.ns.isEmpty, rd := btw V.ns } := by
  intro L s k hL K0
  obtain ⟨s1, e1, K1, F1⟩ := tell_start_perm a V as as' hperm hp ha hl (by omega) hn L s k hL K0
  obtain ⟨s2, e2, K2, F2⟩ := tell_end_ok a { V with td := V.td ++ [evS V.nm as], ns := V.ns ++ [V.nm] } V.ns V.nm rfl (by simp; omega) L s1 k F1.1 K1
  refine gcTK hL (by simp) (s1 := s2) ?_ K0 K2 (F1.trans F2)
  simp [f_read_slash, read_slash_i1, e1, e2]
/-- an element's bytes; what stands in one -/
def ElR (l : List (Nat × List D)) (d : Nat) : Prop := ∀ V : VS, (V.rd = kCon ∨ V.rd = kOut) → V.en = false → V.ns.length + d ≤ 60 → ∃ V', Ch a l V V' ∧ V'.rd = btw V.ns ∧ V'.ns = V.ns ∧ V'.en = V.ns.isEmpty
def CoR (l : List (Nat × List D)) (d : Nat) : Prop := ∀ V : VS, V.rd = kCon → V.en = false → V.ns ≠ [] → V.ns.length + d ≤ 60 → ∃ V', Ch a l V V' ∧ SmC V V'
theorem btw_in {ns : List (List Nat)} (h : ns ≠ []) : btw ns = kCon := by unfold btw; rw [if_neg (by simpa using h)]
theorem CoR.nil (d : Nat) : CoR a [] d := fun V hr _ _ _ => ⟨V, .nil V, hr, rfl, rfl⟩
theorem CoR.app {l1 l2 : List (Nat × List D)} {d : Nat} (h1 : CoR a l1 d) (h2 : CoR a l2 d) : CoR a (l1 ++ l2) d := fun V hr he hn hl => by
  obtain ⟨V1, c1, s1⟩ := h1 V hr he hn hl
  obtain ⟨V2, c2, s2⟩ := h2 V1 s1.rd (s1.en.trans he) (by rw [s1.ns]; exact hn) (by rw [s1.ns]; exact hl)
  exact ⟨V2, Ch.app a c1 c2, s2.rd, s2.ns.trans s1.ns, s2.en.trans s1.en⟩
theorem CoR.wr (q : Bool) (c : Nat) (w : List Nat) (h : Wr q c w) (d : Nat) : ∃ u e, w = u ++ [e] ∧ CoR a (qch u ++ [(e, [evC c])]) d := by
  have key : ∃ u e, w = u ++ [e] := by
    cases h with
    | self _ _ _ _ _ => exact ⟨[], c, rfl⟩
    | lt => exact ⟨[38, 108, 116], 59, rfl⟩
    | gt => exact ⟨[38, 103, 116], 59, rfl⟩
    | amp => exact ⟨[38, 97, 109, 112], 59, rfl⟩
    | quot => exact ⟨[38, 113, 117, 111, 116], 59, rfl⟩
  obtain ⟨u, e, he⟩ := key
  refine ⟨u, e, he, fun V hr _ _ _ => ?_⟩
  obtain ⟨V', u', e', h1, h2, h3⟩ := con_wrQ a q c w h V hr
  rw [he] at h1
  have h4 := List.append_inj' h1 rfl
  cases h4.1
  cases h4.2
  exact ⟨V', h2, h3⟩
theorem CoR.remark (l : List Nat) (h : cmRun false l = some false) (d : Nat) : CoR a (qch (60 :: 33 :: 45 :: 45 :: (l ++ [45, 45, 62]))) d := fun V hr _ hn _ =>
  ⟨_, remark_runQ a l V (.inr hr) h, btw_in hn, rfl, rfl⟩
theorem CoR.el {l : List (Nat × List D)} {d : Nat} (h : ElR a l d) : CoR a l d := fun V hr he hn hl => by
  obtain ⟨V', c, h1, h2, h3⟩ := h V (.inl hr) he hl
  refine ⟨V', c, h1.trans (btw_in hn), h2, ?_⟩
  rw [h3, he]
  cases hv : V.ns with
  | nil => exact absurd hv hn
  | cons _ _ => rfl
theorem CoR.le {l : List (Nat × List D)} {d d' : Nat} (h : CoR a l d) (hd : d ≤ d') : CoR a l d' := fun V h1 h2 h3 h4 => h V h1 h2 h3 (by omega)
section
variable (n : List Nat) (as as' : List (List Nat × List Nat)) (l bl : List Nat) (hw : AW as' l) (hperm : as'.Perm as) (hbl : ∀ c ∈ bl, c ∈ [32, 9, 10]) (h1 : isNm n = true) (h2 : goodA as = true)
include hw hperm hbl h1 h2
theorem ElR.empty : ElR a (qch (60 :: (n ++ (l ++ bl)) ++ [47]) ++ [(62, [evS n as, evE n])]) 1 := fun V hr he hn => by
  obtain ⟨f1, f2⟩ := goodA_facts h2
  obtain ⟨V1, s1, H⟩ := headQ a n as as' l bl hw hperm hbl h1 h2 V hr he (by omega)
  obtain ⟨r1, ⟨as2, p1, p2⟩, n1, e1, m1⟩ := H
  have s2 : ∀ td, Stp a 47 { V1 with td := td } { V1 with rd := kSl, td := td } := fun td => by
    rcases r1 with r1 | r1 | r1
    · exact fb_name a 47 { V1 with td := td } _ (by decide +kernel) r1 (rd_name_by a { V1 with td := td } 47 _ nl_f.2.1 (rd_valued_sl a { V1 with td := td }))
    · exact fb_vald a 47 { V1 with td := td } _ (by decide +kernel) r1 (rd_valued_sl a { V1 with td := td })
    · exact fb_gap a 47 { V1 with td := td } _ (by decide +kernel) r1 (rd_gap_by a { V1 with td := td } 47 _ (by decide +kernel) (rd_valued_sl a { V1 with td := td }))
  have s3 : StpE a 62 { V1 with rd := kSl } [evS n as, evE n] { V1 with rd := btw V1.ns, en := V1.ns.isEmpty } := fun td htd => by
    have e : td ++ [evS n as, evE n] = td ++ [evS V1.nm as] ++ [evE V1.nm] := by rw [m1]; simp
    show Stp a 62 { V1 with rd := kSl, td := td } { V1 with rd := btw V1.ns, en := V1.ns.isEmpty, td := td ++ [evS n as, evE n] }
    rw [e]
    exact fb_sl a 62 { V1 with rd := kSl, td := td } _ (by decide +kernel) rfl (rd_slash_gtP a { V1 with rd := kSl, td := td } as as2 p1 p2 (goodA_asc h2) (by omega) (by show td.length < _; omega) (by show V1.ns.length < 1000; rw [n1]; omega))
  refine ⟨_, Ch.app a (qr_app a s1 (qr_1 (V1 := { V1 with rd := kSl }) a s2)) (.cons s3 (.nil _)), ?_, n1, ?_⟩
  · show btw V1.ns = _; rw [n1]
  · show V1.ns.isEmpty = _; rw [n1]
theorem ElR.full {k : List (Nat × List D)} {d : Nat} (hk : CoR a k d) (b2 : List Nat) (hb2 : ∀ c ∈ b2, c ∈ [32, 9, 10]) : ElR a (qch (60 :: (n ++ (l ++ bl))) ++ [(62, [evS n as])] ++ k ++ (qch (60 :: 47 :: (n ++ b2)) ++ [(62, [evE n])])) (d + 1) := fun V hr he hn => by
  obtain ⟨f1, f2⟩ := goodA_facts h2
  have hnl := (isNm_len h1).1
  obtain ⟨V1, s1, H⟩ := headQ a n as as' l bl hw hperm hbl h1 h2 V hr he (by omega)
  obtain ⟨r1, ⟨as2, p1, p2⟩, n1, e1, m1⟩ := H
  have s2 : StpE a 62 V1 [evS n as] { V1 with ns := V1.ns ++ [V1.nm], rd := kCon } := fun td htd => by
    have h := rd_valued_gtP a { V1 with td := td } as as2 p1 p2 (goodA_asc h2) (by omega) (by show td.length < _; omega) (by show V1.ns.length < 1000; rw [n1]; omega)
    have e : td ++ [evS n as] = td ++ [evS V1.nm as] := by rw [m1]
    show Stp a 62 { V1 with td := td } { V1 with ns := V1.ns ++ [V1.nm], rd := kCon, td := td ++ [evS n as] }
    rw [e]
    rcases r1 with r1 | r1 | r1
    · exact fb_name a 62 { V1 with td := td } _ (by decide +kernel) r1 (rd_name_by a { V1 with td := td } 62 _ nl_f.2.2.1 h)
    · exact fb_vald a 62 { V1 with td := td } _ (by decide +kernel) r1 h
    · exact fb_gap a 62 { V1 with td := td } _ (by decide +kernel) r1 (rd_gap_by a { V1 with td := td } 62 _ (by decide +kernel) h)
  obtain ⟨V3, c3, S3⟩ := hk { V1 with ns := V1.ns ++ [V1.nm], rd := kCon } rfl (e1.trans he) (by simp) (by simp only [List.length_append, List.length_singleton, n1]; omega)
  have n3 : V3.ns = V.ns ++ [n] := by rw [S3.ns]; show V1.ns ++ [V1.nm] = _; rw [n1, m1]
  have s4 := fun td => fb_con a 60 { V3 with td := td } _ (by decide +kernel) S3.rd (rd_con_lt a { V3 with td := td })
  have s5 := fun td => fb_less a 47 { V3 with rd := kLess, td := td } _ (by decide +kernel) rfl (rd_less_sl a { V3 with rd := kLess, td := td } (by show V3.ns ≠ []; rw [n3]; simp))
  have s6 := end_runQ a V.ns n (by omega) n [] { V3 with mt := 0, rd := kEnd } rfl n3 rfl rfl (isNm_sg h1)
  have s7 := end_blsQ a { V3 with mt := (n.length : Int), rd := kEnd } V.ns n n3 rfl (by omega) b2 rfl hb2
  have s8 : StpE a 62 { V3 with mt := (n.length : Int), rd := kEnd } [evE n] { V3 with mt := (n.length : Int), ns := V.ns, en := V.ns.isEmpty, rd := btw V.ns } := fun td htd =>
    fb_end a 62 { V3 with mt := (n.length : Int), rd := kEnd, td := td } _ (by decide +kernel) rfl (rd_end_gt a { V3 with mt := (n.length : Int), rd := kEnd, td := td } V.ns n n3 rfl (by omega) (by show td.length < _; omega))
  have q : QR a (60 :: 47 :: (n ++ b2)) V3 _ := qr_cons (V1 := { V3 with rd := kLess }) a s4 (qr_cons (V1 := { V3 with mt := 0, rd := kEnd }) a s5 (qr_app a s6 s7))
  exact ⟨_, Ch.app a (Ch.app a (Ch.app a s1 (.cons s2 (.nil _))) c3) (Ch.app a q (.cons s8 (.nil _))), rfl, rfl, rfl⟩
end
end
end Law

set_option Elab.async false
set_option linter.all false
set_option maxRecDepth 100000
set_option maxHeartbeats 4000000
namespace Law
open PySem PySem.Spec PyProof.Rows L2 Rg
def rmS : List (List Nat) := [[], [120], [97, 32, 45, 32, 98], [60, 97, 62, 38], [45, 120, 45, 121], [62]]
theorem rmS_ok : ∀ k ∈ rmS, cmRun false k = some false ∧ k.length ≤ 5 := by decide +kernel
abbrev RMS : List D := rmS.map fun k => .str (tx k)
/-- what stands for a comment, or for none -/
def Rmk (r : List Nat) : Prop := r.length ≤ 12 ∧ (r = [] ∨ ∃ l, cmRun false l = some false ∧ r = 60 :: 33 :: 45 :: 45 :: (l ++ [45, 45, 62]))
section
variable (a : Ads) {ts : List Int} {n : Int} {Z : Stt}
theorem sum_1 (l : List Nat) : (List.map ((fun x : Str => x.length) ∘ fun c => (⟨#[c]⟩ : Str)) l).sum = l.length := by
  induction l with
  | nil => rfl
  | cons c l ih => rw [List.map_cons, List.sum_cons, ih, List.length_cons]; show 1 + _ = _; omega
theorem blanks_ok (least : Nat) (h0 : 0 ≤ n) (h1 : n < 900000000) (hl : least ≤ 1) : ∃ (l : List Nat) (n' : Int), least ≤ l.length ∧ l.length ≤ least + 1 ∧ (∀ c ∈ l, c ∈ [32, 9, 10]) ∧ n ≤ n' ∧ n' ≤ n + 3 ∧ m_law_blanks a [.loc 1, .int least] (Tw ts n Z) = .ok (.str (tx l)) (Tw ts n' Z) := by
  obtain ⟨v, v0, v1, hv⟩ := pick_ok a (ts := ts) (n := n) (Z := Z) 4 h0 (by omega) (by omega)
  obtain ⟨m, m1, m2, hm⟩ : ∃ m : Nat, least ≤ m ∧ m ≤ least + 1 ∧ (least : Int) + (if (decide (v = 0)) = true then 1 else 0) = (m : Int) := by
    by_cases h : v = 0
    · exact ⟨least + 1, by omega, by omega, by simp [h]⟩
    · exact ⟨least, by omega, by omega, by simp [h]⟩
  obtain ⟨st', acc, e, l, n', g1, g2, g3, g4, g6⟩ := compF_inv (L := (Tw ts n Z).length) (ok := fun _ => True) (g := gN 2) (t := xYes) (f := x2 oIx (xC (.str ⟨#[32, 10, 9]⟩)) (xFn (m_law_pick a) (xCons (xV 0) (xCons (xC (.int 3)) (xNil))))) (ρ := [some (.loc 1), some (.int least), none]) (its := intsD 0 m)
    (fun k st acc => ∃ (l : List Nat) (n' : Int), acc = (l.map fun c => D.str ⟨#[c]⟩) ∧ l.length = k ∧ (∀ c ∈ l, c ∈ [32, 9, 10]) ∧ n' = n + 1 + k ∧ st = Tw ts n' (Z ++ [.lst acc]))
    (fun _ _ _ _ _ => trivial)
    (fun k y st acc hk ⟨l, n', g1, g2, g3, g4, g5⟩ => by
      subst g5
      have hkl := (mem_ints hk).1
      obtain ⟨u, u0, u1, hu⟩ := pick_ok a (ts := ts) (n := n') (Z := Z ++ [.lst acc]) 3 (by omega) (by omega) (by omega)
      obtain ⟨c, hc, hat⟩ : ∃ c, c ∈ [32, 9, 10] ∧ atI [32, 10, 9] u = some c := by
        have : u = 0 ∨ u = 1 ∨ u = 2 := by omega
        rcases this with rfl | rfl | rfl
        · exact ⟨32, by simp, by simp⟩
        · exact ⟨10, by simp, by simp⟩
        · exact ⟨9, by simp, by simp⟩
      have hz : acc.length < sizeLine := by rw [sizeLine_eq, g1, List.length_map]; omega
      refine ⟨_, rfl, true, _, rfl, (fun h => by cases h), fun _ => ⟨.str ⟨#[c]⟩, Tw ts (n' + 1) (Z ++ [.lst acc]), ?_, ?_, hz, l ++ [c], n' + 1, by simp [g1], by simp [g2], ?_, by omega, ?_⟩⟩
      · simp [hu, hat]
      · exact lstAt_loc (by rw [← Nat.add_zero (Tw ts n Z).length]; exact tw_new [.lst acc] 0)
      · intro d hd
        rcases List.mem_append.mp hd with hd | hd
        · exact g3 d hd
        · rw [List.mem_singleton.mp hd]; exact hc
      · rw [tw_len, tw_set]; simp)
    (st := Tw ts (n + 1) (Z ++ [.lst []])) ⟨[], n + 1, rfl, rfl, (fun c h => by cases h), by simp, rfl⟩
  rw [len_ints] at g2 g4
  subst g1 g6
  refine ⟨l, n', by omega, by omega, g3, by omega, by omega, ?_⟩
  have hr := wkRange_n (n := m) (by omega) (Tw ts (n + 1) Z)
  refine gcT ⟨[.lst (l.map fun c => D.str ⟨#[c]⟩)], ?_⟩ (by simp)
  have hi : items (Tw ts n' (Z ++ [O.lst (l.map fun c => D.str ⟨#[c]⟩)])) (.loc (Tw ts n Z).length) = some (l.map fun c => D.str ⟨#[c]⟩) := items_loc (by rw [← Nat.add_zero (Tw ts n Z).length]; exact tw_new [.lst _] 0)
  have hs : (List.map ((fun x : Str => x.length) ∘ fun c => (⟨#[c]⟩ : Str)) l).sum ≤ 16777216 := by rw [sum_1]; omega
  have hl2 : (Tw ts (n + 1) Z).length = (Tw ts n Z).length := rfl
  have hv0 : oEq (.int v) (.int 0) (Tw ts (n + 1) Z) = some (.bl (decide (v = 0)), Tw ts (n + 1) Z) := by simp
  simp only [decide_eq_true_eq] at hm
  simp [-items_at, f_law_blanks, hv, hm, hr, e, hi, txts_1, join_1, hs, tw_app, hl2]
theorem remark_ok (h0 : 0 ≤ n) (h1 : n < 900000000) : ∃ (r : List Nat) (n' : Int), Rmk r ∧ n ≤ n' ∧ n' ≤ n + 2 ∧ m_law_remark a [.loc 1] (Tw ts n Z) = .ok (.str (tx r)) (Tw ts n' Z) := by
  obtain ⟨v, v0, v1, hv⟩ := pick_ok a (ts := ts) (n := n) (Z := Z) 6 h0 (by omega) (by omega)
  by_cases hc : 0 < v
  · refine ⟨[], n + 1, ⟨by simp, .inl rfl⟩, by omega, by omega, ?_⟩
    refine gcT ⟨[], ?_⟩ (by simp)
    simp [f_law_remark, law_remark_i1, hv, hc]
  · obtain ⟨u, u0, u1, hu⟩ := pick_ok a (ts := ts) (n := n + 1) (Z := Z ++ [.lst RMS]) 6 (by omega) (by omega) (by omega)
    have l6 : rmS.length = 6 := rfl
    obtain ⟨k, hk, hat⟩ := pick_l (ls := rmS) u0 (by omega)
    obtain ⟨k1, k2⟩ := rmS_ok k hk
    refine ⟨60 :: 33 :: 45 :: 45 :: (k ++ [45, 45, 62]), n + 1 + 1, ⟨by simp; omega, .inr ⟨k, k1, rfl⟩⟩, by omega, by omega, ?_⟩
    refine gcT ⟨[.lst RMS], ?_⟩ (by simp)
    have c1 : (Tw ts (n + 1 + 1) (Z ++ [.lst RMS]))[(Tw ts n Z).length]? = some (.lst RMS) := by rw [← Nat.add_zero (Tw ts n Z).length]; exact tw_new [.lst RMS] 0
    have ix : oIx (.loc (Tw ts n Z).length) (.int u) (Tw ts (n + 1 + 1) (Z ++ [.lst RMS])) = some (.str (tx k), Tw ts (n + 1 + 1) (Z ++ [.lst RMS])) := oIx_of (items_loc c1) hat
    have hl2 : (Tw ts (n + 1) Z).length = (Tw ts n Z).length := rfl
    simp only [RMS, rmS, List.map_cons, List.map_nil] at hu ix ⊢
    have a1 := fun st => oAdd_tx [60, 33, 45, 45] k st (by simp; omega)
    have a2 := fun st => oAdd_tx (60 :: 33 :: 45 :: 45 :: k) [45, 45, 62] st (by simp; omega)
    simp [-oIx_at, -oAdd_ss, f_law_remark, law_remark_i1, hv, hc, hu, ix, tw_app, hl2, a1, a2]
end
end Law

set_option Elab.async false
set_option linter.all false
set_option maxRecDepth 100000
set_option maxHeartbeats 4000000
namespace Law
open PySem PySem.Spec PyProof.Rows L2 Rg
def WD : List (Key × D) := [(.inr (tx [60]), .str (tx [38, 108, 116, 59])), (.inr (tx [38]), .str (tx [38, 97, 109, 112, 59])), (.inr (tx [62]), .str (tx [38, 103, 116, 59])), (.inr (tx [34]), .str (tx [38, 113, 117, 111, 116, 59]))]
theorem wd_merge : mergeD [(.inr ⟨#[60]⟩, .str ⟨#[38, 108, 116, 59]⟩), (.inr ⟨#[38]⟩, .str ⟨#[38, 97, 109, 112, 59]⟩), (.inr ⟨#[62]⟩, .str ⟨#[38, 103, 116, 59]⟩), (.inr ⟨#[34]⟩, .str ⟨#[38, 113, 117, 111, 116, 59]⟩)] = WD := by
  simp [mergeD, putD, WD]
theorem wd_get : ∀ c ∈ [60, 38, 62, 34], ∃ w, getD' WD (.inr (tx [c])) = some (.str (tx w)) ∧ Wr true c w ∧ Wr false c w ∧ w.length ≤ 6 := by
  intro c hc
  simp only [List.mem_cons, List.not_mem_nil, or_false] at hc
  rcases hc with rfl | rfl | rfl | rfl
  · exact ⟨[38, 108, 116, 59], by simp [getD', WD], .lt, .lt, by simp⟩
  · exact ⟨[38, 97, 109, 112, 59], by simp [getD', WD], .amp, .amp, by simp⟩
  · exact ⟨[38, 103, 116, 59], by simp [getD', WD], .gt, .gt, by simp⟩
  · exact ⟨[38, 113, 117, 111, 116, 59], by simp [getD', WD], .quot, .quot, by simp⟩
theorem wd_none (c : Nat) (h : c ∉ [60, 38, 62, 34]) : getD' WD (.inr (tx [c])) = none := by
  simp only [List.mem_cons, List.not_mem_nil, or_false, not_or] at h
  obtain ⟨h1, h2, h3, h4⟩ := h
  simp [getD', WD, Ne.symm h1, Ne.symm h2, Ne.symm h3, Ne.symm h4]
section
variable (a : Ads) {ts : List Int} {n : Int} {Z : Stt}
theorem written_ok (q : Bool) (c : Nat) (hc : isSg c = true) (h0 : 0 ≤ n) (h1 : n < 900000000) : ∃ (w : List Nat) (n' : Int), Wr q c w ∧ w.length ≤ 6 ∧ n ≤ n' ∧ n' ≤ n + 1 ∧ m_law_written a [.loc 1, .str ⟨#[c]⟩, .bl q] (Tw ts n Z) = .ok (.str (tx w)) (Tw ts n' Z) := by
  have hcs := isSg_small hc
  have at_ : ∀ n', (Tw ts n' (Z ++ [.dct WD]))[(Tw ts n Z).length]? = some (.dct WD) := fun n' => by rw [← Nat.add_zero (Tw ts n Z).length]; exact tw_new [.dct WD] 0
  have ap : Tw ts n Z ++ [.dct WD] = Tw ts n (Z ++ [.dct WD]) := rfl
  obtain ⟨v, v0, v1, hv⟩ := pick_ok a (ts := ts) (n := n) (Z := Z ++ [.dct WD]) 2 h0 (by omega) (by omega)
  by_cases hm : c ∈ [60, 38, 62, 34]
  · obtain ⟨w, g1, g2, g3, g4⟩ := wd_get c hm
    have hw : Wr q c w := by cases q <;> assumption
    have og : ∀ n', oGet (.loc (Tw ts n Z).length) (.str ⟨#[c]⟩) (Tw ts n' (Z ++ [.dct WD])) = some (.str (tx w), Tw ts n' (Z ++ [.dct WD])) := fun n' => by
      simp only [oGet, keyD, dctAt_loc (at_ n')]
      simp [g1]
    by_cases hd : c = 60 ∨ c = 38 ∨ (c = 34 ∧ q = true)
    · refine ⟨w, n, hw, g4, by omega, by omega, gcT ⟨[.dct WD], ?_⟩ (by simp)⟩
      have e2 : law_written_i2 a [some (.loc 1), some (.str ⟨#[c]⟩), some (.bl q), some (.loc (Tw ts n Z).length)] (Tw ts n (Z ++ [.dct WD])) = .rt (.str (tx w)) (Tw ts n (Z ++ [.dct WD])) := by
        rcases hd with rfl | rfl | ⟨rfl, rfl⟩ <;> simp [law_written_i2, og]
      simp [f_law_written, wd_merge, ap, e2]
    · have e2 : law_written_i2 a [some (.loc 1), some (.str ⟨#[c]⟩), some (.bl q), some (.loc (Tw ts n Z).length)] (Tw ts n (Z ++ [.dct WD])) = .nx [some (.loc 1), some (.str ⟨#[c]⟩), some (.bl q), some (.loc (Tw ts n Z).length)] (Tw ts n (Z ++ [.dct WD])) := by
        have x60 : c ≠ 60 := fun e => hd (.inl e)
        have x38 : c ≠ 38 := fun e => hd (.inr (.inl e))
        have hq : ¬ (c = 34 ∧ q = true) := fun e => hd (.inr (.inr e))
        simp only [List.mem_cons, List.not_mem_nil, or_false] at hm
        rcases hm with rfl | rfl | rfl | rfl
        · exact absurd rfl x60
        · exact absurd rfl x38
        · simp [law_written_i2]
        · have : q = false := by cases q with
            | false => rfl
            | true => exact absurd ⟨rfl, rfl⟩ hq
          subst this
          simp [law_written_i2]
      have hs : ∀ n', oHas (.str ⟨#[c]⟩) (.loc (Tw ts n Z).length) (Tw ts n' (Z ++ [.dct WD])) = some (.bl true, Tw ts n' (Z ++ [.dct WD])) := fun n' => by
        simp only [oHas, keyD, dctAt_loc (at_ n')]
        simp [g1]
      by_cases hv0 : v = 0
      · refine ⟨w, n + 1, hw, g4, by omega, by omega, gcT ⟨[.dct WD], ?_⟩ (by simp)⟩
        simp [f_law_written, wd_merge, ap, e2, law_written_i1, hs, hv, hv0, og]
      · have x60 : c ≠ 60 := fun e => hd (.inl e)
        have x38 : c ≠ 38 := fun e => hd (.inr (.inl e))
        have hq : q = true → c ≠ 34 := fun e e2 => hd (.inr (.inr ⟨e2, e⟩))
        refine ⟨[c], n + 1, .self c hc x60 x38 hq, by simp, by omega, by omega, gcT ⟨[.dct WD], ?_⟩ (by simp)⟩
        simp [f_law_written, wd_merge, ap, e2, law_written_i1, hs, hv, hv0]
  · have hg := wd_none c hm
    simp only [List.mem_cons, List.not_mem_nil, or_false, not_or] at hm
    obtain ⟨x60, x38, x62, x34⟩ := hm
    have h2 : c < 1114112 := by omega
    have e2 : law_written_i2 a [some (.loc 1), some (.str ⟨#[c]⟩), some (.bl q), some (.loc (Tw ts n Z).length)] (Tw ts n (Z ++ [.dct WD])) = .nx [some (.loc 1), some (.str ⟨#[c]⟩), some (.bl q), some (.loc (Tw ts n Z).length)] (Tw ts n (Z ++ [.dct WD])) := by
      simp [law_written_i2, x60, x38, x34, h2]
    have hs : ∀ n', oHas (.str ⟨#[c]⟩) (.loc (Tw ts n Z).length) (Tw ts n' (Z ++ [.dct WD])) = some (.bl false, Tw ts n' (Z ++ [.dct WD])) := fun n' => by
      simp only [oHas, keyD, dctAt_loc (at_ n')]
      simp [hg]
    refine ⟨[c], n, .self c hc x60 x38 (fun _ => x34), by simp, by omega, by omega, gcT ⟨[.dct WD], ?_⟩ (by simp)⟩
    simp [f_law_written, wd_merge, ap, e2, law_written_i1, hs]
theorem mJoin_ok (st : Stt) (m : Nat) (ws : List (List Nat)) (h : st[m]? = some (.lst (ws.map fun w => D.str (tx w)))) (hl : ws.flatten.length ≤ 16777216) : mJoin (.str ⟨#[]⟩) [.loc m] st = some (.str (tx ws.flatten), st) := by
  have hj : Txt.join ⟨#[]⟩ (ws.map fun w => (tx w : Str)) = tx ws.flatten := by
    have := join_l [] ws
    rw [inter_nil] at this
    exact this
  have hs : ((ws.map fun w => (tx w : Str)).map (·.length)).sum = ws.flatten.length := by
    rw [List.map_map, List.length_flatten]; rfl
  rw [mJoin_run, items_loc h]
  show ((txts (ws.map fun w => D.str (tx w))).bind _) = _
  rw [txts_l ws]
  show (if ((ws.map fun w => (tx w : Str)).map (·.length)).sum + (ws.map fun w => (tx w : Str)).length * (⟨#[]⟩ : Str).length ≤ 16777216 then some (D.str (Txt.join ⟨#[]⟩ (ws.map fun w => (tx w : Str))), st) else none) = _
  rw [hj, hs, if_pos]
  show ws.flatten.length + _ * 0 ≤ _
  omega
theorem flat_le (vs : List (Nat × List Nat)) (h : ∀ p ∈ vs, p.2.length ≤ 6) : (vs.flatMap (·.2)).length ≤ 6 * vs.length := by
  induction vs with
  | nil => simp
  | cons p vs ih =>
    have h1 := h p (by simp)
    have h2 := ih fun q hq => h q (by simp [hq])
    rw [List.flatMap_cons, List.length_append, List.length_cons]
    omega
theorem vals_comp (v : List Nat) (hv : v.all isSg = true) (hl : v.length < 100) (x1 x2 x3 x4 x5 : Option D) (h0 : 0 ≤ n) (h1 : n < 800000000) : ∃ (vs : List (Nat × List Nat)) (n' : Int), vs.map (·.1) = v ∧ (∀ p ∈ vs, Wr true p.1 p.2 ∧ p.2.length ≤ 6) ∧ n ≤ n' ∧ n' ≤ n + v.length ∧ compF (Tw ts n Z).length (fun _ => True) (gN 6) xYes (xFn (m_law_written a) (xCons (xV 0) (xCons (xV 6) (xCons (xC (.bl true)) (xNil))))) [some (.loc 1), x1, x2, x3, x4, x5, none] (v.map fun c => D.str ⟨#[c]⟩) (Tw ts n (Z ++ [.lst []])) = .ok () (Tw ts n' (Z ++ [.lst (vs.map fun p => D.str (tx p.2))])) := by
  obtain ⟨st', acc, e, vs, n', g1, g2, g3, g4, g5, g6⟩ := compF_inv (L := (Tw ts n Z).length) (ok := fun _ => True) (g := gN 6) (t := xYes) (f := xFn (m_law_written a) (xCons (xV 0) (xCons (xV 6) (xCons (xC (.bl true)) (xNil))))) (ρ := [some (.loc 1), x1, x2, x3, x4, x5, none]) (its := v.map fun c => D.str ⟨#[c]⟩)
    (fun k st acc => ∃ (vs : List (Nat × List Nat)) (n' : Int), acc = (vs.map fun p => D.str (tx p.2)) ∧ vs.map (·.1) = v.take k ∧ (∀ p ∈ vs, Wr true p.1 p.2 ∧ p.2.length ≤ 6) ∧ n ≤ n' ∧ n' ≤ n + k ∧ st = Tw ts n' (Z ++ [.lst acc]))
    (fun _ _ _ _ _ => trivial)
    (fun k y st acc hk ⟨vs, n', g1, g2, g3, g4, g5, g6⟩ => by
      subst g6
      rw [List.getElem?_map] at hk
      obtain ⟨c, hc, hy⟩ := Option.map_eq_some_iff.mp hk
      subst hy
      have hkl := (List.getElem?_eq_some_iff.mp hc).1
      have hcs : isSg c = true := List.all_eq_true.mp hv c (List.mem_of_getElem? hc)
      obtain ⟨w, n2, q1, q2, q3, q4, q5⟩ := written_ok a (ts := ts) (n := n') (Z := Z ++ [.lst acc]) true c hcs (by omega) (by omega)
      have hlen : vs.length = k := by have := congrArg List.length g2; simpa [Nat.min_eq_left (Nat.le_of_lt hkl)] using this
      have hz : acc.length < sizeLine := by rw [sizeLine_eq, g1, List.length_map, hlen]; omega
      refine ⟨_, rfl, true, _, rfl, (fun h => by cases h), fun _ => ⟨.str (tx w), Tw ts n2 (Z ++ [.lst acc]), ?_, ?_, hz, vs ++ [(c, w)], n2, by simp [g1], ?_, ?_, by omega, by omega, ?_⟩⟩
      · simp [q5]
      · exact lstAt_loc (by rw [← Nat.add_zero (Tw ts n Z).length]; exact tw_new [.lst acc] 0)
      · rw [List.map_append, g2, List.take_add_one, hc]; rfl
      · intro p hp
        rcases List.mem_append.mp hp with hp | hp
        · exact g3 p hp
        · rw [List.mem_singleton.mp hp]; exact ⟨q1, q2⟩
      · rw [tw_len, tw_set]; simp)
    (st := Tw ts n (Z ++ [.lst []])) ⟨[], n, rfl, rfl, (fun c h => by cases h), by omega, by simp, rfl⟩
  rw [List.length_map] at g2 g5
  rw [List.take_length] at g2
  subst g1 g6
  exact ⟨vs, n', g2, g3, g4, g5, e⟩
theorem start_item (nm v : List Nat) (t : List Nat) (x1 x3 x6 : Option D) (hn : nm.length ≤ 8) (hv : v.all isSg = true) (hl : v.length < 10) (ht : t.length < 10000) (h0 : 0 ≤ n) (h1 : n < 700000000) :
    ∃ (it : List Nat) (n' : Int) (J : Stt), AW [(nm, v)] it ∧ it.length ≤ 80 ∧ n ≤ n' ∧ n' ≤ n + 20 ∧ law_start_fb1 a [some (.loc 1), x1, some (.str (tx t)), x3, some (.str (tx nm)), some (.str (tx v)), x6] (Tw ts n Z) = .nx [some (.loc 1), x1, some (.str (tx (t ++ it))), x3, some (.str (tx nm)), some (.str (tx v)), x6] (Tw ts n' (Z ++ J)) := by
  obtain ⟨bl, n1, b1, b2, b3, b4, b5, hb⟩ := blanks_ok a (ts := ts) (n := n) (Z := Z) 1 h0 (by omega) (by omega)
  obtain ⟨vs, n2, v1, v2, v3, v4, hc⟩ := vals_comp a (ts := ts) (n := n1) (Z := Z) v hv (by omega) x1 (some (.str (tx t))) x3 (some (.str (tx nm))) (some (.str (tx v))) (by omega) (by omega)
  obtain ⟨b, bl', rfl⟩ : ∃ b bl', bl = b :: bl' := by
    cases bl with
    | nil => simp at b1
    | cons b bl' => exact ⟨b, bl', rfl⟩
  have hvl : vs.length = v.length := by rw [← v1, List.length_map]
  have hfl := flat_le vs fun p hp => (v2 p hp).2
  refine ⟨b :: (bl' ++ (nm ++ 61 :: 34 :: (vs.flatMap (·.2) ++ [34]))), n2, [.lst (vs.map fun p => D.str (tx p.2))], ?_, ?_, by omega, by omega, ?_⟩
  · have := AW.cons (nm := nm) (vs := vs) b bl' b3 (fun p hp => (v2 p hp).1) .nil
    rw [v1, List.append_nil] at this
    exact this
  · simp only [List.length_cons, List.length_append, List.length_nil] at b2 ⊢
    omega
  · have hj := mJoin_ok (Tw ts n2 (Z ++ [.lst (vs.map fun p => D.str (tx p.2))])) (Tw ts n1 Z).length (vs.map (·.2)) (by
      rw [List.map_map]; exact tw_new (ts := ts) (n := n2) (Z := Z) [.lst (vs.map fun p => D.str (tx p.2))] 0) (by rw [← List.flatMap_def]; omega)
    rw [← List.flatMap_def] at hj
    generalize hF : vs.flatMap (·.2) = F at hj hfl ⊢
    have hl2 : (Tw ts n1 Z).length = (Tw ts n Z).length := rfl
    have hv2 : v.length ≤ 16777216 := by omega
    simp only [List.length_cons] at b2
    simp only [Int.cast_ofNat_Int, Int.natCast_one] at hb
    simp (disch := ((try simp only [List.length_append, List.length_cons, List.length_nil]); omega)) [-oAdd_ss, -mJoin_run, oAdd_tx, law_start_fb1, hb, hc, hj, tw_app]
end
end Law

set_option Elab.async false
set_option linter.all false
set_option maxRecDepth 100000
set_option maxHeartbeats 4000000
namespace Law
open PySem PySem.Spec PyProof.Rows L2 Rg
theorem AW.app {as1 : List (List Nat × List Nat)} {l1 : List Nat} (h : AW as1 l1) {as2 : List (List Nat × List Nat)} {l2 : List Nat} (h2 : AW as2 l2) : AW (as1 ++ as2) (l1 ++ l2) := by
  induction h with
  | nil => exact h2
  | cons b bl hb hs _ ih =>
    rw [List.cons_append, List.append_assoc]
    exact .cons b bl hb hs ih
section
variable (a : Ads) {ts : List Int} {n : Int} {Z : Stt}
abbrev rowsD (as : List (List Nat × List Nat)) : List D := as.map fun p => .tup [.str (tx p.1), .str (tx p.2)]
theorem start_loop (nm : List Nat) (as : List (List Nat × List Nat)) (x1 : Option D) (J : Stt) (i : Nat) (hi : J[i]? = some (.lst (rowsD as))) (hnm : nm.length ≤ 8) (hl : as.length ≤ 3) (hg : ∀ p ∈ as, p.1.length ≤ 8 ∧ p.2.all isSg = true ∧ p.2.length < 10) (h0 : 0 ≤ n) (h1 : n < 600000000) :
    ∃ (l : List Nat) (n' : Int) (J' : Stt) (x4 x5 x6 : Option D), AW as l ∧ l.length ≤ 240 ∧ n ≤ n' ∧ n' ≤ n + 60 ∧ forF (fun s => items s (.loc (Z.length + 2 + i)) = some (rowsD as)) (gT [4, 5]) (law_start_fb1 a) (rowsD as) [some (.loc 1), x1, some (.str (tx (60 :: nm))), some (.loc (Z.length + 2 + i)), none, none, none] (Tw ts n (Z ++ J)) = .nx [some (.loc 1), x1, some (.str (tx (60 :: nm ++ l))), some (.loc (Z.length + 2 + i)), x4, x5, x6] (Tw ts n' (Z ++ (J ++ J'))) := by
  have at_ : ∀ (m : Int) (J' : Stt), (Tw ts m (Z ++ (J ++ J')))[Z.length + 2 + i]? = some (.lst (rowsD as)) := fun m J' => by
    have := tw_new (ts := ts) (n := m) (Z := Z) (J ++ J') i
    rw [tw_len, at_old hi] at this
    exact this
  obtain ⟨ρ', s', e, l, n', J', x4, x5, x6, g1, g2, g3, g4, hρ, hs⟩ := forF_inv (ok := fun s => items s (.loc (Z.length + 2 + i)) = some (rowsD as)) (g := gT [4, 5]) (f := law_start_fb1 a) (its := rowsD as)
    (fun k ρ s => ∃ (l : List Nat) (n' : Int) (J' : Stt) (x4 x5 x6 : Option D), AW (as.take k) l ∧ l.length ≤ 80 * k ∧ n ≤ n' ∧ n' ≤ n + 20 * k ∧ ρ = [some (.loc 1), x1, some (.str (tx (60 :: nm ++ l))), some (.loc (Z.length + 2 + i)), x4, x5, x6] ∧ s = Tw ts n' (Z ++ (J ++ J')))
    (fun k ρ s hk ⟨l, n', J', x4, x5, x6, g1, g2, g3, g4, hρ, hs⟩ => by subst hs; exact items_loc (at_ n' J'))
    (fun k d ρ s hd ⟨l, n', J', x4, x5, x6, g1, g2, g3, g4, hρ, hs⟩ => by
      subst hρ hs
      rw [List.getElem?_map] at hd
      obtain ⟨p, hp, hy⟩ := Option.map_eq_some_iff.mp hd
      subst hy
      have hk := (List.getElem?_eq_some_iff.mp hp).1
      obtain ⟨q1, q2, q3⟩ := hg p (List.mem_of_getElem? hp)
      obtain ⟨it, n2, J2, r1, r2, r3, r4, r5⟩ := start_item a (ts := ts) (n := n') (Z := Z ++ (J ++ J')) p.1 p.2 (60 :: nm ++ l) x1 (some (.loc (Z.length + 2 + i))) x6 q1 q2 q3 (by simp; omega) (by omega) (by omega)
      refine ⟨_, rfl, _, _, .inl r5, l ++ it, n2, J' ++ J2, some (.str (tx p.1)), some (.str (tx p.2)), x6, ?_, ?_, by omega, by omega, ?_, ?_⟩
      · rw [List.take_add_one, hp]; exact AW.app g1 r1
      · rw [List.length_append]; omega
      · rw [List.append_assoc]
      · rw [List.append_assoc, List.append_assoc])
    (ρ := [some (.loc 1), x1, some (.str (tx (60 :: nm))), some (.loc (Z.length + 2 + i)), none, none, none]) (st := Tw ts n (Z ++ J)) ⟨[], n, [], none, none, none, .nil, by simp, by omega, by simp, by simp, by simp⟩
  subst hρ hs
  rw [List.length_map] at g1 g2 g4
  rw [List.take_length] at g1
  exact ⟨l, n', J', x4, x5, x6, g1, by omega, g3, by omega, e⟩
theorem start_ok (nm : List Nat) (as : List (List Nat × List Nat)) (ks : F) (g : goodF (.el nm as ks .nil) = true) (h0 : 0 ≤ n) (h1 : n < 500000000) :
    ∃ (l bl : List Nat) (as' : List (List Nat × List Nat)) (n' : Int), AW as' l ∧ as'.Perm as ∧ (∀ c ∈ bl, c ∈ [32, 9, 10]) ∧ l.length ≤ 240 ∧ bl.length ≤ 1 ∧ n ≤ n' ∧ n' ≤ n + 70 ∧ m_law_start a [.loc 1, rootD nm as ks] (Tw ts n Z) = .ok (.str (tx (60 :: (nm ++ (l ++ bl))))) (Tw ts n' Z) := by
  simp only [goodF, Bool.and_eq_true] at g
  obtain ⟨⟨g1, g2⟩, _⟩ := g
  obtain ⟨f1, f2⟩ := goodA_facts g2
  have hnm := (isNm_len g1).1
  obtain ⟨v, v0, v1, hv⟩ := pick_ok a (ts := ts) (n := n) (Z := Z ++ [.lst (rowsD as)]) 2 h0 (by omega) (by omega)
  have fin : ∃ (as' : List (List Nat × List Nat)) (J : Stt) (i : Nat), as'.Perm as ∧ J[i]? = some (.lst (rowsD as')) ∧ law_start_i1 a [some (.loc 1), some (rootD nm as ks), some (.str (tx (60 :: nm))), some (.loc (Z.length + 2)), none, none, none] (Tw ts n (Z ++ [.lst (rowsD as)])) = .nx [some (.loc 1), some (rootD nm as ks), some (.str (tx (60 :: nm))), some (.loc (Z.length + 2 + i)), none, none, none] (Tw ts (n + 1) (Z ++ J)) := by
    by_cases hv0 : v = 0
    · refine ⟨as.reverse, [.lst (rowsD as), .lst (rowsD as.reverse)], 1, List.reverse_perm as, rfl, ?_⟩
      have c1 : (Tw ts (n + 1) (Z ++ [.lst (rowsD as)]))[Z.length + 2]? = some (.lst (rowsD as)) := tw_new (ts := ts) (n := n + 1) (Z := Z) [.lst (rowsD as)] 0
      have hl : (Tw ts (n + 1) (Z ++ [.lst (rowsD as)])).length = Z.length + 2 + 1 := by simp [tw_len]
      have hr : oRev2 (.loc (Z.length + 2)) (Tw ts (n + 1) (Z ++ [.lst (rowsD as)])) = some (.loc (Z.length + 2 + 1), Tw ts (n + 1) (Z ++ [.lst (rowsD as), .lst (rowsD as.reverse)])) := by
        rw [oRev2_at, c1, hl]
        simp [tw_app, rowsD]
      simp [-oRev2_at, law_start_i1, hv, hv0, hr]
    · refine ⟨as, [.lst (rowsD as)], 0, List.Perm.refl _, rfl, ?_⟩
      simp [law_start_i1, hv, hv0]
  obtain ⟨as', J, i, p1, p2, p3⟩ := fin
  obtain ⟨l, n2, J', x4, x5, x6, q1, q2, q3, q4, q5⟩ := start_loop a (ts := ts) (n := n + 1) (Z := Z) nm as' (some (rootD nm as ks)) J i p2 hnm (by rw [p1.length_eq]; exact f1) (fun p hp => by
    obtain ⟨r1, r2, r3⟩ := f2 p (p1.mem_iff.mp hp)
    exact ⟨(isNm_len r1).1, r2, r3⟩) (by omega) (by omega)
  obtain ⟨bl, n3, b1, b2, b3, b4, b5, hb⟩ := blanks_ok a (ts := ts) (n := n2) (Z := Z ++ (J ++ J')) 0 (by omega) (by omega) (by omega)
  refine ⟨l, bl, as', n3, q1, p1, b3, q2, b2, by omega, by omega, gcT ⟨J ++ J', ?_⟩ (by simp)⟩
  have c1 : (Tw ts (n + 1) (Z ++ J))[Z.length + 2 + i]? = some (.lst (rowsD as')) := by
    have := tw_new (ts := ts) (n := n + 1) (Z := Z) J i
    rw [tw_len, p2] at this
    exact this
  have lf : law_start_f1 a [some (.loc 1), some (rootD nm as ks), some (.str (tx (60 :: nm))), some (.loc (Z.length + 2 + i)), none, none, none] (Tw ts (n + 1) (Z ++ J)) = .nx [some (.loc 1), some (rootD nm as ks), some (.str (tx (60 :: nm ++ l))), some (.loc (Z.length + 2 + i)), x4, x5, x6] (Tw ts n2 (Z ++ (J ++ J'))) := by
    simp only [items_at] at q5
    simp only [law_start_f1, sFor_run, xIt_run]
    show ((R.ok (D.loc (Z.length + 2 + i)) (Tw ts (n + 1) (Z ++ J))).bind wkOf).out _ _ = _
    rw [R.bind_ok, wkOf_at, c1]
    exact q5
  have hl2 : (Tw ts n Z).length = Z.length + 2 := rfl
  simp only [rootD, attD] at p3 lf ⊢
  simp only [Int.natCast_zero, Int.cast_ofNat_Int] at hb
  have a1 := fun st => oAdd_tx [60] nm st (by simp; omega)
  simp (disch := ((try simp only [List.length_append, List.length_cons, List.length_nil]); omega)) [-oAdd_ss, oAdd_tx, f_law_start, a1, hl2, tw_app]
  simp (disch := ((try simp only [List.length_append, List.length_cons, List.length_nil]); omega)) [-oAdd_ss, oAdd_tx, p3, lf, hb]
end
end Law

set_option Elab.async false
set_option linter.all false
set_option maxRecDepth 100000
set_option maxHeartbeats 4000000
namespace Law
open PySem PySem.Spec PyProof.Rows L2 Rg
/-! ### events with the places behind them -/
def plc : Nat → List (Nat × List D) → List D
  | _, [] => []
  | n, (_, ev) :: l => (ev.map fun e => D.tup [e, .int ((n + 1 : Nat) : Int)]) ++ plc (n + 1) l
theorem plc_app : ∀ (n : Nat) (l1 l2 : List (Nat × List D)), plc n (l1 ++ l2) = plc n l1 ++ plc (n + l1.length) l2
  | _, [], _ => by simp [plc]
  | n, (c, ev) :: l1, l2 => by
    rw [List.cons_append]
    simp only [plc]
    rw [plc_app (n + 1) l1 l2, List.append_assoc, List.length_cons]
    congr 3
    omega
theorem plc_q : ∀ (n : Nat) (u : List Nat), plc n (qch u) = []
  | _, [] => rfl
  | n, c :: u => by show [] ++ plc (n + 1) (qch u) = []; rw [plc_q]; rfl
theorem qch_len (u : List Nat) : (qch u).length = u.length := by simp [qch]
theorem qch_fst (u : List Nat) : (qch u).map (·.1) = u := by simp [qch, Function.comp_def]
theorem qch_ev (u : List Nat) : (qch u).flatMap (·.2) = [] := by simp [qch]
theorem plc_last (n : Nat) (u : List Nat) (e : Nat) (ev : List D) : plc n (qch u ++ [(e, ev)]) = ev.map fun x => D.tup [x, .int ((n + u.length + 1 : Nat) : Int)] := by
  rw [plc_app, plc_q, qch_len]
  simp [plc]
def EvOk (l : List (Nat × List D)) (z : Nat) : Prop := (l.flatMap (·.2)).length ≤ z ∧ ∀ e ∈ l.flatMap (·.2), okD 4 e = true
theorem EvOk.app {l1 l2 : List (Nat × List D)} {z1 z2 : Nat} (h1 : EvOk l1 z1) (h2 : EvOk l2 z2) : EvOk (l1 ++ l2) (z1 + z2) := by
  unfold EvOk at *
  rw [List.flatMap_append, List.length_append]
  refine ⟨by omega, fun e he => ?_⟩
  rcases List.mem_append.mp he with he | he
  · exact h1.2 e he
  · exact h2.2 e he
theorem EvOk.q (u : List Nat) : EvOk (qch u) 0 := by unfold EvOk; rw [qch_ev]; exact ⟨Nat.le_refl _, fun e h => by cases h⟩
theorem EvOk.one (c : Nat) (ev : List D) (h : ∀ e ∈ ev, okD 4 e = true) : EvOk [(c, ev)] ev.length := by
  unfold EvOk
  simp only [List.flatMap_cons, List.flatMap_nil, List.append_nil]
  exact ⟨Nat.le_refl _, h⟩
theorem EvOk.le {l : List (Nat × List D)} {z z' : Nat} (h : EvOk l z) (hz : z ≤ z') : EvOk l z' := ⟨Nat.le_trans h.1 hz, h.2⟩
theorem plc_len : ∀ (n : Nat) (l : List (Nat × List D)), (plc n l).length = (l.flatMap (·.2)).length
  | _, [] => rfl
  | n, (c, ev) :: l => by simp [plc, plc_len (n + 1) l]
theorem okD_evC {c : Nat} (h : isSg c = true) : okD 4 (evC c) = true := by
  refine okD_tup fun e he => ?_
  simp only [List.mem_cons, List.not_mem_nil, or_false] at he
  rcases he with rfl | rfl
  · exact okS 2 rfl
  · exact okD_sg 2 h
theorem okD_evE {n : List Nat} (h : isNm n = true) : okD 4 (evE n) = true := by
  refine okD_tup fun e he => ?_
  simp only [List.mem_cons, List.not_mem_nil, or_false] at he
  rcases he with rfl | rfl
  · exact okS 2 rfl
  · exact okS 2 (isNm_len h).2
theorem okD_evS {n : List Nat} {as : List (List Nat × List Nat)} (h : isNm n = true) (g : goodA as = true) : okD 4 (evS n as) = true := by
  refine okD_tup fun e he => ?_
  simp only [List.mem_cons, List.not_mem_nil, or_false] at he
  rcases he with rfl | rfl | rfl
  · exact okS 2 rfl
  · exact okS 2 (isNm_len h).2
  · exact okD_att g
/-! ### out: the text and the events so far -/
abbrev kTx : Str := ⟨#[116, 101, 120, 116]⟩
abbrev kEv : Str := ⟨#[101, 118, 101, 110, 116, 115]⟩
def OD (T : List Nat) (q : Nat) : List (Key × D) := [(.inr kTx, .str (tx T)), (.inr kEv, .loc (q + 2))]
structure DSq (p q : Nat) (Z : Stt) (T : List Nat) (E : List D) : Prop where
  d : Z[p]? = some (.dct (OD T q))
  e : Z[q]? = some (.lst E)
def DS (p : Nat) (Z : Stt) (T : List Nat) (E : List D) : Prop := ∃ q, DSq p q Z T E
section
variable {p q : Nat} {Z : Stt} {T : List Nat} {E : List D} {ts : List Int} {n : Int}
theorem DSq.ne (h : DSq p q Z T E) : p ≠ q := ne_of h.d h.e (fun e => by cases e)
theorem DSq.txt (h : DSq p q Z T E) (T' : List Nat) : DSq p q (Z.set p (.dct (OD T' q))) T' E := ⟨set_at_eq h.d, by rw [set_at_ne h.ne]; exact h.e⟩
theorem DSq.evs (h : DSq p q Z T E) (E' : List D) : DSq p q (Z.set q (.lst E')) T E' := ⟨by rw [set_at_ne (Ne.symm h.ne)]; exact h.d, set_at_eq h.e⟩
theorem DSq.app (h : DSq p q Z T E) (J : Stt) : DSq p q (Z ++ J) T E := ⟨at_old h.d J, at_old h.e J⟩
theorem DSq.oT (h : DSq p q Z T E) (n : Int) : oGet (.loc (p + 2)) (.str kTx) (Tw ts n Z) = some (.str (tx T), Tw ts n Z) := by
  have : (Tw ts n Z)[p + 2]? = some (.dct (OD T q)) := by rw [tw_at]; exact h.d
  simp only [oGet, keyD, dctAt_loc this]
  simp [getD', OD]
theorem DSq.oE (h : DSq p q Z T E) (n : Int) : oGet (.loc (p + 2)) (.str kEv) (Tw ts n Z) = some (.loc (q + 2), Tw ts n Z) := by
  have : (Tw ts n Z)[p + 2]? = some (.dct (OD T q)) := by rw [tw_at]; exact h.d
  simp only [oGet, keyD, dctAt_loc this]
  simp [getD', OD]
theorem DSq.sT (h : DSq p q Z T E) (n : Int) (T' : List Nat) (ρ : En) : setDk (.loc (p + 2)) (.str kTx) (.str (tx T')) ρ (Tw ts n Z) = .nx ρ (Tw ts n (Z.set p (.dct (OD T' q)))) := by
  have : (Tw ts n Z)[p + 2]? = some (.dct (OD T q)) := by rw [tw_at]; exact h.d
  unfold setDk
  simp only [keyD, dctAt_loc this]
  rw [if_pos (by rw [sizeLine_eq]; show 2 < _; omega), tw_set]
  simp [putD, OD]
theorem DSq.sE (h : DSq p q Z T E) (n : Int) (q' : Nat) (ρ : En) : setDk (.loc (p + 2)) (.str kEv) (.loc (q' + 2)) ρ (Tw ts n Z) = .nx ρ (Tw ts n (Z.set p (.dct (OD T q')))) := by
  have : (Tw ts n Z)[p + 2]? = some (.dct (OD T q)) := by rw [tw_at]; exact h.d
  unfold setDk
  simp only [keyD, dctAt_loc this]
  rw [if_pos (by rw [sizeLine_eq]; show 2 < _; omega), tw_set]
  simp [putD, OD]
/-- the cells may be dropped -/
theorem gcDS {f : Fn} {ds : List D} {n' : Int} {Z1 : Stt} {T1 : List Nat} {E1 : List D} (h : f ds (Tw ts n Z) = .ok .non (Tw ts n' Z1)) (K0 : DS p Z T E) (K1 : DS p Z1 T1 E1) : ∃ Z2, gcB f ds (Tw ts n Z) = .ok .non (Tw ts n' Z2) ∧ DS p Z2 T1 E1 := by
  unfold gcB
  rw [h, gcR_ok]
  split
  · rename_i hc
    obtain ⟨q, K0⟩ := K0
    obtain ⟨q1, K1⟩ := K1
    refine ⟨Z1.take Z.length, rfl, q1, ?_⟩
    have hp := lt_of K0.d
    have hq : q1 < Z.length := by
      rcases hc.1.2 (p + 2) (by rw [tw_len]; omega) with e | ⟨o, e, w⟩
      · rw [tw_at, tw_at, K0.d, K1.d] at e
        have e := Option.some.inj e
        simp only [OD, O.dct.injEq, List.cons.injEq, Prod.mk.injEq, D.loc.injEq] at e
        have := lt_of K0.e
        omega
      · rw [tw_at, K1.d] at e
        cases e
        rw [lowO_dct] at w
        have := w (.inr kEv, .loc (q1 + 2)) (by simp [OD])
        simp [tw_len] at this
        omega
    exact ⟨by rw [List.getElem?_take_of_lt hp]; exact K1.d, by rw [List.getElem?_take_of_lt hq]; exact K1.e⟩
  · exact ⟨Z1, rfl, K1⟩
end
end Law

set_option Elab.async false
set_option linter.all false
set_option maxRecDepth 100000
set_option maxHeartbeats 4000000
namespace Law
open PySem PySem.Spec PyProof.Rows L2 Rg
theorem len_ev2 (f : F) : (evs f).length = szF f := len_evs f
section
variable (a : Ads)
/-- what is promised of a call -/
def CE (self : Fn) (k : Nat) : Prop := ∀ (ts : List Int) (n : Int) (Z : Stt) (p : Nat) (T : List Nat) (E : List D) (nm : List Nat) (as : List (List Nat × List Nat)) (ks : F), DS p Z T E → goodF (.el nm as ks .nil) = true → dpF ks < k → T.length + 400 * (szF ks + 2) ≤ 16000020 → E.length + (szF ks + 2) ≤ 1000000 → 0 ≤ n → n + 100 + 200 * ((szF ks : Nat) : Int) ≤ 400000000 →
  ∃ (l : List (Nat × List D)) (n' : Int) (Z' : Stt), ElR a l (dpF ks + 1) ∧ l.length + 20 ≤ 400 * (szF ks + 2) ∧ EvOk l (szF ks + 2) ∧ n ≤ n' ∧ n' ≤ n + 100 + 200 * ((szF ks : Nat) : Int) ∧ self [.loc 1, rootD nm as ks, .loc (p + 2)] (Tw ts n Z) = .ok .non (Tw ts n' Z') ∧ DS p Z' (T ++ l.map (·.1)) (E ++ plc T.length l)
theorem rmk_CoR {r : List Nat} (h : Rmk r) (d : Nat) : CoR a (qch r) d := by
  rcases h.2 with rfl | ⟨l, h1, rfl⟩
  · exact CoR.nil a d
  · exact CoR.remark a l h1 d
theorem rmk_step (self : Fn) {ts : List Int} {n : Int} {Z : Stt} {p q : Nat} {T : List Nat} {E : List D} (D0 : DSq p q Z T E) (x1 x3 : Option D) (h0 : 0 ≤ n) (h1 : n < 800000000) (hT : T.length < 16100000) : ∃ (r : List Nat) (n' : Int) (Z' : Stt), Rmk r ∧ n ≤ n' ∧ n' ≤ n + 2 ∧ DSq p q Z' (T ++ r) E ∧ sPut (xV 2) (xC (.str "text")) (x2 oAdd (x2 oGet (xV 2) (xC (.str "text"))) (xFn (m_law_remark a) (xCons (xV 0) (xNil)))) [some (.loc 1), x1, some (.loc (p + 2)), x3] (Tw ts n Z) = .nx [some (.loc 1), x1, some (.loc (p + 2)), x3] (Tw ts n' Z') := by
  obtain ⟨r, n1, g1, g2, g3, hr⟩ := remark_ok a (ts := ts) (n := n) (Z := Z) h0 (by omega)
  have hrl := g1.1
  have b1 := D0.oT (ts := ts) n
  have b2 := D0.sT (ts := ts) n1 (T ++ r)
  have a1 := fun st => oAdd_tx T r st (by omega)
  refine ⟨r, n1, _, g1, g2, g3, D0.txt (T ++ r), ?_⟩
  simp [-oAdd_ss, b1, hr, a1, b2]
theorem kid_sg (self : Fn) {ts : List Int} {n : Int} {Z : Stt} {p : Nat} {T : List Nat} {E : List D} (D0 : DS p Z T E) (x1 : Option D) (c : Nat) (hc : isSg c = true) (h0 : 0 ≤ n) (h1 : n < 700000000) (hT : T.length < 16000000) (hE : E.length < 1000000) : ∃ (l : List (Nat × List D)) (n' : Int) (Z' : Stt), (∀ d, CoR a l d) ∧ l.length ≤ 400 ∧ EvOk l 1 ∧ n ≤ n' ∧ n' ≤ n + 200 ∧ DS p Z' (T ++ l.map (·.1)) (E ++ plc T.length l) ∧ law_element_fb1 a self [some (.loc 1), x1, some (.loc (p + 2)), some (.str ⟨#[c]⟩)] (Tw ts n Z) = .nx [some (.loc 1), x1, some (.loc (p + 2)), some (.str ⟨#[c]⟩)] (Tw ts n' Z') := by
  obtain ⟨q, D0⟩ := D0
  obtain ⟨r, n1, Z1, g1, g2, g3, D1, e1⟩ := rmk_step a self (ts := ts) D0 x1 (some (.str ⟨#[c]⟩)) h0 (by omega) (by omega)
  have hrl := g1.1
  obtain ⟨w, n2, w1, w2, w3, w4, hw⟩ := written_ok a (ts := ts) (n := n1) (Z := Z1) false c hc (by omega) (by omega)
  obtain ⟨u, e, hu, hC⟩ := CoR.wr a false c w w1 0
  have b1 := D1.oT (ts := ts) n1
  have b2 := D1.sT (ts := ts) n2 (T ++ r ++ w)
  have a1 := fun st => oAdd_tx (T ++ r) w st (by rw [List.length_append]; omega)
  have D2 := D1.txt (T ++ r ++ w)
  generalize hZ2 : Z1.set p (.dct (OD (T ++ r ++ w) q)) = Z2 at b2 D2
  have b3 := D2.oT (ts := ts) n2
  have b4 := D2.oE (ts := ts) n2
  have b5 : (Tw ts n2 Z2)[q + 2]? = some (.lst E) := by rw [tw_at]; exact D2.e
  have b6 := fun o => tw_set (ts := ts) (n := n2) (Z := Z2) q o
  have hz : E.length < 16777216 := by omega
  have hl : (T ++ r ++ w).length ≤ 16777216 := by simp only [List.length_append]; omega
  have hwl : w.length = u.length + 1 := by rw [hu]; simp
  have D3 := D2.evs (E ++ [.tup [evC c, .int ((T ++ r ++ w).length : Int)]])
  refine ⟨qch r ++ (qch u ++ [(e, [evC c])]), n2, Z2.set q (.lst (E ++ [.tup [evC c, .int ((T ++ r ++ w).length : Int)]])), fun d => ?_, ?_, ?_, by omega, by omega, ⟨q, ?_⟩, ?_⟩
  · obtain ⟨u', e', hu', hC'⟩ := CoR.wr a false c w w1 d
    rw [hu] at hu'
    have := List.append_inj' hu' rfl
    cases this.1
    cases this.2
    exact CoR.app a (rmk_CoR a g1 d) hC'
  · simp only [List.length_append, qch_len, List.length_cons, List.length_nil]; omega
  · have := (EvOk.q r).app ((EvOk.q u).app (EvOk.one e [evC c] (by simpa using okD_evC hc)))
    simpa using this
  · rw [plc_app, plc_q, plc_last, List.map_append, List.map_append, qch_fst, qch_fst]
    have ee : T ++ (r ++ (u ++ [e])) = T ++ r ++ w := by rw [hu]; simp
    show DSq p q _ (T ++ (r ++ (u ++ [e]))) _
    rw [ee]
    have e3 : T.length + (qch r).length + u.length + 1 = (T ++ r ++ w).length := by simp only [qch_len, List.length_append, hwl]; omega
    rw [List.map_cons, List.map_nil, e3, List.nil_append]
    exact D3
  · show (sCons _ _) _ _ = _
    rw [sCons_run, e1]
    simp only [evC]
    simp only [List.append_assoc] at b1 b2 b3 a1 hl ⊢
    have hl2 : T.length + (r.length + w.length) ≤ 16777216 := by simpa using hl
    simp [-getElem?_pos, -oAdd_ss, law_element_i1, b1, hw, a1, b2, b4, b3, b5, b6, hl2, hz]
theorem kid_el (self : Fn) (k : Nat) (ih : CE a self k) {ts : List Int} {n : Int} {Z : Stt} {p : Nat} {T : List Nat} {E : List D} (D0 : DS p Z T E) (x1 : Option D) (nm : List Nat) (as : List (List Nat × List Nat)) (ks : F) (g : goodF (.el nm as ks .nil) = true) (hd : dpF ks < k) (h0 : 0 ≤ n) (h1 : n + 2 + 100 + 200 * ((szF ks : Nat) : Int) ≤ 400000000) (hT : T.length + 400 * (szF ks + 2) ≤ 16000000) (hE : E.length + (szF ks + 2) ≤ 1000000) : ∃ (l : List (Nat × List D)) (n' : Int) (Z' : Stt), CoR a l (dpF ks + 1) ∧ l.length ≤ 400 * (szF ks + 2) ∧ EvOk l (szF ks + 2) ∧ n ≤ n' ∧ n' ≤ n + 2 + 100 + 200 * ((szF ks : Nat) : Int) ∧ DS p Z' (T ++ l.map (·.1)) (E ++ plc T.length l) ∧ law_element_fb1 a self [some (.loc 1), x1, some (.loc (p + 2)), some (rootD nm as ks)] (Tw ts n Z) = .nx [some (.loc 1), x1, some (.loc (p + 2)), some (rootD nm as ks)] (Tw ts n' Z') := by
  obtain ⟨q, D0⟩ := D0
  obtain ⟨r, n1, Z1, g1, g2, g3, D1, e1⟩ := rmk_step a self (ts := ts) D0 x1 (some (rootD nm as ks)) h0 (by omega) (by omega)
  have hrl := g1.1
  obtain ⟨l, n2, Z2, q1, q2, q3, q4, q5, q6, q7⟩ := ih ts n1 Z1 p (T ++ r) E nm as ks ⟨q, D1⟩ g hd (by rw [List.length_append]; omega) hE (by omega) (by omega)
  refine ⟨qch r ++ l, n2, Z2, CoR.app a (rmk_CoR a g1 _) (CoR.el a q1), ?_, ?_, by omega, by omega, ?_, ?_⟩
  · rw [List.length_append, qch_len]; omega
  · have := (EvOk.q r).app q3
    simpa using this
  · rw [plc_app, plc_q, List.map_append, qch_fst, qch_len, List.nil_append, ← List.append_assoc, ← List.length_append]
    exact q7
  · show (sCons _ _) _ _ = _
    rw [sCons_run, e1]
    simp only [rootD] at q6 ⊢
    simp [-getElem?_pos, law_element_i1, q6]
theorem kids_run (self : Fn) (k : Nat) (ih : CE a self k) (ts : List Int) (p : Nat) (x1 : Option D) : ∀ (f : F) (n : Int) (Z : Stt) (T : List Nat) (E : List D) (x3 : Option D), DS p Z T E → goodF f = true → dpF f ≤ k → T.length + 400 * szF f ≤ 16000000 → E.length + szF f ≤ 1000000 → 0 ≤ n → n + 200 * ((szF f : Nat) : Int) ≤ 400000000 →
    ∃ (l : List (Nat × List D)) (n' : Int) (Z' : Stt) (y3 : Option D), CoR a l (dpF f) ∧ l.length ≤ 400 * szF f ∧ EvOk l (szF f) ∧ n ≤ n' ∧ n' ≤ n + 200 * ((szF f : Nat) : Int) ∧ DS p Z' (T ++ l.map (·.1)) (E ++ plc T.length l) ∧ forF (fun _ => True) (gN 3) (law_element_fb1 a self) (kidsD f) [some (.loc 1), x1, some (.loc (p + 2)), x3] (Tw ts n Z) = .nx [some (.loc 1), x1, some (.loc (p + 2)), y3] (Tw ts n' Z')
  | .nil, n, Z, T, E, x3, D0, _, _, _, _, _, _ => ⟨[], n, Z, x3, CoR.nil a _, by simp, ⟨by simp, fun e h => by cases h⟩, by omega, by simp [szF], by simpa [plc] using D0, by rw [show kidsD .nil = [] from rfl, forF_nil]⟩
  | .sg c r, n, Z, T, E, x3, D0, g, hd, hT, hE, h0, h1 => by
    simp only [goodF, Bool.and_eq_true] at g
    simp only [szF, dpF] at hT hE h1 hd ⊢
    obtain ⟨l1, n1, Z1, q1, q2, q3, q4, q5, q6, q7⟩ := kid_sg a self (ts := ts) D0 x1 c g.1 h0 (by omega) (by omega) (by omega)
    obtain ⟨l2, n2, Z2, y3, r1, r2, r3, r4, r5, r6, r7⟩ := kids_run self k ih ts p x1 r n1 Z1 _ _ (some (.str ⟨#[c]⟩)) q6 g.2 hd (by rw [List.length_append, List.length_map]; omega) (by rw [List.length_append, plc_len]; have := q3.1; omega) (by omega) (by omega)
    refine ⟨l1 ++ l2, n2, Z2, y3, CoR.app a (q1 _) r1, by rw [List.length_append]; omega, q3.app r3, by omega, by omega, ?_, ?_⟩
    · rw [plc_app, List.map_append, ← List.append_assoc, ← List.append_assoc]
      rw [List.length_append, List.length_map] at r6
      exact r6
    · rw [show kidsD (.sg c r) = .str ⟨#[c]⟩ :: kidsD r from rfl, forF_cons' trivial (gN_run 3 _ _)]
      show (match law_element_fb1 a self [some (.loc 1), x1, some (.loc (p + 2)), some (.str ⟨#[c]⟩)] (Tw ts n Z) with | .nx ρ' st' => _ | .ct ρ' st' => _ | .bk ρ' st' => _ | r => _) = _
      rw [q7]
      exact r7
  | .el nm as ks r, n, Z, T, E, x3, D0, g, hd, hT, hE, h0, h1 => by
    have ga : goodF (.el nm as ks .nil) = true := by simp only [goodF, Bool.and_eq_true] at g ⊢; exact ⟨g.1, g.2.1, trivial⟩
    simp only [goodF, Bool.and_eq_true] at g
    simp only [szF, dpF] at hT hE h1 hd ⊢
    obtain ⟨l1, n1, Z1, q1, q2, q3, q4, q5, q6, q7⟩ := kid_el a self k ih (ts := ts) D0 x1 nm as ks ga (by omega) h0 (by omega) (by omega) (by omega)
    obtain ⟨l2, n2, Z2, y3, r1, r2, r3, r4, r5, r6, r7⟩ := kids_run self k ih ts p x1 r n1 Z1 _ _ (some (rootD nm as ks)) q6 g.2.2 (by omega) (by rw [List.length_append, List.length_map]; omega) (by rw [List.length_append, plc_len]; have := q3.1; omega) (by omega) (by omega)
    refine ⟨l1 ++ l2, n2, Z2, y3, CoR.app a (CoR.le a q1 (by omega)) (CoR.le a r1 (by omega)), by rw [List.length_append]; omega, (q3.app r3).le (by omega), by omega, by omega, ?_, ?_⟩
    · rw [plc_app, List.map_append, ← List.append_assoc, ← List.append_assoc]
      rw [List.length_append, List.length_map] at r6
      exact r6
    · rw [show kidsD (.el nm as ks r) = rootD nm as ks :: kidsD r from rfl, forF_cons' trivial (gN_run 3 _ _)]
      show (match law_element_fb1 a self [some (.loc 1), x1, some (.loc (p + 2)), some (rootD nm as ks)] (Tw ts n Z) with | .nx ρ' st' => _ | .ct ρ' st' => _ | .bk ρ' st' => _ | r => _) = _
      rw [q7]
      exact r7
end
end Law

set_option Elab.async false
set_option linter.all false
set_option maxRecDepth 100000
set_option maxHeartbeats 4000000
namespace Law
open PySem PySem.Spec PyProof.Rows L2 Rg
def isE : F → Bool
  | .nil => true
  | _ => false
theorem deq_nilT {st : Stt} {ds : List D} {ps : List PyData} (h : ds.mapM (toD st 59) = some ps) : oEq (.tup ds) (.tup []) st = some (.bl ds.isEmpty, st) := by
  have h1 : toD st 60 (.tup ds) = some (.tuple ps) := by
    show (ds.mapM (toD st 59)).map PyData.tuple = _
    rw [h]; rfl
  have h2 : toD st 60 (.tup []) = some (.tuple []) := by
    show (([] : List D).mapM (toD st 59)).map PyData.tuple = _
    rw [List.mapM_nil]; rfl
  have e : ps.isEmpty = ds.isEmpty := by
    cases ds with
    | nil => rw [List.mapM_nil] at h; cases h; rfl
    | cons d ds =>
      rw [List.mapM_cons] at h
      obtain ⟨p, _, h⟩ := Option.bind_eq_some_iff.mp h
      obtain ⟨q, _, h⟩ := Option.bind_eq_some_iff.mp h
      cases h
      rfl
  unfold oEq deq
  rw [h1, h2, ← e]
  cases ps with
  | nil => rfl
  | cons p ps => rfl
theorem kids_eq (ks : F) (g : goodF ks = true) (hd : dpF ks ≤ 20) (st : Stt) : oEq (.tup (kidsD ks)) (.tup []) st = some (.bl (isE ks), st) := by
  have h : (kidsD ks).mapM (toD st 59) = some ((kidsD ks).map (datD 59)) := mapM_ok (fun d h => toD_ok 59 d h) _ (List.all_eq_true.mpr fun d h => okD_le (by omega) (okD_kids ks g d h))
  rw [deq_nilT h]
  cases ks <;> rfl
theorem sCons_nx {f g : XS} {ρ ρ' : En} {st st' : Stt} (h : f ρ st = .nx ρ' st') : sCons f g ρ st = g ρ' st' := by rw [sCons_run, h]; rfl
theorem sCons_rt {f g : XS} {ρ : En} {st st' : Stt} {d : D} (h : f ρ st = .rt d st') : sCons f g ρ st = .rt d st' := by rw [sCons_run, h]; rfl
section
variable (a : Ads) {ts : List Int} {n : Int} {Z : Stt} {p q : Nat} {T : List Nat} {E : List D}
/-- the statements of an element, one by one -/
theorem st_put (D0 : DSq p q Z T E) (x1 x3 : Option D) (w : List Nat) (hl : T.length + w.length ≤ 16777216) (f : XE) (n' : Int) (hf : f [some (.loc 1), x1, some (.loc (p + 2)), x3] (Tw ts n Z) = .ok (.str (tx w)) (Tw ts n' Z)) :
    sPut (xV 2) (xC (.str "text")) (x2 oAdd (x2 oGet (xV 2) (xC (.str "text"))) f) [some (.loc 1), x1, some (.loc (p + 2)), x3] (Tw ts n Z) = .nx [some (.loc 1), x1, some (.loc (p + 2)), x3] (Tw ts n' (Z.set p (.dct (OD (T ++ w) q)))) := by
  have b1 := D0.oT (ts := ts) n
  have b2 := D0.sT (ts := ts) n' (T ++ w)
  have a1 := fun st => oAdd_tx T w st hl
  simp [-oAdd_ss, b1, hf, a1, b2]
theorem st_app (D0 : DSq p q Z T E) (x1 x3 : Option D) (e : D) (hE : E.length < 16777216) (hT : T.length ≤ 16777216) (f : XE) (hf : f [some (.loc 1), x1, some (.loc (p + 2)), x3] (Tw ts n Z) = .ok e (Tw ts n Z)) :
    sExpr (xMt isLst mAppend (x2 oGet (xV 2) (xC (.str "events"))) (xCons (xTup (xCons f (xCons (xCall fLen (xCons (x2 oGet (xV 2) (xC (.str "text"))) (xNil))) (xNil)))) (xNil))) [some (.loc 1), x1, some (.loc (p + 2)), x3] (Tw ts n Z) = .nx [some (.loc 1), x1, some (.loc (p + 2)), x3] (Tw ts n (Z.set q (.lst (E ++ [.tup [e, .int (T.length : Int)]])))) := by
  have b3 := D0.oT (ts := ts) n
  have b4 := D0.oE (ts := ts) n
  have b5 : (Tw ts n Z)[q + 2]? = some (.lst E) := by rw [tw_at]; exact D0.e
  have b6 := fun o => tw_set (ts := ts) (n := n) (Z := Z) q o
  simp [-getElem?_pos, b3, b4, b5, b6, hf, hE, hT]
theorem elem_step (self : Fn) (k : Nat) (hk : k ≤ 10) (ih : CE a self k) : CE a (gcB (runB 4 (f_law_element a self))) (k + 1) := by
  intro ts n Z p T E nm as ks DD g hd hT hE h0 h1
  have DD0 := DD
  obtain ⟨q, D0⟩ := DD
  have g0 := g
  simp only [goodF, Bool.and_eq_true] at g
  obtain ⟨⟨gn, ga⟩, gk, _⟩ := g
  have hnl := (isNm_len gn).1
  obtain ⟨l, bl, as', n1, w1, w2, w3, w4, w5, w6, w7, hw⟩ := start_ok a (ts := ts) (n := n) (Z := Z) nm as ks g0 h0 (by omega)
  have ht0 : (60 :: (nm ++ (l ++ bl))).length ≤ 250 := by simp only [List.length_cons, List.length_append]; omega
  have s1 := st_put (ts := ts) (n := n) D0 (some (rootD nm as ks)) none (60 :: (nm ++ (l ++ bl))) (by omega) (xFn (m_law_start a) (xCons (xV 0) (xCons (xV 1) (xNil)))) n1 (by simp [hw])
  have D1 := D0.txt (T ++ 60 :: (nm ++ (l ++ bl)))
  generalize hZ1 : Z.set p (.dct (OD (T ++ 60 :: (nm ++ (l ++ bl))) q)) = Z1 at s1 D1
  have hT1 : (T ++ 60 :: (nm ++ (l ++ bl))).length = T.length + (60 :: (nm ++ (l ++ bl))).length := List.length_append
  have keq := fun st => kids_eq ks gk (by omega) st
  obtain ⟨v, v0, v1, hv⟩ := pick_ok a (ts := ts) (n := n1) (Z := Z1) 2 (by omega) (by omega) (by omega)
  generalize hT1' : T ++ 60 :: (nm ++ (l ++ bl)) = T1 at s1 D1 hT1
  by_cases hE0 : isE ks = true ∧ v = 0
  · have hks : ks = .nil := by
      cases ks with
      | nil => rfl
      | _ => exact absurd hE0.1 (by simp [isE])
    have hd0 : dpF ks = 0 := by rw [hks]; rfl
    have hz0 : szF ks = 0 := by rw [hks]; rfl
    have hv0 := hE0.2
    subst hv0
    have d1 := D1.oT (ts := ts) (n1 + 1)
    have s2 := D1.sT (ts := ts) (n1 + 1) (T1 ++ [47, 62])
    have D2 := D1.txt (T1 ++ [47, 62])
    generalize hZ2 : Z1.set p (.dct (OD (T1 ++ [47, 62]) q)) = Z2 at s2 D2
    have d2 := D2.oT (ts := ts) (n1 + 1)
    have d3 := D2.oE (ts := ts) (n1 + 1)
    have L2' : (T1 ++ [47, 62]).length = T1.length + 2 := by simp
    generalize hT2 : T1 ++ [47, 62] = T2 at s2 D2 d2 d3 L2'
    have a1 := fun st => oAdd_tx T1 [47, 62] st (by simp; omega)
    rw [hT2] at a1
    let e1 : D := .tup [evS nm as, .int (T2.length : Int)]
    let e2 : D := .tup [evE nm, .int (T2.length : Int)]
    have D3 := D2.app [.lst [e1, e2], .lst (E ++ [e1, e2])]
    have s3 := fun ρ => D3.sE (ts := ts) (n1 + 1) (Z2.length + 1) ρ
    have D4 : DSq p (Z2.length + 1) ((Z2 ++ [O.lst [e1, e2], .lst (E ++ [e1, e2])]).set p (.dct (OD T2 (Z2.length + 1)))) T2 (E ++ [e1, e2]) := by
      have hp := lt_of D2.d
      exact ⟨set_at_eq D3.d, by rw [set_at_ne (by omega)]; simp⟩
    have ad : oAdd (.loc (q + 2)) (.loc (Z2.length + 2)) (Tw ts (n1 + 1) (Z2 ++ [.lst [e1, e2]])) = some (.loc (Z2.length + 1 + 2), Tw ts (n1 + 1) (Z2 ++ [.lst [e1, e2], .lst (E ++ [e1, e2])])) := by
      have c1 : (Tw ts (n1 + 1) (Z2 ++ [.lst [e1, e2]]))[q + 2]? = some (.lst E) := by rw [tw_at]; exact at_old D2.e _
      have c2 : (Tw ts (n1 + 1) (Z2 ++ [.lst [e1, e2]]))[Z2.length + 2]? = some (.lst [e1, e2]) := by rw [tw_at]; simp
      rw [oAdd_ll, c1, c2]
      dsimp only
      rw [if_pos (le_sz (by simp; omega)), tw_app]
      simp [tw_len]
    have hfin : runB 4 (f_law_element a self) [.loc 1, rootD nm as ks, .loc (p + 2)] (Tw ts n Z) = .ok .non (Tw ts (n1 + 1) ((Z2 ++ [O.lst [e1, e2], .lst (E ++ [e1, e2])]).set p (.dct (OD T2 (Z2.length + 1))))) := by
      have i2 : law_element_i2 a self [some (.loc 1), some (rootD nm as ks), some (.loc (p + 2)), none] (Tw ts n1 Z1) = .rt .non (Tw ts (n1 + 1) ((Z2 ++ [O.lst [e1, e2], .lst (E ++ [e1, e2])]).set p (.dct (OD T2 (Z2.length + 1))))) := by
        have hl2 : T2.length ≤ 16777216 := by omega
        have hlz : (Tw ts (n1 + 1) Z2).length = Z2.length + 2 := rfl
        simp only [e1, e2, evS, evE] at ad s3 ⊢
        simp only [rootD]
        simp [-getElem?_pos, -oAdd_ss, -oAdd_ll, law_element_i2, keq, hE0.1, hv, d1, a1, s2, d2, d3, hl2, hlz, tw_app, ad, s3]
      show (f_law_element a self [some (.loc 1), some (rootD nm as ks), some (.loc (p + 2)), none] (Tw ts n Z)).ret = _
      unfold f_law_element
      rw [sCons_nx s1, sCons_rt i2]
      rfl
    obtain ⟨Z5, e5, D5⟩ := gcDS hfin DD0 ⟨_, D4⟩
    have hev : EvOk (qch (60 :: (nm ++ (l ++ bl)) ++ [47]) ++ [(62, [evS nm as, evE nm])]) 2 := by
      have := (EvOk.q (60 :: (nm ++ (l ++ bl)) ++ [47])).app (EvOk.one 62 [evS nm as, evE nm] (fun e he => by
        simp only [List.mem_cons, List.not_mem_nil, or_false] at he
        rcases he with rfl | rfl
        · exact okD_evS gn ga
        · exact okD_evE gn))
      simpa using this
    refine ⟨qch (60 :: (nm ++ (l ++ bl)) ++ [47]) ++ [(62, [evS nm as, evE nm])], n1 + 1, Z5, ?_, ?_, hev.le (by omega), by omega, by omega, e5, ?_⟩
    · rw [hd0]; exact ElR.empty a nm as as' l bl w1 w2 w3 gn ga
    · simp only [List.length_append, qch_len, List.length_cons, List.length_nil] at ht0 ⊢; omega
    · rw [plc_last, List.map_append, qch_fst]
      have e3 : T ++ (60 :: (nm ++ (l ++ bl)) ++ [47] ++ List.map (·.1) [((62 : Nat), [evS nm as, evE nm])]) = T2 := by rw [← hT2, ← hT1']; simp
      rw [e3]
      have e4 : T.length + (60 :: (nm ++ (l ++ bl)) ++ [47]).length + 1 = T2.length := by rw [L2', hT1, List.length_append]; simp; omega
      rw [e4]
      exact D5
  · obtain ⟨n2, hn2, hn3, i2⟩ : ∃ n2, n1 ≤ n2 ∧ n2 ≤ n1 + 1 ∧ law_element_i2 a self [some (.loc 1), some (rootD nm as ks), some (.loc (p + 2)), none] (Tw ts n1 Z1) = .nx [some (.loc 1), some (rootD nm as ks), some (.loc (p + 2)), none] (Tw ts n2 Z1) := by
      by_cases he : isE ks = true
      · have hv0 : ¬ v = 0 := fun e => hE0 ⟨he, e⟩
        refine ⟨n1 + 1, by omega, by omega, ?_⟩
        simp only [rootD]
        simp [-getElem?_pos, law_element_i2, keq, he, hv, hv0]
      · have he : isE ks = false := by simpa using he
        refine ⟨n1, by omega, by omega, ?_⟩
        simp only [rootD]
        simp [-getElem?_pos, law_element_i2, keq, he]
    have s2 := st_put (ts := ts) (n := n2) D1 (some (rootD nm as ks)) none [62] (by simp; omega) (xC (.str ">")) n2 (by simp)
    have D2 := D1.txt (T1 ++ [62])
    generalize hZ2 : Z1.set p (.dct (OD (T1 ++ [62]) q)) = Z2 at s2 D2
    have L2' : (T1 ++ [62]).length = T1.length + 1 := by simp
    generalize hT2 : T1 ++ [62] = T2 at s2 D2 L2'
    have s3 := st_app (ts := ts) (n := n2) D2 (some (rootD nm as ks)) none (evS nm as) (by omega) (by omega) (xTup (xCons (xC (.str "start")) (xCons (x2 oIx (xV 1) (xC (.int 0))) (xCons (x2 oIx (xV 1) (xC (.int 1))) (xNil))))) (by simp [rootD, evS])
    have D3 := D2.evs (E ++ [.tup [evS nm as, .int (T2.length : Int)]])
    generalize hZ3 : Z2.set q (.lst (E ++ [D.tup [evS nm as, .int (T2.length : Int)]])) = Z3 at s3 D3
    obtain ⟨lk, n3, Z4, y3, k1, k2, k3, k4, k5, ⟨q4, D4⟩, k7⟩ := kids_run a self k ih ts p (some (rootD nm as ks)) ks n2 Z3 T2 _ none ⟨q, D3⟩ gk (by omega) (by omega) (by rw [List.length_append, List.length_singleton]; omega) (by omega) (by omega)
    have s4 : law_element_f1 a self [some (.loc 1), some (rootD nm as ks), some (.loc (p + 2)), none] (Tw ts n2 Z3) = .nx [some (.loc 1), some (rootD nm as ks), some (.loc (p + 2)), y3] (Tw ts n3 Z4) := by
      simp only [rootD] at k7 ⊢
      simp [law_element_f1, k7]
    have L4 : (T2 ++ lk.map (·.1)).length = T2.length + lk.length := by simp
    have E4 : (E ++ [D.tup [evS nm as, .int (T2.length : Int)]] ++ plc T2.length lk).length ≤ E.length + 1 + szF ks := by
      rw [List.length_append, List.length_append, plc_len]
      have := k3.1
      simp only [List.length_singleton]
      omega
    generalize hT4 : T2 ++ lk.map (·.1) = T4 at D4 L4
    generalize hE4 : E ++ [D.tup [evS nm as, .int (T2.length : Int)]] ++ plc T2.length lk = E4' at D4 E4
    obtain ⟨r, n4, r1, r2, r3, hr⟩ := remark_ok a (ts := ts) (n := n3) (Z := Z4) (by omega) (by omega)
    obtain ⟨b2, n5, c1, c2, c3, c4, c5, hb⟩ := blanks_ok a (ts := ts) (n := n4) (Z := Z4) 0 (by omega) (by omega) (by omega)
    have hrl := r1.1
    simp only [Int.natCast_zero, Int.cast_ofNat_Int] at hb
    have s5 : sPut (xV 2) (xC (.str "text")) (x2 oAdd (x2 oAdd (x2 oAdd (x2 oAdd (x2 oAdd (x2 oGet (xV 2) (xC (.str "text"))) (xFn (m_law_remark a) (xCons (xV 0) (xNil)))) (xC (.str "</"))) (x2 oIx (xV 1) (xC (.int 0)))) (xFn (m_law_blanks a) (xCons (xV 0) (xCons (xC (.int 0)) (xNil))))) (xC (.str ">"))) [some (.loc 1), some (rootD nm as ks), some (.loc (p + 2)), y3] (Tw ts n3 Z4) = .nx [some (.loc 1), some (rootD nm as ks), some (.loc (p + 2)), y3] (Tw ts n5 (Z4.set p (.dct (OD (T4 ++ (r ++ (60 :: 47 :: (nm ++ (b2 ++ [62]))))) q4)))) := by
      have d1 := D4.oT (ts := ts) n3
      have d2 := D4.sT (ts := ts) n5 (T4 ++ (r ++ (60 :: 47 :: (nm ++ (b2 ++ [62])))))
      simp only [rootD]
      simp (disch := ((try simp only [List.length_append, List.length_cons, List.length_nil]); omega)) [-getElem?_pos, -oAdd_ss, oAdd_tx, d1, hr, hb, d2]
    have D5 := D4.txt (T4 ++ (r ++ (60 :: 47 :: (nm ++ (b2 ++ [62])))))
    generalize hZ5 : Z4.set p (.dct (OD (T4 ++ (r ++ (60 :: 47 :: (nm ++ (b2 ++ [62]))))) q4)) = Z5 at s5 D5
    have L5 : (T4 ++ (r ++ (60 :: 47 :: (nm ++ (b2 ++ [62]))))).length = T4.length + (r.length + (nm.length + b2.length + 3)) := by simp only [List.length_append, List.length_cons, List.length_nil]; omega
    generalize hT5 : T4 ++ (r ++ (60 :: 47 :: (nm ++ (b2 ++ [62])))) = T5 at s5 D5 L5
    have s6 := st_app (ts := ts) (n := n5) D5 (some (rootD nm as ks)) y3 (evE nm) (by omega) (by omega) (xTup (xCons (xC (.str "end")) (xCons (x2 oIx (xV 1) (xC (.int 0))) (xNil)))) (by simp [rootD, evE])
    have D6 := D5.evs (E4' ++ [.tup [evE nm, .int (T5.length : Int)]])
    generalize hZ6 : Z5.set q4 (.lst (E4' ++ [.tup [evE nm, .int (T5.length : Int)]])) = Z6 at s6 D6
    have hfin : runB 4 (f_law_element a self) [.loc 1, rootD nm as ks, .loc (p + 2)] (Tw ts n Z) = .ok .non (Tw ts n5 Z6) := by
      show (f_law_element a self [some (.loc 1), some (rootD nm as ks), some (.loc (p + 2)), none] (Tw ts n Z)).ret = _
      unfold f_law_element
      rw [sCons_nx s1, sCons_nx i2, sCons_nx s2, sCons_nx s3, sCons_nx s4, sCons_nx s5, sCons_nx s6]
      rfl
    obtain ⟨Z7, e7, D7⟩ := gcDS hfin DD0 ⟨_, D6⟩
    have hev : EvOk (qch (60 :: (nm ++ (l ++ bl))) ++ [(62, [evS nm as])] ++ (lk ++ qch r) ++ (qch (60 :: 47 :: (nm ++ b2)) ++ [(62, [evE nm])])) (szF ks + 2) := by
      have h1 := (EvOk.q (60 :: (nm ++ (l ++ bl)))).app (EvOk.one 62 [evS nm as] (by simpa using okD_evS gn ga))
      have h2 := (EvOk.q (60 :: 47 :: (nm ++ b2))).app (EvOk.one 62 [evE nm] (by simpa using okD_evE gn))
      have := (h1.app (k3.app (EvOk.q r))).app h2
      refine this.le ?_
      simp only [List.length_singleton]; omega
    refine ⟨qch (60 :: (nm ++ (l ++ bl))) ++ [(62, [evS nm as])] ++ (lk ++ qch r) ++ (qch (60 :: 47 :: (nm ++ b2)) ++ [(62, [evE nm])]), n5, Z7, ?_, ?_, hev, by omega, by omega, e7, ?_⟩
    · exact ElR.full a nm as as' l bl w1 w2 w3 gn ga (CoR.app a k1 (rmk_CoR a r1 _)) b2 c3
    · simp only [List.length_append, qch_len, List.length_cons, List.length_nil] at ht0 ⊢; omega
    · have e3 : T ++ List.map (·.1) (qch (60 :: (nm ++ (l ++ bl))) ++ [(62, [evS nm as])] ++ (lk ++ qch r) ++ (qch (60 :: 47 :: (nm ++ b2)) ++ [(62, [evE nm])])) = T5 := by
        simp only [List.map_append, qch_fst]
        rw [← hT5, ← hT4, ← hT2, ← hT1']
        simp
      have e4 : E ++ plc T.length (qch (60 :: (nm ++ (l ++ bl))) ++ [(62, [evS nm as])] ++ (lk ++ qch r) ++ (qch (60 :: 47 :: (nm ++ b2)) ++ [(62, [evE nm])])) = E4' ++ [.tup [evE nm, .int (T5.length : Int)]] := by
        have p1 : T.length + (60 :: (nm ++ (l ++ bl))).length + 1 = T2.length := by rw [L2', hT1]
        have p2 : T.length + (qch (60 :: (nm ++ (l ++ bl))) ++ [((62 : Nat), [evS nm as])]).length = T2.length := by rw [List.length_append, qch_len, L2', hT1]; rfl
        have p3 : T.length + (qch (60 :: (nm ++ (l ++ bl))) ++ [((62 : Nat), [evS nm as])] ++ (lk ++ qch r)).length + (60 :: 47 :: (nm ++ b2)).length + 1 = T5.length := by
          rw [List.length_append, ← Nat.add_assoc, p2, L5, L4]
          simp only [List.length_append, qch_len, List.length_cons]
          omega
        rw [plc_app, plc_app, plc_last, plc_last, p1, p2, p3, plc_app, plc_q, ← hE4]
        simp
      rw [e3, e4]
      exact D7
theorem elem_ok : ∀ k : Nat, k ≤ 10 → CE a (m_law_element a k) k
  | 0, _ => fun ts n Z p T E nm as ks _ _ hd => by omega
  | k + 1, hk => elem_step a (m_law_element a k) k (by omega) (elem_ok k (by omega))
end
end Law

set_option Elab.async false
set_option linter.all false
set_option maxRecDepth 100000
set_option maxHeartbeats 4000000
namespace Law
open PySem PySem.Spec PyProof.Rows L2 Rg
@[simp] theorem fl_feed : Str.ofString "feed" = ⟨#[102, 101, 101, 100]⟩ := by decide +kernel
@[simp] theorem fl_close : Str.ofString "close" = ⟨#[99, 108, 111, 115, 101]⟩ := by decide +kernel
@[simp] theorem tf_feed (V : VS) (n p g t : Nat) (pl : Int) : (TF V n p g t pl).lookup (⟨#[102, 101, 101, 100]⟩ : Str) = none := by simp [TF, List.lookup]
@[simp] theorem tf_close (V : VS) (n p g t : Nat) (pl : Int) : (TF V n p g t pl).lookup (⟨#[99, 108, 111, 115, 101]⟩ : Str) = none := by simp [TF, List.lookup]
section
variable (a : Ads)
/-! the reader is made -/
def V0 : VS := ⟨kOut, [], false, [], [], [], [], [], 0, kCon, []⟩
abbrev I0 (L : Nat) : O := .ins a.c_Tokens (TF V0 (L + 1) (L + 2) (L + 3) (L + 4) 0)
theorem init_ok (st : Stt) : m_Tokens_init a [.loc st.length] (st ++ [.ins a.c_Tokens []]) = .ok .non (st ++ [I0 a st.length, .lst [], .dct [], .lst [], .lst []]) := by
  have h : runB 1 (f_Tokens_init a) [.loc st.length] (st ++ [.ins a.c_Tokens []]) = .ok .non (st ++ [I0 a st.length, .lst [], .dct [], .lst [], .lst []]) := by
    simp [-getElem?_pos, f_Tokens_init, putFD]
    rfl
  show gcB _ _ _ = _
  unfold gcB
  rw [h, gcR_ok, if_neg]
  rintro ⟨⟨_, ho⟩, _⟩
  have hl : (st ++ [O.ins a.c_Tokens []]).length = st.length + 1 := by simp
  rcases ho st.length (by rw [hl]; omega) with e | ⟨o, e, w⟩
  · simp [I0, TF] at e
  · have e : some (I0 a st.length) = some o := by rw [← e]; simp
    cases e
    rw [hl, lowO_ins] at w
    have := w (⟨#[110, 97, 109, 101, 115]⟩, .loc (st.length + 1)) (by simp [TF])
    simp at this
theorem is_int_ok (c : Nat) (s : Stt) : m_is_integer a [.int (c : Int)] s = .ok (.bl true) s := by
  refine gcE ⟨[], ?_⟩ (by simp)
  simp [f_is_integer]
/-- the cells may be dropped, a list comes back -/
theorem gcTKL {L : Pr} {f : Fn} {ds : List D} {s s1 : Stt} {V V' : VS} {n p g t k : Nat} {pl : Int} (hl : Ab L s.length) (h : f ds s = .ok (.loc t) s1) (K0 : TK a L s k V) (K1 : TK' a L s1 k V' n p g t pl) (F : Fr L s s1) : ∃ s2, gcB f ds s = .ok (.loc t) s2 ∧ TK' a L s2 k V' n p g t pl ∧ Fr L s s2 := by
  have low : OldOk s s1 → n < s.length ∧ p < s.length ∧ g < s.length ∧ t < s.length := fun hc => by
    obtain ⟨n0, p0, g0, t0, pl0, K0⟩ := K0
    have hk : k < s.length := lt_of K0.ok
    rcases hc.2 k hk with e | ⟨o, e, w⟩
    · rw [K1.ok, K0.ok] at e
      have e := (O.ins.inj (Option.some.inj e)).2
      simp only [TF, List.cons.injEq, Prod.mk.injEq, D.loc.injEq] at e
      obtain ⟨_, _, ⟨_, rfl⟩, _, _, _, ⟨_, rfl⟩, ⟨_, rfl⟩, _, _, _, ⟨_, rfl⟩, _⟩ := e
      exact ⟨lt_of K0.on, lt_of K0.op, lt_of K0.og, lt_of K0.ot⟩
    · rw [K1.ok] at e
      cases e
      rw [lowO_ins] at w
      refine ⟨?_, ?_, ?_, ?_⟩
      · have := w (⟨#[110, 97, 109, 101, 115]⟩, .loc n) (by simp [TF]); simpa using this
      · have := w (⟨#[112, 97, 105, 114, 115]⟩, .loc p) (by simp [TF]); simpa using this
      · have := w (⟨#[115, 105, 103, 110, 115]⟩, .loc g) (by simp [TF]); simpa using this
      · have := w (⟨#[116, 111, 108, 100]⟩, .loc t) (by simp [TF]); simpa using this
  have hk : k < s.length := by obtain ⟨n0, p0, g0, t0, pl0, K0⟩ := K0; exact lt_of K0.ok
  unfold gcB
  rw [h, gcR_ok]
  split
  · rename_i hc
    obtain ⟨h1, h2, h3, h4⟩ := low hc.1
    refine ⟨_, rfl, ?_, ⟨hl.le (by rw [List.length_take]; have := hc.1.1; omega), fun i hi => by rw [List.getElem?_take_of_lt (hl i hi)]; exact F.2 i hi⟩⟩
    exact ⟨by rw [List.getElem?_take_of_lt hk]; exact K1.ok, by rw [List.getElem?_take_of_lt h1]; exact K1.on, by rw [List.getElem?_take_of_lt h2]; exact K1.op, by rw [List.getElem?_take_of_lt h3]; exact K1.og, by rw [List.getElem?_take_of_lt h4]; exact K1.ot, K1.ng, K1.nt, K1.gt, K1.Lk, K1.Ln, K1.Lp, K1.Lg, K1.Lt⟩
  · rename_i hc
    simp only
    split
    · rename_i h2
      have := (low h2.1).2.2.2
      have := h2.2.1
      omega
    · exact ⟨s1, rfl, K1, F⟩
theorem feed_ok (L : Pr) (s : Stt) (k m : Nat) (l : List Nat) (V V' : VS) (hL : Ab L s.length) (hm : L m) (hd : s[m]? = some (.lst (l.map fun (c : Nat) => D.int c))) (K : TK a L s k V) (hz : l.length < 16777216) (hr : RDL a l { V with td := [] } V') :
    ∃ t s2, m_Tokens_feed a [.loc k, .loc m] s = .ok (.loc t) s2 ∧ s2[t]? = some (.lst V'.td) ∧ TK a L s2 k V' ∧ Fr L s s2 ∧ ¬ L t := by
  have K0 := K
  obtain ⟨n, p, g, t, pl, K⟩ := K
  have hc := comp_map (L := s.length) (ok := fun st => items st (.loc m) = some (l.map fun (c : Nat) => D.int c)) (g := gN 2) (t := xYes) (f := xFn (m_is_integer a) (xCons (xV 2) (xNil))) (ρ := [some (.loc k), some (.loc m), none, none, none]) (φ := fun _ => .bl true) (st := s) rfl (fun _ => items_loc (at_old hd _)) (l.map fun (c : Nat) => D.int c) []
    (fun d hd => by
      obtain ⟨c, hc, rfl⟩ := List.mem_map.mp hd
      have := fun s => is_int_ok a c s
      exact ⟨_, rfl, fun l => ⟨by simp, by simp [this]⟩⟩) (by simp; omega)
  rw [List.map_map] at hc
  simp only [List.nil_append] at hc
  have eb : l.map ((fun _ => D.bl true) ∘ fun (c : Nat) => D.int (c : Int)) = l.map fun c => D.bl ((fun _ => true) c) := rfl
  rw [eb] at hc
  have hd1 : ∀ J, (s ++ J)[m]? = some (.lst (l.map fun (c : Nat) => D.int c)) := fun J => at_old hd J
  have i2 : Tokens_feed_i2 a [some (.loc k), some (.loc m), none, none, none] s = .nx [some (.loc k), some (.loc m), none, none, none] (s ++ [.lst (l.map fun c => D.bl ((fun _ => true) c))]) := by
    have hall : fAll [.loc s.length] (s ++ [.lst (l.map fun c => D.bl ((fun _ => true) c))]) = some (.bl true, s ++ [.lst (l.map fun c => D.bl ((fun _ => true) c))]) := by
      rw [fAll_at]
      have : (s ++ [O.lst (l.map fun c => D.bl ((fun _ => true) c))])[s.length]? = some (.lst (l.map fun c => D.bl ((fun _ => true) c))) := by simp
      rw [this]
      show (bools (l.map fun c => D.bl ((fun _ => true) c))).map (fun bs => (D.bl (bs.all id), s ++ [O.lst (l.map fun c => D.bl ((fun _ => true) c))])) = _
      rw [bools_map' (fun _ => true) l]
      simp
    simp only [items_at] at hc
    simp [-getElem?_pos, -fAll_at, Tokens_feed_i2, hd, hc, hall]
  have A := K.app [.lst (l.map fun c => D.bl ((fun _ => true) c)), .lst []]
  have hkl := lt_of A.ok
  have F0 : Fr L s (s ++ [.lst (l.map fun c => D.bl ((fun _ => true) c)), .lst []]) := Fr.app _ hL
  have K1 : TK' a L ((s ++ [O.lst (l.map fun c => D.bl ((fun _ => true) c)), O.lst []]).set k (.ins a.c_Tokens (TF { V with td := [] } n p g (s.length + 1) pl))) k { V with td := [] } n p g (s.length + 1) pl := by
    have hk := lt_of K.ok
    have hn := lt_of K.on
    have hg := lt_of K.og
    exact ⟨set_at_eq A.ok, by rw [set_at_ne K.kn]; exact A.on, by rw [set_at_ne K.kp]; exact A.op, by rw [set_at_ne K.kg]; exact A.og, by rw [set_at_ne (by omega)]; simp, K.ng, by omega, by omega, K.Lk, K.Ln, K.Lp, K.Lg, hL.no (by omega)⟩
  have F1 := F0.trans (Fr.set (.ins a.c_Tokens (TF { V with td := [] } n p g (s.length + 1) pl)) F0.1 K.Lk)
  obtain ⟨s2, y2, y3, y4, e, ⟨n2, p2, g2, t2, pl2, K2⟩, F2⟩ := hr L _ k m (l.map fun (c : Nat) => D.int c) [] none none none F1.1 hm ((F1.2 m hm).trans hd) ⟨n, p, g, _, pl, K1⟩
  rw [List.append_nil, forF_nil' (items_loc ((F2.2 m hm).trans ((F1.2 m hm).trans hd)))] at e
  have hkk : k < s.length := lt_of K.ok
  have hrun : runB 5 (f_Tokens_feed a) [.loc k, .loc m] s = .ok (.loc t2) s2 := by
    have md := (F1.2 m hm).trans hd
    have ak := A.ok
    have k3 : ∀ J, (s ++ J)[k]? = some (.ins a.c_Tokens (TF V n p g t pl)) := fun J => at_old K.ok J
    have hput : putFD (⟨#[116, 111, 108, 100]⟩ : Str) (.loc (s.length + 1)) (TF V n p g t pl) = TF { V with td := [] } n p g (s.length + 1) pl := tf_p10 _ _ _ _ _ _ _
    have k2 := K2.ok
    simp only [items_at] at e
    simp [-getElem?_pos, f_Tokens_feed, Tokens_feed_f1, i2, k3, hput, md, e, k2]
  obtain ⟨s3, e3, K3, F3⟩ := gcTKL a (f := runB 5 (f_Tokens_feed a)) (ds := [.loc k, .loc m]) hL hrun K0 K2 (F1.trans F2)
  exact ⟨t2, s3, e3, K3.ot, ⟨n2, p2, g2, t2, pl2, K3⟩, F3, K3.Lt⟩
theorem close_ok (V : VS) (n p g t : Nat) (pl : Int) (k : Nat) (s : Stt) (h : s[k]? = some (.ins a.c_Tokens (TF V n p g t pl))) (h1 : V.rd = kOut) (h2 : V.en = true) : m_Tokens_close a [.loc k] s = .ok .non s := by
  refine gcE ⟨[], ?_⟩ (by simp)
  simp [-getElem?_pos, f_Tokens_close, Tokens_close_i1, h, h1, h2, kOut]
end
end Law

set_option Elab.async false
set_option linter.all false
set_option maxRecDepth 100000
set_option maxHeartbeats 4000000
namespace Law
open PySem PySem.Spec PyProof.Rows L2 Rg
section
variable (a : Ads) {ts : List Int} {n : Int} {Z : Stt}
/-- a whole text -/
def DocR (c : List (Nat × List D)) : Prop := ∀ V : VS, V.rd = kOut → V.en = false → V.ns = [] → ∃ V', Ch a c V V' ∧ V'.rd = kOut ∧ V'.en = true
theorem out_rmk {r : List Nat} (h : Rmk r) (V : VS) (hr : V.rd = kOut) (hn : V.ns = []) : QR a r V V := by
  rcases h.2 with rfl | ⟨l, h1, rfl⟩
  · exact qr_nil a V
  · have := remark_runQ a l V (.inl hr) h1
    have hb : btw V.ns = V.rd := by rw [hn, hr]; rfl
    have e : ({ V with rd := btw V.ns } : VS) = V := by rw [hb]
    rwa [e] at this
theorem docR_of {b1 r1 b2 b3 r2 b4 : List Nat} {l : List (Nat × List D)} {d : Nat} (hd : d ≤ 60) (h1 : ∀ c ∈ b1, c ∈ [32, 9, 10]) (h2 : Rmk r1) (h3 : ∀ c ∈ b2, c ∈ [32, 9, 10]) (hl : ElR a l d) (h4 : ∀ c ∈ b3, c ∈ [32, 9, 10]) (h5 : Rmk r2) (h6 : ∀ c ∈ b4, c ∈ [32, 9, 10]) : DocR a (qch (b1 ++ (r1 ++ b2)) ++ l ++ qch (b3 ++ (r2 ++ b4))) := fun V hr he hn => by
  have q1 := qr_app a (out_blsQ a V b1 hr h1) (qr_app a (out_rmk a h2 V hr hn) (out_blsQ a V b2 hr h3))
  obtain ⟨V1, c1, g1, g2, g3⟩ := hl V (.inr hr) he (by rw [hn]; simpa using hd)
  have hr1 : V1.rd = kOut := by rw [g1, hn]; rfl
  have hn1 : V1.ns = [] := g2.trans hn
  have q2 := qr_app a (out_blsQ a V1 b3 hr1 h4) (qr_app a (out_rmk a h5 V1 hr1 hn1) (out_blsQ a V1 b4 hr1 h6))
  exact ⟨V1, Ch.app a (Ch.app a q1 c1) q2, hr1, by rw [g3, hn]; rfl⟩
theorem doc_ok (ts : List Int) : ∃ (c : List (Nat × List D)) (n' : Int) (Z' : Stt), DocR a c ∧ c.length ≤ 6100000 ∧ EvOk c 15100 ∧ 0 ≤ n' ∧ n' ≤ 10000000 ∧ m_law_document a [.loc 1] (Tw ts 0 []) = .ok (.loc 2) (Tw ts n' Z') ∧ DS 0 Z' (c.map (·.1)) (plc 0 c) := by
  obtain ⟨b1, n1, c1, c2, c3, c4, c5, hb1⟩ := blanks_ok a (ts := ts) (n := 0) (Z := [.dct []]) 0 (by omega) (by omega) (by omega)
  obtain ⟨r1, n2, d1, d2, d3, hr1⟩ := remark_ok a (ts := ts) (n := n1) (Z := [.dct []]) (by omega) (by omega)
  obtain ⟨b2, n3, e1, e2, e3, e4, e5, hb2⟩ := blanks_ok a (ts := ts) (n := n2) (Z := [.dct []]) 0 (by omega) (by omega) (by omega)
  have hrl := d1.1
  have D0 : DSq 0 1 [O.dct (OD (b1 ++ (r1 ++ b2)) 1), .lst []] (b1 ++ (r1 ++ b2)) [] := ⟨rfl, rfl⟩
  obtain ⟨nm, as, ks, n4, g1, g2, g3, g4, g5, ht⟩ := tree_gen a 5 7 (by omega) (by omega) ts n3 [O.dct (OD (b1 ++ (r1 ++ b2)) 1), .lst []] 0 (by omega) (by omega) (by omega) (by have : TT 5 = 55970 := rfl; omega)
  have g3' : szF ks ≤ 15016 := g3
  have g5' : n4 ≤ n3 + 55970 := g5
  have hT0 : (b1 ++ (r1 ++ b2)).length ≤ 14 := by simp only [List.length_append]; omega
  obtain ⟨l, n5, Z5, f1, f2, f3, f4, f5, he, q5, D5⟩ := elem_ok a 7 (by omega) ts n4 [O.dct (OD (b1 ++ (r1 ++ b2)) 1), .lst []] 0 (b1 ++ (r1 ++ b2)) [] nm as ks ⟨1, D0⟩ g1 (by omega) (by omega) (by simp; omega) (by omega) (by omega)
  have L5 : (b1 ++ (r1 ++ b2) ++ l.map (·.1)).length = (b1 ++ (r1 ++ b2)).length + l.length := by rw [List.length_append, List.length_map]
  generalize hT5 : b1 ++ (r1 ++ b2) ++ l.map (·.1) = T5 at D5 L5
  obtain ⟨b3, n6, h1, h2, h3, h4, h5, hb3⟩ := blanks_ok a (ts := ts) (n := n5) (Z := Z5) 0 (by omega) (by omega) (by omega)
  obtain ⟨r2, n7, i1, i2, i3, hr2⟩ := remark_ok a (ts := ts) (n := n6) (Z := Z5) (by omega) (by omega)
  obtain ⟨b4, n8, j1, j2, j3, j4, j5, hb4⟩ := blanks_ok a (ts := ts) (n := n7) (Z := Z5) 0 (by omega) (by omega) (by omega)
  have hrl2 := i1.1
  have D6 := D5.txt (T5 ++ (b3 ++ (r2 ++ b4)))
  have o1 := D5.oT (ts := ts) n5
  have o2 := D5.sT (ts := ts) n8 (T5 ++ (b3 ++ (r2 ++ b4)))
  generalize hZ6 : Z5.set 0 (.dct (OD (T5 ++ (b3 ++ (r2 ++ b4))) q5)) = Z6 at D6 o2
  refine ⟨qch (b1 ++ (r1 ++ b2)) ++ l ++ qch (b3 ++ (r2 ++ b4)), n8, Z6, docR_of a (by omega) c3 d1 e3 f1 h3 i1 j3, ?_, ?_, by omega, by omega, ?_, q5, ?_⟩
  · simp only [List.length_append, qch_len]
    simp only [List.length_append] at hT0
    omega
  · exact (((EvOk.q (b1 ++ (r1 ++ b2))).app f3).app (EvOk.q (b3 ++ (r2 ++ b4)))).le (by omega)
  · have hrun : runB 2 (f_law_document a) [.loc 1] (Tw ts 0 []) = .ok (.loc 2) (Tw ts n8 Z6) := by
      have x1 : sSet 1 (xDispV [.inr "text", .inr "events"] (xCons (x2 oAdd (x2 oAdd (xFn (m_law_blanks a) (xCons (xV 0) (xCons (xC (.int 0)) (xNil)))) (xFn (m_law_remark a) (xCons (xV 0) (xNil)))) (xFn (m_law_blanks a) (xCons (xV 0) (xCons (xC (.int 0)) (xNil))))) (xCons (xLst (xNil)) (xNil)))) [some (.loc 1), none] (Tw ts 0 []) = .nx [some (.loc 1), some (.loc 2)] (Tw ts n3 [O.dct (OD (b1 ++ (r1 ++ b2)) 1), .lst []]) := by
        simp only [Int.natCast_zero, Int.cast_ofNat_Int] at hb1 hb2
        have ap : Tw ts 0 [] ++ [O.dct []] = Tw ts 0 [.dct []] := rfl
        have ap2 : Tw ts n3 [O.dct []] ++ [O.lst []] = Tw ts n3 [.dct [], .lst []] := rfl
        have at2 : (Tw ts n3 [O.dct [], .lst []])[2]? = some (.dct []) := rfl
        have st2 : ∀ o, (Tw ts n3 [O.dct [], .lst []]).set 2 o = Tw ts n3 [o, .lst []] := fun o => rfl
        have hl0 : (Tw ts 0 []).length = 2 := rfl
        have hl1 : (Tw ts n3 [O.dct []]).length = 3 := rfl
        simp (disch := ((try simp only [List.length_append, List.length_cons, List.length_nil]); omega)) [-getElem?_pos, -oAdd_ss, oAdd_tx, ap, ap2, hb1, hr1, hb2, dispEnd, hl0, hl1, at2, st2, mergeD, putD, OD]
      have x2 : sExpr (xFn (m_law_element a 7) (xCons (xV 0) (xCons (xFn (m_law_tree a 7) (xCons (xV 0) (xCons (xC (.int 0)) (xNil)))) (xCons (xV 1) (xNil))))) [some (.loc 1), some (.loc 2)] (Tw ts n3 [O.dct (OD (b1 ++ (r1 ++ b2)) 1), .lst []]) = .nx [some (.loc 1), some (.loc 2)] (Tw ts n5 Z5) := by
        have he' : m_law_element a 7 [.loc 1, rootD nm as ks, .loc 2] (Tw ts n4 [O.dct (OD (b1 ++ (r1 ++ b2)) 1), .lst []]) = .ok .non (Tw ts n5 Z5) := he
        have ht' : m_law_tree a 7 [.loc 1, .int 0] (Tw ts n3 [O.dct (OD (b1 ++ (r1 ++ b2)) 1), .lst []]) = .ok (rootD nm as ks) (Tw ts n4 [O.dct (OD (b1 ++ (r1 ++ b2)) 1), .lst []]) := ht
        simp [-getElem?_pos, ht', he']
      have x3 : sPut (xV 1) (xC (.str "text")) (Rg.x2 oAdd (Rg.x2 oAdd (Rg.x2 oAdd (Rg.x2 oGet (xV 1) (xC (.str "text"))) (xFn (m_law_blanks a) (xCons (xV 0) (xCons (xC (.int 0)) (xNil))))) (xFn (m_law_remark a) (xCons (xV 0) (xNil)))) (xFn (m_law_blanks a) (xCons (xV 0) (xCons (xC (.int 0)) (xNil))))) [some (.loc 1), some (.loc 2)] (Tw ts n5 Z5) = .nx [some (.loc 1), some (.loc 2)] (Tw ts n8 Z6) := by
        simp only [Int.natCast_zero, Int.cast_ofNat_Int] at hb3 hb4
        have o1' : oGet (.loc 2) (.str kTx) (Tw ts n5 Z5) = some (.str (tx T5), Tw ts n5 Z5) := o1
        have o2' : ∀ ρ, setDk (.loc 2) (.str kTx) (.str (tx (T5 ++ (b3 ++ (r2 ++ b4))))) ρ (Tw ts n8 Z5) = .nx ρ (Tw ts n8 Z6) := o2
        simp (disch := ((try simp only [List.length_append, List.length_cons, List.length_nil]); omega)) [-getElem?_pos, -oAdd_ss, oAdd_tx, hb3, hr2, hb4, o1', o2']
      show (f_law_document a [some (.loc 1), none] (Tw ts 0 [])).ret = _
      unfold f_law_document
      rw [sCons_nx x1, sCons_nx x2, sCons_nx x3]
      rfl
    show gcB _ _ _ = _
    unfold gcB
    rw [hrun, gcR_ok, if_neg (by rintro ⟨_, w⟩; simp [tw_len] at w)]
    simp only
    rw [if_neg]
    rintro ⟨_, _, o, w1, w2⟩
    have : (Tw ts n8 Z6)[2]? = some (.dct (OD (T5 ++ (b3 ++ (r2 ++ b4))) q5)) := D6.d
    rw [this] at w1
    cases w1
    rw [lowO_dct] at w2
    have := w2 (.inr kEv, .loc (q5 + 2)) (by simp [OD])
    simp [tw_len] at this
    omega
  · have e1 : List.map (·.1) (qch (b1 ++ (r1 ++ b2)) ++ l ++ qch (b3 ++ (r2 ++ b4))) = T5 ++ (b3 ++ (r2 ++ b4)) := by
      rw [← hT5]; simp only [List.map_append, qch_fst]
    have e2 : plc 0 (qch (b1 ++ (r1 ++ b2)) ++ l ++ qch (b3 ++ (r2 ++ b4))) = [] ++ plc (b1 ++ (r1 ++ b2)).length l := by
      rw [plc_app, plc_app, plc_q, plc_q, qch_len, Nat.zero_add, List.append_nil]
    rw [e1, e2]
    exact D6
end
end Law

set_option Elab.async false
set_option linter.all false
set_option maxRecDepth 100000
set_option maxHeartbeats 4000000
namespace Law
open PySem PySem.Spec PyProof.Rows L2 Rg
theorem ord_1 (c : Nat) (s : Stt) : fOrd [.str ⟨#[c]⟩] s = some (.int (c : Int), s) := rfl
theorem ints_M {st : Stt} : ∀ l : List Nat, (l.map fun (c : Nat) => D.int c).mapM (toD st 59) = some (l.map fun (c : Nat) => PyData.int c)
  | [] => rfl
  | c :: l => by
    rw [List.map_cons, List.mapM_cons, ints_M l]
    rfl
abbrev byD (T : List Nat) : List D := T.map fun (c : Nat) => D.int c
def fst1 : D → D
  | .tup (e :: _) => e
  | _ => .non
theorem plc_fst : ∀ (n : Nat) (c : List (Nat × List D)), (plc n c).map fst1 = c.flatMap (·.2)
  | _, [] => rfl
  | n, (b, ev) :: c => by
    simp only [plc, List.map_append, List.map_map, plc_fst (n + 1) c, List.flatMap_cons]
    congr 1
    exact List.map_id' ev
theorem plc_mem : ∀ (n : Nat) (c : List (Nat × List D)) (d : D), d ∈ plc n c → ∃ e k, d = .tup [e, .int ((k : Nat) : Int)] ∧ e ∈ c.flatMap (·.2) ∧ n < k ∧ k ≤ n + c.length
  | _, [], d, h => by cases h
  | n, (b, ev) :: c, d, h => by
    simp only [plc] at h
    rcases List.mem_append.mp h with h | h
    · obtain ⟨e, he, rfl⟩ := List.mem_map.mp h
      exact ⟨e, n + 1, rfl, by simp [he], by omega, by simp⟩
    · obtain ⟨e, k, h1, h2, h3, h4⟩ := plc_mem (n + 1) c d h
      refine ⟨e, k, h1, ?_, by omega, by simp only [List.length_cons]; omega⟩
      rw [List.flatMap_cons]
      exact List.mem_append.mpr (.inr h2)
section
variable (a : Ads)
theorem bytes_ok (T : List Nat) (hz : T.length < 16777216) (st : Stt) : m_law_bytes a [.str (tx T)] st = .ok (.loc st.length) (st ++ [.lst (byD T)]) := by
  have hc := comp_map (L := st.length) (ok := fun _ => True) (g := gN 1) (t := xYes) (f := xCall fOrd (xCons (xV 1) (xNil))) (ρ := [some (.str (tx T)), none]) (φ := fun d => match d with | .str x => .int ((x.cps.toList.headD 0 : Nat) : Int) | _ => .non) (st := st) rfl (fun _ => trivial) (T.map fun c => D.str ⟨#[c]⟩) []
    (fun d hd => by
      obtain ⟨c, hc, rfl⟩ := List.mem_map.mp hd
      exact ⟨_, rfl, fun l => ⟨by simp, by simp [ord_1]⟩⟩) (by simp; omega)
  rw [List.map_map] at hc
  have eb : T.map ((fun d => match d with | D.str x => D.int ((x.cps.toList.headD 0 : Nat) : Int) | _ => D.non) ∘ fun c => D.str ⟨#[c]⟩) = byD T := rfl
  rw [eb, List.nil_append] at hc
  refine gcN ⟨[.lst (byD T)], st.length, ?_, Nat.le_refl _, by simp⟩ (fun d hd => by
    obtain ⟨c, hc, rfl⟩ := List.mem_map.mp hd
    simp)
  simp only [byD] at hc ⊢
  simp [f_law_bytes, hc]
theorem evl_comp (c : List (Nat × List D)) (hz : (plc 0 c).length < 1000000) (st : Stt) (ρ : En) (x : Option D) (hρ : ρ.length = 14) : compF st.length (fun _ => True) (gN 9) xYes (x2 oIx (xV 9) (xC (.int 0))) ρ (plc 0 c) (st ++ [.lst []]) = .ok () (st ++ [.lst (c.flatMap (·.2))]) := by
  have hc := comp_map (L := st.length) (ok := fun _ => True) (g := gN 9) (t := xYes) (f := x2 oIx (xV 9) (xC (.int 0))) (ρ := ρ) (φ := fst1) (st := st) rfl (fun _ => trivial) (plc 0 c) []
    (fun d hd => by
      obtain ⟨e, k, rfl, _⟩ := plc_mem 0 c d hd
      refine ⟨_, rfl, fun l => ⟨by simp, ?_⟩⟩
      have : (ρ.set 9 (some (D.tup [e, .int (k : Int)])))[9]? = some (some (D.tup [e, .int (k : Int)])) := List.getElem?_set_self (by omega)
      simp [xV, this, fst1]) (by simp only [List.length_nil]; omega)
  rw [plc_fst, List.nil_append] at hc
  exact hc
theorem fr_app {st s : Stt} (F : Fr (fun i => i < st.length) st s) : ∃ J, s = st ++ J := by
  refine ⟨s.drop st.length, ?_⟩
  have hl : st.length ≤ s.length := by
    cases h : st.length with
    | zero => omega
    | succ n => have := F.1 n (by omega); omega
  have : s.take st.length = st := by
    refine List.ext_getElem? fun i => ?_
    by_cases hi : i < st.length
    · rw [List.getElem?_take_of_lt hi]; exact F.2 i hi
    · rw [List.getElem?_eq_none (by rw [List.length_take]; omega), List.getElem?_eq_none (by omega)]
  conv => lhs; rw [← List.take_append_drop st.length s, this]
theorem new_TK (st : Stt) : TK a (fun i => i < st.length) (st ++ [I0 a st.length, .lst [], .dct [], .lst [], .lst []]) st.length V0 := by
  refine ⟨st.length + 1, st.length + 2, st.length + 3, st.length + 4, 0, ?_, ?_, ?_, ?_, ?_, by omega, by omega, by omega, by omega, by omega, by omega, by omega, by omega⟩ <;> simp [V0]
theorem make_ok (st : Stt) : mkIns a.c_Tokens (m_Tokens_init a) [] st = .ok (.loc st.length) (st ++ [I0 a st.length, .lst [], .dct [], .lst [], .lst []]) := by
  have hi := init_ok a st
  unfold mkIns
  rw [hi]
  rfl
theorem read_ok (c : List (Nat × List D)) (hD : DocR a c) (hz : c.length < 16000000) {z : Nat} (he : EvOk c z) (hzz : z < 1000000) (st : Stt) (m : Nat) (hm : st[m]? = some (.lst (byD (c.map (·.1))))) :
    m_read_text a [.loc m] st = .ok (.loc st.length) (st ++ [.lst (c.flatMap (·.2))]) := by
  obtain ⟨V', hC, v1, v2⟩ := hD V0 rfl rfl rfl
  have hr := Ch.rdl a hC [] (by have := he.1; simp only [List.length_nil]; omega)
  have hml : m < st.length := lt_of hm
  have hA : Ab (fun i => i < st.length) (st ++ [I0 a st.length, .lst [], .dct [], .lst [], .lst []]).length := fun i hi => by simp; omega
  obtain ⟨t, s2, e, h1, ⟨n2, p2, g2, t2, pl2, h2⟩, F, hlt⟩ := feed_ok a (fun i => i < st.length) _ st.length m (c.map (·.1)) V0 _ hA hml (at_old hm _) (new_TK a st) (by rw [List.length_map]; omega) hr
  have hc := close_ok a { V' with td := [] ++ c.flatMap (·.2) } n2 p2 g2 t2 pl2 st.length s2 h2.ok v1 v2
  have F0 : Fr (fun i => i < st.length) st s2 := (Fr.app [I0 a st.length, .lst [], .dct [], .lst [], .lst []] (fun i hi => hi)).trans F
  obtain ⟨J, rfl⟩ := fr_app F0
  refine gcN ⟨J, t, ?_, by omega, h1⟩ (fun d hd => okD_low 4 d _ (he.2 d hd))
  have hk2 := h2.ok
  simp [-getElem?_pos, f_read_text, make_ok a st, e, hc, hk2]
end
end Law

set_option Elab.async false
set_option linter.all false
set_option maxRecDepth 100000
set_option maxHeartbeats 4000000
namespace Law
open PySem PySem.Spec PyProof.Rows L2 Rg
structure CutsOk (cs : List Nat) (N : Nat) : Prop where
  two : 2 ≤ cs.length
  len : cs.length ≤ 100
  h0 : cs[0]? = some 0
  hN : cs[cs.length - 1]? = some N
  pw : cs.Pairwise (· ≤ ·)
theorem intsOf_of : ∀ l : List Int, intsOf (l.map D.int) = some l
  | [] => rfl
  | x :: l => by
    show (intsOf (l.map D.int)).map (x :: ·) = _
    rw [intsOf_of l]; rfl
theorem sortD_ints (l : List Int) (h : l.length < 64) (hne : l ≠ []) : sortD (l.map D.int) = some ((sortI l).map D.int) := by
  unfold sortD
  rw [if_pos (by simpa using h), intsOf_of]
  cases l with
  | nil => exact absurd rfl hne
  | cons x l => rfl
theorem sortI_perm (l : List Int) : (sortI l).Perm l := List.mergeSort_perm l leI
theorem sortI_pw (l : List Int) : (sortI l).Pairwise (· ≤ ·) := (List.pairwise_mergeSort leI_trans leI_total l).imp fun {x y} h => of_decide_eq_true h
theorem pw_at {l : List Int} (h : l.Pairwise (· ≤ ·)) {i j : Nat} {x y : Int} (hi : l[i]? = some x) (hj : l[j]? = some y) (hij : i ≤ j) : x ≤ y := by
  obtain ⟨h1, e1⟩ := List.getElem?_eq_some_iff.mp hi
  obtain ⟨h2, e2⟩ := List.getElem?_eq_some_iff.mp hj
  subst e1 e2
  by_cases e : i = j
  · subst e; exact Int.le_refl _
  · exact List.pairwise_iff_getElem.mp h i j h1 h2 (by omega)
theorem cuts_of (l : List Int) (N : Nat) (h2 : 2 ≤ l.length) (hl : l.length ≤ 60) (h0 : (0 : Int) ∈ l) (hN : (N : Int) ∈ l) (hb : ∀ x ∈ l, 0 ≤ x ∧ x ≤ N) : ∃ cs : List Nat, CutsOk cs N ∧ (sortI l).map D.int = byD cs := by
  have hp := sortI_perm l
  have hlen : (sortI l).length = l.length := hp.length_eq
  have hmem : ∀ x ∈ sortI l, 0 ≤ x ∧ x ≤ N := fun x hx => hb x (hp.mem_iff.mp hx)
  have pw := sortI_pw l
  have hmap : ((sortI l).map Int.toNat).map (fun (c : Nat) => D.int c) = (sortI l).map D.int := by
    rw [List.map_map]
    refine List.map_congr_left fun x hx => ?_
    show D.int ((x.toNat : Nat) : Int) = D.int x
    rw [Int.toNat_of_nonneg (hmem x hx).1]
  refine ⟨(sortI l).map Int.toNat, ⟨by simpa [hlen] using h2, by simp [hlen]; omega, ?_, ?_, ?_⟩, hmap.symm⟩
  · obtain ⟨i, hi⟩ := List.getElem?_of_mem (hp.mem_iff.mpr h0)
    obtain ⟨x, hx⟩ : ∃ x, (sortI l)[0]? = some x := ⟨_, List.getElem?_eq_getElem (by omega)⟩
    have h1 := pw_at pw hx hi (by omega)
    have h3 := (hmem x (List.mem_of_getElem? hx)).1
    rw [List.getElem?_map, hx]
    have : x = 0 := by omega
    rw [this]; rfl
  · obtain ⟨i, hi⟩ := List.getElem?_of_mem (hp.mem_iff.mpr hN)
    have hil := (List.getElem?_eq_some_iff.mp hi).1
    obtain ⟨x, hx⟩ : ∃ x, (sortI l)[(sortI l).length - 1]? = some x := ⟨_, List.getElem?_eq_getElem (by omega)⟩
    have h1 := pw_at pw hi hx (by omega)
    have h3 := (hmem x (List.mem_of_getElem? hx)).2
    rw [List.length_map, List.getElem?_map, hx]
    have : x = N := by omega
    rw [this]; simp
  · refine List.pairwise_map.mpr (pw.imp_of_mem fun {x y} hx hy h => ?_)
    have := (hmem x hx).1
    omega
theorem cuts_range (N : Nat) (h : N < 80) (h0 : 0 < N) : CutsOk (List.range (N + 1)) N ∧ intsD 0 (N + 1) = byD (List.range (N + 1)) := by
  refine ⟨⟨by simp; omega, by simp; omega, by simp, by simp, List.pairwise_le_range⟩, ?_⟩
  unfold intsD byD
  refine List.map_congr_left fun k _ => ?_
  simp
section
variable (a : Ads) {ts : List Int} {n : Int} {Z : Stt}
theorem cuts_ok (N : Nat) (hN : N ≤ 16000000) (h0 : 0 ≤ n) (h1 : n < 500000000) : ∃ (cs : List Nat) (n' : Int), CutsOk cs N ∧ n ≤ n' ∧ n' ≤ n + 13 ∧ m_law_cuts a [.loc 1, .int (N : Int)] (Tw ts n Z) = .ok (.loc (Tw ts n Z).length) (Tw ts n' (Z ++ [.lst (byD cs)])) := by
  obtain ⟨v, v0, v1, hv⟩ := pick_ok a (ts := ts) (n := n) (Z := Z ++ [.lst [.int 0]]) 12 h0 (by omega) (by omega)
  obtain ⟨ρ', s', e, is, n', x3, g1, g2, g3, g4, g5, hρ, hs⟩ := forF_inv (ok := fun _ => True) (g := gN 3) (f := law_cuts_fb1 a) (its := intsD 0 v.toNat)
    (fun k ρ s => ∃ (is : List Int) (n' : Int) (x3 : Option D), is.length = k + 1 ∧ (0 : Int) ∈ is ∧ (∀ x ∈ is, 0 ≤ x ∧ x ≤ N) ∧ n + 1 ≤ n' ∧ n' ≤ n + 1 + k ∧ ρ = [some (.loc 1), some (.int (N : Int)), some (.loc (Z.length + 2)), x3] ∧ s = Tw ts n' (Z ++ [.lst (is.map D.int)]))
    (fun _ _ _ _ _ => trivial)
    (fun k d ρ s hd ⟨is, n', x3, g1, g2, g3, g4, g5, hρ, hs⟩ => by
      subst hρ hs
      have hk := (mem_ints hd).1
      obtain ⟨u, u0, u1, hu⟩ := pick_ok a (ts := ts) (n := n') (Z := Z ++ [.lst (is.map D.int)]) ((N : Int) + 1) (by omega) (by omega) (by omega)
      have c1 : (Tw ts (n' + 1) (Z ++ [.lst (is.map D.int)]))[Z.length + 2]? = some (.lst (is.map D.int)) := by rw [tw_at]; simp
      have c0 : (Tw ts n' (Z ++ [.lst (is.map D.int)]))[Z.length + 2]? = some (.lst (is.map D.int)) := by rw [tw_at]; simp
      have st1 : ∀ o, (Tw ts (n' + 1) (Z ++ [.lst (is.map D.int)])).set (Z.length + 2) o = Tw ts (n' + 1) (Z ++ [o]) := fun o => by rw [tw_set]; simp
      have hz : is.length < 16777216 := by omega
      refine ⟨_, rfl, _, _, .inl ?_, is ++ [u], n' + 1, some d, by simp [g1], by simp [g2], ?_, by omega, by omega, rfl, rfl⟩
      · simp [-getElem?_pos, law_cuts_fb1, hu, c0, c1, st1, hz]
      · intro x hx
        rcases List.mem_append.mp hx with hx | hx
        · exact g3 x hx
        · rw [List.mem_singleton.mp hx]; omega)
    (ρ := [some (.loc 1), some (.int (N : Int)), some (.loc (Z.length + 2)), none]) (st := Tw ts (n + 1) (Z ++ [.lst [.int 0]])) ⟨[0], n + 1, none, rfl, by simp, by simp, by omega, by simp, rfl, rfl⟩
  subst hρ hs
  rw [len_ints] at g1 g5
  obtain ⟨cs, k1, k2⟩ := cuts_of (is ++ [(N : Int)]) N (by simp; omega) (by simp; omega) (by simp [g2]) (by simp) (fun x hx => by
    rcases List.mem_append.mp hx with hx | hx
    · exact g3 x hx
    · rw [List.mem_singleton.mp hx]; omega)
  have hsd := sortD_ints (is ++ [(N : Int)]) (by simp; omega) (by simp)
  rw [k2] at hsd
  refine ⟨cs, n', k1, by omega, by omega, ?_⟩
  refine gcTN ⟨[.lst (is.map D.int), .lst [.int (N : Int)], .lst ((is ++ [(N : Int)]).map D.int), .lst (byD cs)], Z.length + 5, ?_, ?_, ?_⟩ (fun d hd => by
    obtain ⟨c, hc, rfl⟩ := List.mem_map.mp hd
    simp)
  · have hr := wkRange_i (i := v) (by omega) (by omega) (Tw ts (n + 1) (Z ++ [.lst [.int 0]]))
    have hl0 : (Tw ts n Z).length = Z.length + 2 := rfl
    have hl1 : (Tw ts n' (Z ++ [O.lst (is.map D.int)])).length = Z.length + 3 := by simp [tw_len]
    have hl3 : (Tw ts n' (Z ++ [O.lst (is.map D.int), .lst [.int (N : Int)], .lst ((is ++ [(N : Int)]).map D.int)])).length = Z.length + 5 := by simp [tw_len]
    have ad : oAdd (.loc (Z.length + 2)) (.loc (Z.length + 3)) (Tw ts n' (Z ++ [O.lst (is.map D.int), .lst [.int (N : Int)]])) = some (.loc (Z.length + 4), Tw ts n' (Z ++ [O.lst (is.map D.int), .lst [.int (N : Int)], .lst ((is ++ [(N : Int)]).map D.int)])) := by
      have c1 : (Tw ts n' (Z ++ [O.lst (is.map D.int), .lst [.int (N : Int)]]))[Z.length + 2]? = some (.lst (is.map D.int)) := by rw [tw_at]; simp
      have c2 : (Tw ts n' (Z ++ [O.lst (is.map D.int), .lst [.int (N : Int)]]))[Z.length + 1 + 2]? = some (.lst [.int (N : Int)]) := by rw [tw_at]; simp
      rw [oAdd_ll, c1, show Z.length + 3 = Z.length + 1 + 2 from rfl, c2]
      dsimp only
      rw [if_pos (le_sz (by simp; omega)), tw_app]
      simp [tw_len]
    have so : fSorted [.loc (Z.length + 4)] (Tw ts n' (Z ++ [O.lst (is.map D.int), .lst [.int (N : Int)], .lst ((is ++ [(N : Int)]).map D.int)])) = some (.loc (Z.length + 5), Tw ts n' (Z ++ [O.lst (is.map D.int), .lst [.int (N : Int)], .lst ((is ++ [(N : Int)]).map D.int), .lst (byD cs)])) := by
      have c1 : (Tw ts n' (Z ++ [O.lst (is.map D.int), .lst [.int (N : Int)], .lst ((is ++ [(N : Int)]).map D.int)]))[Z.length + 2 + 2]? = some (.lst ((is ++ [(N : Int)]).map D.int)) := by rw [tw_at]; simp
      rw [fSorted_at, show Z.length + 4 = Z.length + 2 + 2 from rfl, c1]
      dsimp only
      rw [hsd, hl3]
      simp [tw_app]
    have lf : law_cuts_f1 a [some (.loc 1), some (.int (N : Int)), some (.loc (Z.length + 2)), none] (Tw ts n (Z ++ [.lst [.int 0]])) = .nx [some (.loc 1), some (.int (N : Int)), some (.loc (Z.length + 2)), x3] (Tw ts n' (Z ++ [.lst (is.map D.int)])) := by
      simp [-getElem?_pos, law_cuts_f1, hv, hr, e]
    have x1 : sSet 2 (xLst (xCons (xC (.int 0)) (xNil))) [some (.loc 1), some (.int (N : Int)), none, none] (Tw ts n Z) = .nx [some (.loc 1), some (.int (N : Int)), some (.loc (Z.length + 2)), none] (Tw ts n (Z ++ [.lst [.int 0]])) := by
      simp [hl0, tw_app]
    have x3' : sRet (xCall fSorted (xCons (Rg.x2 oAdd (xV 2) (xLst (xCons (xV 1) (xNil)))) (xNil))) [some (.loc 1), some (.int (N : Int)), some (.loc (Z.length + 2)), x3] (Tw ts n' (Z ++ [.lst (is.map D.int)])) = .rt (.loc (Z.length + 5)) (Tw ts n' (Z ++ [.lst (is.map D.int), .lst [.int (N : Int)], .lst ((is ++ [(N : Int)]).map D.int), .lst (byD cs)])) := by
      simp [-getElem?_pos, -oAdd_ll, -fSorted_at, hl1, tw_app, ad]
      simp [-fSorted_at] at so
      rw [so]
      rfl
    show (f_law_cuts a [some (.loc 1), some (.int (N : Int)), none, none] (Tw ts n Z)).ret = _
    unfold f_law_cuts
    rw [sCons_nx x1, sCons_nx lf, sCons_rt x3']
    rfl
  · show Z.length + 2 ≤ _; omega
  · rw [show Z.length + 5 = Z.length + 3 + 2 from rfl, tw_at]; simp
end
end Law

set_option Elab.async false
set_option linter.all false
set_option maxRecDepth 100000
set_option maxHeartbeats 4000000
namespace Law
open PySem PySem.Spec PyProof.Rows L2 Rg
def pC (i1 i2 : Nat) : D → Bool
  | .tup [_, .int x] => decide ((i1 : Int) < x) && decide (x ≤ (i2 : Int))
  | _ => false
theorem plc_fil (c : List (Nat × List D)) (i1 i2 : Nat) (h1 : i1 ≤ i2) (h2 : i2 ≤ c.length) : ((plc 0 c).filter (pC i1 i2)).map fst1 = ((c.drop i1).take (i2 - i1)).flatMap (·.2) := by
  have e : c = c.take i1 ++ ((c.drop i1).take (i2 - i1) ++ c.drop i2) := by
    have h := List.take_append_drop (i2 - i1) (c.drop i1)
    rw [List.drop_drop, show i1 + (i2 - i1) = i2 by omega] at h
    rw [h, List.take_append_drop]
  have l1 : (c.take i1).length = i1 := by rw [List.length_take]; omega
  have l2 : ((c.drop i1).take (i2 - i1)).length = i2 - i1 := by rw [List.length_take, List.length_drop]; omega
  conv => lhs; rw [e]
  rw [plc_app, plc_app, l1, l2, List.filter_append, List.filter_append]
  have f1 : (plc 0 (c.take i1)).filter (pC i1 i2) = [] := List.filter_eq_nil_iff.mpr fun d hd => by
    obtain ⟨x, k, rfl, _, _, hk⟩ := plc_mem _ _ _ hd
    rw [l1] at hk
    simp [pC]; omega
  have f2 : (plc (0 + i1) ((c.drop i1).take (i2 - i1))).filter (pC i1 i2) = plc (0 + i1) ((c.drop i1).take (i2 - i1)) := List.filter_eq_self.mpr fun d hd => by
    obtain ⟨x, k, rfl, _, hk1, hk2⟩ := plc_mem _ _ _ hd
    rw [l2] at hk2
    simp [pC]; omega
  have f3 : (plc (0 + i1 + (i2 - i1)) (c.drop i2)).filter (pC i1 i2) = [] := List.filter_eq_nil_iff.mpr fun d hd => by
    obtain ⟨x, k, rfl, _, hk1, hk2⟩ := plc_mem _ _ _ hd
    simp [pC]; omega
  rw [f1, f2, f3, List.nil_append, List.append_nil, plc_fst]
theorem cut_by (T : List Nat) (i1 i2 : Nat) (h1 : i1 ≤ i2) (h2 : i2 ≤ T.length) : cutD (byD T) (some (i1 : Int)) (some (i2 : Int)) = byD ((T.drop i1).take (i2 - i1)) := by
  rw [cutD_run]
  simp only [sIx_some', List.length_map, byD]
  rw [if_neg (by omega), if_neg (by omega), List.map_take, List.map_drop]
  congr 1
  · simp; omega
  · congr 1; simp; omega
theorem TK'.chg {a : Ads} {L L' : Pr} {s : Stt} {k n p g t : Nat} {V : VS} {pl : Int} (K : TK' a L s k V n p g t pl) (h : ∀ i, i < s.length → ¬ L i → ¬ L' i) : TK' a L' s k V n p g t pl :=
  ⟨K.ok, K.on, K.op, K.og, K.ot, K.ng, K.nt, K.gt, h _ (lt_of K.ok) K.Lk, h _ (lt_of K.on) K.Ln, h _ (lt_of K.op) K.Lp, h _ (lt_of K.og) K.Lg, h _ (lt_of K.ot) K.Lt⟩
/-- what stands below -/
structure Bs (c : List (Nat × List D)) (cs : List Nat) (q dm cm L1 : Nat) (s : Stt) : Prop where
  o : s[2]? = some (.dct (OD (c.map (·.1)) q))
  e : s[q + 2]? = some (.lst (plc 0 c))
  d : s[dm]? = some (.lst (byD (c.map (·.1))))
  m : s[cm]? = some (.lst (byD cs))
  l2 : 2 < L1
  lq : q + 2 < L1
  ld : dm < L1
  lm : cm < L1
theorem Bs.fr {c : List (Nat × List D)} {cs : List Nat} {q dm cm L1 : Nat} {s s' : Stt} (B : Bs c cs q dm cm L1 s) (F : Fr (fun i => i < L1) s s') : Bs c cs q dm cm L1 s' :=
  ⟨(F.2 _ B.l2).trans B.o, (F.2 _ B.lq).trans B.e, (F.2 _ B.ld).trans B.d, (F.2 _ B.lm).trans B.m, B.l2, B.lq, B.ld, B.lm⟩
section
variable (a : Ads)
theorem feed_step {c : List (Nat × List D)} {cs : List Nat} {q dm cm L1 : Nat} {s : Stt} (B : Bs c cs q dm cm L1 s) (hA : Ab (fun i => i < L1) s.length) {k : Nat} {V1 Vend : VS} {tdv : List D} (K : TK a (fun i => i < L1) s k { V1 with td := tdv }) {j i1 i2 : Nat} (hC : Ch a (c.drop i1) V1 Vend) (e1 : cs[j]? = some i1) (e2 : cs[j + 1]? = some i2) (hi : i1 ≤ i2) (hi2 : i2 ≤ c.length) (hz : c.length < 16000000) {z : Nat} (he : EvOk c z) (hzz : z < 1000000) (x0 x1 x4 x5 x9 x10 x11 x12 x13 : Option D) :
    ∃ s' V2 tdv' y10 y11 y12 y13, law_fb1 a [x0, x1, some (.loc 2), some (.loc dm), x4, x5, some (.loc cm), some (.loc k), some (.int (1 + (j : Int))), x9, x10, x11, x12, x13] s = .nx [x0, x1, some (.loc 2), some (.loc dm), x4, x5, some (.loc cm), some (.loc k), some (.int (1 + (j : Int))), x9, y10, y11, y12, y13] s' ∧ TK a (fun i => i < L1) s' k { V2 with td := tdv' } ∧ Ch a (c.drop i2) V2 Vend ∧ Fr (fun i => i < L1) s s' := by
  have hsp : c.drop i1 = (c.drop i1).take (i2 - i1) ++ c.drop i2 := by
    have h := List.take_append_drop (i2 - i1) (c.drop i1)
    rw [List.drop_drop, show i1 + (i2 - i1) = i2 by omega] at h
    exact h.symm
  rw [hsp] at hC
  obtain ⟨V2, hC1, hC2⟩ := Ch.split a hC
  have hfl := plc_fil c i1 i2 hi hi2
  have hpl : (((c.map (·.1)).drop i1).take (i2 - i1)) = ((c.drop i1).take (i2 - i1)).map (·.1) := by rw [List.map_take, List.map_drop]
  have hll : ((c.drop i1).take (i2 - i1)).length ≤ c.length := by rw [List.length_take, List.length_drop]; omega
  have hev : (((c.drop i1).take (i2 - i1)).flatMap (·.2)).length ≤ z ∧ ∀ e ∈ ((c.drop i1).take (i2 - i1)).flatMap (·.2), okD 4 e = true := by
    have e : c = c.take i1 ++ ((c.drop i1).take (i2 - i1) ++ c.drop i2) := by rw [← hsp, List.take_append_drop]
    have e2 : c.flatMap (·.2) = (c.take i1).flatMap (·.2) ++ (((c.drop i1).take (i2 - i1)).flatMap (·.2) ++ (c.drop i2).flatMap (·.2)) := by
      conv => lhs; rw [e]
      rw [List.flatMap_append, List.flatMap_append]
    have h1 := he.1
    have h2 := he.2
    rw [e2] at h1 h2
    simp only [List.length_append] at h1
    exact ⟨by omega, fun e h => h2 e (List.mem_append.mpr (.inr (List.mem_append.mpr (.inl h))))⟩
  generalize hsl : (c.drop i1).take (i2 - i1) = sl at *
  have hcut := cut_by (c.map (·.1)) i1 i2 hi (by simpa using hi2)
  rw [hpl] at hcut
  have hr := Ch.rdl a hC1 [] (by simp only [List.length_nil]; omega)
  have at1 : atI (byD cs) (j : Int) = some (.int (i1 : Int)) := atI_lit (by rw [List.getElem?_map, e1]; rfl)
  have at2 : atI (byD cs) (1 + (j : Int)) = some (.int (i2 : Int)) := by
    rw [show (1 : Int) + (j : Int) = ((j + 1 : Nat) : Int) by omega]
    exact atI_lit (by rw [List.getElem?_map, e2]; rfl)
  have ix1 : ∀ s', s'[cm]? = some (.lst (byD cs)) → oIx (.loc cm) (.int (j : Int)) s' = some (.int (i1 : Int), s') := fun s' h => oIx_of (items_loc h) at1
  have ix2 : ∀ s', s'[cm]? = some (.lst (byD cs)) → oIx (.loc cm) (.int (1 + (j : Int))) s' = some (.int (i2 : Int), s') := fun s' h => oIx_of (items_loc h) at2
  have jj : (1 : Int) + (j : Int) - 1 = (j : Int) := by omega
  -- the piece
  have y1 : sSet 10 (xSl oSlA (xV 3) (xOS (Rg.x2 oIx (xV 6) (Rg.x2 oSub (xV 8) (xC (.int 1))))) (xOS (Rg.x2 oIx (xV 6) (xV 8)))) [x0, x1, some (.loc 2), some (.loc dm), x4, x5, some (.loc cm), some (.loc k), some (.int (1 + (j : Int))), x9, x10, x11, x12, x13] s = .nx [x0, x1, some (.loc 2), some (.loc dm), x4, x5, some (.loc cm), some (.loc k), some (.int (1 + (j : Int))), x9, some (.loc s.length), x11, x12, x13] (s ++ [.lst (byD (sl.map (·.1)))]) := by
    have a1 := ix1 s B.m
    have a2 := ix2 s B.m
    have a3 : oSlA (.loc dm) (some (i1 : Int)) (some (i2 : Int)) s = some (.loc s.length, s ++ [.lst (byD (sl.map (·.1)))]) := by rw [oSlA_at, B.d]; dsimp only; rw [hcut]
    simp [-getElem?_pos, -oIx_at, -oSlA_at, jj, a1, a2, a3]
  have y2 : sSet 11 (xCall fListE (xCons (xV 10) (xNil))) [x0, x1, some (.loc 2), some (.loc dm), x4, x5, some (.loc cm), some (.loc k), some (.int (1 + (j : Int))), x9, some (.loc s.length), x11, x12, x13] (s ++ [.lst (byD (sl.map (·.1)))]) = .nx [x0, x1, some (.loc 2), some (.loc dm), x4, x5, some (.loc cm), some (.loc k), some (.int (1 + (j : Int))), x9, some (.loc s.length), some (.loc (s.length + 1)), x12, x13] (s ++ [.lst (byD (sl.map (·.1))), .lst (byD (sl.map (·.1)))]) := by
    have a1 : (s ++ [O.lst (byD (sl.map (·.1)))])[s.length]? = some (.lst (byD (sl.map (·.1)))) := by simp
    simp [-getElem?_pos, a1]
  have hA' : Ab (fun i => i < L1 ∨ i = s.length ∨ i = s.length + 1) (s ++ [O.lst (byD (sl.map (·.1))), .lst (byD (sl.map (·.1)))]).length := fun i hi => by
    simp only [List.length_append, List.length_cons, List.length_nil]
    rcases hi with hi | hi | hi
    · have := hA i hi; omega
    · omega
    · omega
  have K1 : TK a (fun i => i < L1 ∨ i = s.length ∨ i = s.length + 1) (s ++ [O.lst (byD (sl.map (·.1))), .lst (byD (sl.map (·.1)))]) k { V1 with td := tdv } := by
    obtain ⟨n, p, g, t, pl, K⟩ := K
    exact ⟨n, p, g, t, pl, (K.chg (L' := fun i => i < L1 ∨ i = s.length ∨ i = s.length + 1) (fun i h1 h2 h3 => by
      rcases h3 with h3 | h3 | h3
      · exact h2 h3
      · omega
      · omega)).app _⟩
  obtain ⟨t, s2, ef, t1, K2, F2, Lt⟩ := feed_ok a _ _ k (s.length + 1) (sl.map (·.1)) { V1 with td := tdv } _ hA' (.inr (.inr rfl)) (by rw [List.getElem?_append_right (by omega)]; simp) K1 (by rw [List.length_map]; omega) hr
  rw [List.nil_append] at t1 K2
  have F12 : Fr (fun i => i < L1) s s2 := ⟨fun i hi => F2.1 i (.inl hi), fun i hi => (F2.2 i (.inl hi)).trans (List.getElem?_append_left (hA i hi))⟩
  have B2 := B.fr F12
  have kk : ∃ n p g t pl, (s ++ [O.lst (byD (sl.map (·.1))), .lst (byD (sl.map (·.1)))])[k]? = some (.ins a.c_Tokens (TF { V1 with td := tdv } n p g t pl)) := by
    obtain ⟨n, p, g, t, pl, K1⟩ := K1
    exact ⟨n, p, g, t, pl, K1.ok⟩
  obtain ⟨n', p', g', t', pl', kk⟩ := kk
  have y3 : sSet 12 (xMeth a.c_Tokens "feed" (m_Tokens_feed a) (xV 7) (xCons (xV 11) (xNil))) [x0, x1, some (.loc 2), some (.loc dm), x4, x5, some (.loc cm), some (.loc k), some (.int (1 + (j : Int))), x9, some (.loc s.length), some (.loc (s.length + 1)), x12, x13] (s ++ [.lst (byD (sl.map (·.1))), .lst (byD (sl.map (·.1)))]) = .nx [x0, x1, some (.loc 2), some (.loc dm), x4, x5, some (.loc cm), some (.loc k), some (.int (1 + (j : Int))), x9, some (.loc s.length), some (.loc (s.length + 1)), some (.loc t), x13] s2 := by
    generalize byD (sl.map (·.1)) = P at kk ef ⊢
    simp [-getElem?_pos, kk, ef]
  have hcf := comp_fil (L := s2.length) (ok := fun st => items st (.loc (q + 2)) = some (plc 0 c)) (g := gN 9) (t := xB (xCh oLt oLe (Rg.x2 oIx (xV 6) (Rg.x2 oSub (xV 8) (xC (.int 1)))) (Rg.x2 oIx (xV 9) (xC (.int 1))) (Rg.x2 oIx (xV 6) (xV 8)))) (f := Rg.x2 oIx (xV 9) (xC (.int 0))) (ρ := [x0, x1, some (.loc 2), some (.loc dm), x4, x5, some (.loc cm), some (.loc k), some (.int (1 + (j : Int))), none, some (.loc s.length), some (.loc (s.length + 1)), some (.loc t), x13]) (p := pC i1 i2) (φ := fst1) (st := s2) rfl (fun l => items_loc (at_old B2.e _)) (plc 0 c) []
    (fun d hd => by
      obtain ⟨x, r, rfl, _⟩ := plc_mem 0 c d hd
      refine ⟨_, rfl, fun l => ⟨?_, fun _ => by simp [fst1]⟩⟩
      have a1 := ix1 (s2 ++ [.lst l]) (at_old B2.m _)
      have a2 := ix2 (s2 ++ [.lst l]) (at_old B2.m _)
      by_cases hc : (i1 : Int) < (r : Int)
      · simp [-getElem?_pos, -oIx_at, jj, a1, a2, pC, hc]
      · simp [-getElem?_pos, -oIx_at, jj, a1, a2, pC, hc]) (by rw [plc_len]; have := he.1; simp only [List.length_nil]; omega)
  rw [hfl, List.nil_append] at hcf
  have y4 : sSet 13 (xLc (xIt (Rg.x2 oGet (xV 2) (xC (.str "events")))) (gN 9) (xB (xCh oLt oLe (Rg.x2 oIx (xV 6) (Rg.x2 oSub (xV 8) (xC (.int 1)))) (Rg.x2 oIx (xV 9) (xC (.int 1))) (Rg.x2 oIx (xV 6) (xV 8)))) (Rg.x2 oIx (xV 9) (xC (.int 0))) [9]) [x0, x1, some (.loc 2), some (.loc dm), x4, x5, some (.loc cm), some (.loc k), some (.int (1 + (j : Int))), x9, some (.loc s.length), some (.loc (s.length + 1)), some (.loc t), x13] s2 = .nx [x0, x1, some (.loc 2), some (.loc dm), x4, x5, some (.loc cm), some (.loc k), some (.int (1 + (j : Int))), x9, some (.loc s.length), some (.loc (s.length + 1)), some (.loc t), some (.loc s2.length)] (s2 ++ [.lst (sl.flatMap (·.2))]) := by
    have og : oGet (.loc 2) (.str kEv) s2 = some (.loc (q + 2), s2) := by
      simp only [oGet, keyD, dctAt_loc B2.o]
      simp [getD', OD]
    have b2e := B2.e
    simp only [items_at] at hcf
    simp [-getElem?_pos, og, b2e, hcf]
  have s3t : (s2 ++ [O.lst (sl.flatMap (·.2))])[t]? = some (.lst (sl.flatMap (·.2))) := at_old t1 _
  have s3d : (s2 ++ [O.lst (sl.flatMap (·.2))])[s2.length]? = some (.lst (sl.flatMap (·.2))) := by simp
  have s3p : (s2 ++ [O.lst (sl.flatMap (·.2))])[s.length]? = some (.lst (byD (sl.map (·.1)))) := at_old ((F2.2 _ (.inr (.inl rfl))).trans (by simp)) _
  have s3q : (s2 ++ [O.lst (sl.flatMap (·.2))])[s.length + 1]? = some (.lst (byD (sl.map (·.1)))) := at_old ((F2.2 _ (.inr (.inr rfl))).trans (by rw [List.getElem?_append_right (by omega)]; simp)) _
  have okE : (sl.flatMap (·.2)).mapM (toD (s2 ++ [O.lst (sl.flatMap (·.2))]) 59) = some ((sl.flatMap (·.2)).map (datD 59)) := mapM_ok (fun d h => toD_ok 59 d h) _ (List.all_eq_true.mpr fun d hd => okD_le (by omega) (hev.2 d hd))
  have d1 := oNe_same (deq_lists s3t s3d okE)
  have d2 := oNe_same (deq_lists s3q s3p (ints_M _))
  have y5 : law_i2 a [x0, x1, some (.loc 2), some (.loc dm), x4, x5, some (.loc cm), some (.loc k), some (.int (1 + (j : Int))), x9, some (.loc s.length), some (.loc (s.length + 1)), some (.loc t), some (.loc s2.length)] (s2 ++ [.lst (sl.flatMap (·.2))]) = .nx [x0, x1, some (.loc 2), some (.loc dm), x4, x5, some (.loc cm), some (.loc k), some (.int (1 + (j : Int))), x9, some (.loc s.length), some (.loc (s.length + 1)), some (.loc t), some (.loc s2.length)] (s2 ++ [.lst (sl.flatMap (·.2))]) := by
    simp [-getElem?_pos, law_i2, s3t, d1, d2]
  refine ⟨s2 ++ [.lst (sl.flatMap (·.2))], V2, sl.flatMap (·.2), some (.loc s.length), some (.loc (s.length + 1)), some (.loc t), some (.loc s2.length), ?_, ?_, hC2, F12.trans (Fr.app _ F12.1)⟩
  · unfold law_fb1
    rw [sCons_nx y1, sCons_nx y2, sCons_nx y3, sCons_nx y4, sCons_nx y5]
    rfl
  · obtain ⟨n2, p2, g2, t2, pl2, K2⟩ := K2
    exact ⟨n2, p2, g2, t2, pl2, (K2.chg (L' := fun i => i < L1) (fun i _ h2 h3 => h2 (.inl h3))).app _⟩
end
end Law

set_option Elab.async false
set_option linter.all false
set_option maxRecDepth 100000
set_option maxHeartbeats 4000000
namespace Law
open PySem PySem.Spec PyProof.Rows L2 Rg
section
variable (a : Ads)
theorem doc_pos {c : List (Nat × List D)} (hD : DocR a c) : 0 < c.length := by
  obtain ⟨V', hC, v1, v2⟩ := hD V0 rfl rfl rfl
  cases c with
  | nil => cases hC; cases v2
  | cons _ _ => simp
theorem feed_loop {c : List (Nat × List D)} (hD : DocR a c) {cs : List Nat} (hcs : CutsOk cs c.length) {q dm cm : Nat} (s0 : Stt) (B : Bs c cs q dm cm s0.length s0) (hz : c.length < 16000000) {z : Nat} (he : EvOk c z) (hzz : z < 1000000) (x0 x1 x4 x5 x8 x9 x10 x11 x12 x13 : Option D) :
    ∃ (s' : Stt) (V' : VS) (tdv' : List D) (y8 y10 y11 y12 y13 : Option D), law_f1 a [x0, x1, some (.loc 2), some (.loc dm), x4, x5, some (.loc cm), some (.loc s0.length), x8, x9, x10, x11, x12, x13] (s0 ++ [I0 a s0.length, .lst [], .dct [], .lst [], .lst []]) = .nx [x0, x1, some (.loc 2), some (.loc dm), x4, x5, some (.loc cm), some (.loc s0.length), y8, x9, y10, y11, y12, y13] s' ∧ TK a (fun i => i < s0.length) s' s0.length { V' with td := tdv' } ∧ V'.rd = kOut ∧ V'.en = true ∧ Fr (fun i => i < s0.length) s0 s' := by
  obtain ⟨V', hC, v1, v2⟩ := hD V0 rfl rfl rfl
  have hA1 : Ab (fun i => i < s0.length) (s0 ++ [I0 a s0.length, .lst [], .dct [], .lst [], .lst []]).length := fun i hi => by simp; omega
  have F1 : Fr (fun i => i < s0.length) s0 (s0 ++ [I0 a s0.length, .lst [], .dct [], .lst [], .lst []]) := Fr.app _ (fun i hi => hi)
  have c2 := hcs.two
  have cl := hcs.len
  obtain ⟨ρ', s', e, V1, tdv, y8, y10, y11, y12, y13, i1, g1, g2, g3, g4, hρ⟩ := forF_inv (ok := fun _ => True) (g := gN 8) (f := law_fb1 a) (its := intsD 1 (cs.length - 1))
    (fun j ρ s => ∃ (V1 : VS) (tdv : List D) (y8 y10 y11 y12 y13 : Option D) (i1 : Nat), cs[j]? = some i1 ∧ Ch a (c.drop i1) V1 V' ∧ TK a (fun i => i < s0.length) s s0.length { V1 with td := tdv } ∧ Fr (fun i => i < s0.length) s0 s ∧ ρ = [x0, x1, some (.loc 2), some (.loc dm), x4, x5, some (.loc cm), some (.loc s0.length), y8, x9, y10, y11, y12, y13])
    (fun _ _ _ _ _ => trivial)
    (fun j d ρ s hd ⟨V1, tdv, y8, y10, y11, y12, y13, i1, g1, g2, g3, g4, hρ⟩ => by
      subst hρ
      obtain ⟨hj, hd2⟩ := mem_ints hd
      subst hd2
      obtain ⟨i2, hi2⟩ : ∃ i2, cs[j + 1]? = some i2 := ⟨_, List.getElem?_eq_getElem (by omega)⟩
      have hN := hcs.hN
      have le12 : i1 ≤ i2 := by
        obtain ⟨h1, e1⟩ := List.getElem?_eq_some_iff.mp g1
        obtain ⟨h2, e2⟩ := List.getElem?_eq_some_iff.mp hi2
        rw [← e1, ← e2]
        exact List.pairwise_iff_getElem.mp hcs.pw j (j + 1) h1 h2 (by omega)
      have le2 : i2 ≤ c.length := by
        obtain ⟨h1, e1⟩ := List.getElem?_eq_some_iff.mp hi2
        obtain ⟨h2, e2⟩ := List.getElem?_eq_some_iff.mp hN
        by_cases hjj : j + 1 = cs.length - 1
        · rw [hjj, hN] at hi2; cases hi2; exact Nat.le_refl _
        · rw [← e1, ← e2]
          exact List.pairwise_iff_getElem.mp hcs.pw (j + 1) (cs.length - 1) h1 h2 (by omega)
      obtain ⟨s2, V2, tdv2, z10, z11, z12, z13, r1, r2, r3, r4⟩ := feed_step a (B.fr g4) g4.1 g3 g2 g1 hi2 le12 le2 hz he hzz x0 x1 x4 x5 x9 y10 y11 y12 y13
      refine ⟨_, rfl, _, _, .inl r1, V2, tdv2, some (.int (1 + (j : Int))), z10, z11, z12, z13, i2, hi2, r3, r2, g4.trans r4, rfl⟩)
    (ρ := [x0, x1, some (.loc 2), some (.loc dm), x4, x5, some (.loc cm), some (.loc s0.length), x8, x9, x10, x11, x12, x13]) (st := s0 ++ [I0 a s0.length, .lst [], .dct [], .lst [], .lst []]) ⟨V0, [], x8, x10, x11, x12, x13, 0, hcs.h0, hC, new_TK a s0, F1, rfl⟩
  subst hρ
  rw [len_ints, hcs.hN] at g1
  cases g1
  rw [List.drop_length] at g2
  have hV : V1 = V' := by cases g2; rfl
  subst hV
  refine ⟨s', V1, tdv, y8, y10, y11, y12, y13, ?_, g3, v1, v2, g4⟩
  have bm : (s0 ++ [I0 a s0.length, .lst [], .dct [], .lst [], .lst []])[cm]? = some (.lst (byD cs)) := at_old B.m _
  have hr : wkRange2 [.int 1, .int (cs.length : Int)] (s0 ++ [I0 a s0.length, .lst [], .dct [], .lst [], .lst []]) = .ok ⟨intsD 1 (cs.length - 1), fun _ => True⟩ (s0 ++ [I0 a s0.length, .lst [], .dct [], .lst [], .lst []]) := by
    unfold wkRange2
    simp only
    rw [if_pos ⟨by omega, by omega, by omega, by omega⟩, show ((cs.length : Int) - 1).toNat = cs.length - 1 by omega]
  have hl : (byD cs).length = cs.length := by simp
  generalize byD cs = Cs at bm hl
  simp [-getElem?_pos, law_f1, bm, hl, hr, e]
theorem turn_step {c : List (Nat × List D)} (hD : DocR a c) {q d0 : Nat} {ts : List Int} {n : Int} {Z : Stt} (ho : Z[0]? = some (.dct (OD (c.map (·.1)) q))) (hE : Z[q]? = some (.lst (plc 0 c))) (hd : Z[d0]? = some (.lst (byD (c.map (·.1))))) (hz : c.length < 16000000) {z : Nat} (he : EvOk c z) (hzz : z < 1000000) (h0 : 0 ≤ n) (h1 : n < 400000000) (tn : Int) (x0 x4 x6 x7 x8 x9 x10 x11 x12 x13 : Option D) :
    ∃ n' J y6 y7 y8 y10 y11 y12 y13, law_fb2 a [x0, some (.loc 1), some (.loc 2), some (.loc (d0 + 2)), x4, some (.int tn), x6, x7, x8, x9, x10, x11, x12, x13] (Tw ts n Z) = .nx [x0, some (.loc 1), some (.loc 2), some (.loc (d0 + 2)), x4, some (.int tn), y6, y7, y8, x9, y10, y11, y12, y13] (Tw ts n' (Z ++ J)) ∧ n ≤ n' ∧ n' ≤ n + 13 := by
  have hN := doc_pos a hD
  have hlb : (byD (c.map (·.1))).length = c.length := by simp
  obtain ⟨cs, n1, k1, k2, k3, hk⟩ := cuts_ok a (ts := ts) (n := n) (Z := Z) c.length (by omega) h0 (by omega)
  have dd : ∀ m J, (Tw ts m (Z ++ J))[d0 + 2]? = some (.lst (byD (c.map (·.1)))) := fun m J => by rw [tw_at]; exact at_old hd J
  have dd0 : (Tw ts n Z)[d0 + 2]? = some (.lst (byD (c.map (·.1)))) := by rw [tw_at]; exact hd
  have y1 : sSet 6 (xFn (m_law_cuts a) (xCons (xV 1) (xCons (xCall fLen (xCons (xV 3) (xNil))) (xNil)))) [x0, some (.loc 1), some (.loc 2), some (.loc (d0 + 2)), x4, some (.int tn), x6, x7, x8, x9, x10, x11, x12, x13] (Tw ts n Z) = .nx [x0, some (.loc 1), some (.loc 2), some (.loc (d0 + 2)), x4, some (.int tn), some (.loc (Z.length + 2)), x7, x8, x9, x10, x11, x12, x13] (Tw ts n1 (Z ++ [.lst (byD cs)])) := by
    have hk' : m_law_cuts a [.loc 1, .int (c.length : Int)] (Tw ts n Z) = .ok (.loc (Z.length + 2)) (Tw ts n1 (Z ++ [.lst (byD cs)])) := hk
    generalize byD (c.map (·.1)) = P at dd0 hlb
    generalize byD cs = Cs at hk' ⊢
    simp [-getElem?_pos, dd0, hlb, hk']
  have step2 : ∃ cs2 J cm, CutsOk cs2 c.length ∧ (Z ++ J)[cm]? = some (.lst (byD cs2)) ∧ law_i3 a [x0, some (.loc 1), some (.loc 2), some (.loc (d0 + 2)), x4, some (.int tn), some (.loc (Z.length + 2)), x7, x8, x9, x10, x11, x12, x13] (Tw ts n1 (Z ++ [.lst (byD cs)])) = .nx [x0, some (.loc 1), some (.loc 2), some (.loc (d0 + 2)), x4, some (.int tn), some (.loc (cm + 2)), x7, x8, x9, x10, x11, x12, x13] (Tw ts n1 (Z ++ J)) := by
    have dd1 := dd n1 [.lst (byD cs)]
    by_cases hc : tn = 1 ∧ c.length < 80
    · obtain ⟨ht, hc⟩ := hc
      subst ht
      obtain ⟨r1, r2⟩ := cuts_range c.length hc hN
      refine ⟨List.range (c.length + 1), [.lst (byD cs), .lst (byD (List.range (c.length + 1)))], Z.length + 1, r1, by rw [List.getElem?_append_right (by omega)]; simp, ?_⟩
      have hcm := comp_map (L := (Tw ts n1 (Z ++ [.lst (byD cs)])).length) (ok := fun _ => True) (g := gN 8) (t := xYes) (f := xV 8) (ρ := [x0, some (.loc 1), some (.loc 2), some (.loc (d0 + 2)), x4, some (.int 1), some (.loc (Z.length + 2)), x7, none, x9, x10, x11, x12, x13]) (φ := id) (st := Tw ts n1 (Z ++ [.lst (byD cs)])) rfl (fun _ => trivial) (intsD 0 (c.length + 1)) []
        (fun d hd => ⟨_, rfl, fun l => ⟨by simp, by simp⟩⟩) (by rw [len_ints]; simp only [List.length_nil]; omega)
      rw [List.map_id, List.nil_append, r2, tw_app, tw_app, List.append_assoc, List.append_assoc] at hcm
      have hr := wkRange_n (n := c.length + 1) (by omega) (Tw ts n1 (Z ++ [.lst (byD cs)]))
      rw [r2] at hr
      have hl : (Tw ts n1 (Z ++ [O.lst (byD cs)])).length = Z.length + 3 := by simp [tw_len]
      rw [hl] at hcm
      have hlt : ((c.length : Nat) : Int) < 80 := by omega
      generalize byD (c.map (·.1)) = P at dd1 hlb
      generalize byD cs = Cs at hcm dd1 hr hl ⊢
      generalize byD (List.range (c.length + 1)) = Rs at hcm hr ⊢
      simp only [List.cons_append, List.nil_append, Int.natCast_add, Int.natCast_one] at hcm hr
      simp [-getElem?_pos, law_i3, dd1, hlb, hlt, hr, hl, tw_app, hcm]
    · refine ⟨cs, [.lst (byD cs)], Z.length, k1, by simp, ?_⟩
      generalize byD (c.map (·.1)) = P at dd1 hlb
      generalize byD cs = Cs at dd1 ⊢
      by_cases ht : tn = 1
      · have hlt : ¬ ((c.length : Nat) : Int) < 80 := by intro h; exact hc ⟨ht, by omega⟩
        simp [-getElem?_pos, law_i3, ht, dd1, hlb, hlt]
      · simp [-getElem?_pos, law_i3, ht]
  obtain ⟨cs2, J, cm, m1, m2, y2⟩ := step2
  have hq : q < Z.length := lt_of hE
  have hd0 : d0 < Z.length := lt_of hd
  have hcm : cm < (Z ++ J).length := lt_of m2
  have hl0 : (Tw ts n1 (Z ++ J)).length = (Z ++ J).length + 2 := rfl
  have hzl : (Z ++ J).length = Z.length + J.length := List.length_append
  have B : Bs c cs2 q (d0 + 2) (cm + 2) (Tw ts n1 (Z ++ J)).length (Tw ts n1 (Z ++ J)) := by
    refine ⟨?_, ?_, dd n1 J, ?_, by omega, by omega, by omega, by omega⟩
    · exact (tw_at (ts := ts) (n := n1) (Z := Z ++ J) 0).trans (at_old ho J)
    · rw [tw_at]; exact at_old hE J
    · rw [tw_at]; exact m2
  have y3 : sSet 7 (xMake a.c_Tokens (m_Tokens_init a) xNil) [x0, some (.loc 1), some (.loc 2), some (.loc (d0 + 2)), x4, some (.int tn), some (.loc (cm + 2)), x7, x8, x9, x10, x11, x12, x13] (Tw ts n1 (Z ++ J)) = .nx [x0, some (.loc 1), some (.loc 2), some (.loc (d0 + 2)), x4, some (.int tn), some (.loc (cm + 2)), some (.loc (Tw ts n1 (Z ++ J)).length), x8, x9, x10, x11, x12, x13] (Tw ts n1 (Z ++ J) ++ [I0 a (Tw ts n1 (Z ++ J)).length, .lst [], .dct [], .lst [], .lst []]) := by
    have := make_ok a (Tw ts n1 (Z ++ J))
    simp [-getElem?_pos, this]
  obtain ⟨s', V', tdv, z8, z10, z11, z12, z13, y4, g3, v1, v2, g4⟩ := feed_loop a hD m1 (Tw ts n1 (Z ++ J)) B hz he hzz x0 (some (.loc 1)) x4 (some (.int tn)) x8 x9 x10 x11 x12 x13
  obtain ⟨n2, p2, g2, t2, pl2, K⟩ := g3
  have hcl := close_ok a { V' with td := tdv } n2 p2 g2 t2 pl2 _ s' K.ok v1 v2
  have hko := K.ok
  have y5 : law_i1 a [x0, some (.loc 1), some (.loc 2), some (.loc (d0 + 2)), x4, some (.int tn), some (.loc (cm + 2)), some (.loc (Tw ts n1 (Z ++ J)).length), z8, x9, z10, z11, z12, z13] s' = .nx [x0, some (.loc 1), some (.loc 2), some (.loc (d0 + 2)), x4, some (.int tn), some (.loc (cm + 2)), some (.loc (Tw ts n1 (Z ++ J)).length), z8, x9, z10, z11, z12, z13] s' := by
    generalize (Tw ts n1 (Z ++ J)).length = kk at hcl hko ⊢
    simp [-getElem?_pos, law_i1, hko, hcl]
  obtain ⟨J2, rfl⟩ := fr_app g4
  refine ⟨n1, J ++ J2, some (.loc (cm + 2)), some (.loc (Tw ts n1 (Z ++ J)).length), z8, z10, z11, z12, z13, ?_, k2, k3⟩
  unfold law_fb2
  rw [sCons_nx y1, sCons_nx y2, sCons_nx y3, sCons_nx y4, sCons_nx y5]
  rw [tw_app, List.append_assoc]
  rfl
end
end Law

set_option Elab.async false
set_option linter.all false
set_option maxRecDepth 100000
set_option maxHeartbeats 4000000
namespace Law
open PySem PySem.Spec PyProof.Rows L2 Rg
section
variable (a : Ads)
theorem all_in (S : List Nat) (x : Option D) (st : Stt) (l : List Nat) (hl : l.length < 16777216) :
    compF st.length (fun _ => True) (gN 1) xYes (x2 oIn (xV 1) (xC (.str ⟨S.toArray⟩))) [x, none] (l.map fun c => D.str ⟨#[c]⟩) (st ++ [.lst []]) = .ok () (st ++ [.lst (l.map fun c => D.bl (decide (c ∈ S)))]) := by
  have := comp_map (L := st.length) (ok := fun _ => True) (g := gN 1) (t := xYes) (f := x2 oIn (xV 1) (xC (.str ⟨S.toArray⟩))) (ρ := [x, none]) (φ := fun d => match d with | .str z => .bl (inTxt z ⟨S.toArray⟩) | _ => .non) rfl (fun _ => trivial) (l.map fun c => D.str ⟨#[c]⟩) []
    (fun d hd => by
      obtain ⟨c, hc, rfl⟩ := List.mem_map.mp hd
      exact ⟨_, rfl, fun l => by simp⟩) (by simpa using hl)
  rw [this]
  simp [Function.comp_def]
theorem is_name_s (l : List Nat) (hl : l.length < 16777216) (st : Stt) : m_is_name a [.str (tx l)] st = .ok (.bl (isNm l)) st := by
  refine gcE ?_ (by simp)
  rcases l with _ | ⟨c, r⟩
  · simp [f_is_name, is_name_i1, isNm]
  · have h := all_in L_lowd (some (.str (tx (c :: r)))) st (c :: r) hl
    have hl' : r.length + 1 ≤ 16777216 := by simp at hl; omega
    by_cases hr : r.length < 8
    · have h8 : (r.length : Int) + 1 ≤ 8 := by omega
      have h1 : (1 : Int) ≤ (r.length : Int) + 1 := by omega
      by_cases hc : c ∈ L_low
      · simp only [List.map_cons] at h
        simp [f_is_name, is_name_i1, isNm, hr, h8, h1, h, hl', hc]
      · simp [f_is_name, is_name_i1, isNm, hr, h8, h1, h, hl', hc]
    · have h8 : ¬ (r.length : Int) + 1 ≤ 8 := by omega
      have h1 : (1 : Int) ≤ (r.length : Int) + 1 := by omega
      simp [f_is_name, is_name_i1, isNm, hr, h8, h1, hl']
theorem law_true (a : Ads) (ns : List Int) (hl : ns.length ≤ 63) : ∃ st, m_law a [.cl (ns.map D.int)] [] = .ok (.bl true) st := by
  obtain ⟨ts, ht, e1⟩ := tape_ok a ns hl
  obtain ⟨c, n1, Z1, hD, hz, he, n0, n2, e2, q, D0⟩ := doc_ok a ts
  have hE : (plc 0 c).length ≤ 15100 := by rw [plc_len]; exact he.1
  suffices h : ∃ s, runB 14 (f_law a) [.cl (ns.map D.int)] [] = .ok (.bl true) s by
    obtain ⟨s, h⟩ := h
    exact gc_bl (s := s) h
  · suffices h : ∃ s, (f_law a [some (.cl (ns.map D.int)), none, none, none, none, none, none, none, none, none, none, none, none, none] []).ret = .ok (.bl true) s from h
    show ∃ s, (f_law a [some (.cl (ns.map D.int)), none, none, none, none, none, none, none, none, none, none, none, none, none] []).ret = .ok (.bl true) s
    have x1 : law_i5 a [some (.cl (ns.map D.int)), none, none, none, none, none, none, none, none, none, none, none, none, none] [] = .nx [some (.cl (ns.map D.int)), none, none, none, none, none, none, none, none, none, none, none, none, none] [] := by
      have a1 := is_name_s a [97, 49] (by simp) []
      have a2 := is_name_s a [49, 97] (by simp) []
      have a3 := is_name_s a [110, 105, 110, 101, 108, 101, 116, 116, 101] (by simp) []
      have a4 := is_name_s a [] (by simp) []
      have b1 : isNm [97, 49] = true := by decide +kernel
      have b2 : isNm [49, 97] = false := by decide +kernel
      have b3 : isNm [110, 105, 110, 101, 108, 101, 116, 116, 101] = false := by decide +kernel
      have b4 : isNm [] = false := by decide +kernel
      rw [b1] at a1
      rw [b2] at a2
      rw [b3] at a3
      rw [b4] at a4
      simp [law_i5, a1, a2, a3, a4]
    have x2 : sSet 1 (xLst (xCons (xFn (m_law_tape a) (xCons (xV 0) (xNil))) (xCons (xC (.int 0)) (xNil)))) [some (.cl (ns.map D.int)), none, none, none, none, none, none, none, none, none, none, none, none, none] [] = .nx [some (.cl (ns.map D.int)), some (.loc 1), none, none, none, none, none, none, none, none, none, none, none, none] (Tw ts 0 []) := by
      have : ∀ (l : List D), [O.lst l].length = 1 := fun _ => rfl
      simp [e1, this]
      rfl
    have x3 : sSet 2 (xFn (m_law_document a) (xCons (xV 1) (xNil))) [some (.cl (ns.map D.int)), some (.loc 1), none, none, none, none, none, none, none, none, none, none, none, none] (Tw ts 0 []) = .nx [some (.cl (ns.map D.int)), some (.loc 1), some (.loc 2), none, none, none, none, none, none, none, none, none, none, none] (Tw ts n1 Z1) := by
      simp [e2]
    have o1 := D0.oT (ts := ts) n1
    have o1 : oGet (.loc 2) (.str kTx) (Tw ts n1 Z1) = some (.str (tx (c.map (·.1))), Tw ts n1 Z1) := o1
    have b1 := bytes_ok a (c.map (·.1)) (by rw [List.length_map]; omega) (Tw ts n1 Z1)
    have x4 : sSet 3 (xFn (m_law_bytes a) (xCons (Rg.x2 oGet (xV 2) (xC (.str "text"))) (xNil))) [some (.cl (ns.map D.int)), some (.loc 1), some (.loc 2), none, none, none, none, none, none, none, none, none, none, none] (Tw ts n1 Z1) = .nx [some (.cl (ns.map D.int)), some (.loc 1), some (.loc 2), some (.loc (Z1.length + 2)), none, none, none, none, none, none, none, none, none, none] (Tw ts n1 (Z1 ++ [.lst (byD (c.map (·.1)))])) := by
      have b1' : m_law_bytes a [.str (tx (c.map (·.1)))] (Tw ts n1 Z1) = .ok (.loc (Z1.length + 2)) (Tw ts n1 (Z1 ++ [.lst (byD (c.map (·.1)))])) := b1
      generalize byD (c.map (·.1)) = P at b1' ⊢
      generalize c.map (·.1) = T at o1 b1'
      simp [-getElem?_pos, o1, b1']
    have D1 := D0.app [.lst (byD (c.map (·.1)))]
    have o2 : oGet (.loc 2) (.str kEv) (Tw ts n1 (Z1 ++ [.lst (byD (c.map (·.1)))])) = some (.loc (q + 2), Tw ts n1 (Z1 ++ [.lst (byD (c.map (·.1)))])) := D1.oE (ts := ts) n1
    have q2 : (Tw ts n1 (Z1 ++ [.lst (byD (c.map (·.1)))]))[q + 2]? = some (.lst (plc 0 c)) := by rw [tw_at]; exact D1.e
    have x5 : sSet 4 (xLc (xIt (Rg.x2 oGet (xV 2) (xC (.str "events")))) (gN 9) (xYes) (Rg.x2 oIx (xV 9) (xC (.int 0))) [9]) [some (.cl (ns.map D.int)), some (.loc 1), some (.loc 2), some (.loc (Z1.length + 2)), none, none, none, none, none, none, none, none, none, none] (Tw ts n1 (Z1 ++ [.lst (byD (c.map (·.1)))])) = .nx [some (.cl (ns.map D.int)), some (.loc 1), some (.loc 2), some (.loc (Z1.length + 2)), some (.loc (Z1.length + 3)), none, none, none, none, none, none, none, none, none] (Tw ts n1 (Z1 ++ [.lst (byD (c.map (·.1))), .lst (c.flatMap (·.2))])) := by
      have hc : compF (Tw ts n1 (Z1 ++ [.lst (byD (c.map (·.1)))])).length (fun st => items st (.loc (q + 2)) = some (plc 0 c)) (gN 9) xYes (Rg.x2 oIx (xV 9) (xC (.int 0))) [some (.cl (ns.map D.int)), some (.loc 1), some (.loc 2), some (.loc (Z1.length + 2)), none, none, none, none, none, none, none, none, none, none] (plc 0 c) (Tw ts n1 (Z1 ++ [.lst (byD (c.map (·.1)))]) ++ [.lst []]) = .ok () (Tw ts n1 (Z1 ++ [.lst (byD (c.map (·.1)))]) ++ [.lst (c.flatMap (·.2))]) := by
        have := comp_map (L := (Tw ts n1 (Z1 ++ [.lst (byD (c.map (·.1)))])).length) (ok := fun st => items st (.loc (q + 2)) = some (plc 0 c)) (g := gN 9) (t := xYes) (f := Rg.x2 oIx (xV 9) (xC (.int 0))) (ρ := [some (.cl (ns.map D.int)), some (.loc 1), some (.loc 2), some (.loc (Z1.length + 2)), none, none, none, none, none, none, none, none, none, none]) (φ := fst1) (st := Tw ts n1 (Z1 ++ [.lst (byD (c.map (·.1)))])) rfl (fun l => items_loc (at_old q2 _)) (plc 0 c) []
          (fun d hd => by
            obtain ⟨e, k, rfl, _⟩ := plc_mem 0 c d hd
            exact ⟨_, rfl, fun l => ⟨by simp, by simp [fst1]⟩⟩) (by simp only [List.length_nil]; omega)
        rw [plc_fst, List.nil_append] at this
        exact this
      have hl : (Tw ts n1 (Z1 ++ [O.lst (byD (c.map (·.1)))])).length = Z1.length + 3 := by simp [tw_len]
      rw [hl, tw_app, tw_app, List.append_assoc, List.append_assoc] at hc
      generalize byD (c.map (·.1)) = P at o2 q2 hc hl ⊢
      simp only [items_at, List.cons_append, List.nil_append] at hc
      simp [-getElem?_pos, o2, q2, hl, tw_app, hc]
    have hr := read_ok a c hD (by omega) he (by omega) (Tw ts n1 (Z1 ++ [.lst (byD (c.map (·.1))), .lst (c.flatMap (·.2))])) (Z1.length + 2) (by rw [tw_at]; simp)
    have hl3 : (Tw ts n1 (Z1 ++ [O.lst (byD (c.map (·.1))), .lst (c.flatMap (·.2))])).length = Z1.length + 2 + 2 := by simp [tw_len]
    rw [hl3, tw_app, List.append_assoc] at hr
    have okE : (c.flatMap (·.2)).mapM (toD (Tw ts n1 (Z1 ++ [O.lst (byD (c.map (·.1))), .lst (c.flatMap (·.2)), .lst (c.flatMap (·.2))])) 59) = some ((c.flatMap (·.2)).map (datD 59)) := mapM_ok (fun d h => toD_ok 59 d h) _ (List.all_eq_true.mpr fun d hd => okD_le (by omega) (he.2 d hd))
    have dq := oNe_same (deq_lists (st := Tw ts n1 (Z1 ++ [O.lst (byD (c.map (·.1))), .lst (c.flatMap (·.2)), .lst (c.flatMap (·.2))])) (m := Z1.length + 2 + 2) (n := Z1.length + 1 + 2) (by rw [tw_at, List.getElem?_append_right (by omega)]; simp) (by rw [tw_at, List.getElem?_append_right (by omega)]; simp) okE)
    have x6 : law_i4 a [some (.cl (ns.map D.int)), some (.loc 1), some (.loc 2), some (.loc (Z1.length + 2)), some (.loc (Z1.length + 3)), none, none, none, none, none, none, none, none, none] (Tw ts n1 (Z1 ++ [.lst (byD (c.map (·.1))), .lst (c.flatMap (·.2))])) = .nx [some (.cl (ns.map D.int)), some (.loc 1), some (.loc 2), some (.loc (Z1.length + 2)), some (.loc (Z1.length + 3)), none, none, none, none, none, none, none, none, none] (Tw ts n1 (Z1 ++ [.lst (byD (c.map (·.1))), .lst (c.flatMap (·.2)), .lst (c.flatMap (·.2))])) := by
      rw [show Z1.length + 1 + 2 = Z1.length + 3 from rfl] at dq
      generalize byD (c.map (·.1)) = P at hr dq ⊢
      generalize c.flatMap (·.2) = Q at hr dq ⊢
      simp only [List.cons_append, List.nil_append] at hr
      simp [-getElem?_pos, law_i4, hr, dq]
    have D2 : DSq 0 q (Z1 ++ [.lst (byD (c.map (·.1))), .lst (c.flatMap (·.2)), .lst (c.flatMap (·.2))]) (c.map (·.1)) (plc 0 c) := D0.app _
    have d2 : (Z1 ++ [O.lst (byD (c.map (·.1))), .lst (c.flatMap (·.2)), .lst (c.flatMap (·.2))])[Z1.length]? = some (.lst (byD (c.map (·.1)))) := by simp
    generalize hZ2 : Z1 ++ [O.lst (byD (c.map (·.1))), .lst (c.flatMap (·.2)), .lst (c.flatMap (·.2))] = Z2 at x6 D2 d2
    obtain ⟨nA, JA, y6, y7, y8, y10, y11, y12, y13, u1, u2, u3⟩ := turn_step a hD (ts := ts) (n := n1) D2.d D2.e d2 (by omega) he (by omega) n0 (by omega) 0 (some (.cl (ns.map D.int))) (some (.loc (Z1.length + 3))) none none none none none none none none
    have D3 := D2.app JA
    obtain ⟨nB, JB, w6, w7, w8, w10, w11, w12, w13, v1, v2, v3⟩ := turn_step a hD (ts := ts) (n := nA) D3.d D3.e (at_old d2 JA) (by omega) he (by omega) (by omega) (by omega) 1 (some (.cl (ns.map D.int))) (some (.loc (Z1.length + 3))) y6 y7 y8 none y10 y11 y12 y13
    have x7 : law_f2 a [some (.cl (ns.map D.int)), some (.loc 1), some (.loc 2), some (.loc (Z1.length + 2)), some (.loc (Z1.length + 3)), none, none, none, none, none, none, none, none, none] (Tw ts n1 Z2) = .nx [some (.cl (ns.map D.int)), some (.loc 1), some (.loc 2), some (.loc (Z1.length + 2)), some (.loc (Z1.length + 3)), some (.int 1), w6, w7, w8, none, w10, w11, w12, w13] (Tw ts nB (Z2 ++ JA ++ JB)) := by
      have hr2 : wkRange [.int 2] (Tw ts n1 Z2) = .ok ⟨[.int 0, .int 1], fun _ => True⟩ (Tw ts n1 Z2) := wkRange_n (n := 2) (by omega) _
      unfold law_f2
      rw [sFor_run, xRange_run]
      show ((wkRange [.int 2] (Tw ts n1 Z2)).out _ _) = _
      rw [hr2]
      show forF (fun _ => True) (gN 5) (law_fb2 a) [.int 0, .int 1] _ _ = _
      rw [forF_cons' trivial (gN_run 5 _ _)]
      show (match law_fb2 a [some (.cl (ns.map D.int)), some (.loc 1), some (.loc 2), some (.loc (Z1.length + 2)), some (.loc (Z1.length + 3)), some (.int 0), none, none, none, none, none, none, none, none] (Tw ts n1 Z2) with | .nx ρ' st' => _ | .ct ρ' st' => _ | .bk ρ' st' => _ | r => _) = _
      rw [u1]
      show forF (fun _ => True) (gN 5) (law_fb2 a) [.int 1] _ _ = _
      rw [forF_cons' trivial (gN_run 5 _ _)]
      show (match law_fb2 a [some (.cl (ns.map D.int)), some (.loc 1), some (.loc 2), some (.loc (Z1.length + 2)), some (.loc (Z1.length + 3)), some (.int 1), y6, y7, y8, none, y10, y11, y12, y13] (Tw ts nA (Z2 ++ JA)) with | .nx ρ' st' => _ | .ct ρ' st' => _ | .bk ρ' st' => _ | r => _) = _
      rw [v1]
      show forF (fun _ => True) (gN 5) (law_fb2 a) [] _ _ = _
      rw [forF_nil]
    refine ⟨Tw ts nB (Z2 ++ JA ++ JB), ?_⟩
    unfold f_law
    rw [sCons_nx x1, sCons_nx x2, sCons_nx x3, sCons_nx x4, sCons_nx x5, sCons_nx x6, sCons_nx x7]
    rfl
end
end Law

set_option Elab.async false
set_option linter.all false
set_option maxRecDepth 100000
set_option maxHeartbeats 4000000
namespace Law
open PySem PySem.Spec PyProof.Rows L2 Rg
theorem all_mk {l : PySem.W.OpenLaw} {w : World} {K : PySem.W.Frag} {h : Heap} {mg : Str → Option Value} {fa : Addr} (X : K.In h) (G : h.Ns mainGlobals mg) (hfa : mg "law" = some (.ref fa))
    {p_is_name : Addr} {od_is_name an_is_name : Option Addr} {sl_is_name : Array (Option Value)} {oc_is_name kV_is_name dc_is_name pm_is_name cd_is_name ct_is_name : Value}
    {p_sign_of : Addr} {od_sign_of an_sign_of : Option Addr} {sl_sign_of : Array (Option Value)} {oc_sign_of kV_sign_of dc_sign_of pm_sign_of cd_sign_of ct_sign_of : Value}
    {p_is_integer : Addr} {od_is_integer an_is_integer : Option Addr} {sl_is_integer : Array (Option Value)} {oc_is_integer kV_is_integer dc_is_integer pm_is_integer cd_is_integer ct_is_integer : Value}
    {p_Tokens_close : Addr} {od_Tokens_close an_Tokens_close : Option Addr} {sl_Tokens_close : Array (Option Value)} {oc_Tokens_close kV_Tokens_close dc_Tokens_close pm_Tokens_close cd_Tokens_close ct_Tokens_close : Value}
    {p_tell_entity : Addr} {od_tell_entity an_tell_entity : Option Addr} {sl_tell_entity : Array (Option Value)} {oc_tell_entity kV_tell_entity dc_tell_entity pm_tell_entity cd_tell_entity ct_tell_entity : Value}
    {p_read_entity : Addr} {od_read_entity an_read_entity : Option Addr} {sl_read_entity : Array (Option Value)} {oc_read_entity kV_read_entity dc_read_entity pm_read_entity cd_read_entity ct_read_entity : Value}
    {p_between_tokens : Addr} {od_between_tokens an_between_tokens : Option Addr} {sl_between_tokens : Array (Option Value)} {oc_between_tokens kV_between_tokens dc_between_tokens pm_between_tokens cd_between_tokens ct_between_tokens : Value}
    {p_tell_end : Addr} {od_tell_end an_tell_end : Option Addr} {sl_tell_end : Array (Option Value)} {oc_tell_end kV_tell_end dc_tell_end pm_tell_end cd_tell_end ct_tell_end : Value}
    {p_read_end_name : Addr} {od_read_end_name an_read_end_name : Option Addr} {sl_read_end_name : Array (Option Value)} {oc_read_end_name kV_read_end_name dc_read_end_name pm_read_end_name cd_read_end_name ct_read_end_name : Value}
    {p_tell_start : Addr} {od_tell_start an_tell_start : Option Addr} {sl_tell_start : Array (Option Value)} {oc_tell_start kV_tell_start dc_tell_start pm_tell_start cd_tell_start ct_tell_start : Value}
    {p_read_slash : Addr} {od_read_slash an_read_slash : Option Addr} {sl_read_slash : Array (Option Value)} {oc_read_slash kV_read_slash dc_read_slash pm_read_slash cd_read_slash ct_read_slash : Value}
    {p_begin_entity : Addr} {od_begin_entity an_begin_entity : Option Addr} {sl_begin_entity : Array (Option Value)} {oc_begin_entity kV_begin_entity dc_begin_entity pm_begin_entity cd_begin_entity ct_begin_entity : Value}
    {p_read_value : Addr} {od_read_value an_read_value : Option Addr} {sl_read_value : Array (Option Value)} {oc_read_value kV_read_value dc_read_value pm_read_value cd_read_value ct_read_value : Value}
    {p_expect : Addr} {od_expect an_expect : Option Addr} {sl_expect : Array (Option Value)} {oc_expect kV_expect dc_expect pm_expect cd_expect ct_expect : Value}
    {p_read_equals : Addr} {od_read_equals an_read_equals : Option Addr} {sl_read_equals : Array (Option Value)} {oc_read_equals kV_read_equals dc_read_equals pm_read_equals cd_read_equals ct_read_equals : Value}
    {p_lengthened : Addr} {od_lengthened an_lengthened : Option Addr} {sl_lengthened : Array (Option Value)} {oc_lengthened kV_lengthened dc_lengthened pm_lengthened cd_lengthened ct_lengthened : Value}
    {p_read_attribute : Addr} {od_read_attribute an_read_attribute : Option Addr} {sl_read_attribute : Array (Option Value)} {oc_read_attribute kV_read_attribute dc_read_attribute pm_read_attribute cd_read_attribute ct_read_attribute : Value}
    {p_read_valued : Addr} {od_read_valued an_read_valued : Option Addr} {sl_read_valued : Array (Option Value)} {oc_read_valued kV_read_valued dc_read_valued pm_read_valued cd_read_valued ct_read_valued : Value}
    {p_read_gap : Addr} {od_read_gap an_read_gap : Option Addr} {sl_read_gap : Array (Option Value)} {oc_read_gap kV_read_gap dc_read_gap pm_read_gap cd_read_gap ct_read_gap : Value}
    {p_read_name : Addr} {od_read_name an_read_name : Option Addr} {sl_read_name : Array (Option Value)} {oc_read_name kV_read_name dc_read_name pm_read_name cd_read_name ct_read_name : Value}
    {p_read_dashes : Addr} {od_read_dashes an_read_dashes : Option Addr} {sl_read_dashes : Array (Option Value)} {oc_read_dashes kV_read_dashes dc_read_dashes pm_read_dashes cd_read_dashes ct_read_dashes : Value}
    {p_read_dash : Addr} {od_read_dash an_read_dash : Option Addr} {sl_read_dash : Array (Option Value)} {oc_read_dash kV_read_dash dc_read_dash pm_read_dash cd_read_dash ct_read_dash : Value}
    {p_read_comment : Addr} {od_read_comment an_read_comment : Option Addr} {sl_read_comment : Array (Option Value)} {oc_read_comment kV_read_comment dc_read_comment pm_read_comment cd_read_comment ct_read_comment : Value}
    {p_read_bangs : Addr} {od_read_bangs an_read_bangs : Option Addr} {sl_read_bangs : Array (Option Value)} {oc_read_bangs kV_read_bangs dc_read_bangs pm_read_bangs cd_read_bangs ct_read_bangs : Value}
    {p_read_bang : Addr} {od_read_bang an_read_bang : Option Addr} {sl_read_bang : Array (Option Value)} {oc_read_bang kV_read_bang dc_read_bang pm_read_bang cd_read_bang ct_read_bang : Value}
    {p_begin_element : Addr} {od_begin_element an_begin_element : Option Addr} {sl_begin_element : Array (Option Value)} {oc_begin_element kV_begin_element dc_begin_element pm_begin_element cd_begin_element ct_begin_element : Value}
    {p_read_less : Addr} {od_read_less an_read_less : Option Addr} {sl_read_less : Array (Option Value)} {oc_read_less kV_read_less dc_read_less pm_read_less cd_read_less ct_read_less : Value}
    {p_read_content : Addr} {od_read_content an_read_content : Option Addr} {sl_read_content : Array (Option Value)} {oc_read_content kV_read_content dc_read_content pm_read_content cd_read_content ct_read_content : Value}
    {p_read_outside : Addr} {od_read_outside an_read_outside : Option Addr} {sl_read_outside : Array (Option Value)} {oc_read_outside kV_read_outside dc_read_outside pm_read_outside cd_read_outside ct_read_outside : Value}
    {p_Tokens_feed : Addr} {od_Tokens_feed an_Tokens_feed : Option Addr} {sl_Tokens_feed : Array (Option Value)} {oc_Tokens_feed kV_Tokens_feed dc_Tokens_feed pm_Tokens_feed cd_Tokens_feed ct_Tokens_feed : Value}
    {p_Tokens_init : Addr} {od_Tokens_init an_Tokens_init : Option Addr} {sl_Tokens_init : Array (Option Value)} {oc_Tokens_init kV_Tokens_init dc_Tokens_init pm_Tokens_init cd_Tokens_init ct_Tokens_init : Value}
    {p_read_text : Addr} {od_read_text an_read_text : Option Addr} {sl_read_text : Array (Option Value)} {oc_read_text kV_read_text dc_read_text pm_read_text cd_read_text ct_read_text : Value}
    {p_law_tape : Addr} {od_law_tape an_law_tape : Option Addr} {sl_law_tape : Array (Option Value)} {oc_law_tape kV_law_tape dc_law_tape pm_law_tape cd_law_tape ct_law_tape : Value}
    {p_law_at : Addr} {od_law_at an_law_at : Option Addr} {sl_law_at : Array (Option Value)} {oc_law_at kV_law_at dc_law_at pm_law_at cd_law_at ct_law_at : Value}
    {p_law_pick : Addr} {od_law_pick an_law_pick : Option Addr} {sl_law_pick : Array (Option Value)} {oc_law_pick kV_law_pick dc_law_pick pm_law_pick cd_law_pick ct_law_pick : Value}
    {p_law_signs : Addr} {od_law_signs an_law_signs : Option Addr} {sl_law_signs : Array (Option Value)} {oc_law_signs kV_law_signs dc_law_signs pm_law_signs cd_law_signs ct_law_signs : Value}
    {p_law_attributes : Addr} {od_law_attributes an_law_attributes : Option Addr} {sl_law_attributes : Array (Option Value)} {oc_law_attributes kV_law_attributes dc_law_attributes pm_law_attributes cd_law_attributes ct_law_attributes : Value}
    {p_law_tree : Addr} {od_law_tree an_law_tree : Option Addr} {sl_law_tree : Array (Option Value)} {oc_law_tree kV_law_tree dc_law_tree pm_law_tree cd_law_tree ct_law_tree : Value}
    {p_law_blanks : Addr} {od_law_blanks an_law_blanks : Option Addr} {sl_law_blanks : Array (Option Value)} {oc_law_blanks kV_law_blanks dc_law_blanks pm_law_blanks cd_law_blanks ct_law_blanks : Value}
    {p_law_remark : Addr} {od_law_remark an_law_remark : Option Addr} {sl_law_remark : Array (Option Value)} {oc_law_remark kV_law_remark dc_law_remark pm_law_remark cd_law_remark ct_law_remark : Value}
    {p_law_written : Addr} {od_law_written an_law_written : Option Addr} {sl_law_written : Array (Option Value)} {oc_law_written kV_law_written dc_law_written pm_law_written cd_law_written ct_law_written : Value}
    {p_law_start : Addr} {od_law_start an_law_start : Option Addr} {sl_law_start : Array (Option Value)} {oc_law_start kV_law_start dc_law_start pm_law_start cd_law_start ct_law_start : Value}
    {p_law_element : Addr} {od_law_element an_law_element : Option Addr} {sl_law_element : Array (Option Value)} {oc_law_element kV_law_element dc_law_element pm_law_element cd_law_element ct_law_element : Value}
    {p_law_document : Addr} {od_law_document an_law_document : Option Addr} {sl_law_document : Array (Option Value)} {oc_law_document kV_law_document dc_law_document pm_law_document cd_law_document ct_law_document : Value}
    {p_law_bytes : Addr} {od_law_bytes an_law_bytes : Option Addr} {sl_law_bytes : Array (Option Value)} {oc_law_bytes kV_law_bytes dc_law_bytes pm_law_bytes cd_law_bytes ct_law_bytes : Value}
    {p_law_cuts : Addr} {od_law_cuts an_law_cuts : Option Addr} {sl_law_cuts : Array (Option Value)} {oc_law_cuts kV_law_cuts dc_law_cuts pm_law_cuts cd_law_cuts ct_law_cuts : Value}
    {p_law : Addr} {od_law an_law : Option Addr} {sl_law : Array (Option Value)} {oc_law kV_law dc_law pm_law cd_law ct_law : Value}
    {tk_1 : Tok}
    {tk_2 : Tok}
    {tk_3 : Tok}
    {tk_4 : Tok}
    {tk_5 : Tok}
    {tk_6 : Tok}
    {tk_7 : Tok}
    {tk_8 : Tok}
    {tk_9 : Tok}
    {tk_10 : Tok}
    {tk_11 : Tok}
    {tk_12 : Tok}
    {ta_13 : Addr} {tn_13 : Nat}
    {hs_13_0 : Int} {tk_13_0 : Tok}
    {hs_13_1 : Int} {tk_13_1 : Tok}
    {hs_13_2 : Int} {tk_13_2 : Tok}
    {hs_13_3 : Int} {tk_13_3 : Tok}
    {ta_14 : Addr} {tn_14 : Nat}
    {hs_14_0 : Int} {tk_14_0 : Tok}
    {hs_14_1 : Int} {tk_14_1 : Tok}
    {hs_14_2 : Int} {tk_14_2 : Tok}
    {hs_14_3 : Int} {tk_14_3 : Tok}
    {hs_14_4 : Int} {tk_14_4 : Tok}
    {hs_14_5 : Int} {tk_14_5 : Tok}
    {hs_14_6 : Int} {tk_14_6 : Tok}
    {hs_14_7 : Int} {tk_14_7 : Tok}
    {hs_14_8 : Int} {tk_14_8 : Tok}
    {hs_14_9 : Int} {tk_14_9 : Tok}
    {hs_14_10 : Int} {tk_14_10 : Tok}
    {hs_14_11 : Int} {tk_14_11 : Tok}
    {hs_14_12 : Int} {tk_14_12 : Tok}
    {hs_14_13 : Int} {tk_14_13 : Tok}
    {hs_14_14 : Int} {tk_14_14 : Tok}
    {hs_14_15 : Int} {tk_14_15 : Tok}
    {hs_14_16 : Int} {tk_14_16 : Tok}
    {C_Tokens : Addr}
    (a_is_name : PySem.W.nsIn K mainGlobals "is_name" = some (some (.ref p_is_name)))
    (a_sign_of : PySem.W.nsIn K mainGlobals "sign_of" = some (some (.ref p_sign_of)))
    (a_is_integer : PySem.W.nsIn K mainGlobals "is_integer" = some (some (.ref p_is_integer)))
    (a_tell_entity : PySem.W.nsIn K mainGlobals "tell_entity" = some (some (.ref p_tell_entity)))
    (a_read_entity : PySem.W.nsIn K mainGlobals "read_entity" = some (some (.ref p_read_entity)))
    (a_between_tokens : PySem.W.nsIn K mainGlobals "between_tokens" = some (some (.ref p_between_tokens)))
    (a_tell_end : PySem.W.nsIn K mainGlobals "tell_end" = some (some (.ref p_tell_end)))
    (a_read_end_name : PySem.W.nsIn K mainGlobals "read_end_name" = some (some (.ref p_read_end_name)))
    (a_tell_start : PySem.W.nsIn K mainGlobals "tell_start" = some (some (.ref p_tell_start)))
    (a_read_slash : PySem.W.nsIn K mainGlobals "read_slash" = some (some (.ref p_read_slash)))
    (a_begin_entity : PySem.W.nsIn K mainGlobals "begin_entity" = some (some (.ref p_begin_entity)))
    (a_read_value : PySem.W.nsIn K mainGlobals "read_value" = some (some (.ref p_read_value)))
    (a_expect : PySem.W.nsIn K mainGlobals "expect" = some (some (.ref p_expect)))
    (a_read_equals : PySem.W.nsIn K mainGlobals "read_equals" = some (some (.ref p_read_equals)))
    (a_lengthened : PySem.W.nsIn K mainGlobals "lengthened" = some (some (.ref p_lengthened)))
    (a_read_attribute : PySem.W.nsIn K mainGlobals "read_attribute" = some (some (.ref p_read_attribute)))
    (a_read_valued : PySem.W.nsIn K mainGlobals "read_valued" = some (some (.ref p_read_valued)))
    (a_read_gap : PySem.W.nsIn K mainGlobals "read_gap" = some (some (.ref p_read_gap)))
    (a_read_name : PySem.W.nsIn K mainGlobals "read_name" = some (some (.ref p_read_name)))
    (a_read_dashes : PySem.W.nsIn K mainGlobals "read_dashes" = some (some (.ref p_read_dashes)))
    (a_read_dash : PySem.W.nsIn K mainGlobals "read_dash" = some (some (.ref p_read_dash)))
    (a_read_comment : PySem.W.nsIn K mainGlobals "read_comment" = some (some (.ref p_read_comment)))
    (a_read_bangs : PySem.W.nsIn K mainGlobals "read_bangs" = some (some (.ref p_read_bangs)))
    (a_read_bang : PySem.W.nsIn K mainGlobals "read_bang" = some (some (.ref p_read_bang)))
    (a_begin_element : PySem.W.nsIn K mainGlobals "begin_element" = some (some (.ref p_begin_element)))
    (a_read_less : PySem.W.nsIn K mainGlobals "read_less" = some (some (.ref p_read_less)))
    (a_read_content : PySem.W.nsIn K mainGlobals "read_content" = some (some (.ref p_read_content)))
    (a_read_outside : PySem.W.nsIn K mainGlobals "read_outside" = some (some (.ref p_read_outside)))
    (a_read_text : PySem.W.nsIn K mainGlobals "read_text" = some (some (.ref p_read_text)))
    (a_law_tape : PySem.W.nsIn K mainGlobals "_law_tape" = some (some (.ref p_law_tape)))
    (a_law_at : PySem.W.nsIn K mainGlobals "_law_at" = some (some (.ref p_law_at)))
    (a_law_pick : PySem.W.nsIn K mainGlobals "_law_pick" = some (some (.ref p_law_pick)))
    (a_law_signs : PySem.W.nsIn K mainGlobals "_law_signs" = some (some (.ref p_law_signs)))
    (a_law_attributes : PySem.W.nsIn K mainGlobals "_law_attributes" = some (some (.ref p_law_attributes)))
    (a_law_tree : PySem.W.nsIn K mainGlobals "_law_tree" = some (some (.ref p_law_tree)))
    (a_law_blanks : PySem.W.nsIn K mainGlobals "_law_blanks" = some (some (.ref p_law_blanks)))
    (a_law_remark : PySem.W.nsIn K mainGlobals "_law_remark" = some (some (.ref p_law_remark)))
    (a_law_written : PySem.W.nsIn K mainGlobals "_law_written" = some (some (.ref p_law_written)))
    (a_law_start : PySem.W.nsIn K mainGlobals "_law_start" = some (some (.ref p_law_start)))
    (a_law_element : PySem.W.nsIn K mainGlobals "_law_element" = some (some (.ref p_law_element)))
    (a_law_document : PySem.W.nsIn K mainGlobals "_law_document" = some (some (.ref p_law_document)))
    (a_law_bytes : PySem.W.nsIn K mainGlobals "_law_bytes" = some (some (.ref p_law_bytes)))
    (a_law_cuts : PySem.W.nsIn K mainGlobals "_law_cuts" = some (some (.ref p_law_cuts)))
    (a_law : PySem.W.nsIn K mainGlobals "law" = some (some (.ref p_law)))
    (g_MOST_DEPTH : PySem.W.nsIn K mainGlobals "MOST_DEPTH" = some (some (.int 60 tk_1)))
    (g_MOST_NAME : PySem.W.nsIn K mainGlobals "MOST_NAME" = some (some (.int 8 tk_2)))
    (g_MOST_ATTRIBUTES : PySem.W.nsIn K mainGlobals "MOST_ATTRIBUTES" = some (some (.int 8 tk_3)))
    (g_LETTERS : PySem.W.nsIn K mainGlobals "LETTERS" = some (some (.str "abcdefghijklmnopqrstuvwxyz" tk_4)))
    (g_NAME_SIGNS : PySem.W.nsIn K mainGlobals "NAME_SIGNS" = some (some (.str "abcdefghijklmnopqrstuvwxyz0123456789" tk_5)))
    (g_BLANKS : PySem.W.nsIn K mainGlobals "BLANKS" = some (some (.str " \t\n" tk_6)))
    (g_PRINTED : PySem.W.nsIn K mainGlobals "PRINTED" = some (some (.str " !\"#$ &'()*+,-./0123456789:;<=>?@ABCDEFGHIJKLMNOPQRSTUVWXYZ[\\]^_`abcdefghijklmnopqrstuvwxyz{|}~" tk_7)))
    (g_PER_CENT : PySem.W.nsIn K mainGlobals "PER_CENT" = some (some (.int 37 tk_8)))
    (g_ENTITIES : PySem.W.nsIn K mainGlobals "ENTITIES" = some (some (.ref ta_13)))
    (g_READERS : PySem.W.nsIn K mainGlobals "READERS" = some (some (.ref ta_14)))
    (gc_Tokens : PySem.W.nsIn K mainGlobals "Tokens" = some (some (.ref C_Tokens)))
    (fi_Tokens_init : PySem.W.findIn K (.ref C_Tokens) "__init__" = some (some (.ref p_Tokens_init)))
    (fi_Tokens_feed : PySem.W.findIn K (.ref C_Tokens) "feed" = some (some (.ref p_Tokens_feed)))
    (fi_Tokens_close : PySem.W.findIn K (.ref C_Tokens) "close" = some (some (.ref p_Tokens_close)))
    (l_is_name : K.lookup p_is_name = some ⟨oc_is_name, od_is_name, .func (PySem.W.fnOf "is_name" "is_name" (defArgs s_is_name) (defBody s_is_name) (defScope s_is_name) .none kV_is_name dc_is_name pm_is_name an_is_name cd_is_name ct_is_name), sl_is_name⟩)
    (c_is_name : PySem.W.codeIn K cd_is_name "is_name" = true)
    (k_is_name : PySem.W.keepIn K (.ref p_is_name) = true)
    (l_sign_of : K.lookup p_sign_of = some ⟨oc_sign_of, od_sign_of, .func (PySem.W.fnOf "sign_of" "sign_of" (defArgs s_sign_of) (defBody s_sign_of) (defScope s_sign_of) .none kV_sign_of dc_sign_of pm_sign_of an_sign_of cd_sign_of ct_sign_of), sl_sign_of⟩)
    (c_sign_of : PySem.W.codeIn K cd_sign_of "sign_of" = true)
    (k_sign_of : PySem.W.keepIn K (.ref p_sign_of) = true)
    (l_is_integer : K.lookup p_is_integer = some ⟨oc_is_integer, od_is_integer, .func (PySem.W.fnOf "is_integer" "is_integer" (defArgs s_is_integer) (defBody s_is_integer) (defScope s_is_integer) .none kV_is_integer dc_is_integer pm_is_integer an_is_integer cd_is_integer ct_is_integer), sl_is_integer⟩)
    (c_is_integer : PySem.W.codeIn K cd_is_integer "is_integer" = true)
    (k_is_integer : PySem.W.keepIn K (.ref p_is_integer) = true)
    (l_Tokens_close : K.lookup p_Tokens_close = some ⟨oc_Tokens_close, od_Tokens_close, .func (PySem.W.fnOf "close" "Tokens.close" (defArgs s_Tokens_close) (defBody s_Tokens_close) (defScope s_Tokens_close) .none kV_Tokens_close dc_Tokens_close pm_Tokens_close an_Tokens_close cd_Tokens_close ct_Tokens_close), sl_Tokens_close⟩)
    (c_Tokens_close : PySem.W.codeIn K cd_Tokens_close "Tokens.close" = true)
    (k_Tokens_close : PySem.W.keepIn K (.ref p_Tokens_close) = true)
    (l_tell_entity : K.lookup p_tell_entity = some ⟨oc_tell_entity, od_tell_entity, .func (PySem.W.fnOf "tell_entity" "tell_entity" (defArgs s_tell_entity) (defBody s_tell_entity) (defScope s_tell_entity) .none kV_tell_entity dc_tell_entity pm_tell_entity an_tell_entity cd_tell_entity ct_tell_entity), sl_tell_entity⟩)
    (c_tell_entity : PySem.W.codeIn K cd_tell_entity "tell_entity" = true)
    (k_tell_entity : PySem.W.keepIn K (.ref p_tell_entity) = true)
    (l_read_entity : K.lookup p_read_entity = some ⟨oc_read_entity, od_read_entity, .func (PySem.W.fnOf "read_entity" "read_entity" (defArgs s_read_entity) (defBody s_read_entity) (defScope s_read_entity) .none kV_read_entity dc_read_entity pm_read_entity an_read_entity cd_read_entity ct_read_entity), sl_read_entity⟩)
    (c_read_entity : PySem.W.codeIn K cd_read_entity "read_entity" = true)
    (k_read_entity : PySem.W.keepIn K (.ref p_read_entity) = true)
    (l_between_tokens : K.lookup p_between_tokens = some ⟨oc_between_tokens, od_between_tokens, .func (PySem.W.fnOf "between_tokens" "between_tokens" (defArgs s_between_tokens) (defBody s_between_tokens) (defScope s_between_tokens) .none kV_between_tokens dc_between_tokens pm_between_tokens an_between_tokens cd_between_tokens ct_between_tokens), sl_between_tokens⟩)
    (c_between_tokens : PySem.W.codeIn K cd_between_tokens "between_tokens" = true)
    (k_between_tokens : PySem.W.keepIn K (.ref p_between_tokens) = true)
    (l_tell_end : K.lookup p_tell_end = some ⟨oc_tell_end, od_tell_end, .func (PySem.W.fnOf "tell_end" "tell_end" (defArgs s_tell_end) (defBody s_tell_end) (defScope s_tell_end) .none kV_tell_end dc_tell_end pm_tell_end an_tell_end cd_tell_end ct_tell_end), sl_tell_end⟩)
    (c_tell_end : PySem.W.codeIn K cd_tell_end "tell_end" = true)
    (k_tell_end : PySem.W.keepIn K (.ref p_tell_end) = true)
    (l_read_end_name : K.lookup p_read_end_name = some ⟨oc_read_end_name, od_read_end_name, .func (PySem.W.fnOf "read_end_name" "read_end_name" (defArgs s_read_end_name) (defBody s_read_end_name) (defScope s_read_end_name) .none kV_read_end_name dc_read_end_name pm_read_end_name an_read_end_name cd_read_end_name ct_read_end_name), sl_read_end_name⟩)
    (c_read_end_name : PySem.W.codeIn K cd_read_end_name "read_end_name" = true)
    (k_read_end_name : PySem.W.keepIn K (.ref p_read_end_name) = true)
    (l_tell_start : K.lookup p_tell_start = some ⟨oc_tell_start, od_tell_start, .func (PySem.W.fnOf "tell_start" "tell_start" (defArgs s_tell_start) (defBody s_tell_start) (defScope s_tell_start) .none kV_tell_start dc_tell_start pm_tell_start an_tell_start cd_tell_start ct_tell_start), sl_tell_start⟩)
    (c_tell_start : PySem.W.codeIn K cd_tell_start "tell_start" = true)
    (k_tell_start : PySem.W.keepIn K (.ref p_tell_start) = true)
    (l_read_slash : K.lookup p_read_slash = some ⟨oc_read_slash, od_read_slash, .func (PySem.W.fnOf "read_slash" "read_slash" (defArgs s_read_slash) (defBody s_read_slash) (defScope s_read_slash) .none kV_read_slash dc_read_slash pm_read_slash an_read_slash cd_read_slash ct_read_slash), sl_read_slash⟩)
    (c_read_slash : PySem.W.codeIn K cd_read_slash "read_slash" = true)
    (k_read_slash : PySem.W.keepIn K (.ref p_read_slash) = true)
    (l_begin_entity : K.lookup p_begin_entity = some ⟨oc_begin_entity, od_begin_entity, .func (PySem.W.fnOf "begin_entity" "begin_entity" (defArgs s_begin_entity) (defBody s_begin_entity) (defScope s_begin_entity) .none kV_begin_entity dc_begin_entity pm_begin_entity an_begin_entity cd_begin_entity ct_begin_entity), sl_begin_entity⟩)
    (c_begin_entity : PySem.W.codeIn K cd_begin_entity "begin_entity" = true)
    (k_begin_entity : PySem.W.keepIn K (.ref p_begin_entity) = true)
    (l_read_value : K.lookup p_read_value = some ⟨oc_read_value, od_read_value, .func (PySem.W.fnOf "read_value" "read_value" (defArgs s_read_value) (defBody s_read_value) (defScope s_read_value) .none kV_read_value dc_read_value pm_read_value an_read_value cd_read_value ct_read_value), sl_read_value⟩)
    (c_read_value : PySem.W.codeIn K cd_read_value "read_value" = true)
    (k_read_value : PySem.W.keepIn K (.ref p_read_value) = true)
    (l_expect : K.lookup p_expect = some ⟨oc_expect, od_expect, .func (PySem.W.fnOf "expect" "expect" (defArgs s_expect) (defBody s_expect) (defScope s_expect) .none kV_expect dc_expect pm_expect an_expect cd_expect ct_expect), sl_expect⟩)
    (c_expect : PySem.W.codeIn K cd_expect "expect" = true)
    (k_expect : PySem.W.keepIn K (.ref p_expect) = true)
    (l_read_equals : K.lookup p_read_equals = some ⟨oc_read_equals, od_read_equals, .func (PySem.W.fnOf "read_equals" "read_equals" (defArgs s_read_equals) (defBody s_read_equals) (defScope s_read_equals) .none kV_read_equals dc_read_equals pm_read_equals an_read_equals cd_read_equals ct_read_equals), sl_read_equals⟩)
    (c_read_equals : PySem.W.codeIn K cd_read_equals "read_equals" = true)
    (k_read_equals : PySem.W.keepIn K (.ref p_read_equals) = true)
    (l_lengthened : K.lookup p_lengthened = some ⟨oc_lengthened, od_lengthened, .func (PySem.W.fnOf "lengthened" "lengthened" (defArgs s_lengthened) (defBody s_lengthened) (defScope s_lengthened) .none kV_lengthened dc_lengthened pm_lengthened an_lengthened cd_lengthened ct_lengthened), sl_lengthened⟩)
    (c_lengthened : PySem.W.codeIn K cd_lengthened "lengthened" = true)
    (k_lengthened : PySem.W.keepIn K (.ref p_lengthened) = true)
    (l_read_attribute : K.lookup p_read_attribute = some ⟨oc_read_attribute, od_read_attribute, .func (PySem.W.fnOf "read_attribute" "read_attribute" (defArgs s_read_attribute) (defBody s_read_attribute) (defScope s_read_attribute) .none kV_read_attribute dc_read_attribute pm_read_attribute an_read_attribute cd_read_attribute ct_read_attribute), sl_read_attribute⟩)
    (c_read_attribute : PySem.W.codeIn K cd_read_attribute "read_attribute" = true)
    (k_read_attribute : PySem.W.keepIn K (.ref p_read_attribute) = true)
    (l_read_valued : K.lookup p_read_valued = some ⟨oc_read_valued, od_read_valued, .func (PySem.W.fnOf "read_valued" "read_valued" (defArgs s_read_valued) (defBody s_read_valued) (defScope s_read_valued) .none kV_read_valued dc_read_valued pm_read_valued an_read_valued cd_read_valued ct_read_valued), sl_read_valued⟩)
    (c_read_valued : PySem.W.codeIn K cd_read_valued "read_valued" = true)
    (k_read_valued : PySem.W.keepIn K (.ref p_read_valued) = true)
    (l_read_gap : K.lookup p_read_gap = some ⟨oc_read_gap, od_read_gap, .func (PySem.W.fnOf "read_gap" "read_gap" (defArgs s_read_gap) (defBody s_read_gap) (defScope s_read_gap) .none kV_read_gap dc_read_gap pm_read_gap an_read_gap cd_read_gap ct_read_gap), sl_read_gap⟩)
    (c_read_gap : PySem.W.codeIn K cd_read_gap "read_gap" = true)
    (k_read_gap : PySem.W.keepIn K (.ref p_read_gap) = true)
    (l_read_name : K.lookup p_read_name = some ⟨oc_read_name, od_read_name, .func (PySem.W.fnOf "read_name" "read_name" (defArgs s_read_name) (defBody s_read_name) (defScope s_read_name) .none kV_read_name dc_read_name pm_read_name an_read_name cd_read_name ct_read_name), sl_read_name⟩)
    (c_read_name : PySem.W.codeIn K cd_read_name "read_name" = true)
    (k_read_name : PySem.W.keepIn K (.ref p_read_name) = true)
    (l_read_dashes : K.lookup p_read_dashes = some ⟨oc_read_dashes, od_read_dashes, .func (PySem.W.fnOf "read_dashes" "read_dashes" (defArgs s_read_dashes) (defBody s_read_dashes) (defScope s_read_dashes) .none kV_read_dashes dc_read_dashes pm_read_dashes an_read_dashes cd_read_dashes ct_read_dashes), sl_read_dashes⟩)
    (c_read_dashes : PySem.W.codeIn K cd_read_dashes "read_dashes" = true)
    (k_read_dashes : PySem.W.keepIn K (.ref p_read_dashes) = true)
    (l_read_dash : K.lookup p_read_dash = some ⟨oc_read_dash, od_read_dash, .func (PySem.W.fnOf "read_dash" "read_dash" (defArgs s_read_dash) (defBody s_read_dash) (defScope s_read_dash) .none kV_read_dash dc_read_dash pm_read_dash an_read_dash cd_read_dash ct_read_dash), sl_read_dash⟩)
    (c_read_dash : PySem.W.codeIn K cd_read_dash "read_dash" = true)
    (k_read_dash : PySem.W.keepIn K (.ref p_read_dash) = true)
    (l_read_comment : K.lookup p_read_comment = some ⟨oc_read_comment, od_read_comment, .func (PySem.W.fnOf "read_comment" "read_comment" (defArgs s_read_comment) (defBody s_read_comment) (defScope s_read_comment) .none kV_read_comment dc_read_comment pm_read_comment an_read_comment cd_read_comment ct_read_comment), sl_read_comment⟩)
    (c_read_comment : PySem.W.codeIn K cd_read_comment "read_comment" = true)
    (k_read_comment : PySem.W.keepIn K (.ref p_read_comment) = true)
    (l_read_bangs : K.lookup p_read_bangs = some ⟨oc_read_bangs, od_read_bangs, .func (PySem.W.fnOf "read_bangs" "read_bangs" (defArgs s_read_bangs) (defBody s_read_bangs) (defScope s_read_bangs) .none kV_read_bangs dc_read_bangs pm_read_bangs an_read_bangs cd_read_bangs ct_read_bangs), sl_read_bangs⟩)
    (c_read_bangs : PySem.W.codeIn K cd_read_bangs "read_bangs" = true)
    (k_read_bangs : PySem.W.keepIn K (.ref p_read_bangs) = true)
    (l_read_bang : K.lookup p_read_bang = some ⟨oc_read_bang, od_read_bang, .func (PySem.W.fnOf "read_bang" "read_bang" (defArgs s_read_bang) (defBody s_read_bang) (defScope s_read_bang) .none kV_read_bang dc_read_bang pm_read_bang an_read_bang cd_read_bang ct_read_bang), sl_read_bang⟩)
    (c_read_bang : PySem.W.codeIn K cd_read_bang "read_bang" = true)
    (k_read_bang : PySem.W.keepIn K (.ref p_read_bang) = true)
    (l_begin_element : K.lookup p_begin_element = some ⟨oc_begin_element, od_begin_element, .func (PySem.W.fnOf "begin_element" "begin_element" (defArgs s_begin_element) (defBody s_begin_element) (defScope s_begin_element) .none kV_begin_element dc_begin_element pm_begin_element an_begin_element cd_begin_element ct_begin_element), sl_begin_element⟩)
    (c_begin_element : PySem.W.codeIn K cd_begin_element "begin_element" = true)
    (k_begin_element : PySem.W.keepIn K (.ref p_begin_element) = true)
    (l_read_less : K.lookup p_read_less = some ⟨oc_read_less, od_read_less, .func (PySem.W.fnOf "read_less" "read_less" (defArgs s_read_less) (defBody s_read_less) (defScope s_read_less) .none kV_read_less dc_read_less pm_read_less an_read_less cd_read_less ct_read_less), sl_read_less⟩)
    (c_read_less : PySem.W.codeIn K cd_read_less "read_less" = true)
    (k_read_less : PySem.W.keepIn K (.ref p_read_less) = true)
    (l_read_content : K.lookup p_read_content = some ⟨oc_read_content, od_read_content, .func (PySem.W.fnOf "read_content" "read_content" (defArgs s_read_content) (defBody s_read_content) (defScope s_read_content) .none kV_read_content dc_read_content pm_read_content an_read_content cd_read_content ct_read_content), sl_read_content⟩)
    (c_read_content : PySem.W.codeIn K cd_read_content "read_content" = true)
    (k_read_content : PySem.W.keepIn K (.ref p_read_content) = true)
    (l_read_outside : K.lookup p_read_outside = some ⟨oc_read_outside, od_read_outside, .func (PySem.W.fnOf "read_outside" "read_outside" (defArgs s_read_outside) (defBody s_read_outside) (defScope s_read_outside) .none kV_read_outside dc_read_outside pm_read_outside an_read_outside cd_read_outside ct_read_outside), sl_read_outside⟩)
    (c_read_outside : PySem.W.codeIn K cd_read_outside "read_outside" = true)
    (k_read_outside : PySem.W.keepIn K (.ref p_read_outside) = true)
    (l_Tokens_feed : K.lookup p_Tokens_feed = some ⟨oc_Tokens_feed, od_Tokens_feed, .func (PySem.W.fnOf "feed" "Tokens.feed" (defArgs s_Tokens_feed) (defBody s_Tokens_feed) (defScope s_Tokens_feed) .none kV_Tokens_feed dc_Tokens_feed pm_Tokens_feed an_Tokens_feed cd_Tokens_feed ct_Tokens_feed), sl_Tokens_feed⟩)
    (c_Tokens_feed : PySem.W.codeIn K cd_Tokens_feed "Tokens.feed" = true)
    (k_Tokens_feed : PySem.W.keepIn K (.ref p_Tokens_feed) = true)
    (l_Tokens_init : K.lookup p_Tokens_init = some ⟨oc_Tokens_init, od_Tokens_init, .func (PySem.W.fnOf "__init__" "Tokens.__init__" (defArgs s_Tokens_init) (defBody s_Tokens_init) (defScope s_Tokens_init) .none kV_Tokens_init dc_Tokens_init pm_Tokens_init an_Tokens_init cd_Tokens_init ct_Tokens_init), sl_Tokens_init⟩)
    (c_Tokens_init : PySem.W.codeIn K cd_Tokens_init "Tokens.__init__" = true)
    (k_Tokens_init : PySem.W.keepIn K (.ref p_Tokens_init) = true)
    (l_read_text : K.lookup p_read_text = some ⟨oc_read_text, od_read_text, .func (PySem.W.fnOf "read_text" "read_text" (defArgs s_read_text) (defBody s_read_text) (defScope s_read_text) .none kV_read_text dc_read_text pm_read_text an_read_text cd_read_text ct_read_text), sl_read_text⟩)
    (c_read_text : PySem.W.codeIn K cd_read_text "read_text" = true)
    (k_read_text : PySem.W.keepIn K (.ref p_read_text) = true)
    (l_law_tape : K.lookup p_law_tape = some ⟨oc_law_tape, od_law_tape, .func (PySem.W.fnOf "_law_tape" "_law_tape" (defArgs s_law_tape) (defBody s_law_tape) (defScope s_law_tape) .none kV_law_tape dc_law_tape pm_law_tape an_law_tape cd_law_tape ct_law_tape), sl_law_tape⟩)
    (c_law_tape : PySem.W.codeIn K cd_law_tape "_law_tape" = true)
    (k_law_tape : PySem.W.keepIn K (.ref p_law_tape) = true)
    (l_law_at : K.lookup p_law_at = some ⟨oc_law_at, od_law_at, .func (PySem.W.fnOf "_law_at" "_law_at" (defArgs s_law_at) (defBody s_law_at) (defScope s_law_at) .none kV_law_at dc_law_at pm_law_at an_law_at cd_law_at ct_law_at), sl_law_at⟩)
    (c_law_at : PySem.W.codeIn K cd_law_at "_law_at" = true)
    (k_law_at : PySem.W.keepIn K (.ref p_law_at) = true)
    (l_law_pick : K.lookup p_law_pick = some ⟨oc_law_pick, od_law_pick, .func (PySem.W.fnOf "_law_pick" "_law_pick" (defArgs s_law_pick) (defBody s_law_pick) (defScope s_law_pick) .none kV_law_pick dc_law_pick pm_law_pick an_law_pick cd_law_pick ct_law_pick), sl_law_pick⟩)
    (c_law_pick : PySem.W.codeIn K cd_law_pick "_law_pick" = true)
    (k_law_pick : PySem.W.keepIn K (.ref p_law_pick) = true)
    (l_law_signs : K.lookup p_law_signs = some ⟨oc_law_signs, od_law_signs, .func (PySem.W.fnOf "_law_signs" "_law_signs" (defArgs s_law_signs) (defBody s_law_signs) (defScope s_law_signs) .none kV_law_signs dc_law_signs pm_law_signs an_law_signs cd_law_signs ct_law_signs), sl_law_signs⟩)
    (c_law_signs : PySem.W.codeIn K cd_law_signs "_law_signs" = true)
    (k_law_signs : PySem.W.keepIn K (.ref p_law_signs) = true)
    (l_law_attributes : K.lookup p_law_attributes = some ⟨oc_law_attributes, od_law_attributes, .func (PySem.W.fnOf "_law_attributes" "_law_attributes" (defArgs s_law_attributes) (defBody s_law_attributes) (defScope s_law_attributes) .none kV_law_attributes dc_law_attributes pm_law_attributes an_law_attributes cd_law_attributes ct_law_attributes), sl_law_attributes⟩)
    (c_law_attributes : PySem.W.codeIn K cd_law_attributes "_law_attributes" = true)
    (k_law_attributes : PySem.W.keepIn K (.ref p_law_attributes) = true)
    (l_law_tree : K.lookup p_law_tree = some ⟨oc_law_tree, od_law_tree, .func (PySem.W.fnOf "_law_tree" "_law_tree" (defArgs s_law_tree) (defBody s_law_tree) (defScope s_law_tree) .none kV_law_tree dc_law_tree pm_law_tree an_law_tree cd_law_tree ct_law_tree), sl_law_tree⟩)
    (c_law_tree : PySem.W.codeIn K cd_law_tree "_law_tree" = true)
    (k_law_tree : PySem.W.keepIn K (.ref p_law_tree) = true)
    (l_law_blanks : K.lookup p_law_blanks = some ⟨oc_law_blanks, od_law_blanks, .func (PySem.W.fnOf "_law_blanks" "_law_blanks" (defArgs s_law_blanks) (defBody s_law_blanks) (defScope s_law_blanks) .none kV_law_blanks dc_law_blanks pm_law_blanks an_law_blanks cd_law_blanks ct_law_blanks), sl_law_blanks⟩)
    (c_law_blanks : PySem.W.codeIn K cd_law_blanks "_law_blanks" = true)
    (k_law_blanks : PySem.W.keepIn K (.ref p_law_blanks) = true)
    (l_law_remark : K.lookup p_law_remark = some ⟨oc_law_remark, od_law_remark, .func (PySem.W.fnOf "_law_remark" "_law_remark" (defArgs s_law_remark) (defBody s_law_remark) (defScope s_law_remark) .none kV_law_remark dc_law_remark pm_law_remark an_law_remark cd_law_remark ct_law_remark), sl_law_remark⟩)
    (c_law_remark : PySem.W.codeIn K cd_law_remark "_law_remark" = true)
    (k_law_remark : PySem.W.keepIn K (.ref p_law_remark) = true)
    (l_law_written : K.lookup p_law_written = some ⟨oc_law_written, od_law_written, .func (PySem.W.fnOf "_law_written" "_law_written" (defArgs s_law_written) (defBody s_law_written) (defScope s_law_written) .none kV_law_written dc_law_written pm_law_written an_law_written cd_law_written ct_law_written), sl_law_written⟩)
    (c_law_written : PySem.W.codeIn K cd_law_written "_law_written" = true)
    (k_law_written : PySem.W.keepIn K (.ref p_law_written) = true)
    (l_law_start : K.lookup p_law_start = some ⟨oc_law_start, od_law_start, .func (PySem.W.fnOf "_law_start" "_law_start" (defArgs s_law_start) (defBody s_law_start) (defScope s_law_start) .none kV_law_start dc_law_start pm_law_start an_law_start cd_law_start ct_law_start), sl_law_start⟩)
    (c_law_start : PySem.W.codeIn K cd_law_start "_law_start" = true)
    (k_law_start : PySem.W.keepIn K (.ref p_law_start) = true)
    (l_law_element : K.lookup p_law_element = some ⟨oc_law_element, od_law_element, .func (PySem.W.fnOf "_law_element" "_law_element" (defArgs s_law_element) (defBody s_law_element) (defScope s_law_element) .none kV_law_element dc_law_element pm_law_element an_law_element cd_law_element ct_law_element), sl_law_element⟩)
    (c_law_element : PySem.W.codeIn K cd_law_element "_law_element" = true)
    (k_law_element : PySem.W.keepIn K (.ref p_law_element) = true)
    (l_law_document : K.lookup p_law_document = some ⟨oc_law_document, od_law_document, .func (PySem.W.fnOf "_law_document" "_law_document" (defArgs s_law_document) (defBody s_law_document) (defScope s_law_document) .none kV_law_document dc_law_document pm_law_document an_law_document cd_law_document ct_law_document), sl_law_document⟩)
    (c_law_document : PySem.W.codeIn K cd_law_document "_law_document" = true)
    (k_law_document : PySem.W.keepIn K (.ref p_law_document) = true)
    (l_law_bytes : K.lookup p_law_bytes = some ⟨oc_law_bytes, od_law_bytes, .func (PySem.W.fnOf "_law_bytes" "_law_bytes" (defArgs s_law_bytes) (defBody s_law_bytes) (defScope s_law_bytes) .none kV_law_bytes dc_law_bytes pm_law_bytes an_law_bytes cd_law_bytes ct_law_bytes), sl_law_bytes⟩)
    (c_law_bytes : PySem.W.codeIn K cd_law_bytes "_law_bytes" = true)
    (k_law_bytes : PySem.W.keepIn K (.ref p_law_bytes) = true)
    (l_law_cuts : K.lookup p_law_cuts = some ⟨oc_law_cuts, od_law_cuts, .func (PySem.W.fnOf "_law_cuts" "_law_cuts" (defArgs s_law_cuts) (defBody s_law_cuts) (defScope s_law_cuts) .none kV_law_cuts dc_law_cuts pm_law_cuts an_law_cuts cd_law_cuts ct_law_cuts), sl_law_cuts⟩)
    (c_law_cuts : PySem.W.codeIn K cd_law_cuts "_law_cuts" = true)
    (k_law_cuts : PySem.W.keepIn K (.ref p_law_cuts) = true)
    (l_law : K.lookup p_law = some ⟨oc_law, od_law, .func (PySem.W.fnOf "law" "law" (defArgs s_law) (defBody s_law) (defScope s_law) .none kV_law dc_law pm_law an_law cd_law ct_law), sl_law⟩)
    (c_law : PySem.W.codeIn K cd_law "law" = true)
    (k_law : PySem.W.keepIn K (.ref p_law) = true)
    (z_abs : PySem.W.nsIn K mainGlobals "abs" = some none)
    (z_all : PySem.W.nsIn K mainGlobals "all" = some none)
    (z_any : PySem.W.nsIn K mainGlobals "any" = some none)
    (z_bool : PySem.W.nsIn K mainGlobals "bool" = some none)
    (z_int : PySem.W.nsIn K mainGlobals "int" = some none)
    (z_isinstance : PySem.W.nsIn K mainGlobals "isinstance" = some none)
    (z_len : PySem.W.nsIn K mainGlobals "len" = some none)
    (z_list : PySem.W.nsIn K mainGlobals "list" = some none)
    (z_min : PySem.W.nsIn K mainGlobals "min" = some none)
    (z_ord : PySem.W.nsIn K mainGlobals "ord" = some none)
    (z_range : PySem.W.nsIn K mainGlobals "range" = some none)
    (z_sorted : PySem.W.nsIn K mainGlobals "sorted" = some none)
    (z_str : PySem.W.nsIn K mainGlobals "str" = some none)
    (z_tuple : PySem.W.nsIn K mainGlobals "tuple" = some none)
    (pg_Tokens : PySem.W.plainGet K C_Tokens Str.empty = true)
    (hd_Tokens : PySem.W.hasDictIn K C_Tokens = true)
    (po_Tokens : PySem.W.plainOver K C_Tokens = true)
    (sa_Tokens : PySem.W.findIn K (.ref C_Tokens) "__setattr__" = some (some (.builtin "object.__setattr__")))
    (fn_Tokens_init : PySem.W.isFn K (.ref p_Tokens_init) = true)
    (mm_Tokens : PySem.W.makesIn K C_Tokens = true)
    (kk_Tokens : PySem.W.keepIn K (.ref C_Tokens) = true)
    (fn_Tokens_feed : PySem.W.isFn K (.ref p_Tokens_feed) = true)
    (fn_Tokens_close : PySem.W.isFn K (.ref p_Tokens_close) = true)
    (n_Tokens_place : PySem.W.findIn K (.ref C_Tokens) "place" = some none)
    (n_Tokens_reading : PySem.W.findIn K (.ref C_Tokens) "reading" = some none)
    (n_Tokens_names : PySem.W.findIn K (.ref C_Tokens) "names" = some none)
    (n_Tokens_ended : PySem.W.findIn K (.ref C_Tokens) "ended" = some none)
    (n_Tokens_name : PySem.W.findIn K (.ref C_Tokens) "name" = some none)
    (n_Tokens_attribute : PySem.W.findIn K (.ref C_Tokens) "attribute" = some none)
    (n_Tokens_pairs : PySem.W.findIn K (.ref C_Tokens) "pairs" = some none)
    (n_Tokens_signs : PySem.W.findIn K (.ref C_Tokens) "signs" = some none)
    (n_Tokens_entity : PySem.W.findIn K (.ref C_Tokens) "entity" = some none)
    (n_Tokens_matched : PySem.W.findIn K (.ref C_Tokens) "matched" = some none)
    (n_Tokens_around : PySem.W.findIn K (.ref C_Tokens) "around" = some none)
    (n_Tokens_told : PySem.W.findIn K (.ref C_Tokens) "told" = some none)
    (tl_14 : K.lookup ta_14 = some ⟨.type "dict", none, .dict #[⟨hs_14_0, .str "outside" tk_14_0, (.ref p_read_outside)⟩, ⟨hs_14_1, .str "content" tk_14_1, (.ref p_read_content)⟩, ⟨hs_14_2, .str "less" tk_14_2, (.ref p_read_less)⟩, ⟨hs_14_3, .str "bang" tk_14_3, (.ref p_read_bang)⟩, ⟨hs_14_4, .str "bangs" tk_14_4, (.ref p_read_bangs)⟩, ⟨hs_14_5, .str "comment" tk_14_5, (.ref p_read_comment)⟩, ⟨hs_14_6, .str "dash" tk_14_6, (.ref p_read_dash)⟩, ⟨hs_14_7, .str "dashes" tk_14_7, (.ref p_read_dashes)⟩, ⟨hs_14_8, .str "name" tk_14_8, (.ref p_read_name)⟩, ⟨hs_14_9, .str "valued" tk_14_9, (.ref p_read_valued)⟩, ⟨hs_14_10, .str "gap" tk_14_10, (.ref p_read_gap)⟩, ⟨hs_14_11, .str "attribute" tk_14_11, (.ref p_read_attribute)⟩, ⟨hs_14_12, .str "equals" tk_14_12, (.ref p_read_equals)⟩, ⟨hs_14_13, .str "value" tk_14_13, (.ref p_read_value)⟩, ⟨hs_14_14, .str "slash" tk_14_14, (.ref p_read_slash)⟩, ⟨hs_14_15, .str "end name" tk_14_15, (.ref p_read_end_name)⟩, ⟨hs_14_16, .str "entity" tk_14_16, (.ref p_read_entity)⟩] tn_14, #[]⟩)
    (tl_13 : K.lookup ta_13 = some ⟨.type "dict", none, .dict #[⟨hs_13_0, .str "lt;" tk_13_0, (.str "<" tk_9)⟩, ⟨hs_13_1, .str "gt;" tk_13_1, (.str ">" tk_10)⟩, ⟨hs_13_2, .str "amp;" tk_13_2, (.str "&" tk_11)⟩, ⟨hs_13_3, .str "quot;" tk_13_3, (.str "\"" tk_12)⟩] tn_13, #[]⟩)
    (lo_13 : (ta_13 == sysModules) = false)
    (hh_13_0 : hs_13_0 = PyData.keyHash w.params "lt;")
    (hh_13_1 : hs_13_1 = PyData.keyHash w.params "gt;")
    (hh_13_2 : hs_13_2 = PyData.keyHash w.params "amp;")
    (hh_13_3 : hs_13_3 = PyData.keyHash w.params "quot;")
    (lo_14 : (ta_14 == sysModules) = false)
    (hh_14_0 : hs_14_0 = PyData.keyHash w.params "outside")
    (hh_14_1 : hs_14_1 = PyData.keyHash w.params "content")
    (hh_14_2 : hs_14_2 = PyData.keyHash w.params "less")
    (hh_14_3 : hs_14_3 = PyData.keyHash w.params "bang")
    (hh_14_4 : hs_14_4 = PyData.keyHash w.params "bangs")
    (hh_14_5 : hs_14_5 = PyData.keyHash w.params "comment")
    (hh_14_6 : hs_14_6 = PyData.keyHash w.params "dash")
    (hh_14_7 : hs_14_7 = PyData.keyHash w.params "dashes")
    (hh_14_8 : hs_14_8 = PyData.keyHash w.params "name")
    (hh_14_9 : hs_14_9 = PyData.keyHash w.params "valued")
    (hh_14_10 : hs_14_10 = PyData.keyHash w.params "gap")
    (hh_14_11 : hs_14_11 = PyData.keyHash w.params "attribute")
    (hh_14_12 : hs_14_12 = PyData.keyHash w.params "equals")
    (hh_14_13 : hs_14_13 = PyData.keyHash w.params "value")
    (hh_14_14 : hs_14_14 = PyData.keyHash w.params "slash")
    (hh_14_15 : hs_14_15 = PyData.keyHash w.params "end name")
    (hh_14_16 : hs_14_16 = PyData.keyHash w.params "entity")
    : ∃ fd : FuncData, (∀ (s : Shared) (v : Value), BindsTo s fd ⟨[v], []⟩ [("script", v)]) ∧ ∀ base : Heap, K.In base → base.Ns mainGlobals mg → FnOk l.prog w K mg base (L2.CX l.prog w) 14 fa fd ["script"] (spLaw K) := by
  have e := hfa.symm.trans (PySem.W.mg_of X G a_law)
  have e2 : p_law = fa := by cases e; rfl
  subst e2
  have T : Txt K w mg { a_is_name := p_is_name, d_is_name := (PySem.W.fnOf "is_name" "is_name" (defArgs s_is_name) (defBody s_is_name) (defScope s_is_name) .none kV_is_name dc_is_name pm_is_name an_is_name cd_is_name ct_is_name), a_sign_of := p_sign_of, d_sign_of := (PySem.W.fnOf "sign_of" "sign_of" (defArgs s_sign_of) (defBody s_sign_of) (defScope s_sign_of) .none kV_sign_of dc_sign_of pm_sign_of an_sign_of cd_sign_of ct_sign_of), a_is_integer := p_is_integer, d_is_integer := (PySem.W.fnOf "is_integer" "is_integer" (defArgs s_is_integer) (defBody s_is_integer) (defScope s_is_integer) .none kV_is_integer dc_is_integer pm_is_integer an_is_integer cd_is_integer ct_is_integer), a_Tokens_close := p_Tokens_close, d_Tokens_close := (PySem.W.fnOf "close" "Tokens.close" (defArgs s_Tokens_close) (defBody s_Tokens_close) (defScope s_Tokens_close) .none kV_Tokens_close dc_Tokens_close pm_Tokens_close an_Tokens_close cd_Tokens_close ct_Tokens_close), a_tell_entity := p_tell_entity, d_tell_entity := (PySem.W.fnOf "tell_entity" "tell_entity" (defArgs s_tell_entity) (defBody s_tell_entity) (defScope s_tell_entity) .none kV_tell_entity dc_tell_entity pm_tell_entity an_tell_entity cd_tell_entity ct_tell_entity), a_read_entity := p_read_entity, d_read_entity := (PySem.W.fnOf "read_entity" "read_entity" (defArgs s_read_entity) (defBody s_read_entity) (defScope s_read_entity) .none kV_read_entity dc_read_entity pm_read_entity an_read_entity cd_read_entity ct_read_entity), a_between_tokens := p_between_tokens, d_between_tokens := (PySem.W.fnOf "between_tokens" "between_tokens" (defArgs s_between_tokens) (defBody s_between_tokens) (defScope s_between_tokens) .none kV_between_tokens dc_between_tokens pm_between_tokens an_between_tokens cd_between_tokens ct_between_tokens), a_tell_end := p_tell_end, d_tell_end := (PySem.W.fnOf "tell_end" "tell_end" (defArgs s_tell_end) (defBody s_tell_end) (defScope s_tell_end) .none kV_tell_end dc_tell_end pm_tell_end an_tell_end cd_tell_end ct_tell_end), a_read_end_name := p_read_end_name, d_read_end_name := (PySem.W.fnOf "read_end_name" "read_end_name" (defArgs s_read_end_name) (defBody s_read_end_name) (defScope s_read_end_name) .none kV_read_end_name dc_read_end_name pm_read_end_name an_read_end_name cd_read_end_name ct_read_end_name), a_tell_start := p_tell_start, d_tell_start := (PySem.W.fnOf "tell_start" "tell_start" (defArgs s_tell_start) (defBody s_tell_start) (defScope s_tell_start) .none kV_tell_start dc_tell_start pm_tell_start an_tell_start cd_tell_start ct_tell_start), a_read_slash := p_read_slash, d_read_slash := (PySem.W.fnOf "read_slash" "read_slash" (defArgs s_read_slash) (defBody s_read_slash) (defScope s_read_slash) .none kV_read_slash dc_read_slash pm_read_slash an_read_slash cd_read_slash ct_read_slash), a_begin_entity := p_begin_entity, d_begin_entity := (PySem.W.fnOf "begin_entity" "begin_entity" (defArgs s_begin_entity) (defBody s_begin_entity) (defScope s_begin_entity) .none kV_begin_entity dc_begin_entity pm_begin_entity an_begin_entity cd_begin_entity ct_begin_entity), a_read_value := p_read_value, d_read_value := (PySem.W.fnOf "read_value" "read_value" (defArgs s_read_value) (defBody s_read_value) (defScope s_read_value) .none kV_read_value dc_read_value pm_read_value an_read_value cd_read_value ct_read_value), a_expect := p_expect, d_expect := (PySem.W.fnOf "expect" "expect" (defArgs s_expect) (defBody s_expect) (defScope s_expect) .none kV_expect dc_expect pm_expect an_expect cd_expect ct_expect), a_read_equals := p_read_equals, d_read_equals := (PySem.W.fnOf "read_equals" "read_equals" (defArgs s_read_equals) (defBody s_read_equals) (defScope s_read_equals) .none kV_read_equals dc_read_equals pm_read_equals an_read_equals cd_read_equals ct_read_equals), a_lengthened := p_lengthened, d_lengthened := (PySem.W.fnOf "lengthened" "lengthened" (defArgs s_lengthened) (defBody s_lengthened) (defScope s_lengthened) .none kV_lengthened dc_lengthened pm_lengthened an_lengthened cd_lengthened ct_lengthened), a_read_attribute := p_read_attribute, d_read_attribute := (PySem.W.fnOf "read_attribute" "read_attribute" (defArgs s_read_attribute) (defBody s_read_attribute) (defScope s_read_attribute) .none kV_read_attribute dc_read_attribute pm_read_attribute an_read_attribute cd_read_attribute ct_read_attribute), a_read_valued := p_read_valued, d_read_valued := (PySem.W.fnOf "read_valued" "read_valued" (defArgs s_read_valued) (defBody s_read_valued) (defScope s_read_valued) .none kV_read_valued dc_read_valued pm_read_valued an_read_valued cd_read_valued ct_read_valued), a_read_gap := p_read_gap, d_read_gap := (PySem.W.fnOf "read_gap" "read_gap" (defArgs s_read_gap) (defBody s_read_gap) (defScope s_read_gap) .none kV_read_gap dc_read_gap pm_read_gap an_read_gap cd_read_gap ct_read_gap), a_read_name := p_read_name, d_read_name := (PySem.W.fnOf "read_name" "read_name" (defArgs s_read_name) (defBody s_read_name) (defScope s_read_name) .none kV_read_name dc_read_name pm_read_name an_read_name cd_read_name ct_read_name), a_read_dashes := p_read_dashes, d_read_dashes := (PySem.W.fnOf "read_dashes" "read_dashes" (defArgs s_read_dashes) (defBody s_read_dashes) (defScope s_read_dashes) .none kV_read_dashes dc_read_dashes pm_read_dashes an_read_dashes cd_read_dashes ct_read_dashes), a_read_dash := p_read_dash, d_read_dash := (PySem.W.fnOf "read_dash" "read_dash" (defArgs s_read_dash) (defBody s_read_dash) (defScope s_read_dash) .none kV_read_dash dc_read_dash pm_read_dash an_read_dash cd_read_dash ct_read_dash), a_read_comment := p_read_comment, d_read_comment := (PySem.W.fnOf "read_comment" "read_comment" (defArgs s_read_comment) (defBody s_read_comment) (defScope s_read_comment) .none kV_read_comment dc_read_comment pm_read_comment an_read_comment cd_read_comment ct_read_comment), a_read_bangs := p_read_bangs, d_read_bangs := (PySem.W.fnOf "read_bangs" "read_bangs" (defArgs s_read_bangs) (defBody s_read_bangs) (defScope s_read_bangs) .none kV_read_bangs dc_read_bangs pm_read_bangs an_read_bangs cd_read_bangs ct_read_bangs), a_read_bang := p_read_bang, d_read_bang := (PySem.W.fnOf "read_bang" "read_bang" (defArgs s_read_bang) (defBody s_read_bang) (defScope s_read_bang) .none kV_read_bang dc_read_bang pm_read_bang an_read_bang cd_read_bang ct_read_bang), a_begin_element := p_begin_element, d_begin_element := (PySem.W.fnOf "begin_element" "begin_element" (defArgs s_begin_element) (defBody s_begin_element) (defScope s_begin_element) .none kV_begin_element dc_begin_element pm_begin_element an_begin_element cd_begin_element ct_begin_element), a_read_less := p_read_less, d_read_less := (PySem.W.fnOf "read_less" "read_less" (defArgs s_read_less) (defBody s_read_less) (defScope s_read_less) .none kV_read_less dc_read_less pm_read_less an_read_less cd_read_less ct_read_less), a_read_content := p_read_content, d_read_content := (PySem.W.fnOf "read_content" "read_content" (defArgs s_read_content) (defBody s_read_content) (defScope s_read_content) .none kV_read_content dc_read_content pm_read_content an_read_content cd_read_content ct_read_content), a_read_outside := p_read_outside, d_read_outside := (PySem.W.fnOf "read_outside" "read_outside" (defArgs s_read_outside) (defBody s_read_outside) (defScope s_read_outside) .none kV_read_outside dc_read_outside pm_read_outside an_read_outside cd_read_outside ct_read_outside), a_Tokens_feed := p_Tokens_feed, d_Tokens_feed := (PySem.W.fnOf "feed" "Tokens.feed" (defArgs s_Tokens_feed) (defBody s_Tokens_feed) (defScope s_Tokens_feed) .none kV_Tokens_feed dc_Tokens_feed pm_Tokens_feed an_Tokens_feed cd_Tokens_feed ct_Tokens_feed), a_Tokens_init := p_Tokens_init, d_Tokens_init := (PySem.W.fnOf "__init__" "Tokens.__init__" (defArgs s_Tokens_init) (defBody s_Tokens_init) (defScope s_Tokens_init) .none kV_Tokens_init dc_Tokens_init pm_Tokens_init an_Tokens_init cd_Tokens_init ct_Tokens_init), a_read_text := p_read_text, d_read_text := (PySem.W.fnOf "read_text" "read_text" (defArgs s_read_text) (defBody s_read_text) (defScope s_read_text) .none kV_read_text dc_read_text pm_read_text an_read_text cd_read_text ct_read_text), a_law_tape := p_law_tape, d_law_tape := (PySem.W.fnOf "_law_tape" "_law_tape" (defArgs s_law_tape) (defBody s_law_tape) (defScope s_law_tape) .none kV_law_tape dc_law_tape pm_law_tape an_law_tape cd_law_tape ct_law_tape), a_law_at := p_law_at, d_law_at := (PySem.W.fnOf "_law_at" "_law_at" (defArgs s_law_at) (defBody s_law_at) (defScope s_law_at) .none kV_law_at dc_law_at pm_law_at an_law_at cd_law_at ct_law_at), a_law_pick := p_law_pick, d_law_pick := (PySem.W.fnOf "_law_pick" "_law_pick" (defArgs s_law_pick) (defBody s_law_pick) (defScope s_law_pick) .none kV_law_pick dc_law_pick pm_law_pick an_law_pick cd_law_pick ct_law_pick), a_law_signs := p_law_signs, d_law_signs := (PySem.W.fnOf "_law_signs" "_law_signs" (defArgs s_law_signs) (defBody s_law_signs) (defScope s_law_signs) .none kV_law_signs dc_law_signs pm_law_signs an_law_signs cd_law_signs ct_law_signs), a_law_attributes := p_law_attributes, d_law_attributes := (PySem.W.fnOf "_law_attributes" "_law_attributes" (defArgs s_law_attributes) (defBody s_law_attributes) (defScope s_law_attributes) .none kV_law_attributes dc_law_attributes pm_law_attributes an_law_attributes cd_law_attributes ct_law_attributes), a_law_tree := p_law_tree, d_law_tree := (PySem.W.fnOf "_law_tree" "_law_tree" (defArgs s_law_tree) (defBody s_law_tree) (defScope s_law_tree) .none kV_law_tree dc_law_tree pm_law_tree an_law_tree cd_law_tree ct_law_tree), a_law_blanks := p_law_blanks, d_law_blanks := (PySem.W.fnOf "_law_blanks" "_law_blanks" (defArgs s_law_blanks) (defBody s_law_blanks) (defScope s_law_blanks) .none kV_law_blanks dc_law_blanks pm_law_blanks an_law_blanks cd_law_blanks ct_law_blanks), a_law_remark := p_law_remark, d_law_remark := (PySem.W.fnOf "_law_remark" "_law_remark" (defArgs s_law_remark) (defBody s_law_remark) (defScope s_law_remark) .none kV_law_remark dc_law_remark pm_law_remark an_law_remark cd_law_remark ct_law_remark), a_law_written := p_law_written, d_law_written := (PySem.W.fnOf "_law_written" "_law_written" (defArgs s_law_written) (defBody s_law_written) (defScope s_law_written) .none kV_law_written dc_law_written pm_law_written an_law_written cd_law_written ct_law_written), a_law_start := p_law_start, d_law_start := (PySem.W.fnOf "_law_start" "_law_start" (defArgs s_law_start) (defBody s_law_start) (defScope s_law_start) .none kV_law_start dc_law_start pm_law_start an_law_start cd_law_start ct_law_start), a_law_element := p_law_element, d_law_element := (PySem.W.fnOf "_law_element" "_law_element" (defArgs s_law_element) (defBody s_law_element) (defScope s_law_element) .none kV_law_element dc_law_element pm_law_element an_law_element cd_law_element ct_law_element), a_law_document := p_law_document, d_law_document := (PySem.W.fnOf "_law_document" "_law_document" (defArgs s_law_document) (defBody s_law_document) (defScope s_law_document) .none kV_law_document dc_law_document pm_law_document an_law_document cd_law_document ct_law_document), a_law_bytes := p_law_bytes, d_law_bytes := (PySem.W.fnOf "_law_bytes" "_law_bytes" (defArgs s_law_bytes) (defBody s_law_bytes) (defScope s_law_bytes) .none kV_law_bytes dc_law_bytes pm_law_bytes an_law_bytes cd_law_bytes ct_law_bytes), a_law_cuts := p_law_cuts, d_law_cuts := (PySem.W.fnOf "_law_cuts" "_law_cuts" (defArgs s_law_cuts) (defBody s_law_cuts) (defScope s_law_cuts) .none kV_law_cuts dc_law_cuts pm_law_cuts an_law_cuts cd_law_cuts ct_law_cuts), a_law := p_law, d_law := (PySem.W.fnOf "law" "law" (defArgs s_law) (defBody s_law) (defScope s_law) .none kV_law dc_law pm_law an_law cd_law ct_law), w_ENTITIES := ta_13, w_READERS := ta_14, c_Tokens := C_Tokens } := {
    F_is_name := fun_mk l_is_name c_is_name k_is_name
    b_is_name := (fun_mk (st := s_is_name) l_is_name c_is_name k_is_name).binds (ps := ["value"]) fun _ _ _ _ _ _ us hl => match us, hl with | [_], _ => rfl
    g_is_name := PySem.W.mg_of X G a_is_name
    F_sign_of := fun_mk l_sign_of c_sign_of k_sign_of
    b_sign_of := (fun_mk (st := s_sign_of) l_sign_of c_sign_of k_sign_of).binds (ps := ["byte"]) fun _ _ _ _ _ _ us hl => match us, hl with | [_], _ => rfl
    g_sign_of := PySem.W.mg_of X G a_sign_of
    F_is_integer := fun_mk l_is_integer c_is_integer k_is_integer
    b_is_integer := (fun_mk (st := s_is_integer) l_is_integer c_is_integer k_is_integer).binds (ps := ["value"]) fun _ _ _ _ _ _ us hl => match us, hl with | [_], _ => rfl
    g_is_integer := PySem.W.mg_of X G a_is_integer
    F_Tokens_close := fun_mk l_Tokens_close c_Tokens_close k_Tokens_close
    b_Tokens_close := (fun_mk (st := s_Tokens_close) l_Tokens_close c_Tokens_close k_Tokens_close).binds (ps := ["self"]) fun _ _ _ _ _ _ us hl => match us, hl with | [_], _ => rfl
    F_tell_entity := fun_mk l_tell_entity c_tell_entity k_tell_entity
    b_tell_entity := (fun_mk (st := s_tell_entity) l_tell_entity c_tell_entity k_tell_entity).binds (ps := ["tokens", "sign"]) fun _ _ _ _ _ _ us hl => match us, hl with | [_, _], _ => rfl
    g_tell_entity := PySem.W.mg_of X G a_tell_entity
    F_read_entity := fun_mk l_read_entity c_read_entity k_read_entity
    b_read_entity := (fun_mk (st := s_read_entity) l_read_entity c_read_entity k_read_entity).binds (ps := ["tokens", "sign"]) fun _ _ _ _ _ _ us hl => match us, hl with | [_, _], _ => rfl
    g_read_entity := PySem.W.mg_of X G a_read_entity
    F_between_tokens := fun_mk l_between_tokens c_between_tokens k_between_tokens
    b_between_tokens := (fun_mk (st := s_between_tokens) l_between_tokens c_between_tokens k_between_tokens).binds (ps := ["tokens"]) fun _ _ _ _ _ _ us hl => match us, hl with | [_], _ => rfl
    g_between_tokens := PySem.W.mg_of X G a_between_tokens
    F_tell_end := fun_mk l_tell_end c_tell_end k_tell_end
    b_tell_end := (fun_mk (st := s_tell_end) l_tell_end c_tell_end k_tell_end).binds (ps := ["tokens"]) fun _ _ _ _ _ _ us hl => match us, hl with | [_], _ => rfl
    g_tell_end := PySem.W.mg_of X G a_tell_end
    F_read_end_name := fun_mk l_read_end_name c_read_end_name k_read_end_name
    b_read_end_name := (fun_mk (st := s_read_end_name) l_read_end_name c_read_end_name k_read_end_name).binds (ps := ["tokens", "sign"]) fun _ _ _ _ _ _ us hl => match us, hl with | [_, _], _ => rfl
    g_read_end_name := PySem.W.mg_of X G a_read_end_name
    F_tell_start := fun_mk l_tell_start c_tell_start k_tell_start
    b_tell_start := (fun_mk (st := s_tell_start) l_tell_start c_tell_start k_tell_start).binds (ps := ["tokens"]) fun _ _ _ _ _ _ us hl => match us, hl with | [_], _ => rfl
    g_tell_start := PySem.W.mg_of X G a_tell_start
    F_read_slash := fun_mk l_read_slash c_read_slash k_read_slash
    b_read_slash := (fun_mk (st := s_read_slash) l_read_slash c_read_slash k_read_slash).binds (ps := ["tokens", "sign"]) fun _ _ _ _ _ _ us hl => match us, hl with | [_, _], _ => rfl
    g_read_slash := PySem.W.mg_of X G a_read_slash
    F_begin_entity := fun_mk l_begin_entity c_begin_entity k_begin_entity
    b_begin_entity := (fun_mk (st := s_begin_entity) l_begin_entity c_begin_entity k_begin_entity).binds (ps := ["tokens", "around"]) fun _ _ _ _ _ _ us hl => match us, hl with | [_, _], _ => rfl
    g_begin_entity := PySem.W.mg_of X G a_begin_entity
    F_read_value := fun_mk l_read_value c_read_value k_read_value
    b_read_value := (fun_mk (st := s_read_value) l_read_value c_read_value k_read_value).binds (ps := ["tokens", "sign"]) fun _ _ _ _ _ _ us hl => match us, hl with | [_, _], _ => rfl
    g_read_value := PySem.W.mg_of X G a_read_value
    F_expect := fun_mk l_expect c_expect k_expect
    b_expect := (fun_mk (st := s_expect) l_expect c_expect k_expect).binds (ps := ["tokens", "sign", "due", "reading"]) fun _ _ _ _ _ _ us hl => match us, hl with | [_, _, _, _], _ => rfl
    g_expect := PySem.W.mg_of X G a_expect
    F_read_equals := fun_mk l_read_equals c_read_equals k_read_equals
    b_read_equals := (fun_mk (st := s_read_equals) l_read_equals c_read_equals k_read_equals).binds (ps := ["tokens", "sign"]) fun _ _ _ _ _ _ us hl => match us, hl with | [_, _], _ => rfl
    g_read_equals := PySem.W.mg_of X G a_read_equals
    F_lengthened := fun_mk l_lengthened c_lengthened k_lengthened
    b_lengthened := (fun_mk (st := s_lengthened) l_lengthened c_lengthened k_lengthened).binds (ps := ["tokens", "name", "sign"]) fun _ _ _ _ _ _ us hl => match us, hl with | [_, _, _], _ => rfl
    g_lengthened := PySem.W.mg_of X G a_lengthened
    F_read_attribute := fun_mk l_read_attribute c_read_attribute k_read_attribute
    b_read_attribute := (fun_mk (st := s_read_attribute) l_read_attribute c_read_attribute k_read_attribute).binds (ps := ["tokens", "sign"]) fun _ _ _ _ _ _ us hl => match us, hl with | [_, _], _ => rfl
    g_read_attribute := PySem.W.mg_of X G a_read_attribute
    F_read_valued := fun_mk l_read_valued c_read_valued k_read_valued
    b_read_valued := (fun_mk (st := s_read_valued) l_read_valued c_read_valued k_read_valued).binds (ps := ["tokens", "sign"]) fun _ _ _ _ _ _ us hl => match us, hl with | [_, _], _ => rfl
    g_read_valued := PySem.W.mg_of X G a_read_valued
    F_read_gap := fun_mk l_read_gap c_read_gap k_read_gap
    b_read_gap := (fun_mk (st := s_read_gap) l_read_gap c_read_gap k_read_gap).binds (ps := ["tokens", "sign"]) fun _ _ _ _ _ _ us hl => match us, hl with | [_, _], _ => rfl
    g_read_gap := PySem.W.mg_of X G a_read_gap
    F_read_name := fun_mk l_read_name c_read_name k_read_name
    b_read_name := (fun_mk (st := s_read_name) l_read_name c_read_name k_read_name).binds (ps := ["tokens", "sign"]) fun _ _ _ _ _ _ us hl => match us, hl with | [_, _], _ => rfl
    g_read_name := PySem.W.mg_of X G a_read_name
    F_read_dashes := fun_mk l_read_dashes c_read_dashes k_read_dashes
    b_read_dashes := (fun_mk (st := s_read_dashes) l_read_dashes c_read_dashes k_read_dashes).binds (ps := ["tokens", "sign"]) fun _ _ _ _ _ _ us hl => match us, hl with | [_, _], _ => rfl
    g_read_dashes := PySem.W.mg_of X G a_read_dashes
    F_read_dash := fun_mk l_read_dash c_read_dash k_read_dash
    b_read_dash := (fun_mk (st := s_read_dash) l_read_dash c_read_dash k_read_dash).binds (ps := ["tokens", "sign"]) fun _ _ _ _ _ _ us hl => match us, hl with | [_, _], _ => rfl
    g_read_dash := PySem.W.mg_of X G a_read_dash
    F_read_comment := fun_mk l_read_comment c_read_comment k_read_comment
    b_read_comment := (fun_mk (st := s_read_comment) l_read_comment c_read_comment k_read_comment).binds (ps := ["tokens", "sign"]) fun _ _ _ _ _ _ us hl => match us, hl with | [_, _], _ => rfl
    g_read_comment := PySem.W.mg_of X G a_read_comment
    F_read_bangs := fun_mk l_read_bangs c_read_bangs k_read_bangs
    b_read_bangs := (fun_mk (st := s_read_bangs) l_read_bangs c_read_bangs k_read_bangs).binds (ps := ["tokens", "sign"]) fun _ _ _ _ _ _ us hl => match us, hl with | [_, _], _ => rfl
    g_read_bangs := PySem.W.mg_of X G a_read_bangs
    F_read_bang := fun_mk l_read_bang c_read_bang k_read_bang
    b_read_bang := (fun_mk (st := s_read_bang) l_read_bang c_read_bang k_read_bang).binds (ps := ["tokens", "sign"]) fun _ _ _ _ _ _ us hl => match us, hl with | [_, _], _ => rfl
    g_read_bang := PySem.W.mg_of X G a_read_bang
    F_begin_element := fun_mk l_begin_element c_begin_element k_begin_element
    b_begin_element := (fun_mk (st := s_begin_element) l_begin_element c_begin_element k_begin_element).binds (ps := ["tokens", "sign"]) fun _ _ _ _ _ _ us hl => match us, hl with | [_, _], _ => rfl
    g_begin_element := PySem.W.mg_of X G a_begin_element
    F_read_less := fun_mk l_read_less c_read_less k_read_less
    b_read_less := (fun_mk (st := s_read_less) l_read_less c_read_less k_read_less).binds (ps := ["tokens", "sign"]) fun _ _ _ _ _ _ us hl => match us, hl with | [_, _], _ => rfl
    g_read_less := PySem.W.mg_of X G a_read_less
    F_read_content := fun_mk l_read_content c_read_content k_read_content
    b_read_content := (fun_mk (st := s_read_content) l_read_content c_read_content k_read_content).binds (ps := ["tokens", "sign"]) fun _ _ _ _ _ _ us hl => match us, hl with | [_, _], _ => rfl
    g_read_content := PySem.W.mg_of X G a_read_content
    F_read_outside := fun_mk l_read_outside c_read_outside k_read_outside
    b_read_outside := (fun_mk (st := s_read_outside) l_read_outside c_read_outside k_read_outside).binds (ps := ["tokens", "sign"]) fun _ _ _ _ _ _ us hl => match us, hl with | [_, _], _ => rfl
    g_read_outside := PySem.W.mg_of X G a_read_outside
    F_Tokens_feed := fun_mk l_Tokens_feed c_Tokens_feed k_Tokens_feed
    b_Tokens_feed := (fun_mk (st := s_Tokens_feed) l_Tokens_feed c_Tokens_feed k_Tokens_feed).binds (ps := ["self", "data"]) fun _ _ _ _ _ _ us hl => match us, hl with | [_, _], _ => rfl
    F_Tokens_init := fun_mk l_Tokens_init c_Tokens_init k_Tokens_init
    b_Tokens_init := (fun_mk (st := s_Tokens_init) l_Tokens_init c_Tokens_init k_Tokens_init).binds (ps := ["self"]) fun _ _ _ _ _ _ us hl => match us, hl with | [_], _ => rfl
    F_read_text := fun_mk l_read_text c_read_text k_read_text
    b_read_text := (fun_mk (st := s_read_text) l_read_text c_read_text k_read_text).binds (ps := ["data"]) fun _ _ _ _ _ _ us hl => match us, hl with | [_], _ => rfl
    g_read_text := PySem.W.mg_of X G a_read_text
    F_law_tape := fun_mk l_law_tape c_law_tape k_law_tape
    b_law_tape := (fun_mk (st := s_law_tape) l_law_tape c_law_tape k_law_tape).binds (ps := ["script"]) fun _ _ _ _ _ _ us hl => match us, hl with | [_], _ => rfl
    g_law_tape := PySem.W.mg_of X G a_law_tape
    F_law_at := fun_mk l_law_at c_law_at k_law_at
    b_law_at := (fun_mk (st := s_law_at) l_law_at c_law_at k_law_at).binds (ps := ["tape", "k"]) fun _ _ _ _ _ _ us hl => match us, hl with | [_, _], _ => rfl
    g_law_at := PySem.W.mg_of X G a_law_at
    F_law_pick := fun_mk l_law_pick c_law_pick k_law_pick
    b_law_pick := (fun_mk (st := s_law_pick) l_law_pick c_law_pick k_law_pick).binds (ps := ["w", "many"]) fun _ _ _ _ _ _ us hl => match us, hl with | [_, _], _ => rfl
    g_law_pick := PySem.W.mg_of X G a_law_pick
    F_law_signs := fun_mk l_law_signs c_law_signs k_law_signs
    b_law_signs := (fun_mk (st := s_law_signs) l_law_signs c_law_signs k_law_signs).binds (ps := ["w", "many"]) fun _ _ _ _ _ _ us hl => match us, hl with | [_, _], _ => rfl
    g_law_signs := PySem.W.mg_of X G a_law_signs
    F_law_attributes := fun_mk l_law_attributes c_law_attributes k_law_attributes
    b_law_attributes := (fun_mk (st := s_law_attributes) l_law_attributes c_law_attributes k_law_attributes).binds (ps := ["w"]) fun _ _ _ _ _ _ us hl => match us, hl with | [_], _ => rfl
    g_law_attributes := PySem.W.mg_of X G a_law_attributes
    F_law_tree := fun_mk l_law_tree c_law_tree k_law_tree
    b_law_tree := (fun_mk (st := s_law_tree) l_law_tree c_law_tree k_law_tree).binds (ps := ["w", "level"]) fun _ _ _ _ _ _ us hl => match us, hl with | [_, _], _ => rfl
    g_law_tree := PySem.W.mg_of X G a_law_tree
    F_law_blanks := fun_mk l_law_blanks c_law_blanks k_law_blanks
    b_law_blanks := (fun_mk (st := s_law_blanks) l_law_blanks c_law_blanks k_law_blanks).binds (ps := ["w", "least"]) fun _ _ _ _ _ _ us hl => match us, hl with | [_, _], _ => rfl
    g_law_blanks := PySem.W.mg_of X G a_law_blanks
    F_law_remark := fun_mk l_law_remark c_law_remark k_law_remark
    b_law_remark := (fun_mk (st := s_law_remark) l_law_remark c_law_remark k_law_remark).binds (ps := ["w"]) fun _ _ _ _ _ _ us hl => match us, hl with | [_], _ => rfl
    g_law_remark := PySem.W.mg_of X G a_law_remark
    F_law_written := fun_mk l_law_written c_law_written k_law_written
    b_law_written := (fun_mk (st := s_law_written) l_law_written c_law_written k_law_written).binds (ps := ["w", "sign", "quoted"]) fun _ _ _ _ _ _ us hl => match us, hl with | [_, _, _], _ => rfl
    g_law_written := PySem.W.mg_of X G a_law_written
    F_law_start := fun_mk l_law_start c_law_start k_law_start
    b_law_start := (fun_mk (st := s_law_start) l_law_start c_law_start k_law_start).binds (ps := ["w", "tree"]) fun _ _ _ _ _ _ us hl => match us, hl with | [_, _], _ => rfl
    g_law_start := PySem.W.mg_of X G a_law_start
    F_law_element := fun_mk l_law_element c_law_element k_law_element
    b_law_element := (fun_mk (st := s_law_element) l_law_element c_law_element k_law_element).binds (ps := ["w", "tree", "out"]) fun _ _ _ _ _ _ us hl => match us, hl with | [_, _, _], _ => rfl
    g_law_element := PySem.W.mg_of X G a_law_element
    F_law_document := fun_mk l_law_document c_law_document k_law_document
    b_law_document := (fun_mk (st := s_law_document) l_law_document c_law_document k_law_document).binds (ps := ["w"]) fun _ _ _ _ _ _ us hl => match us, hl with | [_], _ => rfl
    g_law_document := PySem.W.mg_of X G a_law_document
    F_law_bytes := fun_mk l_law_bytes c_law_bytes k_law_bytes
    b_law_bytes := (fun_mk (st := s_law_bytes) l_law_bytes c_law_bytes k_law_bytes).binds (ps := ["text"]) fun _ _ _ _ _ _ us hl => match us, hl with | [_], _ => rfl
    g_law_bytes := PySem.W.mg_of X G a_law_bytes
    F_law_cuts := fun_mk l_law_cuts c_law_cuts k_law_cuts
    b_law_cuts := (fun_mk (st := s_law_cuts) l_law_cuts c_law_cuts k_law_cuts).binds (ps := ["w", "many"]) fun _ _ _ _ _ _ us hl => match us, hl with | [_, _], _ => rfl
    g_law_cuts := PySem.W.mg_of X G a_law_cuts
    F_law := fun_mk l_law c_law k_law
    b_law := (fun_mk (st := s_law) l_law c_law k_law).binds (ps := ["script"]) fun _ _ _ _ _ _ us hl => match us, hl with | [_], _ => rfl
    g_law := PySem.W.mg_of X G a_law
    z_abs := PySem.W.mg_none_of X G z_abs
    z_all := PySem.W.mg_none_of X G z_all
    z_any := PySem.W.mg_none_of X G z_any
    z_bool := PySem.W.mg_none_of X G z_bool
    z_int := PySem.W.mg_none_of X G z_int
    z_isinstance := PySem.W.mg_none_of X G z_isinstance
    z_len := PySem.W.mg_none_of X G z_len
    z_list := PySem.W.mg_none_of X G z_list
    z_min := PySem.W.mg_none_of X G z_min
    z_ord := PySem.W.mg_none_of X G z_ord
    z_range := PySem.W.mg_none_of X G z_range
    z_sorted := PySem.W.mg_none_of X G z_sorted
    z_str := PySem.W.mg_none_of X G z_str
    z_tuple := PySem.W.mg_none_of X G z_tuple
    c_MOST_DEPTH := ⟨_, PySem.W.mg_of X G g_MOST_DEPTH⟩
    c_MOST_NAME := ⟨_, PySem.W.mg_of X G g_MOST_NAME⟩
    c_MOST_ATTRIBUTES := ⟨_, PySem.W.mg_of X G g_MOST_ATTRIBUTES⟩
    c_LETTERS := ⟨_, PySem.W.mg_of X G g_LETTERS⟩
    c_NAME_SIGNS := ⟨_, PySem.W.mg_of X G g_NAME_SIGNS⟩
    c_BLANKS := ⟨_, PySem.W.mg_of X G g_BLANKS⟩
    c_PRINTED := ⟨_, PySem.W.mg_of X G g_PRINTED⟩
    c_PER_CENT := ⟨_, PySem.W.mg_of X G g_PER_CENT⟩
    g_ENTITIES := PySem.W.mg_of X G g_ENTITIES
    w_ENTITIES := ⟨⟨_, _, tl_13, .cons hh_13_0 (.str _ _) (.cons hh_13_1 (.str _ _) (.cons hh_13_2 (.str _ _) (.cons hh_13_3 (.str _ _) (.nil))))⟩, lo_13⟩
    g_READERS := PySem.W.mg_of X G g_READERS
    w_READERS := ⟨⟨_, _, tl_14, .cons hh_14_0 (.fnr _ _) (.cons hh_14_1 (.fnr _ _) (.cons hh_14_2 (.fnr _ _) (.cons hh_14_3 (.fnr _ _) (.cons hh_14_4 (.fnr _ _) (.cons hh_14_5 (.fnr _ _) (.cons hh_14_6 (.fnr _ _) (.cons hh_14_7 (.fnr _ _) (.cons hh_14_8 (.fnr _ _) (.cons hh_14_9 (.fnr _ _) (.cons hh_14_10 (.fnr _ _) (.cons hh_14_11 (.fnr _ _) (.cons hh_14_12 (.fnr _ _) (.cons hh_14_13 (.fnr _ _) (.cons hh_14_14 (.fnr _ _) (.cons hh_14_15 (.fnr _ _) (.cons hh_14_16 (.fnr _ _) (.nil)))))))))))))))))⟩, lo_14⟩
    gc_Tokens := PySem.W.mg_of X G gc_Tokens
    k_Tokens := ⟨pg_Tokens, hd_Tokens, po_Tokens, sa_Tokens⟩
    mk_Tokens := ⟨mm_Tokens, fi_Tokens_init, fn_Tokens_init, kk_Tokens⟩
    m_Tokens_feed := ⟨fi_Tokens_feed, fn_Tokens_feed, k_Tokens_feed⟩
    m_Tokens_close := ⟨fi_Tokens_close, fn_Tokens_close, k_Tokens_close⟩
    n_Tokens_place := n_Tokens_place
    n_Tokens_reading := n_Tokens_reading
    n_Tokens_names := n_Tokens_names
    n_Tokens_ended := n_Tokens_ended
    n_Tokens_name := n_Tokens_name
    n_Tokens_attribute := n_Tokens_attribute
    n_Tokens_pairs := n_Tokens_pairs
    n_Tokens_signs := n_Tokens_signs
    n_Tokens_entity := n_Tokens_entity
    n_Tokens_matched := n_Tokens_matched
    n_Tokens_around := n_Tokens_around
    n_Tokens_told := n_Tokens_told
  }
  exact ⟨_, fun s v => .of_eq rfl, fun base _ _ => law_ok (ok_law T) fun ns hl => law_true _ ns hl⟩
end Law
open PySem PySem.W PyProof.Rows
set_option maxHeartbeats 0 in
theorem PySem.Challenge.cw_hewstream_k01_texts_in_pieces_holds : PySem.Challenge.rw_hewstream_k01_texts_in_pieces.Holds := by
  w_on; o_law; k_head; (case hw => w_witness2)
  k_fill
  refine L2.walk_of (l := PySem.Challenge.rw_hewstream_k01_texts_in_pieces) (n := 63) (k := 14) (x := "script") (CX := fun w => L2.CX PySem.Challenge.rw_hewstream_k01_texts_in_pieces.prog w) (sp := fun w => Rg.spLaw _) rfl (by decide) rfl ⟨rfl, by decide, by decide⟩ (fun w h Y => PySem.W.kIn_of Y) ?F (fun _ _ a ns hl o hS => Rg.sp_law hl o hS) (fun _ _ _ _ _ h => Rg.cx_no h)
  case F =>
    intro w mg fa h KX G hmg
    refine' Law.all_mk KX G hmg ?a_is_name ?a_sign_of ?a_is_integer ?a_tell_entity ?a_read_entity ?a_between_tokens ?a_tell_end ?a_read_end_name ?a_tell_start ?a_read_slash ?a_begin_entity ?a_read_value ?a_expect ?a_read_equals ?a_lengthened ?a_read_attribute ?a_read_valued ?a_read_gap ?a_read_name ?a_read_dashes ?a_read_dash ?a_read_comment ?a_read_bangs ?a_read_bang ?a_begin_element ?a_read_less ?a_read_content ?a_read_outside ?a_read_text ?a_law_tape ?a_law_at ?a_law_pick ?a_law_signs ?a_law_attributes ?a_law_tree ?a_law_blanks ?a_law_remark ?a_law_written ?a_law_start ?a_law_element ?a_law_document ?a_law_bytes ?a_law_cuts ?a_law ?g_MOST_DEPTH ?g_MOST_NAME ?g_MOST_ATTRIBUTES ?g_LETTERS ?g_NAME_SIGNS ?g_BLANKS ?g_PRINTED ?g_PER_CENT ?g_ENTITIES ?g_READERS ?gc_Tokens ?fi_Tokens_init ?fi_Tokens_feed ?fi_Tokens_close ?l_is_name ?c_is_name ?k_is_name ?l_sign_of ?c_sign_of ?k_sign_of ?l_is_integer ?c_is_integer ?k_is_integer ?l_Tokens_close ?c_Tokens_close ?k_Tokens_close ?l_tell_entity ?c_tell_entity ?k_tell_entity ?l_read_entity ?c_read_entity ?k_read_entity ?l_between_tokens ?c_between_tokens ?k_between_tokens ?l_tell_end ?c_tell_end ?k_tell_end ?l_read_end_name ?c_read_end_name ?k_read_end_name ?l_tell_start ?c_tell_start ?k_tell_start ?l_read_slash ?c_read_slash ?k_read_slash ?l_begin_entity ?c_begin_entity ?k_begin_entity ?l_read_value ?c_read_value ?k_read_value ?l_expect ?c_expect ?k_expect ?l_read_equals ?c_read_equals ?k_read_equals ?l_lengthened ?c_lengthened ?k_lengthened ?l_read_attribute ?c_read_attribute ?k_read_attribute ?l_read_valued ?c_read_valued ?k_read_valued ?l_read_gap ?c_read_gap ?k_read_gap ?l_read_name ?c_read_name ?k_read_name ?l_read_dashes ?c_read_dashes ?k_read_dashes ?l_read_dash ?c_read_dash ?k_read_dash ?l_read_comment ?c_read_comment ?k_read_comment ?l_read_bangs ?c_read_bangs ?k_read_bangs ?l_read_bang ?c_read_bang ?k_read_bang ?l_begin_element ?c_begin_element ?k_begin_element ?l_read_less ?c_read_less ?k_read_less ?l_read_content ?c_read_content ?k_read_content ?l_read_outside ?c_read_outside ?k_read_outside ?l_Tokens_feed ?c_Tokens_feed ?k_Tokens_feed ?l_Tokens_init ?c_Tokens_init ?k_Tokens_init ?l_read_text ?c_read_text ?k_read_text ?l_law_tape ?c_law_tape ?k_law_tape ?l_law_at ?c_law_at ?k_law_at ?l_law_pick ?c_law_pick ?k_law_pick ?l_law_signs ?c_law_signs ?k_law_signs ?l_law_attributes ?c_law_attributes ?k_law_attributes ?l_law_tree ?c_law_tree ?k_law_tree ?l_law_blanks ?c_law_blanks ?k_law_blanks ?l_law_remark ?c_law_remark ?k_law_remark ?l_law_written ?c_law_written ?k_law_written ?l_law_start ?c_law_start ?k_law_start ?l_law_element ?c_law_element ?k_law_element ?l_law_document ?c_law_document ?k_law_document ?l_law_bytes ?c_law_bytes ?k_law_bytes ?l_law_cuts ?c_law_cuts ?k_law_cuts ?l_law ?c_law ?k_law ?z_abs ?z_all ?z_any ?z_bool ?z_int ?z_isinstance ?z_len ?z_list ?z_min ?z_ord ?z_range ?z_sorted ?z_str ?z_tuple ?pg_Tokens ?hd_Tokens ?po_Tokens ?sa_Tokens ?fn_Tokens_init ?mm_Tokens ?kk_Tokens ?fn_Tokens_feed ?fn_Tokens_close ?n_Tokens_place ?n_Tokens_reading ?n_Tokens_names ?n_Tokens_ended ?n_Tokens_name ?n_Tokens_attribute ?n_Tokens_pairs ?n_Tokens_signs ?n_Tokens_entity ?n_Tokens_matched ?n_Tokens_around ?n_Tokens_told ?tl_14 ?tl_13 ?lo_13 ?hh_13_0 ?hh_13_1 ?hh_13_2 ?hh_13_3 ?lo_14 ?hh_14_0 ?hh_14_1 ?hh_14_2 ?hh_14_3 ?hh_14_4 ?hh_14_5 ?hh_14_6 ?hh_14_7 ?hh_14_8 ?hh_14_9 ?hh_14_10 ?hh_14_11 ?hh_14_12 ?hh_14_13 ?hh_14_14 ?hh_14_15 ?hh_14_16
    (case a_is_name => k_is)
    (case a_sign_of => k_is)
    (case a_is_integer => k_is)
    (case a_tell_entity => k_is)
    (case a_read_entity => k_is)
    (case a_between_tokens => k_is)
    (case a_tell_end => k_is)
    (case a_read_end_name => k_is)
    (case a_tell_start => k_is)
    (case a_read_slash => k_is)
    (case a_begin_entity => k_is)
    (case a_read_value => k_is)
    (case a_expect => k_is)
    (case a_read_equals => k_is)
    (case a_lengthened => k_is)
    (case a_read_attribute => k_is)
    (case a_read_valued => k_is)
    (case a_read_gap => k_is)
    (case a_read_name => k_is)
    (case a_read_dashes => k_is)
    (case a_read_dash => k_is)
    (case a_read_comment => k_is)
    (case a_read_bangs => k_is)
    (case a_read_bang => k_is)
    (case a_begin_element => k_is)
    (case a_read_less => k_is)
    (case a_read_content => k_is)
    (case a_read_outside => k_is)
    (case a_read_text => k_is)
    (case a_law_tape => k_is)
    (case a_law_at => k_is)
    (case a_law_pick => k_is)
    (case a_law_signs => k_is)
    (case a_law_attributes => k_is)
    (case a_law_tree => k_is)
    (case a_law_blanks => k_is)
    (case a_law_remark => k_is)
    (case a_law_written => k_is)
    (case a_law_start => k_is)
    (case a_law_element => k_is)
    (case a_law_document => k_is)
    (case a_law_bytes => k_is)
    (case a_law_cuts => k_is)
    (case a_law => k_is)
    (case g_MOST_DEPTH => k_is)
    (case g_MOST_NAME => k_is)
    (case g_MOST_ATTRIBUTES => k_is)
    (case g_LETTERS => k_is)
    (case g_NAME_SIGNS => k_is)
    (case g_BLANKS => k_is)
    (case g_PRINTED => k_is)
    (case g_PER_CENT => k_is)
    (case g_ENTITIES => k_is)
    (case g_READERS => k_is)
    (case gc_Tokens => k_is)
    (case fi_Tokens_init => k_is)
    (case fi_Tokens_feed => k_is)
    (case fi_Tokens_close => k_is)
    (case l_is_name => k_is)
    (case c_is_name => k_is)
    (case k_is_name => k_is)
    (case l_sign_of => k_is)
    (case c_sign_of => k_is)
    (case k_sign_of => k_is)
    (case l_is_integer => k_is)
    (case c_is_integer => k_is)
    (case k_is_integer => k_is)
    (case l_Tokens_close => k_is)
    (case c_Tokens_close => k_is)
    (case k_Tokens_close => k_is)
    (case l_tell_entity => k_is)
    (case c_tell_entity => k_is)
    (case k_tell_entity => k_is)
    (case l_read_entity => k_is)
    (case c_read_entity => k_is)
    (case k_read_entity => k_is)
    (case l_between_tokens => k_is)
    (case c_between_tokens => k_is)
    (case k_between_tokens => k_is)
    (case l_tell_end => k_is)
    (case c_tell_end => k_is)
    (case k_tell_end => k_is)
    (case l_read_end_name => k_is)
    (case c_read_end_name => k_is)
    (case k_read_end_name => k_is)
    (case l_tell_start => k_is)
    (case c_tell_start => k_is)
    (case k_tell_start => k_is)
    (case l_read_slash => k_is)
    (case c_read_slash => k_is)
    (case k_read_slash => k_is)
    (case l_begin_entity => k_is)
    (case c_begin_entity => k_is)
    (case k_begin_entity => k_is)
    (case l_read_value => k_is)
    (case c_read_value => k_is)
    (case k_read_value => k_is)
    (case l_expect => k_is)
    (case c_expect => k_is)
    (case k_expect => k_is)
    (case l_read_equals => k_is)
    (case c_read_equals => k_is)
    (case k_read_equals => k_is)
    (case l_lengthened => k_is)
    (case c_lengthened => k_is)
    (case k_lengthened => k_is)
    (case l_read_attribute => k_is)
    (case c_read_attribute => k_is)
    (case k_read_attribute => k_is)
    (case l_read_valued => k_is)
    (case c_read_valued => k_is)
    (case k_read_valued => k_is)
    (case l_read_gap => k_is)
    (case c_read_gap => k_is)
    (case k_read_gap => k_is)
    (case l_read_name => k_is)
    (case c_read_name => k_is)
    (case k_read_name => k_is)
    (case l_read_dashes => k_is)
    (case c_read_dashes => k_is)
    (case k_read_dashes => k_is)
    (case l_read_dash => k_is)
    (case c_read_dash => k_is)
    (case k_read_dash => k_is)
    (case l_read_comment => k_is)
    (case c_read_comment => k_is)
    (case k_read_comment => k_is)
    (case l_read_bangs => k_is)
    (case c_read_bangs => k_is)
    (case k_read_bangs => k_is)
    (case l_read_bang => k_is)
    (case c_read_bang => k_is)
    (case k_read_bang => k_is)
    (case l_begin_element => k_is)
    (case c_begin_element => k_is)
    (case k_begin_element => k_is)
    (case l_read_less => k_is)
    (case c_read_less => k_is)
    (case k_read_less => k_is)
    (case l_read_content => k_is)
    (case c_read_content => k_is)
    (case k_read_content => k_is)
    (case l_read_outside => k_is)
    (case c_read_outside => k_is)
    (case k_read_outside => k_is)
    (case l_Tokens_feed => k_is)
    (case c_Tokens_feed => k_is)
    (case k_Tokens_feed => k_is)
    (case l_Tokens_init => k_is)
    (case c_Tokens_init => k_is)
    (case k_Tokens_init => k_is)
    (case l_read_text => k_is)
    (case c_read_text => k_is)
    (case k_read_text => k_is)
    (case l_law_tape => k_is)
    (case c_law_tape => k_is)
    (case k_law_tape => k_is)
    (case l_law_at => k_is)
    (case c_law_at => k_is)
    (case k_law_at => k_is)
    (case l_law_pick => k_is)
    (case c_law_pick => k_is)
    (case k_law_pick => k_is)
    (case l_law_signs => k_is)
    (case c_law_signs => k_is)
    (case k_law_signs => k_is)
    (case l_law_attributes => k_is)
    (case c_law_attributes => k_is)
    (case k_law_attributes => k_is)
    (case l_law_tree => k_is)
    (case c_law_tree => k_is)
    (case k_law_tree => k_is)
    (case l_law_blanks => k_is)
    (case c_law_blanks => k_is)
    (case k_law_blanks => k_is)
    (case l_law_remark => k_is)
    (case c_law_remark => k_is)
    (case k_law_remark => k_is)
    (case l_law_written => k_is)
    (case c_law_written => k_is)
    (case k_law_written => k_is)
    (case l_law_start => k_is)
    (case c_law_start => k_is)
    (case k_law_start => k_is)
    (case l_law_element => k_is)
    (case c_law_element => k_is)
    (case k_law_element => k_is)
    (case l_law_document => k_is)
    (case c_law_document => k_is)
    (case k_law_document => k_is)
    (case l_law_bytes => k_is)
    (case c_law_bytes => k_is)
    (case k_law_bytes => k_is)
    (case l_law_cuts => k_is)
    (case c_law_cuts => k_is)
    (case k_law_cuts => k_is)
    (case l_law => k_is)
    (case c_law => k_is)
    (case k_law => k_is)
    (case z_abs => k_is)
    (case z_all => k_is)
    (case z_any => k_is)
    (case z_bool => k_is)
    (case z_int => k_is)
    (case z_isinstance => k_is)
    (case z_len => k_is)
    (case z_list => k_is)
    (case z_min => k_is)
    (case z_ord => k_is)
    (case z_range => k_is)
    (case z_sorted => k_is)
    (case z_str => k_is)
    (case z_tuple => k_is)
    (case pg_Tokens => k_is)
    (case hd_Tokens => k_is)
    (case po_Tokens => k_is)
    (case sa_Tokens => k_is)
    (case fn_Tokens_init => k_is)
    (case mm_Tokens => k_is)
    (case kk_Tokens => k_is)
    (case fn_Tokens_feed => k_is)
    (case fn_Tokens_close => k_is)
    (case n_Tokens_place => k_is)
    (case n_Tokens_reading => k_is)
    (case n_Tokens_names => k_is)
    (case n_Tokens_ended => k_is)
    (case n_Tokens_name => k_is)
    (case n_Tokens_attribute => k_is)
    (case n_Tokens_pairs => k_is)
    (case n_Tokens_signs => k_is)
    (case n_Tokens_entity => k_is)
    (case n_Tokens_matched => k_is)
    (case n_Tokens_around => k_is)
    (case n_Tokens_told => k_is)
    (case tl_14 => k_is)
    (case tl_13 => k_is)
    (case lo_13 => rfl)
    (case hh_13_0 => rfl)
    (case hh_13_1 => rfl)
    (case hh_13_2 => rfl)
    (case hh_13_3 => rfl)
    (case lo_14 => rfl)
    (case hh_14_0 => rfl)
    (case hh_14_1 => rfl)
    (case hh_14_2 => rfl)
    (case hh_14_3 => rfl)
    (case hh_14_4 => rfl)
    (case hh_14_5 => rfl)
    (case hh_14_6 => rfl)
    (case hh_14_7 => rfl)
    (case hh_14_8 => rfl)
    (case hh_14_9 => rfl)
    (case hh_14_10 => rfl)
    (case hh_14_11 => rfl)
    (case hh_14_12 => rfl)
    (case hh_14_13 => rfl)
    (case hh_14_14 => rfl)
    (case hh_14_15 => rfl)
    (case hh_14_16 => rfl)

